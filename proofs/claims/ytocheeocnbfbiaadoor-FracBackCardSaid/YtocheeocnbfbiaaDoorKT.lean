/-
  frac.checkTerms, as a function of facts.
  Conditions: those of each theorem.
-/
import Derived.Test.YtocheeocnbfbiaaDoorKF
set_option linter.unusedVariables false
set_option linter.unusedSimpArgs false
namespace Go.Proofs.YtocheeocnbfbiaaDoor
open Go.RowKit Go.Shelf Ev Wd

/-- The number with the terms, from the back: numerator and denominator. -/
def kN : List Int → Int × Int
  | [] => (1, 0)
  | t :: l => (t * (kN l).1 + (kN l).2, (kN l).1)
/-- Terms in their ranges, the first one at least a. -/
def rg (a : Int) : List Int → Bool
  | [] => true
  | t :: l => decide (a ≤ t) && decide (t ≤ 1152921504606846976) && rg 1 l
/-- The error of checkTerms. -/
def ctV (l : List Int) : Int :=
  if l = [] then 8 else if rg (-1152921504606846976) l = true then (if 1 < lenI l ∧ getI l (lenI l - 1) = 1 then 3 else 0) else 4
theorem rg_tail {a t : Int} {l : List Int} (h : rg a (t :: l) = true) : a ≤ t ∧ t ≤ 1152921504606846976 ∧ rg 1 l = true := by
  simp only [rg, Bool.and_eq_true, decide_eq_true_eq] at h
  exact ⟨h.1.1, h.1.2, h.2⟩
theorem rg_low {a b : Int} (hab : b ≤ a) : ∀ {l : List Int}, rg a l = true → rg b l = true
  | [], _ => rfl
  | t :: l, h => by
    obtain ⟨h1, h2, h3⟩ := rg_tail h
    simp only [rg, Bool.and_eq_true, decide_eq_true_eq]
    exact ⟨⟨by omega, h2⟩, h3⟩
theorem rg_drop {a : Int} : ∀ {l : List Int} {k : Nat}, rg a l = true → 1 ≤ k → rg 1 (l.drop k) = true
  | [], k, _, _ => by simp [rg]
  | t :: l, 1, h, _ => by simpa using (rg_tail h).2.2
  | t :: l, k + 2, h, _ => by
    simpa using rg_drop (k := k + 1) (rg_tail h).2.2 (by omega)
theorem drop_get {l : List Int} {k : Nat} (h : k < l.length) : l.drop k = getI l (k : Int) :: l.drop (k + 1) := by
  have e : getI l (k : Int) = l[k] := by
    unfold getI
    rw [Int.toNat_natCast]
    simp [List.getD_eq_getElem?_getD, List.getElem?_eq_getElem h]
  rw [e]
  exact List.drop_eq_getElem_cons h
theorem rg_get {a : Int} {l : List Int} {k : Nat} (h : rg a l = true) (ha : -1152921504606846976 ≤ a) (hk : k < l.length) : -1152921504606846976 ≤ getI l (k : Int) ∧ getI l (k : Int) ≤ 1152921504606846976 := by
  rcases Nat.eq_zero_or_pos k with rfl | hp
  · have e := drop_get hk
    rw [List.drop_zero] at e
    rw [e] at h
    obtain ⟨h1, h2, _⟩ := rg_tail h
    exact ⟨by omega, h2⟩
  · have h2 := rg_drop h hp
    rw [drop_get hk] at h2
    obtain ⟨h1, h2, _⟩ := rg_tail h2
    exact ⟨by omega, h2⟩
/-- Terms of at least 1: what is behind grows. -/
theorem kN_pos : ∀ {l : List Int}, rg 1 l = true → 1 ≤ (kN l).1 ∧ 0 ≤ (kN l).2 ∧ (kN l).2 ≤ (kN l).1
  | [], _ => by decide
  | t :: l, h => by
    obtain ⟨h1, h2, h3⟩ := rg_tail h
    obtain ⟨g1, g2, g3⟩ := kN_pos h3
    have : 1 * (kN l).1 ≤ t * (kN l).1 := Int.mul_le_mul_of_nonneg_right h1 (by omega)
    refine ⟨?_, ?_, ?_⟩ <;> simp only [kN] <;> omega
theorem kN_grow {l : List Int} (h : rg 1 l = true) (k : Nat) : (kN (l.drop k)).1 ≤ (kN l).1 := by
  induction l generalizing k with
  | nil => simp
  | cons t l ih =>
    obtain ⟨h1, h2, h3⟩ := rg_tail h
    obtain ⟨g1, g2, g3⟩ := kN_pos h3
    have q : (kN l).1 ≤ (kN (t :: l)).1 := by
      have : 1 * (kN l).1 ≤ t * (kN l).1 := Int.mul_le_mul_of_nonneg_right h1 (by omega)
      simp only [kN]; omega
    cases k with
    | zero => simp
    | succ k => simpa using Int.le_trans (ih h3 k) q
theorem kN_pow : ∀ {m : Nat} {l : List Int}, rg 1 l = true → 2 * m ≤ l.length → 2 ^ m ≤ (kN l).1
  | 0, l, h, _ => by have := (kN_pos h).1; simpa using this
  | m + 1, l, h, hl => by
    match l, h, hl with
    | [], _, hl => simp at hl
    | [t], _, hl => simp at hl; omega
    | s :: t :: l, h, hl =>
      obtain ⟨h1, h2, h3⟩ := rg_tail h
      obtain ⟨g1, g2, g3⟩ := rg_tail h3
      obtain ⟨p1, p2, p3⟩ := kN_pos g3
      have ih := kN_pow (m := m) g3 (by simp only [List.length_cons] at hl; omega)
      have q1 : 1 * (kN l).1 ≤ t * (kN l).1 := Int.mul_le_mul_of_nonneg_right g1 (by omega)
      have q2 : 1 * (kN (t :: l)).1 ≤ s * (kN (t :: l)).1 := Int.mul_le_mul_of_nonneg_right h1 (by simp only [kN]; omega)
      have e : (2 : Int) ^ (m + 1) = 2 * 2 ^ m := by rw [Int.pow_succ]; omega
      rw [e]
      have q3 : (kN (t :: l)).1 = t * (kN l).1 + (kN l).2 := rfl
      have q4 : (kN (s :: t :: l)).1 = s * (kN (t :: l)).1 + (kN l).1 := rfl
      omega
theorem kN_gcd : ∀ l : List Int, Int.gcd (kN l).1 (kN l).2 = 1
  | [] => by decide
  | t :: l => by
    show Int.gcd (t * (kN l).1 + (kN l).2) (kN l).1 = 1
    have ih := kN_gcd l
    rw [Int.gcd_comm, Int.add_comm, Int.gcd_add_mul_right_right]
    exact ih
theorem kN_den {a t : Int} {l : List Int} (h : rg a (t :: l) = true) : 1 ≤ (kN (t :: l)).2 := (kN_pos (rg_tail h).2.2).1
/-- From the back, as far as nothing is too large: whether it all fits, and where it stopped. -/
def frR (l : List Int) : Nat → Int → Int → Bool × Int × Int
  | 0, a, b => (true, a, b)
  | k + 1, a, b => if frOk (getI l (k : Int) * a + b) a = true then frR l k (getI l (k : Int) * a + b) a else (false, a, b)
theorem frR_is {l : List Int} (h : rg (-1152921504606846976) l = true) : ∀ k : Nat, k ≤ l.length → (k = 0 → frOk (kN l).1 (kN l).2 = true) →
    (frR l k (kN (l.drop k)).1 (kN (l.drop k)).2).1 = frOk (kN l).1 (kN l).2 ∧ (frOk (kN l).1 (kN l).2 = true → (frR l k (kN (l.drop k)).1 (kN (l.drop k)).2).2 = kN l)
  | 0, _, h0 => by simp [frR, h0 rfl]
  | k + 1, hk, _ => by
    have e := drop_get (l := l) (k := k) (by omega)
    have e1 : getI l (k : Int) * (kN (l.drop (k + 1))).1 + (kN (l.drop (k + 1))).2 = (kN (l.drop k)).1 := by rw [e]; rfl
    have e2 : (kN (l.drop (k + 1))).1 = (kN (l.drop k)).2 := by rw [e]; rfl
    unfold frR
    rw [e1, e2]
    by_cases hf : frOk (kN (l.drop k)).1 (kN (l.drop k)).2 = true
    · rw [if_pos hf]
      exact frR_is h k (by omega) (fun h0 => by rw [h0, List.drop_zero] at hf; exact hf)
    · rw [if_neg hf]
      have hF : frOk (kN l).1 (kN l).2 = false := by
        rcases Nat.eq_zero_or_pos k with rfl | hp
        · rw [List.drop_zero] at hf; simpa using hf
        · have h1 := rg_drop h hp
          obtain ⟨p1, p2, p3⟩ := kN_pos h1
          have p4 : 1 ≤ (kN (l.drop k)).2 := by rw [e]; rw [e] at h1; exact kN_den h1
          have p5 : 1152921504606846976 < (kN (l.drop k)).1 := by
            rcases Int.lt_or_le 1152921504606846976 (kN (l.drop k)).1 with q | q
            · exact q
            · exact absurd (frOk_iff.2 ⟨by omega, q, p4, by omega⟩) hf
          have e0 := drop_get (l := l) (k := 0) (by omega)
          rw [List.drop_zero] at e0
          have p6 : (kN l).2 = (kN (l.drop 1)).1 := by rw [e0]; rfl
          have p7 : (kN (l.drop k)).1 ≤ (kN (l.drop 1)).1 := by
            have := kN_grow (rg_drop h (Nat.le_refl 1)) (k - 1)
            rwa [List.drop_drop, show 1 + (k - 1) = k by omega] at this
          cases hb : frOk (kN l).1 (kN l).2 with
          | false => rfl
          | true => have := frOk_iff.1 hb; omega
      rw [hF]
      exact ⟨rfl, fun x => by cases x⟩
/-- More than 200 terms are too large. -/
theorem kN_many {a : Int} {l : List Int} (h : rg a l = true) (hl : 200 ≤ l.length) : 1152921504606846976 < (kN l).2 := by
  match l, h, hl with
  | [], _, hl => simp at hl
  | t :: l, h, hl =>
    have := kN_pow (m := 99) (rg_tail h).2.2 (by simp only [List.length_cons] at hl; omega)
    have e : (2 : Int) ^ 99 = 633825300114114700748351602688 := by decide +kernel
    rw [e] at this
    show 1152921504606846976 < (kN l).1
    omega
theorem rg_take {a : Int} : ∀ {l : List Int} {k : Nat}, rg a l = true → rg a (l.take k) = true
  | [], k, _ => by simp [rg]
  | t :: l, 0, h => by simp [rg]
  | t :: l, k + 1, h => by
    obtain ⟨h1, h2, h3⟩ := rg_tail h
    simp only [List.take_succ_cons, rg, Bool.and_eq_true, decide_eq_true_eq]
    exact ⟨⟨h1, h2⟩, rg_take h3⟩
/-- The convergents from the front. -/
def kcvF : List Int → Int → Int → Int × Int
  | [], a, b => (a, b)
  | t :: l, a, b => kcvF l b (a + b * t)
theorem kcvF_is : ∀ (l : List Int) (a b : Int), (kcvF l a b).2 = b * (kN l).1 + a * (kN l).2
  | [], a, b => by simp [kcvF, kN]
  | t :: l, a, b => by
    show (kcvF l b (a + b * t)).2 = b * (t * (kN l).1 + (kN l).2) + a * (kN l).1
    rw [kcvF_is l b (a + b * t), Int.add_mul, Int.mul_add, Int.mul_assoc]
    omega
set_option maxRecDepth 100000 in
theorem ctg_100 (l : List Int) (n : Int) (i : Int) (a : Int) (rest : List (Nat × AV Nm)) : evView (ctxOf Tryd.prog numI eqsF []) 35 (false :: [false, true, false, true, true, true]) (loopAt (bodyOf Tryd.f30) [false, true, false, true, true, true]) ([(9, .w (.one (.fv (.row l)))), (10, .w (.one (.int .i64 n))), (11, .w (.one (.int .i64 i))), (3, .w (.one (.int .i64 a)))] ++ (ptrN 0 [] ++ rest)) [] 0 [9, 10, 11, 3] [true, false, false] = some ((Ex.normal, [AV.w (AW.one (AC.fv (Nm.row l))), AV.w (AW.one (AC.int IntKind.i64 n)), AV.w (AW.one (AC.int IntKind.i64 (IntKind.i64.wrap (i + 1)))), AV.w (AW.one (AC.int IntKind.i64 1))], []), (pickL [(decide (i < n), true), (decide (0 ≤ i), true), (decide (i < lenI l), true), (decide (getI l i < a), false), (decide (getI l i > 1152921504606846976), false)] [0, 1, 2, 1, 2, 3, 3, 3, 4])) := by kernel_rfl
set_option maxRecDepth 100000 in
theorem ctr_11 (l : List Int) (n : Int) (i : Int) (a : Int) (rest : List (Nat × AV Nm)) : evView (ctxOf Tryd.prog numI eqsF []) 35 (false :: [false, true, false, true, true, true]) (loopAt (bodyOf Tryd.f30) [false, true, false, true, true, true]) ([(9, .w (.one (.fv (.row l)))), (10, .w (.one (.int .i64 n))), (11, .w (.one (.int .i64 i))), (3, .w (.one (.int .i64 a)))] ++ (ptrN 0 [] ++ rest)) [] 0 [2] [true, true] = some ((Ex.ret, [AV.w (AW.one (AC.int IntKind.i64 4))], []), (pickL [(decide (i < n), true), (decide (0 ≤ i), true), (decide (i < lenI l), true), (decide (getI l i < a), true), (true, true)] [0, 1, 2, 1, 2, 3, 3, 3, 4])) := by kernel_rfl
set_option maxRecDepth 100000 in
theorem ctr_101 (l : List Int) (n : Int) (i : Int) (a : Int) (rest : List (Nat × AV Nm)) : evView (ctxOf Tryd.prog numI eqsF []) 35 (false :: [false, true, false, true, true, true]) (loopAt (bodyOf Tryd.f30) [false, true, false, true, true, true]) ([(9, .w (.one (.fv (.row l)))), (10, .w (.one (.int .i64 n))), (11, .w (.one (.int .i64 i))), (3, .w (.one (.int .i64 a)))] ++ (ptrN 0 [] ++ rest)) [] 0 [2] [true, false, true] = some ((Ex.ret, [AV.w (AW.one (AC.int IntKind.i64 4))], []), (pickL [(decide (i < n), true), (decide (0 ≤ i), true), (decide (i < lenI l), true), (decide (getI l i < a), false), (decide (getI l i > 1152921504606846976), true)] [0, 1, 2, 1, 2, 3, 3, 3, 4])) := by kernel_rfl
set_option maxRecDepth 100000 in
theorem ctn_0 (l : List Int) (n : Int) (i : Int) (a : Int) (rest : List (Nat × AV Nm)) : evView (ctxOf Tryd.prog numI eqsF []) 35 (false :: [false, true, false, true, true, true]) (loopAt (bodyOf Tryd.f30) [false, true, false, true, true, true]) ([(9, .w (.one (.fv (.row l)))), (10, .w (.one (.int .i64 n))), (11, .w (.one (.int .i64 i))), (3, .w (.one (.int .i64 a)))] ++ (ptrN 0 [] ++ rest)) [] 0 [] [false] = some ((Ex.exit 0, [], []), (pickL [(decide (i < n), false)] [0])) := by kernel_rfl
structure CT where
  l : List Int
  n : Int
  i : Int
  a : Int
def ctTm (l : List Int) (n i a : Int) : List (Nat × AV Nm) := [(9, .w (.one (.fv (.row l)))), (10, .w (.one (.int .i64 n))), (11, .w (.one (.int .i64 i))), (3, .w (.one (.int .i64 a)))]
def ctS : LpSt CT Nm where
  ps := []
  tm := fun t => ctTm t.l t.n t.i t.a
  hp := fun _ => []
def okC (l : List Int) (n i : Int) : Bool := decide (n = lenI l) && decide (0 ≤ i) && decide (i ≤ n) && decide (n ≤ 9223372036854775807)
def ctStep (t : CT) : Nxt CT Nm := if okC t.l t.n t.i = true then (if t.i < t.n then (if t.a ≤ getI t.l t.i ∧ getI t.l t.i ≤ 1152921504606846976 then .go ⟨t.l, t.n, t.i + 1, 1⟩ else .out .ret [(2, .w (.one (.int .i64 4)))] []) else .out (.exit 0) [] []) else .bad
set_option maxRecDepth 100000 in
theorem ct_round (t : CT) (hb : (ctStep t).isBad = false) (rest : List (Nat × AV Nm)) : ∃ fuel path r, evC (ctxOf Tryd.prog numI eqsF []) fuel 35 (false :: [false, true, false, true, true, true]) (loopAt (bodyOf Tryd.f30) [false, true, false, true, true, true]) (ctS.tm t ++ (ptrN 0 ctS.ps ++ rest)) (numb 0 (ctS.hp t)) 0 path = some r ∧ (∀ p ∈ r.cd, p.1 = p.2) ∧ Gives ctS 0 r (ctStep t) := by
  obtain ⟨l, n, i, a⟩ := t
  unfold ctStep at hb ⊢
  cases hok : okC l n i with
  | false => simp only [hok] at hb; cases hb
  | true =>
  clear hb
  simp only [if_true]
  simp only [okC, Bool.and_eq_true, decide_eq_true_eq] at hok
  obtain ⟨⟨⟨h1, h2⟩, h3⟩, h4⟩ := hok
  by_cases hi : i < n
  · simp only [if_pos hi]
    have c1 : decide (i < n) = true := decide_eq_true hi
    have c2 : decide (0 ≤ i) = true := decide_eq_true h2
    have c3 : decide (i < lenI l) = true := decide_eq_true (by omega)
    by_cases hg : a ≤ getI l i ∧ getI l i ≤ 1152921504606846976
    · simp only [if_pos hg]
      have c5 : decide (getI l i < a) = false := decide_eq_false (by omega)
      have c6 : decide (getI l i > 1152921504606846976) = false := decide_eq_false (by omega)
      have w1 : IntKind.i64.wrap (i + 1) = i + 1 := by rw [IntKind.wrap_i64]; omega
      have L := ctg_100 l n i a rest
      rw [w1] at L
      refine round_go L (pickL_ok ?_ _) rfl rfl rfl rfl
      repeat' (first | exact cd_nil | refine cd_cons ?_ ?_)
      all_goals first | rfl | with_reducible assumption
    · simp only [if_neg hg]
      by_cases hl : getI l i < a
      · have c5 : decide (getI l i < a) = true := decide_eq_true hl
        refine round_outR (ctr_11 l n i a rest) rfl (pickL_ok ?_ _) rfl rfl
        repeat' (first | exact cd_nil | refine cd_cons ?_ ?_)
        all_goals first | rfl | with_reducible assumption
      · have c5 : decide (getI l i < a) = false := decide_eq_false hl
        have c6 : decide (getI l i > 1152921504606846976) = true := decide_eq_true (by omega)
        refine round_outR (ctr_101 l n i a rest) rfl (pickL_ok ?_ _) rfl rfl
        repeat' (first | exact cd_nil | refine cd_cons ?_ ?_)
        all_goals first | rfl | with_reducible assumption
  · simp only [if_neg hi]
    have c1 : decide (i < n) = false := decide_eq_false hi
    refine round_outR (ctn_0 l n i a rest) rfl (pickL_ok ?_ _) rfl rfl
    repeat' (first | exact cd_nil | refine cd_cons ?_ ?_)
    all_goals first | rfl | with_reducible assumption
theorem ct_runs {l : List Int} (h5 : lenI l ≤ 9223372036854775807) : ∀ (B k : Nat) (a : Int), k + B = l.length →
    ∃ M, runs ctStep M ⟨l, lenI l, (k : Int), a⟩ = if rg a (l.drop k) = true then some (.exit 0, [], []) else some (.ret, [(2, .w (.one (.int .i64 4)))], [])
  | 0, k, a, hk => by
    have e : l.drop k = [] := List.drop_eq_nil_of_le (by omega)
    have hok : okC l (lenI l) (k : Int) = true := by
      simp only [okC, Bool.and_eq_true, decide_eq_true_eq]
      exact ⟨⟨⟨trivial, by omega⟩, by unfold lenI; omega⟩, h5⟩
    have hst : ctStep ⟨l, lenI l, (k : Int), a⟩ = .out (.exit 0) [] [] := by
      unfold ctStep
      rw [if_pos hok, if_neg (by show ¬ ((k : Int) < lenI l); unfold lenI; omega)]
    refine ⟨1, ?_⟩
    rw [e, if_pos (show rg a [] = true from rfl)]
    simp only [runs, hst]
  | B + 1, k, a, hk => by
    have e := drop_get (l := l) (k := k) (by omega)
    have hok : okC l (lenI l) (k : Int) = true := by
      simp only [okC, Bool.and_eq_true, decide_eq_true_eq]
      exact ⟨⟨⟨trivial, by omega⟩, by unfold lenI; omega⟩, h5⟩
    have e2 : (k : Int) < lenI l := by unfold lenI; omega
    rw [e]
    by_cases hg : a ≤ getI l (k : Int) ∧ getI l (k : Int) ≤ 1152921504606846976
    · have hst : ctStep ⟨l, lenI l, (k : Int), a⟩ = .go ⟨l, lenI l, ((k + 1 : Nat) : Int), 1⟩ := by
        unfold ctStep
        rw [if_pos hok, if_pos e2, if_pos hg]
        rfl
      obtain ⟨M, hM⟩ := ct_runs h5 B (k + 1) 1 (by omega)
      refine ⟨M + 1, ?_⟩
      have er : rg a (getI l (k : Int) :: l.drop (k + 1)) = rg 1 (l.drop (k + 1)) := by
        simp [rg, hg.1, hg.2]
      rw [er]
      simp only [runs, hst]
      exact hM
    · have hst : ctStep ⟨l, lenI l, (k : Int), a⟩ = .out .ret [(2, .w (.one (.int .i64 4)))] [] := by
        unfold ctStep
        rw [if_pos hok, if_pos e2, if_neg hg]
      refine ⟨1, ?_⟩
      have er : ¬ rg a (getI l (k : Int) :: l.drop (k + 1)) = true := fun h => hg ⟨(rg_tail h).1, (rg_tail h).2.1⟩
      rw [if_neg er]
      simp only [runs, hst]
def ctD : LpDefR CT Nm where
  ts := [9, 10, 11, 3]
  ps := []
  rs := []
  W := [2, 3, 5, 9, 10, 11, 12, 13, 14, 15, 16, 17, 18, 19, 20, 21, 22]
  dec := fun vs tr ks => match vs, tr, ks with
    | [.w (.one (.fv (.row l))), .w (.one (.int .i64 n)), .w (.one (.int .i64 i)), .w (.one (.int .i64 a))], [], [] => some ⟨l, n, i, a⟩
    | _, _, _ => none
  fk := fun t => some (rg t.a t.l)
  spec := fun t β => match β with
    | true => some (.exit 0, [], [], [], [(okC t.l t.n t.i && decide (t.i = 0), true)])
    | false => some (.ret, [(2, .w (.one (.int .i64 4)))], [], [], [(okC t.l t.n t.i && decide (t.i = 0), true)])
theorem ctD_ok (x : Code) (hx : codeAt (bodyOf Tryd.f30) [false, true, false, true, true, true] = some (.loop x)) : LpOk Tryd.prog numI 35 x (ctD.sp nmSafe) := by
  obtain rfl := loopAt_eq hx
  refine lpR_ok (c := ctxOf Tryd.prog numI eqsF []) (ctxOf_ok (lib1_nil _ _) eqsF_ok) (by kernel_rfl) (fun _ _ _ h => h) hx lps_nil (S := ctS) (step := ctStep) (fun _ h => h) (by kernel_rfl) (by kernel_rfl) ?_ rfl (fun t e he => ?_) (fun t hb rest => ct_round t hb rest) ?_
  · intro vs tr ks s hv1 hv2 h hv3
    simp only [ctD] at h
    split at h
    · cases h
      exact ⟨rfl, fun e he => .inl he⟩
    · cases h
  · have : ∀ e ∈ ctTm t.l t.n t.i t.a, memN e.1 ctD.W = true := fun e he => by
      simp only [ctTm, List.mem_cons, List.not_mem_nil, or_false] at he
      rcases he with rfl | rfl | rfl | rfl <;> rfl
    exact this e he
  · intro s β ex outs rts wb cd h hfk hc
    obtain ⟨l, n, i, a⟩ := s
    have hb : rg a l = β := hfk _ rfl
    have key : okC l n i = true → i = 0 → ∃ M, runs ctStep M ⟨l, n, i, a⟩ = if rg a l = true then some (.exit 0, [], []) else some (.ret, [(2, .w (.one (.int .i64 4)))], []) := fun hok h0 => by
      simp only [okC, Bool.and_eq_true, decide_eq_true_eq] at hok
      obtain ⟨⟨⟨h1, h2⟩, h3⟩, h4⟩ := hok
      subst h0
      subst h1
      have := ct_runs h4 l.length 0 a (by omega)
      rwa [List.drop_zero] at this
    cases β with
    | true =>
      simp only [ctD] at h
      cases h
      have := hc _ (List.mem_cons_self)
      simp only [Bool.and_eq_true, decide_eq_true_eq] at this
      obtain ⟨M, hM⟩ := key this.1 this.2
      rw [if_pos hb] at hM
      exact ⟨M, hM⟩
    | false =>
      simp only [ctD] at h
      cases h
      have := hc _ (List.mem_cons_self)
      simp only [Bool.and_eq_true, decide_eq_true_eq] at this
      obtain ⟨M, hM⟩ := key this.1 this.2
      rw [if_neg (by rw [hb]; decide)] at hM
      exact ⟨M, hM⟩
abbrev ctLps : Lps Nm := [((35, [false, true, false, true, true, true]), ctD.sp nmSafe)]
theorem ctLps_ok : LpsOk Tryd.prog rowI ctLps Tryd.f30.ntmps (bodyOf Tryd.f30) := lps_cons (fun _ x hx => (ctD_ok x hx).rows) lps_nil
end Go.Proofs.YtocheeocnbfbiaaDoor

