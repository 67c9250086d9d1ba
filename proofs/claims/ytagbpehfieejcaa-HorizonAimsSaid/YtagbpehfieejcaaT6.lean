/-
  The reference's angle: Eighth bit by bit, Angle; the walk of spylaw1.TrigAngles.
  Conditions: those of each theorem.
-/
import Derived.Test.YtagbpehfieejcaaT5A
set_option linter.unusedVariables false
set_option linter.unusedSimpArgs false
namespace Go.Proofs.Ytagbpehfieejcaa
open Go.RowKit Go.Shelf Ev Zd Wd Tg

abbrev libE6 : List (Nat × FnSp Nm) := [(129, sp1 (dInt .i64) (fun t => aInt .i64 (risV t)) (fun t => [(q30B t, true)])), (15, nfn nI), (24, nfn nTimes), (58, nfn nCmp)]
theorem libE6_ok : LibOk Try.prog numI (lib1 libE6) := (lib1_cons (sp1_ok fun t hc => ⟨_, rfl, rule_pl t (cd1 hc)⟩) Try.call129 (lib1_cons (nI_ok) Try.call15 (lib1_cons (nTimes_ok) Try.call24 (lib1_cons (nCmp_ok) Try.call58 (lib1_nil _ _)))))
set_option maxRecDepth 100000 in
theorem ei_111 (v : Int) (u : Int) (a : Int) (b : Int) (rest : List (Nat × AV Nm)) : evView (ctxOf Try.prog numI (fun _ => false) libE6) 36 (false :: [false, true, false, true, true]) (loopAt (bodyOf Try.f130) [false, true, false, true, true]) ([(0, (.w (.one (.int .i64 v)))), (1, (.w (.one (.int .i64 u)))), (5, (.w (.one (.int .i64 a)))), (6, (.w (.one (.int .i64 b))))] ++ (ptrN 0 [] ++ rest)) [] 0 [0, 1, 5, 6] [true, true, true] = some ((Ex.normal, [AV.w (AW.one (AC.int IntKind.i64 v)), AV.w (AW.one (AC.int IntKind.i64 u)), AV.w (AW.one (AC.int IntKind.i64 (IntKind.i64.wrap (a + b)))), AV.w (AW.one (AC.int IntKind.i64 (b.fdiv (2 ^ min (Int.toNat 1) IntKind.i64.bits))))], []), (pickL [(decide (b > 0), true), (decide (IntKind.i64.wrap (a + b) ≤ 536870912), true), (q30B (IntKind.i64.wrap (a + b)), true), (i64B (risV (IntKind.i64.wrap (a + b))), true), (i64B u, true), (decide (risV (IntKind.i64.wrap (a + b)) < 0) == decide (risV (IntKind.i64.wrap (a + b)) < 0), true), (decide (u < 0) == decide (u < 0), true), (szB (risV (IntKind.i64.wrap (a + b))), true), (szB u, true), (q30B (IntKind.i64.wrap (1073741824 - IntKind.i64.wrap (a + b))), true), (i64B (risV (IntKind.i64.wrap (1073741824 - IntKind.i64.wrap (a + b)))), true), (i64B v, true), (decide (risV (IntKind.i64.wrap (1073741824 - IntKind.i64.wrap (a + b))) < 0) == decide (risV (IntKind.i64.wrap (1073741824 - IntKind.i64.wrap (a + b))) < 0), true), (decide (v < 0) == decide (v < 0), true), (szB (risV (IntKind.i64.wrap (1073741824 - IntKind.i64.wrap (a + b)))), true), (szB v, true), (decide (risV (IntKind.i64.wrap (a + b)) * u < 0) == decide (risV (IntKind.i64.wrap (a + b)) * u < 0), true), (decide (risV (IntKind.i64.wrap (1073741824 - IntKind.i64.wrap (a + b))) * v < 0) == decide (risV (IntKind.i64.wrap (1073741824 - IntKind.i64.wrap (a + b))) * v < 0), true), (szB (risV (IntKind.i64.wrap (a + b)) * u), true), (szB (risV (IntKind.i64.wrap (1073741824 - IntKind.i64.wrap (a + b))) * v), true), (decide (Wd.cmpI (risV (IntKind.i64.wrap (a + b)) * u) (risV (IntKind.i64.wrap (1073741824 - IntKind.i64.wrap (a + b))) * v) ≤ 0), true), (decide (1 < 0), false)] [0, 1, 1, 2, 1, 3, 1, 1, 4, 1, 5, 6, 7, 8, 1, 1, 1, 9, 1, 10, 1, 1, 11, 1, 12, 13, 14, 15, 1, 16, 17, 18, 19, 1, 1, 20, 21])) := by kernel_rfl
set_option maxRecDepth 100000 in
theorem ei_110 (v : Int) (u : Int) (a : Int) (b : Int) (rest : List (Nat × AV Nm)) : evView (ctxOf Try.prog numI (fun _ => false) libE6) 36 (false :: [false, true, false, true, true]) (loopAt (bodyOf Try.f130) [false, true, false, true, true]) ([(0, (.w (.one (.int .i64 v)))), (1, (.w (.one (.int .i64 u)))), (5, (.w (.one (.int .i64 a)))), (6, (.w (.one (.int .i64 b))))] ++ (ptrN 0 [] ++ rest)) [] 0 [0, 1, 5, 6] [true, true, false] = some ((Ex.normal, [AV.w (AW.one (AC.int IntKind.i64 v)), AV.w (AW.one (AC.int IntKind.i64 u)), AV.w (AW.one (AC.int IntKind.i64 a)), AV.w (AW.one (AC.int IntKind.i64 (b.fdiv (2 ^ min (Int.toNat 1) IntKind.i64.bits))))], []), (pickL [(decide (b > 0), true), (decide (IntKind.i64.wrap (a + b) ≤ 536870912), true), (q30B (IntKind.i64.wrap (a + b)), true), (i64B (risV (IntKind.i64.wrap (a + b))), true), (i64B u, true), (decide (risV (IntKind.i64.wrap (a + b)) < 0) == decide (risV (IntKind.i64.wrap (a + b)) < 0), true), (decide (u < 0) == decide (u < 0), true), (szB (risV (IntKind.i64.wrap (a + b))), true), (szB u, true), (q30B (IntKind.i64.wrap (1073741824 - IntKind.i64.wrap (a + b))), true), (i64B (risV (IntKind.i64.wrap (1073741824 - IntKind.i64.wrap (a + b)))), true), (i64B v, true), (decide (risV (IntKind.i64.wrap (1073741824 - IntKind.i64.wrap (a + b))) < 0) == decide (risV (IntKind.i64.wrap (1073741824 - IntKind.i64.wrap (a + b))) < 0), true), (decide (v < 0) == decide (v < 0), true), (szB (risV (IntKind.i64.wrap (1073741824 - IntKind.i64.wrap (a + b)))), true), (szB v, true), (decide (risV (IntKind.i64.wrap (a + b)) * u < 0) == decide (risV (IntKind.i64.wrap (a + b)) * u < 0), true), (decide (risV (IntKind.i64.wrap (1073741824 - IntKind.i64.wrap (a + b))) * v < 0) == decide (risV (IntKind.i64.wrap (1073741824 - IntKind.i64.wrap (a + b))) * v < 0), true), (szB (risV (IntKind.i64.wrap (a + b)) * u), true), (szB (risV (IntKind.i64.wrap (1073741824 - IntKind.i64.wrap (a + b))) * v), true), (decide (Wd.cmpI (risV (IntKind.i64.wrap (a + b)) * u) (risV (IntKind.i64.wrap (1073741824 - IntKind.i64.wrap (a + b))) * v) ≤ 0), false), (decide (1 < 0), false)] [0, 1, 1, 2, 1, 3, 1, 1, 4, 1, 5, 6, 7, 8, 1, 1, 1, 9, 1, 10, 1, 1, 11, 1, 12, 13, 14, 15, 1, 16, 17, 18, 19, 1, 1, 20, 21])) := by kernel_rfl
set_option maxRecDepth 100000 in
theorem ei_10 (v : Int) (u : Int) (a : Int) (b : Int) (rest : List (Nat × AV Nm)) : evView (ctxOf Try.prog numI (fun _ => false) libE6) 36 (false :: [false, true, false, true, true]) (loopAt (bodyOf Try.f130) [false, true, false, true, true]) ([(0, (.w (.one (.int .i64 v)))), (1, (.w (.one (.int .i64 u)))), (5, (.w (.one (.int .i64 a)))), (6, (.w (.one (.int .i64 b))))] ++ (ptrN 0 [] ++ rest)) [] 0 [0, 1, 5, 6] [true, false] = some ((Ex.normal, [AV.w (AW.one (AC.int IntKind.i64 v)), AV.w (AW.one (AC.int IntKind.i64 u)), AV.w (AW.one (AC.int IntKind.i64 a)), AV.w (AW.one (AC.int IntKind.i64 (b.fdiv (2 ^ min (Int.toNat 1) IntKind.i64.bits))))], []), (pickL [(decide (b > 0), true), (decide (IntKind.i64.wrap (a + b) ≤ 536870912), false), (false, false), (decide (1 < 0), false)] [0, 1, 1, 1, 1, 1, 1, 1, 1, 1, 1, 1, 1, 1, 1, 1, 1, 2, 3])) := by kernel_rfl
set_option maxRecDepth 100000 in
theorem ei_0 (v : Int) (u : Int) (a : Int) (b : Int) (rest : List (Nat × AV Nm)) : evView (ctxOf Try.prog numI (fun _ => false) libE6) 36 (false :: [false, true, false, true, true]) (loopAt (bodyOf Try.f130) [false, true, false, true, true]) ([(0, (.w (.one (.int .i64 v)))), (1, (.w (.one (.int .i64 u)))), (5, (.w (.one (.int .i64 a)))), (6, (.w (.one (.int .i64 b))))] ++ (ptrN 0 [] ++ rest)) [] 0 [0, 1, 5, 6] [false] = some ((Ex.exit 0, [AV.w (AW.one (AC.int IntKind.i64 v)), AV.w (AW.one (AC.int IntKind.i64 u)), AV.w (AW.one (AC.int IntKind.i64 a)), AV.w (AW.one (AC.int IntKind.i64 b))], []), (pickL [(decide (b > 0), false)] [0])) := by kernel_rfl
/-- Bit by bit. -/
def eiB (v u : Int) : Nat → Int → Int
  | 0, a => a
  | n + 1, a => eiB v u n (if a + 2 ^ n ≤ 536870912 ∧ flP v u (a + 2 ^ n) then a + 2 ^ n else a)
theorem eiB_ok {v u : Int} : ∀ (n : Nat) (a : Int), 0 ≤ a → a ≤ 536870912 → flP v u a → (a + 2 ^ n ≤ 536870912 → ¬ flP v u (a + 2 ^ n)) → IsFl v u (eiB v u n a)
  | 0, a, h0, h1, h2, h3 => by
    show IsFl v u a
    exact ⟨h0, h1, h2, fun h => by
      have := h3 (by simp; omega)
      simpa using this⟩
  | n + 1, a, h0, h1, h2, h3 => by
    have e2 : (2 : Int) ^ (n + 1) = 2 * 2 ^ n := by rw [Int.pow_succ]; omega
    have hp : (0 : Int) < 2 ^ n := Int.pow_pos (by omega)
    rw [e2] at h3
    unfold eiB
    split
    · rename_i h
      exact eiB_ok n _ (by omega) h.1 h.2 (by rw [show a + 2 ^ n + 2 ^ n = a + 2 * 2 ^ n by omega]; exact h3)
    · rename_i h
      exact eiB_ok n a h0 h1 h2 fun g1 g2 => h ⟨g1, g2⟩
theorem eiB_flat {v u : Int} (hv : 0 ≤ v) (hu : 0 ≤ u) : eiB v u 30 0 = flatV v u :=
  IsFl.uniq hv hu (eiB_ok 30 0 (by omega) (by omega) (flP_0 hv) (fun h => by simp at h)) (flatV_ok hv hu)
def bitV : Nat → Int
  | 0 => 0
  | n + 1 => 2 ^ n
theorem bit_half (n : Nat) : bitV (n + 1) / 2 = bitV n := by
  cases n with
  | zero => rfl
  | succ n =>
    show (2 : Int) ^ (n + 1) / 2 = 2 ^ n
    rw [Int.pow_succ]; omega
structure EIs where
  v : Int
  u : Int
  a : Int
  b : Int
def eiS : LpSt EIs Nm where
  ps := []
  tm := fun t => [(0, (.w (.one (.int .i64 t.v)))), (1, (.w (.one (.int .i64 t.u)))), (5, (.w (.one (.int .i64 t.a)))), (6, (.w (.one (.int .i64 t.b))))]
  hp := fun _ => []
def EIs.ok (t : EIs) : Bool := decide (0 ≤ t.v) && decide (t.v ≤ 4294967296) && decide (0 ≤ t.u) && decide (t.u ≤ 4294967296) && decide (0 ≤ t.a) && decide (t.a ≤ 536870912) && decide (0 ≤ t.b) && decide (t.b ≤ 536870912)
def eiStep (t : EIs) : Nxt EIs Nm := if t.ok = true then (if 0 < t.b then .go ⟨t.v, t.u, if t.a + t.b ≤ 536870912 ∧ flP t.v t.u (t.a + t.b) then t.a + t.b else t.a, t.b / 2⟩ else .out (.exit 0) [(0, (.w (.one (.int .i64 t.v)))), (1, (.w (.one (.int .i64 t.u)))), (5, (.w (.one (.int .i64 t.a)))), (6, (.w (.one (.int .i64 t.b))))] []) else .bad
theorem ris_sin {x : Int} (h0 : 0 ≤ x) (h1 : x ≤ 536870912) : risV x = sinV x ∧ risV (1073741824 - x) = cosV x := by
  have a := sin_q1 (t := x) (k := 0) h0 (by omega)
  have b := risQ h0 (show x ≤ 1073741824 by omega) 0
  rw [show x + 4294967296 * 0 = x by omega] at a b
  exact ⟨a.symm, b.1.symm⟩
theorem cmp_le (a b : Int) : decide (cmpI a b ≤ 0) = decide (a ≤ b) := by
  unfold cmpI
  by_cases h : a < b
  · rw [if_pos h, decide_eq_true (show a ≤ b by omega)]; rfl
  · rw [if_neg h]
    by_cases g : b < a
    · rw [if_pos g, decide_eq_false (show ¬ a ≤ b by omega)]; rfl
    · rw [if_neg g, decide_eq_true (show a ≤ b by omega)]; rfl
set_option maxRecDepth 100000 in
theorem ei_round (t : EIs) (hb : (eiStep t).isBad = false) (rest : List (Nat × AV Nm)) : ∃ fuel path r, evC (ctxOf Try.prog numI (fun _ => false) libE6) fuel 36 (false :: [false, true, false, true, true]) (loopAt (bodyOf Try.f130) [false, true, false, true, true]) (eiS.tm t ++ (ptrN 0 eiS.ps ++ rest)) (numb 0 (eiS.hp t)) 0 path = some r ∧ (∀ p ∈ r.cd, p.1 = p.2) ∧ Gives eiS 0 r (eiStep t) := by
  obtain ⟨v, u, a, b⟩ := t
  unfold eiStep at hb ⊢
  cases hok : EIs.ok ⟨v, u, a, b⟩ with
  | false => rw [hok] at hb; cases hb
  | true =>
  clear hb
  simp only [if_true]
  simp only [EIs.ok, Bool.and_eq_true, decide_eq_true_eq] at hok
  obtain ⟨⟨⟨⟨⟨⟨⟨h1, h2⟩, h3⟩, h4⟩, h5⟩, h6⟩, h7⟩, h8⟩ := hok
  have ew : IntKind.i64.wrap (a + b) = a + b := i64w (by omega) (by omega)
  have es : b.fdiv (2 ^ min (Int.toNat 1) IntKind.i64.bits) = b / 2 := by
    rw [show (2 : Int) ^ min (Int.toNat 1) IntKind.i64.bits = 2 from rfl, Int.fdiv_eq_ediv_of_nonneg _ (by omega)]
  by_cases hl : 0 < b
  · have c0 : decide (b > 0) = true := decide_eq_true hl
    simp only [if_pos hl]
    by_cases hx : a + b ≤ 536870912
    · have c1 : decide (a + b ≤ 536870912) = true := decide_eq_true hx
      have ex : IntKind.i64.wrap (1073741824 - (a + b)) = 1073741824 - (a + b) := i64w (by omega) (by omega)
      obtain ⟨r1, r2⟩ := ris_sin (x := a + b) (by omega) hx
      have q1 : q30B (a + b) = true := q30B_iff.2 (by omega)
      have q2 : q30B (1073741824 - (a + b)) = true := q30B_iff.2 (by omega)
      have s1 := sin_range (a + b)
      have s2 := cos_range (a + b)
      have i1 : i64B (sinV (a + b)) = true := i64B_iff.2 (by omega)
      have i2 : i64B (cosV (a + b)) = true := i64B_iff.2 (by omega)
      have i3 : i64B v = true := i64B_iff.2 (by omega)
      have i4 : i64B u = true := i64B_iff.2 (by omega)
      have d1 := Dl.i64 i1
      have d2 := Dl.i64 i2
      have d3 := Dl.i64 i3
      have d4 := Dl.i64 i4
      by_cases hP : flP v u (a + b)
      · have L := ei_111 v u a b rest
        simp only [if_pos (show a + b ≤ 536870912 ∧ flP v u (a + b) from ⟨hx, hP⟩)]
        unfold flP at hP
        rw [ew, ex, es, r1, r2] at L
        have c2 : decide (cmpI (sinV (a + b) * u) (cosV (a + b) * v) ≤ 0) = true := by rw [cmp_le]; exact decide_eq_true hP
        refine round_go L (pickL_ok ?_ _) rfl rfl rfl rfl
        repeat' (first | exact cd_nil | refine cd_cons ?_ ?_)
        all_goals first | rfl | with_reducible assumption | exact eq_self_b' _ | (with_reducible apply Dl.sz; (repeat' (first | with_reducible assumption | with_reducible apply Dl.mul)); omega)
      · have L := ei_110 v u a b rest
        simp only [if_neg (show ¬ (a + b ≤ 536870912 ∧ flP v u (a + b)) from fun h => hP h.2)]
        unfold flP at hP
        rw [ew, ex, es, r1, r2] at L
        have c2 : decide (cmpI (sinV (a + b) * u) (cosV (a + b) * v) ≤ 0) = false := by rw [cmp_le]; exact decide_eq_false hP
        refine round_go L (pickL_ok ?_ _) rfl rfl rfl rfl
        repeat' (first | exact cd_nil | refine cd_cons ?_ ?_)
        all_goals first | rfl | with_reducible assumption | exact eq_self_b' _ | (with_reducible apply Dl.sz; (repeat' (first | with_reducible assumption | with_reducible apply Dl.mul)); omega)
    · have c1 : decide (a + b ≤ 536870912) = false := decide_eq_false hx
      have L := ei_10 v u a b rest
      simp only [if_neg (show ¬ (a + b ≤ 536870912 ∧ flP v u (a + b)) from fun h => hx h.1)]
      rw [ew, es] at L
      refine round_go L (pickL_ok ?_ _) rfl rfl rfl rfl
      repeat' (first | exact cd_nil | refine cd_cons ?_ ?_)
      all_goals first | rfl | with_reducible assumption | exact eq_self_b' _ | (with_reducible apply Dl.sz; (repeat' (first | with_reducible assumption | with_reducible apply Dl.mul)); omega)
  · have c0 : decide (b > 0) = false := decide_eq_false hl
    simp only [if_neg hl]
    refine round_out (ei_0 v u a b rest) rfl (pickL_ok ?_ _) rfl rfl rfl
    repeat' (first | exact cd_nil | refine cd_cons ?_ ?_)
    all_goals first | rfl | with_reducible assumption | exact eq_self_b' _ | (with_reducible apply Dl.sz; (repeat' (first | with_reducible assumption | with_reducible apply Dl.mul)); omega)
theorem ei_runs {v u : Int} (h1 : 0 ≤ v) (h2 : v ≤ 4294967296) (h3 : 0 ≤ u) (h4 : u ≤ 4294967296) : ∀ (n : Nat) (a : Int), n ≤ 30 → 0 ≤ a → a ≤ 536870912 → ∃ k, runs eiStep k ⟨v, u, a, bitV n⟩ = some (.exit 0, [(0, (.w (.one (.int .i64 v)))), (1, (.w (.one (.int .i64 u)))), (5, (.w (.one (.int .i64 (eiB v u n a))))), (6, (.w (.one (.int .i64 0))))], [])
  | 0, a, _, g1, g2 => by
    have ok : EIs.ok ⟨v, u, a, bitV 0⟩ = true := by
      simp only [EIs.ok, Bool.and_eq_true, decide_eq_true_eq]
      exact ⟨⟨⟨⟨⟨⟨⟨h1, h2⟩, h3⟩, h4⟩, g1⟩, g2⟩, by decide⟩, by decide⟩
    refine ⟨1, ?_⟩
    rw [runs]
    simp only [eiStep, if_pos ok, if_neg (show ¬ 0 < bitV 0 by decide)]
    rfl
  | n + 1, a, hn, g1, g2 => by
    have hp : (0 : Int) < 2 ^ n := Int.pow_pos (by omega)
    have hm : (2 : Int) ^ n ≤ 2 ^ 29 := by
      have : (2 : Nat) ^ n ≤ 2 ^ 29 := Nat.pow_le_pow_right (by omega) (by omega)
      exact_mod_cast this
    have hb : bitV (n + 1) = 2 ^ n := rfl
    have ok : EIs.ok ⟨v, u, a, bitV (n + 1)⟩ = true := by
      simp only [EIs.ok, Bool.and_eq_true, decide_eq_true_eq]
      exact ⟨⟨⟨⟨⟨⟨⟨h1, h2⟩, h3⟩, h4⟩, g1⟩, g2⟩, by rw [hb]; omega⟩, by rw [hb]; omega⟩
    have hx : 0 ≤ (if a + 2 ^ n ≤ 536870912 ∧ flP v u (a + 2 ^ n) then a + 2 ^ n else a) ∧ (if a + 2 ^ n ≤ 536870912 ∧ flP v u (a + 2 ^ n) then a + 2 ^ n else a) ≤ 536870912 := by split <;> omega
    obtain ⟨k, hk⟩ := ei_runs h1 h2 h3 h4 n (if a + 2 ^ n ≤ 536870912 ∧ flP v u (a + 2 ^ n) then a + 2 ^ n else a) (by omega) hx.1 hx.2
    refine ⟨k + 1, ?_⟩
    have e : eiB v u (n + 1) a = eiB v u n (if a + 2 ^ n ≤ 536870912 ∧ flP v u (a + 2 ^ n) then a + 2 ^ n else a) := rfl
    rw [e, ← hk, runs]
    simp only [eiStep, if_pos ok, if_pos (show 0 < bitV (n + 1) by rw [hb]; exact hp), bit_half]
    rfl
def eiD : LpDef EIs Nm where
  ts := [0, 1, 5, 6]
  ps := []
  W := [0, 1, 5, 6, 7, 8, 9, 10, 11, 12, 13, 14, 15, 16, 17, 18, 19, 20, 21, 22, 23, 24, 25, 26, 27, 28, 29, 30, 31, 32, 33, 34]
  dec := fun vs ks => match vs, ks with
    | [.w (.one (.int .i64 v)), .w (.one (.int .i64 u)), .w (.one (.int .i64 a)), .w (.one (.int .i64 b))], [] => some ⟨v, u, a, b⟩
    | _, _ => none
  spec := fun t => some (.exit 0, [(0, (.w (.one (.int .i64 t.v)))), (1, (.w (.one (.int .i64 t.u)))), (5, (.w (.one (.int .i64 (flatV t.v t.u))))), (6, (.w (.one (.int .i64 0))))], [], [(t.ok && decide (t.a = 0) && decide (t.b = 536870912), true)])
theorem eiD_ok (x : Code) (hx : codeAt (bodyOf Try.f130) [false, true, false, true, true] = some (.loop x)) : LpOk Try.prog numI 36 x (eiD.sp nmSafe) := by
  obtain rfl := loopAt_eq hx
  refine lp_ok (c := ctxOf Try.prog numI (fun _ => false) libE6) (ctxOf_ok libE6_ok (eq_none _)) (by kernel_rfl) hx lps_nil (S := eiS) (step := eiStep) (fun _ h => h) (by kernel_rfl) (by kernel_rfl) ?_ rfl (fun t e he => ?_) (fun t hb rest => ei_round t hb rest) ?_
  · intro vs ks s hv1 h hv2
    simp only [eiD] at h
    split at h
    · cases h
      exact ⟨rfl, fun e he => he⟩
    · cases h
  · simp only [eiS, List.mem_cons, List.not_mem_nil, or_false] at he
    rcases he with rfl | rfl | rfl | rfl <;> rfl
  · intro s ex outs wb cd h hc
    obtain ⟨v, u, a, b⟩ := s
    simp only [eiD] at h
    cases h
    have := hc _ (List.mem_cons_self)
    simp only [EIs.ok, Bool.and_eq_true, decide_eq_true_eq] at this
    obtain ⟨⟨⟨⟨⟨⟨⟨⟨⟨h1, h2⟩, h3⟩, h4⟩, h5⟩, h6⟩, h7⟩, h8⟩, rfl⟩, rfl⟩ := this
    obtain ⟨k, hk⟩ := ei_runs h1 h2 h3 h4 30 0 (by omega) (by omega) (by omega)
    rw [eiB_flat h1 h3] at hk
    exact ⟨k, hk⟩
theorem lps_ei : LpsOk Try.prog numI [((36, [false, true, false, true, true]), eiD.sp nmSafe)] Try.f130.ntmps (bodyOf Try.f130) := lps_cons (fun _ x hx => eiD_ok x hx) lps_nil
theorem u32_i64' {x : Int} (h : u32B x = true) : i64B x = true := by rw [u32B_iff] at h; rw [i64B_iff]; omega
theorem ei_start {v u : Int} (hv : u32B v = true) (hu : u32B u = true) : ((⟨v, u, 0, 536870912⟩ : EIs).ok && decide ((0 : Int) = 0) && decide ((536870912 : Int) = 536870912)) = true := by
  rw [u32B_iff] at hv hu
  simp only [EIs.ok, Bool.and_eq_true, decide_eq_true_eq]
  exact ⟨⟨⟨⟨⟨⟨⟨⟨⟨hv.1, hv.2⟩, hu.1⟩, hu.2⟩, by first | trivial | decide⟩, by first | trivial | decide⟩, by first | trivial | decide⟩, by first | trivial | decide⟩, by first | trivial | decide⟩, by first | trivial | decide⟩
set_option maxRecDepth 100000 in
theorem eif_ (v : Int) (u : Int) : evR (ctxLp Try.prog numI (fun _ => false) libE6 [] [((36, [false, true, false, true, true]), eiD.sp nmSafe)]) Try.f130 [(.w (.one (.int .i64 v))), (.w (.one (.int .i64 u)))] [] = some (AV.w (AW.one (AC.int IntKind.i64 (flatV v u))), (pickL [((⟨v, u, 0, 536870912⟩ : EIs).ok && decide (0 = 0) && decide (536870912 = 536870912), true)] [0])) := by kernel_rfl
theorem eighth_pl (v u : Int) (hv : u32B v = true) (hu : u32B u = true) : Pl Try.prog 130 [.int .i64 v, .int .i64 u] (.int .i64 (flatV v u)) := fun w => by
  refine evR_calls (I := numI) (ctxLp_ok libE6_ok (eq_none _) (fns_nil _) (fun f fn h => by cases h)) (by kernel_rfl) Try.func130 rfl lps_ei (eif_ v u) rfl (all2_R (.cons rfl (.cons rfl .nil))) rfl w (Nat.zero_le _) (pickL_ok ?_ _)
  repeat' (first | exact cd_nil | refine cd_cons ?_ ?_)
  all_goals first | exact ei_start hv hu | rfl
abbrev libE7 : List (Nat × FnSp Nm) := [(130, sp2 (dInt .i64) (dInt .i64) (fun v u => aInt .i64 (flatV v u)) (fun v u => [(u32B v, true), (u32B u, true)]))]
theorem libE7_ok : LibOk Try.prog numI (lib1 libE7) := (lib1_cons (sp2_ok fun v u hc => ⟨_, rfl, eighth_pl v u (cd2 hc).1 (cd2 hc).2⟩) Try.call130 (lib1_nil _ _))
theorem atanV_in {y x : Int} (hx : -4294967296 ≤ x ∧ x ≤ 4294967296) (hy : -4294967296 ≤ y ∧ y ≤ 4294967296) (h : ¬ (x = 0 ∧ y = 0)) : atanV y x = angV y x ∧ atanE y x = 0 := by
  have e : (inA x && inA y) = true := by rw [inA_iff.2 hx, inA_iff.2 hy]; rfl
  unfold atanV atanE
  rw [if_pos e, if_pos e, if_neg h, if_neg h]
  exact ⟨rfl, rfl⟩
theorem atanV_out {y x : Int} (h : ¬ (-4294967296 ≤ x ∧ x ≤ 4294967296) ∨ ¬ (-4294967296 ≤ y ∧ y ≤ 4294967296)) : atanV y x = 0 ∧ atanE y x = 4 := by
  have e : ¬ (inA x && inA y) = true := fun e => by
    rw [Bool.and_eq_true, inA_iff, inA_iff] at e
    rcases h with h | h
    · exact h e.1
    · exact h e.2
  unfold atanV atanE
  rw [if_neg e, if_neg e]
  exact ⟨rfl, rfl⟩
theorem atanV_00 : atanV 0 0 = 0 ∧ atanE 0 0 = 8 := by decide +kernel
set_option maxRecDepth 100000 in
theorem anf_100100000100010 (y : Int) (x : Int) : evR (ctxOf Try.prog numI (fun _ => false) libE7) Try.f89 [(.w (.one (.int .i64 y))), (.w (.one (.int .i64 x)))] [true, false, false, true, false, false, false, false, false, true, false, false, false, true, false] = some (AV.tup [AW.one (AC.int IntKind.i64 (flatV (IntKind.i64.wrap (0 - y)) x)), AW.one (AC.int IntKind.i64 0)], (pickL [(decide (0 < ((2 : Nat) : Int)), true), (decide (0 ≤ 0), true), (decide (x > 4294967296), false), (decide (x < -4294967296), false), (decide (IntKind.i64.wrap (0 + 1) < ((2 : Nat) : Int)), true), (decide (0 ≤ IntKind.i64.wrap (0 + 1)), true), (decide (y > 4294967296), false), (decide (y < -4294967296), false), (decide (IntKind.i64.wrap (IntKind.i64.wrap (0 + 1) + 1) < ((2 : Nat) : Int)), false), (x == 0, false), (false, false), (decide (x < 0), false), (decide (y < 0), true), (decide (IntKind.i64.wrap (0 - y) > x), false), (u32B (IntKind.i64.wrap (0 - y)), true), (u32B x, true), (decide (flatV (IntKind.i64.wrap (0 - y)) x > 0), false)] [0, 1, 0, 2, 2, 2, 3, 4, 5, 4, 6, 6, 6, 7, 8, 9, 9, 9, 10, 11, 12, 13, 14, 15, 11, 11, 11, 10, 11, 12, 12, 12, 16])) := by kernel_rfl
set_option maxRecDepth 100000 in
theorem anf_11 (y : Int) (x : Int) : evR (ctxOf Try.prog numI (fun _ => false) libE7) Try.f89 [(.w (.one (.int .i64 y))), (.w (.one (.int .i64 x)))] [true, true] = some (AV.tup [AW.one (AC.int IntKind.i64 0), AW.one (AC.int IntKind.i64 4)], (pickL [(decide (0 < ((2 : Nat) : Int)), true), (decide (0 ≤ 0), true), (decide (x > 4294967296), true), (true, true)] [0, 1, 0, 2, 2, 2, 3])) := by kernel_rfl
set_option maxRecDepth 100000 in
theorem anf_101 (y : Int) (x : Int) : evR (ctxOf Try.prog numI (fun _ => false) libE7) Try.f89 [(.w (.one (.int .i64 y))), (.w (.one (.int .i64 x)))] [true, false, true] = some (AV.tup [AW.one (AC.int IntKind.i64 0), AW.one (AC.int IntKind.i64 4)], (pickL [(decide (0 < ((2 : Nat) : Int)), true), (decide (0 ≤ 0), true), (decide (x > 4294967296), false), (decide (x < -4294967296), true)] [0, 1, 0, 2, 2, 2, 3])) := by kernel_rfl
set_option maxRecDepth 100000 in
theorem anf_10011 (y : Int) (x : Int) : evR (ctxOf Try.prog numI (fun _ => false) libE7) Try.f89 [(.w (.one (.int .i64 y))), (.w (.one (.int .i64 x)))] [true, false, false, true, true] = some (AV.tup [AW.one (AC.int IntKind.i64 0), AW.one (AC.int IntKind.i64 4)], (pickL [(decide (0 < ((2 : Nat) : Int)), true), (decide (0 ≤ 0), true), (decide (x > 4294967296), false), (decide (x < -4294967296), false), (decide (IntKind.i64.wrap (0 + 1) < ((2 : Nat) : Int)), true), (decide (0 ≤ IntKind.i64.wrap (0 + 1)), true), (decide (y > 4294967296), true), (true, true)] [0, 1, 0, 2, 2, 2, 3, 4, 5, 4, 6, 6, 6, 7])) := by kernel_rfl
set_option maxRecDepth 100000 in
theorem anf_100101 (y : Int) (x : Int) : evR (ctxOf Try.prog numI (fun _ => false) libE7) Try.f89 [(.w (.one (.int .i64 y))), (.w (.one (.int .i64 x)))] [true, false, false, true, false, true] = some (AV.tup [AW.one (AC.int IntKind.i64 0), AW.one (AC.int IntKind.i64 4)], (pickL [(decide (0 < ((2 : Nat) : Int)), true), (decide (0 ≤ 0), true), (decide (x > 4294967296), false), (decide (x < -4294967296), false), (decide (IntKind.i64.wrap (0 + 1) < ((2 : Nat) : Int)), true), (decide (0 ≤ IntKind.i64.wrap (0 + 1)), true), (decide (y > 4294967296), false), (decide (y < -4294967296), true)] [0, 1, 0, 2, 2, 2, 3, 4, 5, 4, 6, 6, 6, 7])) := by kernel_rfl
set_option maxRecDepth 100000 in
theorem anf_100100011 (y : Int) (x : Int) : evR (ctxOf Try.prog numI (fun _ => false) libE7) Try.f89 [(.w (.one (.int .i64 y))), (.w (.one (.int .i64 x)))] [true, false, false, true, false, false, false, true, true] = some (AV.tup [AW.one (AC.int IntKind.i64 0), AW.one (AC.int IntKind.i64 8)], (pickL [(decide (0 < ((2 : Nat) : Int)), true), (decide (0 ≤ 0), true), (decide (x > 4294967296), false), (decide (x < -4294967296), false), (decide (IntKind.i64.wrap (0 + 1) < ((2 : Nat) : Int)), true), (decide (0 ≤ IntKind.i64.wrap (0 + 1)), true), (decide (y > 4294967296), false), (decide (y < -4294967296), false), (decide (IntKind.i64.wrap (IntKind.i64.wrap (0 + 1) + 1) < ((2 : Nat) : Int)), false), (x == 0, true), (y == 0, true)] [0, 1, 0, 2, 2, 2, 3, 4, 5, 4, 6, 6, 6, 7, 8, 9, 9, 9, 10])) := by kernel_rfl
set_option maxRecDepth 100000 in
theorem anf_1001000011011 (y : Int) (x : Int) : evR (ctxOf Try.prog numI (fun _ => false) libE7) Try.f89 [(.w (.one (.int .i64 y))), (.w (.one (.int .i64 x)))] [true, false, false, true, false, false, false, false, true, true, false, true, true] = some (AV.tup [AW.one (AC.int IntKind.i64 (IntKind.i64.wrap (flatV (IntKind.i64.wrap (0 - y)) (IntKind.i64.wrap (0 - x)) + 2147483648))), AW.one (AC.int IntKind.i64 0)], (pickL [(decide (0 < ((2 : Nat) : Int)), true), (decide (0 ≤ 0), true), (decide (x > 4294967296), false), (decide (x < -4294967296), false), (decide (IntKind.i64.wrap (0 + 1) < ((2 : Nat) : Int)), true), (decide (0 ≤ IntKind.i64.wrap (0 + 1)), true), (decide (y > 4294967296), false), (decide (y < -4294967296), false), (decide (IntKind.i64.wrap (IntKind.i64.wrap (0 + 1) + 1) < ((2 : Nat) : Int)), false), (x == 0, false), (false, false), (decide (x < 0), true), (decide (y < 0), true), (decide (IntKind.i64.wrap (0 - y) > IntKind.i64.wrap (0 - x)), false), (u32B (IntKind.i64.wrap (0 - y)), true), (u32B (IntKind.i64.wrap (0 - x)), true)] [0, 1, 0, 2, 2, 2, 3, 4, 5, 4, 6, 6, 6, 7, 8, 9, 9, 9, 10, 11, 12, 13, 14, 15, 11, 11, 11, 12])) := by kernel_rfl
set_option maxRecDepth 100000 in
theorem anf_1001000100110011 (y : Int) (x : Int) : evR (ctxOf Try.prog numI (fun _ => false) libE7) Try.f89 [(.w (.one (.int .i64 y))), (.w (.one (.int .i64 x)))] [true, false, false, true, false, false, false, true, false, false, true, true, false, false, true, true] = some (AV.tup [AW.one (AC.int IntKind.i64 (IntKind.i64.wrap (4294967296 - IntKind.i64.wrap (1073741824 - flatV x (IntKind.i64.wrap (0 - y)))))), AW.one (AC.int IntKind.i64 0)], (pickL [(decide (0 < ((2 : Nat) : Int)), true), (decide (0 ≤ 0), true), (decide (x > 4294967296), false), (decide (x < -4294967296), false), (decide (IntKind.i64.wrap (0 + 1) < ((2 : Nat) : Int)), true), (decide (0 ≤ IntKind.i64.wrap (0 + 1)), true), (decide (y > 4294967296), false), (decide (y < -4294967296), false), (decide (IntKind.i64.wrap (IntKind.i64.wrap (0 + 1) + 1) < ((2 : Nat) : Int)), false), (x == 0, true), (y == 0, false), (decide (x < 0), false), (decide (y < 0), true), (decide (IntKind.i64.wrap (0 - y) > x), true), (u32B x, true), (u32B (IntKind.i64.wrap (0 - y)), true), (false, false), (decide (IntKind.i64.wrap (1073741824 - flatV x (IntKind.i64.wrap (0 - y))) > 0), true)] [0, 1, 0, 2, 2, 2, 3, 4, 5, 4, 6, 6, 6, 7, 8, 9, 9, 9, 10, 11, 12, 13, 14, 15, 11, 11, 11, 16, 11, 12, 12, 12, 17])) := by kernel_rfl
set_option maxRecDepth 100000 in
theorem anf_100100000100011 (y : Int) (x : Int) : evR (ctxOf Try.prog numI (fun _ => false) libE7) Try.f89 [(.w (.one (.int .i64 y))), (.w (.one (.int .i64 x)))] [true, false, false, true, false, false, false, false, false, true, false, false, false, true, true] = some (AV.tup [AW.one (AC.int IntKind.i64 (IntKind.i64.wrap (4294967296 - flatV (IntKind.i64.wrap (0 - y)) x))), AW.one (AC.int IntKind.i64 0)], (pickL [(decide (0 < ((2 : Nat) : Int)), true), (decide (0 ≤ 0), true), (decide (x > 4294967296), false), (decide (x < -4294967296), false), (decide (IntKind.i64.wrap (0 + 1) < ((2 : Nat) : Int)), true), (decide (0 ≤ IntKind.i64.wrap (0 + 1)), true), (decide (y > 4294967296), false), (decide (y < -4294967296), false), (decide (IntKind.i64.wrap (IntKind.i64.wrap (0 + 1) + 1) < ((2 : Nat) : Int)), false), (x == 0, false), (false, false), (decide (x < 0), false), (decide (y < 0), true), (decide (IntKind.i64.wrap (0 - y) > x), false), (u32B (IntKind.i64.wrap (0 - y)), true), (u32B x, true), (decide (flatV (IntKind.i64.wrap (0 - y)) x > 0), true)] [0, 1, 0, 2, 2, 2, 3, 4, 5, 4, 6, 6, 6, 7, 8, 9, 9, 9, 10, 11, 12, 13, 14, 15, 11, 11, 11, 10, 11, 12, 12, 12, 16])) := by kernel_rfl
set_option maxRecDepth 100000 in
theorem anf_1001000011111 (y : Int) (x : Int) : evR (ctxOf Try.prog numI (fun _ => false) libE7) Try.f89 [(.w (.one (.int .i64 y))), (.w (.one (.int .i64 x)))] [true, false, false, true, false, false, false, false, true, true, true, true, true] = some (AV.tup [AW.one (AC.int IntKind.i64 (IntKind.i64.wrap (IntKind.i64.wrap (1073741824 - flatV (IntKind.i64.wrap (0 - x)) (IntKind.i64.wrap (0 - y))) + 2147483648))), AW.one (AC.int IntKind.i64 0)], (pickL [(decide (0 < ((2 : Nat) : Int)), true), (decide (0 ≤ 0), true), (decide (x > 4294967296), false), (decide (x < -4294967296), false), (decide (IntKind.i64.wrap (0 + 1) < ((2 : Nat) : Int)), true), (decide (0 ≤ IntKind.i64.wrap (0 + 1)), true), (decide (y > 4294967296), false), (decide (y < -4294967296), false), (decide (IntKind.i64.wrap (IntKind.i64.wrap (0 + 1) + 1) < ((2 : Nat) : Int)), false), (x == 0, false), (false, false), (decide (x < 0), true), (decide (y < 0), true), (decide (IntKind.i64.wrap (0 - y) > IntKind.i64.wrap (0 - x)), true), (u32B (IntKind.i64.wrap (0 - x)), true), (u32B (IntKind.i64.wrap (0 - y)), true)] [0, 1, 0, 2, 2, 2, 3, 4, 5, 4, 6, 6, 6, 7, 8, 9, 9, 9, 10, 11, 12, 13, 14, 15, 11, 11, 11, 12])) := by kernel_rfl
set_option maxRecDepth 100000 in
theorem anf_100100000110011 (y : Int) (x : Int) : evR (ctxOf Try.prog numI (fun _ => false) libE7) Try.f89 [(.w (.one (.int .i64 y))), (.w (.one (.int .i64 x)))] [true, false, false, true, false, false, false, false, false, true, true, false, false, true, true] = some (AV.tup [AW.one (AC.int IntKind.i64 (IntKind.i64.wrap (4294967296 - IntKind.i64.wrap (1073741824 - flatV x (IntKind.i64.wrap (0 - y)))))), AW.one (AC.int IntKind.i64 0)], (pickL [(decide (0 < ((2 : Nat) : Int)), true), (decide (0 ≤ 0), true), (decide (x > 4294967296), false), (decide (x < -4294967296), false), (decide (IntKind.i64.wrap (0 + 1) < ((2 : Nat) : Int)), true), (decide (0 ≤ IntKind.i64.wrap (0 + 1)), true), (decide (y > 4294967296), false), (decide (y < -4294967296), false), (decide (IntKind.i64.wrap (IntKind.i64.wrap (0 + 1) + 1) < ((2 : Nat) : Int)), false), (x == 0, false), (false, false), (decide (x < 0), false), (decide (y < 0), true), (decide (IntKind.i64.wrap (0 - y) > x), true), (u32B x, true), (u32B (IntKind.i64.wrap (0 - y)), true), (decide (IntKind.i64.wrap (1073741824 - flatV x (IntKind.i64.wrap (0 - y))) > 0), true)] [0, 1, 0, 2, 2, 2, 3, 4, 5, 4, 6, 6, 6, 7, 8, 9, 9, 9, 10, 11, 12, 13, 14, 15, 11, 11, 11, 10, 11, 12, 12, 12, 16])) := by kernel_rfl
set_option maxRecDepth 100000 in
theorem anf_10010000100101 (y : Int) (x : Int) : evR (ctxOf Try.prog numI (fun _ => false) libE7) Try.f89 [(.w (.one (.int .i64 y))), (.w (.one (.int .i64 x)))] [true, false, false, true, false, false, false, false, true, false, false, true, false, true] = some (AV.tup [AW.one (AC.int IntKind.i64 (IntKind.i64.wrap (2147483648 - flatV y (IntKind.i64.wrap (0 - x))))), AW.one (AC.int IntKind.i64 0)], (pickL [(decide (0 < ((2 : Nat) : Int)), true), (decide (0 ≤ 0), true), (decide (x > 4294967296), false), (decide (x < -4294967296), false), (decide (IntKind.i64.wrap (0 + 1) < ((2 : Nat) : Int)), true), (decide (0 ≤ IntKind.i64.wrap (0 + 1)), true), (decide (y > 4294967296), false), (decide (y < -4294967296), false), (decide (IntKind.i64.wrap (IntKind.i64.wrap (0 + 1) + 1) < ((2 : Nat) : Int)), false), (x == 0, false), (false, false), (decide (x < 0), true), (decide (y < 0), false), (decide (y > IntKind.i64.wrap (0 - x)), false), (u32B y, true), (u32B (IntKind.i64.wrap (0 - x)), true)] [0, 1, 0, 2, 2, 2, 3, 4, 5, 4, 6, 6, 6, 7, 8, 9, 9, 9, 10, 11, 12, 13, 14, 15, 11, 11, 11, 12, 11])) := by kernel_rfl
set_option maxRecDepth 100000 in
theorem anf_10010000000000 (y : Int) (x : Int) : evR (ctxOf Try.prog numI (fun _ => false) libE7) Try.f89 [(.w (.one (.int .i64 y))), (.w (.one (.int .i64 x)))] [true, false, false, true, false, false, false, false, false, false, false, false, false, false] = some (AV.tup [AW.one (AC.int IntKind.i64 (flatV y x)), AW.one (AC.int IntKind.i64 0)], (pickL [(decide (0 < ((2 : Nat) : Int)), true), (decide (0 ≤ 0), true), (decide (x > 4294967296), false), (decide (x < -4294967296), false), (decide (IntKind.i64.wrap (0 + 1) < ((2 : Nat) : Int)), true), (decide (0 ≤ IntKind.i64.wrap (0 + 1)), true), (decide (y > 4294967296), false), (decide (y < -4294967296), false), (decide (IntKind.i64.wrap (IntKind.i64.wrap (0 + 1) + 1) < ((2 : Nat) : Int)), false), (x == 0, false), (false, false), (decide (x < 0), false), (decide (y < 0), false), (decide (y > x), false), (u32B y, true), (u32B x, true)] [0, 1, 0, 2, 2, 2, 3, 4, 5, 4, 6, 6, 6, 7, 8, 9, 9, 9, 10, 11, 12, 13, 14, 15, 11, 11, 11, 10, 11, 12, 12, 12, 10])) := by kernel_rfl
set_option maxRecDepth 100000 in
theorem anf_100100010001000 (y : Int) (x : Int) : evR (ctxOf Try.prog numI (fun _ => false) libE7) Try.f89 [(.w (.one (.int .i64 y))), (.w (.one (.int .i64 x)))] [true, false, false, true, false, false, false, true, false, false, false, true, false, false, false] = some (AV.tup [AW.one (AC.int IntKind.i64 (IntKind.i64.wrap (1073741824 - flatV x y))), AW.one (AC.int IntKind.i64 0)], (pickL [(decide (0 < ((2 : Nat) : Int)), true), (decide (0 ≤ 0), true), (decide (x > 4294967296), false), (decide (x < -4294967296), false), (decide (IntKind.i64.wrap (0 + 1) < ((2 : Nat) : Int)), true), (decide (0 ≤ IntKind.i64.wrap (0 + 1)), true), (decide (y > 4294967296), false), (decide (y < -4294967296), false), (decide (IntKind.i64.wrap (IntKind.i64.wrap (0 + 1) + 1) < ((2 : Nat) : Int)), false), (x == 0, true), (y == 0, false), (decide (x < 0), false), (decide (y < 0), false), (decide (y > x), true), (u32B x, true), (u32B y, true), (false, false)] [0, 1, 0, 2, 2, 2, 3, 4, 5, 4, 6, 6, 6, 7, 8, 9, 9, 9, 10, 11, 12, 13, 14, 15, 11, 11, 11, 16, 11, 12, 12, 12, 16])) := by kernel_rfl
set_option maxRecDepth 100000 in
theorem anf_10010000101101 (y : Int) (x : Int) : evR (ctxOf Try.prog numI (fun _ => false) libE7) Try.f89 [(.w (.one (.int .i64 y))), (.w (.one (.int .i64 x)))] [true, false, false, true, false, false, false, false, true, false, true, true, false, true] = some (AV.tup [AW.one (AC.int IntKind.i64 (IntKind.i64.wrap (2147483648 - IntKind.i64.wrap (1073741824 - flatV (IntKind.i64.wrap (0 - x)) y)))), AW.one (AC.int IntKind.i64 0)], (pickL [(decide (0 < ((2 : Nat) : Int)), true), (decide (0 ≤ 0), true), (decide (x > 4294967296), false), (decide (x < -4294967296), false), (decide (IntKind.i64.wrap (0 + 1) < ((2 : Nat) : Int)), true), (decide (0 ≤ IntKind.i64.wrap (0 + 1)), true), (decide (y > 4294967296), false), (decide (y < -4294967296), false), (decide (IntKind.i64.wrap (IntKind.i64.wrap (0 + 1) + 1) < ((2 : Nat) : Int)), false), (x == 0, false), (false, false), (decide (x < 0), true), (decide (y < 0), false), (decide (y > IntKind.i64.wrap (0 - x)), true), (u32B (IntKind.i64.wrap (0 - x)), true), (u32B y, true)] [0, 1, 0, 2, 2, 2, 3, 4, 5, 4, 6, 6, 6, 7, 8, 9, 9, 9, 10, 11, 12, 13, 14, 15, 11, 11, 11, 12, 11])) := by kernel_rfl
set_option maxRecDepth 100000 in
theorem anf_10010000001000 (y : Int) (x : Int) : evR (ctxOf Try.prog numI (fun _ => false) libE7) Try.f89 [(.w (.one (.int .i64 y))), (.w (.one (.int .i64 x)))] [true, false, false, true, false, false, false, false, false, false, true, false, false, false] = some (AV.tup [AW.one (AC.int IntKind.i64 (IntKind.i64.wrap (1073741824 - flatV x y))), AW.one (AC.int IntKind.i64 0)], (pickL [(decide (0 < ((2 : Nat) : Int)), true), (decide (0 ≤ 0), true), (decide (x > 4294967296), false), (decide (x < -4294967296), false), (decide (IntKind.i64.wrap (0 + 1) < ((2 : Nat) : Int)), true), (decide (0 ≤ IntKind.i64.wrap (0 + 1)), true), (decide (y > 4294967296), false), (decide (y < -4294967296), false), (decide (IntKind.i64.wrap (IntKind.i64.wrap (0 + 1) + 1) < ((2 : Nat) : Int)), false), (x == 0, false), (false, false), (decide (x < 0), false), (decide (y < 0), false), (decide (y > x), true), (u32B x, true), (u32B y, true)] [0, 1, 0, 2, 2, 2, 3, 4, 5, 4, 6, 6, 6, 7, 8, 9, 9, 9, 10, 11, 12, 13, 14, 15, 11, 11, 11, 10, 11, 12, 12, 12, 10])) := by kernel_rfl
set_option maxRecDepth 100000 in
set_option maxHeartbeats 4000000 in
theorem angle_pl (y x : Int) : Pl Try.prog 89 [.int .i64 y, .int .i64 x] (.tuple #[.int .i64 (atanV y x), .int .i64 (atanE y x)]) := fun w => by
  by_cases x1 : x > 4294967296
  · have n1 : ¬ (-4294967296 ≤ x ∧ x ≤ 4294967296) := by omega
    have V := atanV_out (y := y) (.inl n1)
    rw [V.1, V.2]
    have L := anf_11 y x
    refine evR_calls (I := numI) (ctxOf_ok libE7_ok (eq_none _)) (by kernel_rfl) Try.func89 rfl lps_nil L rfl (all2_R (.cons rfl (.cons rfl .nil))) rfl w (Nat.zero_le _) (pickL_ok ?_ _)
    repeat' (first | exact cd_nil | refine cd_cons ?_ ?_)
    all_goals first | rfl | with_reducible assumption | with_reducible exact decide_eq_true (by omega) | with_reducible exact decide_eq_false (by omega) | with_reducible exact beq_iff_eq.2 (by omega) | with_reducible exact beq_eq_false_iff_ne.2 (by omega) | with_reducible exact u32B_iff.2 (by omega)
  by_cases x2 : x < -4294967296
  · have n1 : ¬ (-4294967296 ≤ x ∧ x ≤ 4294967296) := by omega
    have V := atanV_out (y := y) (.inl n1)
    rw [V.1, V.2]
    have L := anf_101 y x
    refine evR_calls (I := numI) (ctxOf_ok libE7_ok (eq_none _)) (by kernel_rfl) Try.func89 rfl lps_nil L rfl (all2_R (.cons rfl (.cons rfl .nil))) rfl w (Nat.zero_le _) (pickL_ok ?_ _)
    repeat' (first | exact cd_nil | refine cd_cons ?_ ?_)
    all_goals first | rfl | with_reducible assumption | with_reducible exact decide_eq_true (by omega) | with_reducible exact decide_eq_false (by omega) | with_reducible exact beq_iff_eq.2 (by omega) | with_reducible exact beq_eq_false_iff_ne.2 (by omega) | with_reducible exact u32B_iff.2 (by omega)
  by_cases y1 : y > 4294967296
  · have n1 : ¬ (-4294967296 ≤ y ∧ y ≤ 4294967296) := by omega
    have V := atanV_out (x := x) (.inr n1)
    rw [V.1, V.2]
    have L := anf_10011 y x
    refine evR_calls (I := numI) (ctxOf_ok libE7_ok (eq_none _)) (by kernel_rfl) Try.func89 rfl lps_nil L rfl (all2_R (.cons rfl (.cons rfl .nil))) rfl w (Nat.zero_le _) (pickL_ok ?_ _)
    repeat' (first | exact cd_nil | refine cd_cons ?_ ?_)
    all_goals first | rfl | with_reducible assumption | with_reducible exact decide_eq_true (by omega) | with_reducible exact decide_eq_false (by omega) | with_reducible exact beq_iff_eq.2 (by omega) | with_reducible exact beq_eq_false_iff_ne.2 (by omega) | with_reducible exact u32B_iff.2 (by omega)
  by_cases y2 : y < -4294967296
  · have n1 : ¬ (-4294967296 ≤ y ∧ y ≤ 4294967296) := by omega
    have V := atanV_out (x := x) (.inr n1)
    rw [V.1, V.2]
    have L := anf_100101 y x
    refine evR_calls (I := numI) (ctxOf_ok libE7_ok (eq_none _)) (by kernel_rfl) Try.func89 rfl lps_nil L rfl (all2_R (.cons rfl (.cons rfl .nil))) rfl w (Nat.zero_le _) (pickL_ok ?_ _)
    repeat' (first | exact cd_nil | refine cd_cons ?_ ?_)
    all_goals first | rfl | with_reducible assumption | with_reducible exact decide_eq_true (by omega) | with_reducible exact decide_eq_false (by omega) | with_reducible exact beq_iff_eq.2 (by omega) | with_reducible exact beq_eq_false_iff_ne.2 (by omega) | with_reducible exact u32B_iff.2 (by omega)
  by_cases h0 : x = 0 ∧ y = 0
  · obtain ⟨rfl, rfl⟩ := h0
    have V := atanV_00
    rw [V.1, V.2]
    have L := anf_100100011 0 0
    refine evR_calls (I := numI) (ctxOf_ok libE7_ok (eq_none _)) (by kernel_rfl) Try.func89 rfl lps_nil L rfl (all2_R (.cons rfl (.cons rfl .nil))) rfl w (Nat.zero_le _) (pickL_ok ?_ _)
    repeat' (first | exact cd_nil | refine cd_cons ?_ ?_)
    all_goals first | rfl | with_reducible assumption | with_reducible exact decide_eq_true (by omega) | with_reducible exact decide_eq_false (by omega) | with_reducible exact beq_iff_eq.2 (by omega) | with_reducible exact beq_eq_false_iff_ne.2 (by omega) | with_reducible exact u32B_iff.2 (by omega)
  have A := atanV_in (y := y) (x := x) (by omega) (by omega) h0
  by_cases cx : x < 0
  · by_cases cy : y < 0
    · by_cases cv : -y > -x
      · skip
        have f1 := flatV_range (v := (-y)) (u := (-x)) (by omega) (by omega)
        have f2 := flatV_range (v := (-x)) (u := (-y)) (by omega) (by omega)
        have V := (⟨by
            rw [A.1]; unfold angV turnX turnY steepV
            rw [show absV y = (-y) by unfold absV; split <;> omega, show absV x = (-x) by unfold absV; split <;> omega]
            (repeat' split) <;> omega, A.2⟩ : atanV y x = 1073741824 - flatV (-x) (-y) + 2147483648 ∧ atanE y x = 0)
        rw [V.1, V.2]
        have L := anf_1001000011111 y x
        rw [Int.zero_sub x, i64w (x := -x) (by omega) (by omega)] at L
        rw [Int.zero_sub y, i64w (x := -y) (by omega) (by omega)] at L
        rw [i64w (x := 1073741824 - flatV (-x) (-y)) (by omega) (by omega)] at L
        rw [i64w (x := 1073741824 - flatV (-x) (-y) + 2147483648) (by omega) (by omega)] at L
        refine evR_calls (I := numI) (ctxOf_ok libE7_ok (eq_none _)) (by kernel_rfl) Try.func89 rfl lps_nil L rfl (all2_R (.cons rfl (.cons rfl .nil))) rfl w (Nat.zero_le _) (pickL_ok ?_ _)
        repeat' (first | exact cd_nil | refine cd_cons ?_ ?_)
        all_goals first | rfl | with_reducible assumption | with_reducible exact decide_eq_true (by omega) | with_reducible exact decide_eq_false (by omega) | with_reducible exact beq_iff_eq.2 (by omega) | with_reducible exact beq_eq_false_iff_ne.2 (by omega) | with_reducible exact u32B_iff.2 (by omega)
      · skip
        have f1 := flatV_range (v := (-y)) (u := (-x)) (by omega) (by omega)
        have f2 := flatV_range (v := (-x)) (u := (-y)) (by omega) (by omega)
        have V := (⟨by
            rw [A.1]; unfold angV turnX turnY steepV
            rw [show absV y = (-y) by unfold absV; split <;> omega, show absV x = (-x) by unfold absV; split <;> omega]
            (repeat' split) <;> omega, A.2⟩ : atanV y x = flatV (-y) (-x) + 2147483648 ∧ atanE y x = 0)
        rw [V.1, V.2]
        have L := anf_1001000011011 y x
        rw [Int.zero_sub x, i64w (x := -x) (by omega) (by omega)] at L
        rw [Int.zero_sub y, i64w (x := -y) (by omega) (by omega)] at L
        rw [i64w (x := flatV (-y) (-x) + 2147483648) (by omega) (by omega)] at L
        refine evR_calls (I := numI) (ctxOf_ok libE7_ok (eq_none _)) (by kernel_rfl) Try.func89 rfl lps_nil L rfl (all2_R (.cons rfl (.cons rfl .nil))) rfl w (Nat.zero_le _) (pickL_ok ?_ _)
        repeat' (first | exact cd_nil | refine cd_cons ?_ ?_)
        all_goals first | rfl | with_reducible assumption | with_reducible exact decide_eq_true (by omega) | with_reducible exact decide_eq_false (by omega) | with_reducible exact beq_iff_eq.2 (by omega) | with_reducible exact beq_eq_false_iff_ne.2 (by omega) | with_reducible exact u32B_iff.2 (by omega)
    · by_cases cv : y > -x
      · skip
        have f1 := flatV_range (v := y) (u := (-x)) (by omega) (by omega)
        have f2 := flatV_range (v := (-x)) (u := y) (by omega) (by omega)
        have V := (⟨by
            rw [A.1]; unfold angV turnX turnY steepV
            rw [show absV y = y by unfold absV; split <;> omega, show absV x = (-x) by unfold absV; split <;> omega]
            (repeat' split) <;> omega, A.2⟩ : atanV y x = 2147483648 - (1073741824 - flatV (-x) y) ∧ atanE y x = 0)
        rw [V.1, V.2]
        have L := anf_10010000101101 y x
        rw [Int.zero_sub x, i64w (x := -x) (by omega) (by omega)] at L
        rw [i64w (x := 1073741824 - flatV (-x) y) (by omega) (by omega)] at L
        rw [i64w (x := 2147483648 - (1073741824 - flatV (-x) y)) (by omega) (by omega)] at L
        refine evR_calls (I := numI) (ctxOf_ok libE7_ok (eq_none _)) (by kernel_rfl) Try.func89 rfl lps_nil L rfl (all2_R (.cons rfl (.cons rfl .nil))) rfl w (Nat.zero_le _) (pickL_ok ?_ _)
        repeat' (first | exact cd_nil | refine cd_cons ?_ ?_)
        all_goals first | rfl | with_reducible assumption | with_reducible exact decide_eq_true (by omega) | with_reducible exact decide_eq_false (by omega) | with_reducible exact beq_iff_eq.2 (by omega) | with_reducible exact beq_eq_false_iff_ne.2 (by omega) | with_reducible exact u32B_iff.2 (by omega)
      · skip
        have f1 := flatV_range (v := y) (u := (-x)) (by omega) (by omega)
        have f2 := flatV_range (v := (-x)) (u := y) (by omega) (by omega)
        have V := (⟨by
            rw [A.1]; unfold angV turnX turnY steepV
            rw [show absV y = y by unfold absV; split <;> omega, show absV x = (-x) by unfold absV; split <;> omega]
            (repeat' split) <;> omega, A.2⟩ : atanV y x = 2147483648 - flatV y (-x) ∧ atanE y x = 0)
        rw [V.1, V.2]
        have L := anf_10010000100101 y x
        rw [Int.zero_sub x, i64w (x := -x) (by omega) (by omega)] at L
        rw [i64w (x := 2147483648 - flatV y (-x)) (by omega) (by omega)] at L
        refine evR_calls (I := numI) (ctxOf_ok libE7_ok (eq_none _)) (by kernel_rfl) Try.func89 rfl lps_nil L rfl (all2_R (.cons rfl (.cons rfl .nil))) rfl w (Nat.zero_le _) (pickL_ok ?_ _)
        repeat' (first | exact cd_nil | refine cd_cons ?_ ?_)
        all_goals first | rfl | with_reducible assumption | with_reducible exact decide_eq_true (by omega) | with_reducible exact decide_eq_false (by omega) | with_reducible exact beq_iff_eq.2 (by omega) | with_reducible exact beq_eq_false_iff_ne.2 (by omega) | with_reducible exact u32B_iff.2 (by omega)
  · by_cases cy : y < 0
    · by_cases cz : x = 0
      · have cv : -y > x := by omega
        have f1 := flatV_range (v := (-y)) (u := x) (by omega) (by omega)
        have f2 := flatV_range (v := x) (u := (-y)) (by omega) (by omega)
        have V := (⟨by
            rw [A.1]; unfold angV turnX turnY steepV
            rw [show absV y = (-y) by unfold absV; split <;> omega, show absV x = x by unfold absV; split <;> omega]
            (repeat' split) <;> omega, A.2⟩ : atanV y x = 4294967296 - (1073741824 - flatV x (-y)) ∧ atanE y x = 0)
        rw [V.1, V.2]
        have L := anf_1001000100110011 y x
        rw [Int.zero_sub y, i64w (x := -y) (by omega) (by omega)] at L
        rw [i64w (x := 1073741824 - flatV x (-y)) (by omega) (by omega)] at L
        rw [i64w (x := 4294967296 - (1073741824 - flatV x (-y))) (by omega) (by omega)] at L
        refine evR_calls (I := numI) (ctxOf_ok libE7_ok (eq_none _)) (by kernel_rfl) Try.func89 rfl lps_nil L rfl (all2_R (.cons rfl (.cons rfl .nil))) rfl w (Nat.zero_le _) (pickL_ok ?_ _)
        repeat' (first | exact cd_nil | refine cd_cons ?_ ?_)
        all_goals first | rfl | with_reducible assumption | with_reducible exact decide_eq_true (by omega) | with_reducible exact decide_eq_false (by omega) | with_reducible exact beq_iff_eq.2 (by omega) | with_reducible exact beq_eq_false_iff_ne.2 (by omega) | with_reducible exact u32B_iff.2 (by omega)
      by_cases cv : -y > x
      · skip
        have f1 := flatV_range (v := (-y)) (u := x) (by omega) (by omega)
        have f2 := flatV_range (v := x) (u := (-y)) (by omega) (by omega)
        have V := (⟨by
            rw [A.1]; unfold angV turnX turnY steepV
            rw [show absV y = (-y) by unfold absV; split <;> omega, show absV x = x by unfold absV; split <;> omega]
            (repeat' split) <;> omega, A.2⟩ : atanV y x = 4294967296 - (1073741824 - flatV x (-y)) ∧ atanE y x = 0)
        rw [V.1, V.2]
        have L := anf_100100000110011 y x
        rw [Int.zero_sub y, i64w (x := -y) (by omega) (by omega)] at L
        rw [i64w (x := 1073741824 - flatV x (-y)) (by omega) (by omega)] at L
        rw [i64w (x := 4294967296 - (1073741824 - flatV x (-y))) (by omega) (by omega)] at L
        refine evR_calls (I := numI) (ctxOf_ok libE7_ok (eq_none _)) (by kernel_rfl) Try.func89 rfl lps_nil L rfl (all2_R (.cons rfl (.cons rfl .nil))) rfl w (Nat.zero_le _) (pickL_ok ?_ _)
        repeat' (first | exact cd_nil | refine cd_cons ?_ ?_)
        all_goals first | rfl | with_reducible assumption | with_reducible exact decide_eq_true (by omega) | with_reducible exact decide_eq_false (by omega) | with_reducible exact beq_iff_eq.2 (by omega) | with_reducible exact beq_eq_false_iff_ne.2 (by omega) | with_reducible exact u32B_iff.2 (by omega)
      by_cases cb : flatV (-y) x > 0
      · skip
        have f1 := flatV_range (v := (-y)) (u := x) (by omega) (by omega)
        have f2 := flatV_range (v := x) (u := (-y)) (by omega) (by omega)
        have V := (⟨by
            rw [A.1]; unfold angV turnX turnY steepV
            rw [show absV y = (-y) by unfold absV; split <;> omega, show absV x = x by unfold absV; split <;> omega]
            (repeat' split) <;> omega, A.2⟩ : atanV y x = 4294967296 - flatV (-y) x ∧ atanE y x = 0)
        rw [V.1, V.2]
        have L := anf_100100000100011 y x
        rw [Int.zero_sub y, i64w (x := -y) (by omega) (by omega)] at L
        rw [i64w (x := 4294967296 - flatV (-y) x) (by omega) (by omega)] at L
        refine evR_calls (I := numI) (ctxOf_ok libE7_ok (eq_none _)) (by kernel_rfl) Try.func89 rfl lps_nil L rfl (all2_R (.cons rfl (.cons rfl .nil))) rfl w (Nat.zero_le _) (pickL_ok ?_ _)
        repeat' (first | exact cd_nil | refine cd_cons ?_ ?_)
        all_goals first | rfl | with_reducible assumption | with_reducible exact decide_eq_true (by omega) | with_reducible exact decide_eq_false (by omega) | with_reducible exact beq_iff_eq.2 (by omega) | with_reducible exact beq_eq_false_iff_ne.2 (by omega) | with_reducible exact u32B_iff.2 (by omega)
      · skip
        have f1 := flatV_range (v := (-y)) (u := x) (by omega) (by omega)
        have f2 := flatV_range (v := x) (u := (-y)) (by omega) (by omega)
        have V := (⟨by
            rw [A.1]; unfold angV turnX turnY steepV
            rw [show absV y = (-y) by unfold absV; split <;> omega, show absV x = x by unfold absV; split <;> omega]
            (repeat' split) <;> omega, A.2⟩ : atanV y x = flatV (-y) x ∧ atanE y x = 0)
        rw [V.1, V.2]
        have L := anf_100100000100010 y x
        rw [Int.zero_sub y, i64w (x := -y) (by omega) (by omega)] at L
        refine evR_calls (I := numI) (ctxOf_ok libE7_ok (eq_none _)) (by kernel_rfl) Try.func89 rfl lps_nil L rfl (all2_R (.cons rfl (.cons rfl .nil))) rfl w (Nat.zero_le _) (pickL_ok ?_ _)
        repeat' (first | exact cd_nil | refine cd_cons ?_ ?_)
        all_goals first | rfl | with_reducible assumption | with_reducible exact decide_eq_true (by omega) | with_reducible exact decide_eq_false (by omega) | with_reducible exact beq_iff_eq.2 (by omega) | with_reducible exact beq_eq_false_iff_ne.2 (by omega) | with_reducible exact u32B_iff.2 (by omega)
    · by_cases cz : x = 0
      · have cv : y > x := by omega
        have f1 := flatV_range (v := y) (u := x) (by omega) (by omega)
        have f2 := flatV_range (v := x) (u := y) (by omega) (by omega)
        have V := (⟨by
            rw [A.1]; unfold angV turnX turnY steepV
            rw [show absV y = y by unfold absV; split <;> omega, show absV x = x by unfold absV; split <;> omega]
            (repeat' split) <;> omega, A.2⟩ : atanV y x = 1073741824 - flatV x y ∧ atanE y x = 0)
        rw [V.1, V.2]
        have L := anf_100100010001000 y x
        rw [i64w (x := 1073741824 - flatV x y) (by omega) (by omega)] at L
        refine evR_calls (I := numI) (ctxOf_ok libE7_ok (eq_none _)) (by kernel_rfl) Try.func89 rfl lps_nil L rfl (all2_R (.cons rfl (.cons rfl .nil))) rfl w (Nat.zero_le _) (pickL_ok ?_ _)
        repeat' (first | exact cd_nil | refine cd_cons ?_ ?_)
        all_goals first | rfl | with_reducible assumption | with_reducible exact decide_eq_true (by omega) | with_reducible exact decide_eq_false (by omega) | with_reducible exact beq_iff_eq.2 (by omega) | with_reducible exact beq_eq_false_iff_ne.2 (by omega) | with_reducible exact u32B_iff.2 (by omega)
      by_cases cv : y > x
      · skip
        have f1 := flatV_range (v := y) (u := x) (by omega) (by omega)
        have f2 := flatV_range (v := x) (u := y) (by omega) (by omega)
        have V := (⟨by
            rw [A.1]; unfold angV turnX turnY steepV
            rw [show absV y = y by unfold absV; split <;> omega, show absV x = x by unfold absV; split <;> omega]
            (repeat' split) <;> omega, A.2⟩ : atanV y x = 1073741824 - flatV x y ∧ atanE y x = 0)
        rw [V.1, V.2]
        have L := anf_10010000001000 y x
        rw [i64w (x := 1073741824 - flatV x y) (by omega) (by omega)] at L
        refine evR_calls (I := numI) (ctxOf_ok libE7_ok (eq_none _)) (by kernel_rfl) Try.func89 rfl lps_nil L rfl (all2_R (.cons rfl (.cons rfl .nil))) rfl w (Nat.zero_le _) (pickL_ok ?_ _)
        repeat' (first | exact cd_nil | refine cd_cons ?_ ?_)
        all_goals first | rfl | with_reducible assumption | with_reducible exact decide_eq_true (by omega) | with_reducible exact decide_eq_false (by omega) | with_reducible exact beq_iff_eq.2 (by omega) | with_reducible exact beq_eq_false_iff_ne.2 (by omega) | with_reducible exact u32B_iff.2 (by omega)
      · skip
        have f1 := flatV_range (v := y) (u := x) (by omega) (by omega)
        have f2 := flatV_range (v := x) (u := y) (by omega) (by omega)
        have V := (⟨by
            rw [A.1]; unfold angV turnX turnY steepV
            rw [show absV y = y by unfold absV; split <;> omega, show absV x = x by unfold absV; split <;> omega]
            (repeat' split) <;> omega, A.2⟩ : atanV y x = flatV y x ∧ atanE y x = 0)
        rw [V.1, V.2]
        have L := anf_10010000000000 y x
        refine evR_calls (I := numI) (ctxOf_ok libE7_ok (eq_none _)) (by kernel_rfl) Try.func89 rfl lps_nil L rfl (all2_R (.cons rfl (.cons rfl .nil))) rfl w (Nat.zero_le _) (pickL_ok ?_ _)
        repeat' (first | exact cd_nil | refine cd_cons ?_ ?_)
        all_goals first | rfl | with_reducible assumption | with_reducible exact decide_eq_true (by omega) | with_reducible exact decide_eq_false (by omega) | with_reducible exact beq_iff_eq.2 (by omega) | with_reducible exact beq_eq_false_iff_ne.2 (by omega) | with_reducible exact u32B_iff.2 (by omega)
abbrev libE8 : List (Nat × FnSp Nm) := [(79, sp2 (dInt .i64) (dInt .i64) (fun y x => num2 (atanV y x) (atanE y x)) (fun _ _ => [])), (89, sp2 (dInt .i64) (dInt .i64) (fun y x => num2 (atanV y x) (atanE y x)) (fun _ _ => []))]

theorem libE8_ok : LibOk Try.prog numI (lib1 libE8) := (lib1_cons (sp2_ok fun y x _ => ⟨_, rfl, atan_pl y x⟩) Try.call79 (lib1_cons (sp2_ok fun y x _ => ⟨_, rfl, angle_pl y x⟩) Try.call89 (lib1_nil _ _)))

end Go.Proofs.Ytagbpehfieejcaa

