/-
  slices.Equal of two slices of int64, as a function of facts.
  Conditions: those of each theorem.
-/
import Derived.Test.YtdhodjbomepfbaaTF
set_option linter.unusedVariables false
set_option linter.unusedSimpArgs false
namespace Go.Proofs.Ytdhodjbomepfbaa
open Go.RowKit Go.Shelf Ev Zd Wd

abbrev eqPos : List Bool := [false, true, false, true, true]
def eqTm (l m : List Int) (n i : Int) : List (Nat × AV Nm) := [(0, .w (.one (.fv (.row l)))), (1, .w (.one (.fv (.row m)))), (12, .w (.one (.int .i64 n))), (13, .w (.one (.int .i64 i)))]
set_option maxRecDepth 100000 in
theorem eq_11 (l m : List Int) (n i : Int) (rest : List (Nat × AV Nm)) : evView (ctxOf Try.prog numI eqsF []) 26 (false :: eqPos) (loopAt (bodyOf Try.f63) eqPos) (eqTm l m n i ++ (ptrN 0 [] ++ rest)) [] 0 [4] [true, true] = some ((.ret, [.w (.one (.yes false))], []), [(decide (i < n), true), (decide (0 ≤ i), true), (decide (i < lenI l), true), (decide (0 ≤ i), true), (decide (i < lenI l), true), (decide (0 ≤ i), true), (decide (i < lenI m), true), (decide (0 ≤ i), true), (decide (i < lenI m), true), (getI l i != getI m i, true)]) := by kernel_rfl
set_option maxRecDepth 100000 in
theorem eq_10 (l m : List Int) (n i : Int) (rest : List (Nat × AV Nm)) : evView (ctxOf Try.prog numI eqsF []) 26 (false :: eqPos) (loopAt (bodyOf Try.f63) eqPos) (eqTm l m n i ++ (ptrN 0 [] ++ rest)) [] 0 [0, 1, 12, 13] [true, false] = some ((.normal, [.w (.one (.fv (.row l))), .w (.one (.fv (.row m))), .w (.one (.int .i64 n)), .w (.one (.int .i64 (IntKind.i64.wrap (i + 1))))], []), [(decide (i < n), true), (decide (0 ≤ i), true), (decide (i < lenI l), true), (decide (0 ≤ i), true), (decide (i < lenI l), true), (decide (0 ≤ i), true), (decide (i < lenI m), true), (decide (0 ≤ i), true), (decide (i < lenI m), true), (getI l i != getI m i, false)]) := by kernel_rfl
set_option maxRecDepth 100000 in
theorem eq_0 (l m : List Int) (n i : Int) (rest : List (Nat × AV Nm)) : evView (ctxOf Try.prog numI eqsF []) 26 (false :: eqPos) (loopAt (bodyOf Try.f63) eqPos) (eqTm l m n i ++ (ptrN 0 [] ++ rest)) [] 0 [] [false] = some ((.exit 0, [], []), [(decide (i < n), false)]) := by kernel_rfl
structure EQ where
  l : List Int
  m : List Int
  n : Int
  i : Int
def eqS : LpSt EQ Nm where
  ps := []
  tm := fun t => eqTm t.l t.m t.n t.i
  hp := fun _ => []
def okQ (l m : List Int) (n i : Int) : Bool := decide (n = lenI l) && decide (n = lenI m) && decide (0 ≤ i) && decide (i ≤ n) && decide (n ≤ 9223372036854775807)
def eqStep (t : EQ) : Nxt EQ Nm := if okQ t.l t.m t.n t.i = true then (if t.i < t.n then (if getI t.l t.i = getI t.m t.i then .go ⟨t.l, t.m, t.n, t.i + 1⟩ else .out .ret [(4, .w (.one (.yes false)))] []) else .out (.exit 0) [] []) else .bad
set_option maxRecDepth 100000 in
theorem eq_round (t : EQ) (hb : (eqStep t).isBad = false) (rest : List (Nat × AV Nm)) : ∃ fuel path r, evC (ctxOf Try.prog numI eqsF []) fuel 26 (false :: eqPos) (loopAt (bodyOf Try.f63) eqPos) (eqS.tm t ++ (ptrN 0 eqS.ps ++ rest)) (numb 0 (eqS.hp t)) 0 path = some r ∧ (∀ p ∈ r.cd, p.1 = p.2) ∧ Gives eqS 0 r (eqStep t) := by
  obtain ⟨l, m, n, i⟩ := t
  unfold eqStep at hb ⊢
  cases hok : okQ l m n i with
  | false => simp only [hok] at hb; cases hb
  | true =>
  clear hb
  simp only [if_true]
  simp only [okQ, Bool.and_eq_true, decide_eq_true_eq] at hok
  obtain ⟨⟨⟨⟨h1, h2⟩, h3⟩, h4⟩, h5⟩ := hok
  by_cases hi : i < n
  · simp only [if_pos hi]
    have c1 : decide (i < n) = true := decide_eq_true hi
    have c2 : decide (0 ≤ i) = true := decide_eq_true h3
    have c3 : decide (i < lenI l) = true := decide_eq_true (by omega)
    have c4 : decide (i < lenI m) = true := decide_eq_true (by omega)
    by_cases hg : getI l i = getI m i
    · simp only [if_pos hg]
      have c5 : (getI l i != getI m i) = false := by simp [hg]
      have w1 : IntKind.i64.wrap (i + 1) = i + 1 := by rw [IntKind.wrap_i64]; omega
      have L := eq_10 l m n i rest
      rw [w1] at L
      refine round_go L ?_ rfl rfl rfl rfl
      repeat' (first | exact cd_nil | refine cd_cons ?_ ?_)
      all_goals with_reducible assumption
    · simp only [if_neg hg]
      have c5 : (getI l i != getI m i) = true := by simp [hg]
      refine round_outR (eq_11 l m n i rest) rfl ?_ rfl rfl
      repeat' (first | exact cd_nil | refine cd_cons ?_ ?_)
      all_goals with_reducible assumption
  · simp only [if_neg hi]
    have c1 : decide (i < n) = false := decide_eq_false hi
    refine round_outR (eq_0 l m n i rest) rfl ?_ rfl rfl
    repeat' (first | exact cd_nil | refine cd_cons ?_ ?_)
    all_goals with_reducible assumption
theorem eq_runs {l m : List Int} (h1 : l.length = m.length) (h5 : lenI l ≤ 9223372036854775807) : ∀ (B k : Nat), k + B = l.length → (∀ j, j < k → l.getD j 0 = m.getD j 0) →
    ∃ N, runs eqStep N ⟨l, m, lenI l, (k : Int)⟩ = if l = m then some (.exit 0, [], []) else some (.ret, [(4, .w (.one (.yes false)))], [])
  | 0, k, hk, hp => by
    have hlm : l = m := List.ext_getElem? fun j => by
      rcases Nat.lt_or_ge j l.length with q | q
      · have := hp j (by omega)
        simp only [List.getD_eq_getElem?_getD, List.getElem?_eq_getElem q, List.getElem?_eq_getElem (show j < m.length by omega), Option.getD_some] at this
        rw [List.getElem?_eq_getElem q, List.getElem?_eq_getElem (show j < m.length by omega), this]
      · rw [List.getElem?_eq_none q, List.getElem?_eq_none (by omega)]
    refine ⟨1, ?_⟩
    have hst : eqStep ⟨l, m, lenI l, (k : Int)⟩ = .out (.exit 0) [] [] := by
      unfold eqStep
      have e1 : lenI l = lenI m := by unfold lenI; omega
      have e2 : (k : Int) = lenI l := by unfold lenI; omega
      have hok : okQ l m (lenI l) (k : Int) = true := by
        simp only [okQ, Bool.and_eq_true, decide_eq_true_eq]
        exact ⟨⟨⟨⟨trivial, e1⟩, by omega⟩, by omega⟩, h5⟩
      rw [if_pos hok, if_neg (by show ¬ ((k : Int) < lenI l); omega)]
    rw [if_pos hlm]
    simp only [runs, hst]
  | B + 1, k, hk, hp => by
    have e1 : lenI l = lenI m := by unfold lenI; omega
    have e2 : (k : Int) < lenI l := by unfold lenI; omega
    have hok : okQ l m (lenI l) (k : Int) = true := by
      simp only [okQ, Bool.and_eq_true, decide_eq_true_eq]
      exact ⟨⟨⟨⟨trivial, e1⟩, by omega⟩, by omega⟩, h5⟩
    by_cases hg : getI l (k : Int) = getI m (k : Int)
    · have hst : eqStep ⟨l, m, lenI l, (k : Int)⟩ = .go ⟨l, m, lenI l, ((k + 1 : Nat) : Int)⟩ := by
        unfold eqStep
        rw [if_pos hok, if_pos e2, if_pos hg]
        rfl
      obtain ⟨N, hN⟩ := eq_runs h1 h5 B (k + 1) (by omega) (fun j hj => by
        rcases Nat.lt_or_ge j k with q | q
        · exact hp j q
        · obtain rfl : j = k := by omega
          simpa [getI] using hg)
      exact ⟨N + 1, by simp only [runs, hst]; exact hN⟩
    · have hne : l ≠ m := fun e => hg (by rw [e])
      have hst : eqStep ⟨l, m, lenI l, (k : Int)⟩ = .out .ret [(4, .w (.one (.yes false)))] [] := by
        unfold eqStep
        rw [if_pos hok, if_pos e2, if_neg hg]
      exact ⟨1, by rw [if_neg hne]; simp only [runs, hst]⟩
def eqD : LpDefR EQ Nm where
  ts := [0, 1, 12, 13]
  ps := []
  rs := []
  W := [0, 1, 12, 13, 14, 15, 5, 16, 17, 18, 19, 20, 21, 22, 23, 24, 4, 25]
  dec := fun vs tr ks => match vs, tr, ks with
    | [.w (.one (.fv (.row l))), .w (.one (.fv (.row m))), .w (.one (.int .i64 n)), .w (.one (.int .i64 i))], [], [] => some ⟨l, m, n, i⟩
    | _, _, _ => none
  fk := fun t => some (decide (t.l = t.m))
  spec := fun t β => match β with
    | true => some (.exit 0, [], [], [], [(okQ t.l t.m t.n t.i && decide (t.i = 0), true)])
    | false => some (.ret, [(4, .w (.one (.yes false)))], [], [], [(okQ t.l t.m t.n t.i && decide (t.i = 0), true)])
theorem eqD_ok (x : Code) (hx : codeAt (bodyOf Try.f63) eqPos = some (.loop x)) : LpOk Try.prog numI 26 x (eqD.sp nmSafe) := by
  obtain rfl := loopAt_eq hx
  refine lpR_ok (c := ctxOf Try.prog numI eqsF []) (ctxOf_ok (lib1_nil _ _) eqsF_ok) (by kernel_rfl) (fun _ _ _ h => h) hx lps_nil (S := eqS) (step := eqStep) (fun _ h => h) (by kernel_rfl) (by kernel_rfl) ?_ rfl (fun t e he => ?_) (fun t hb rest => eq_round t hb rest) ?_
  · intro vs tr ks s hv1 hv2 h hv3
    simp only [eqD] at h
    split at h
    · cases h
      exact ⟨rfl, fun e he => .inl he⟩
    · cases h
  · have : ∀ e ∈ eqTm t.l t.m t.n t.i, memN e.1 eqD.W = true := fun e he => by
      simp only [eqTm, List.mem_cons, List.not_mem_nil, or_false] at he
      rcases he with rfl | rfl | rfl | rfl <;> rfl
    exact this e he
  · intro s β ex outs rts wb cd h hfk hc
    obtain ⟨l, m, n, i⟩ := s
    have hb : decide (l = m) = β := hfk _ rfl
    have key : okQ l m n i = true → i = 0 → ∃ N, runs eqStep N ⟨l, m, n, i⟩ = if l = m then some (.exit 0, [], []) else some (.ret, [(4, .w (.one (.yes false)))], []) := fun hok h0 => by
      simp only [okQ, Bool.and_eq_true, decide_eq_true_eq] at hok
      obtain ⟨⟨⟨⟨h1, h2⟩, h3⟩, h4⟩, h5⟩ := hok
      subst h0
      subst h1
      exact eq_runs (by unfold lenI at h2; omega) h5 l.length 0 (by omega) (fun j hj => by omega)
    cases β with
    | true =>
      simp only [eqD] at h
      cases h
      have := hc _ (List.mem_cons_self)
      simp only [Bool.and_eq_true, decide_eq_true_eq] at this
      obtain ⟨N, hN⟩ := key this.1 this.2
      rw [if_pos (of_decide_eq_true hb)] at hN
      exact ⟨N, hN⟩
    | false =>
      simp only [eqD] at h
      cases h
      have := hc _ (List.mem_cons_self)
      simp only [Bool.and_eq_true, decide_eq_true_eq] at this
      obtain ⟨N, hN⟩ := key this.1 this.2
      rw [if_neg (of_decide_eq_false hb)] at hN
      exact ⟨N, hN⟩
abbrev eqLps : Lps Nm := [((26, eqPos), eqD.sp nmSafe)]
theorem eqLps_ok : LpsOk Try.prog rowI eqLps Try.f63.ntmps (bodyOf Try.f63) := lps_cons (fun _ x hx => (eqD_ok x hx).rows) lps_nil
set_option maxRecDepth 100000 in
theorem sq_1 (l m : List Int) : evR (ctxLp Try.prog rowI eqsF [] [] eqLps) Try.f63 [.w (.one (.fv (.row l))), .w (.one (.fv (.row m)))] [true] = some (.w (.one (.yes false)), [(lenI l != lenI m, true)]) := by kernel_rfl
set_option maxRecDepth 100000 in
theorem sq_01 (l m : List Int) : evR (ctxLp Try.prog rowI eqsF [] [] eqLps) Try.f63 [.w (.one (.fv (.row l))), .w (.one (.fv (.row m)))] [false, true] = some (.w (.one (.yes true)), [(lenI l != lenI m, false), (decide (l = m), true), (okQ l m (lenI l) 0 && decide ((0 : Int) = 0), true)]) := by kernel_rfl
set_option maxRecDepth 100000 in
theorem sq_00 (l m : List Int) : evR (ctxLp Try.prog rowI eqsF [] [] eqLps) Try.f63 [.w (.one (.fv (.row l))), .w (.one (.fv (.row m)))] [false, false] = some (.w (.one (.yes false)), [(lenI l != lenI m, false), (decide (l = m), false), (okQ l m (lenI l) 0 && decide ((0 : Int) = 0), true)]) := by kernel_rfl
/-- slices.Equal. -/
def gEq : List (AV Nm) → Option (AV Nm × List (Bool × Bool))
  | [.w (.one (.fv (.row l))), .w (.one (.fv (.row m)))] => some (.w (.one (.bool (decide (l = m)))), [(decide (lenI l ≤ 9223372036854775807), true)])
  | _ => none
theorem gEq_ok : (factSp gEq).ok Try.prog rowI 63 :=
  factR_ok (ctxLp_ok (lib1_nil _ _) eqsF_ok (fns_nil _) (fun f fn h => by cases h)) (by kernel_rfl) Try.func63 rfl eqLps_ok fun args v cd hg hc => by
    unfold gEq at hg
    split at hg
    · rename_i l m
      cases hg
      refine ⟨rfl, rfl, rfl, ?_⟩
      have h1 : lenI l ≤ 9223372036854775807 := of_decide_eq_true (hc (decide (lenI l ≤ 9223372036854775807), true) (by simp))
      by_cases hl : lenI l = lenI m
      · have c1 : (lenI l != lenI m) = false := by simp [hl]
        have c2 : (okQ l m (lenI l) 0 && decide ((0 : Int) = 0)) = true := by
          simp only [okQ, Bool.and_eq_true, decide_eq_true_eq]
          have : 0 ≤ lenI l := by unfold lenI; omega
          exact ⟨⟨⟨⟨⟨trivial, hl⟩, by omega⟩, this⟩, h1⟩, trivial⟩
        by_cases he : l = m
        · have c3 : decide (l = m) = true := decide_eq_true he
          refine ⟨[false, true], _, _, sq_01 l m, fun E u hu => ?_, ?_⟩
          · rw [c3]; exact hu
          · repeat' (first | exact cd_nil | refine cd_cons ?_ ?_)
            all_goals with_reducible assumption
        · have c3 : decide (l = m) = false := decide_eq_false he
          refine ⟨[false, false], _, _, sq_00 l m, fun E u hu => ?_, ?_⟩
          · rw [c3]; exact hu
          · repeat' (first | exact cd_nil | refine cd_cons ?_ ?_)
            all_goals with_reducible assumption
      · have c1 : (lenI l != lenI m) = true := by simp [hl]
        have c3 : decide (l = m) = false := decide_eq_false fun e => hl (by rw [e])
        refine ⟨[true], _, _, sq_1 l m, fun E u hu => ?_, ?_⟩
        · rw [c3]; exact hu
        · repeat' (first | exact cd_nil | refine cd_cons ?_ ?_)
          all_goals with_reducible assumption
    · cases hg
end Go.Proofs.Ytdhodjbomepfbaa

