/-
  frac.checkTerms as a function of facts; the loop of frac.From.
  Conditions: those of each theorem.
-/
import Derived.Test.YtocheeocnbfbiaaDoorKT
set_option linter.unusedVariables false
set_option linter.unusedSimpArgs false
namespace Go.Proofs.YtocheeocnbfbiaaDoor
open Go.RowKit Go.Shelf Ev Wd

abbrev mulS : FnSp Nm := sp2 (dInt .i64) (dInt .i64) (fun a b => .tup [.one (.int .i64 (fit64 (a * b))), .one (.bool (fits64 (a * b)))]) okI2
abbrev addS : FnSp Nm := sp2 (dInt .i64) (dInt .i64) (fun a b => .tup [.one (.int .i64 (fit64 (a + b))), .one (.bool (fits64 (a + b)))]) okI2
abbrev limS : FnSp Nm := sp2 (dInt .i64) (dInt .i64) (fun n d => r2 (limA n d) (limB n d) (limE n d)) (fun _ _ => [])
abbrev libG : List (Nat × FnSp Nm) := [(31, mulS), (32, addS), (20, limS)]
theorem libG_ok : LibOk Tryd.prog numI (lib1 libG) := (lib1_cons (sp2_ok fun a b hc => ⟨_, rfl, fun w => mul_any a b (okI2_i hc).1.1 (okI2_i hc).1.2 (okI2_i hc).2.1 (okI2_i hc).2.2 w⟩) Tryd.call31 (lib1_cons (sp2_ok fun a b hc => ⟨_, rfl, Pl.same fun w => add_any a b (okI2_i hc).1.1 (okI2_i hc).1.2 (okI2_i hc).2.1 (okI2_i hc).2.2 w⟩) Tryd.call32 (lib1_cons (sp2_ok fun a b hc => ⟨_, rfl, fun w => limited_any a b w⟩) Tryd.call20 (lib1_nil _ _))))
set_option maxRecDepth 100000 in
theorem ck_1 (l : List Int) : evR (ctxLp Tryd.prog rowI eqsF [] [] ctLps) Tryd.f30 [(.w (.one (.fv (.row l))))] [true] = some (AV.w (AW.one (AC.int IntKind.i64 8)), (pickL [(lenI l == 0, true)] [0])) := by kernel_rfl
set_option maxRecDepth 100000 in
theorem ck_0111 (l : List Int) : evR (ctxLp Tryd.prog rowI eqsF [] [] ctLps) Tryd.f30 [(.w (.one (.fv (.row l))))] [false, true, true, true] = some (AV.w (AW.one (AC.int IntKind.i64 3)), (pickL [(lenI l == 0, false), (rg (-1152921504606846976) l, true), (okC l (lenI l) 0 && decide ((0 : Int) = 0), true), (decide (lenI l > 1), true), (decide (0 ≤ IntKind.i64.wrap (lenI l - 1)), true), (decide (IntKind.i64.wrap (lenI l - 1) < lenI l), true), (getI l (IntKind.i64.wrap (lenI l - 1)) == 1, true)] [0, 1, 2, 3, 3, 3, 3, 3, 4, 5, 3, 4, 5, 3, 3, 6])) := by kernel_rfl
set_option maxRecDepth 100000 in
theorem ck_0110 (l : List Int) : evR (ctxLp Tryd.prog rowI eqsF [] [] ctLps) Tryd.f30 [(.w (.one (.fv (.row l))))] [false, true, true, false] = some (AV.w (AW.one (AC.int IntKind.i64 0)), (pickL [(lenI l == 0, false), (rg (-1152921504606846976) l, true), (okC l (lenI l) 0 && decide ((0 : Int) = 0), true), (decide (lenI l > 1), true), (decide (0 ≤ IntKind.i64.wrap (lenI l - 1)), true), (decide (IntKind.i64.wrap (lenI l - 1) < lenI l), true), (getI l (IntKind.i64.wrap (lenI l - 1)) == 1, false)] [0, 1, 2, 3, 3, 3, 3, 3, 4, 5, 3, 4, 5, 3, 3, 6])) := by kernel_rfl
set_option maxRecDepth 100000 in
theorem ck_010 (l : List Int) : evR (ctxLp Tryd.prog rowI eqsF [] [] ctLps) Tryd.f30 [(.w (.one (.fv (.row l))))] [false, true, false] = some (AV.w (AW.one (AC.int IntKind.i64 0)), (pickL [(lenI l == 0, false), (rg (-1152921504606846976) l, true), (okC l (lenI l) 0 && decide ((0 : Int) = 0), true), (decide (lenI l > 1), false), (false, false)] [0, 1, 2, 3, 3, 3, 3, 3, 3, 3, 3, 4])) := by kernel_rfl
set_option maxRecDepth 100000 in
theorem ck_00 (l : List Int) : evR (ctxLp Tryd.prog rowI eqsF [] [] ctLps) Tryd.f30 [(.w (.one (.fv (.row l))))] [false, false] = some (AV.w (AW.one (AC.int IntKind.i64 4)), (pickL [(lenI l == 0, false), (rg (-1152921504606846976) l, false), (okC l (lenI l) 0 && decide ((0 : Int) = 0), true)] [0, 1, 2])) := by kernel_rfl
set_option maxRecDepth 100000 in
theorem frg_1000 (l : List Int) (i : Int) (a : Int) (b : Int) (rest : List (Nat × AV Nm)) : evView (ctxOf Tryd.prog numI eqsF libG) 64 (false :: [false, true, false, true, true, true]) (loopAt (bodyOf Tryd.f10) [false, true, false, true, true, true]) ([(0, .w (.one (.fv (.row l)))), (6, .w (.one (.int .i64 i)))] ++ (ptrN 0 [5, 2] ++ rest)) [⟨23, [.int .i64 a, .int .i64 b]⟩, ⟨23, [.int .i64 0, .int .i64 0]⟩] 2 [0, 6, 5, 2] [true, false, false, false] = some ((Ex.normal, [AV.w (AW.one (AC.fv (Nm.row l))), AV.w (AW.one (AC.int IntKind.i64 (IntKind.i64.wrap (i - 1)))), AV.w (AW.one (AC.ptr 0 0)), AV.w (AW.one (AC.ptr 1 0))], [{ ty := 23, cs := [AC.int IntKind.i64 (limA (fit64 (fit64 (getI l i * a) + b)) a), AC.int IntKind.i64 (limB (fit64 (fit64 (getI l i * a) + b)) a)] }, { ty := 23, cs := [AC.int IntKind.i64 0, AC.int IntKind.i64 0] }]), (pickL [(decide (i ≥ 0), true), (decide (0 ≤ i), true), (decide (i < lenI l), true), (i64B (getI l i), true), (i64B a, true), (i64B (fit64 (getI l i * a)), true), (i64B b, true), (!fits64 (getI l i * a), false), (!fits64 (fit64 (getI l i * a) + b), false), (limE (fit64 (fit64 (getI l i * a) + b)) a != 0, false)] [0, 1, 2, 1, 2, 3, 4, 5, 6, 7, 7, 7, 8, 8, 8, 9])) := by kernel_rfl
set_option maxRecDepth 100000 in
theorem frr_11 (l : List Int) (i : Int) (a : Int) (b : Int) (rest : List (Nat × AV Nm)) : evView (ctxOf Tryd.prog numI eqsF libG) 64 (false :: [false, true, false, true, true, true]) (loopAt (bodyOf Tryd.f10) [false, true, false, true, true, true]) ([(0, .w (.one (.fv (.row l)))), (6, .w (.one (.int .i64 i)))] ++ (ptrN 0 [5, 2] ++ rest)) [⟨23, [.int .i64 a, .int .i64 b]⟩, ⟨23, [.int .i64 0, .int .i64 0]⟩] 2 [3, 5, 2] [true, true] = some ((Ex.ret, [AV.w (AW.one (AC.int IntKind.i64 2)), AV.w (AW.one (AC.ptr 0 0)), AV.w (AW.one (AC.ptr 1 0))], [{ ty := 23, cs := [AC.int IntKind.i64 a, AC.int IntKind.i64 b] }, { ty := 23, cs := [AC.int IntKind.i64 0, AC.int IntKind.i64 0] }]), (pickL [(decide (i ≥ 0), true), (decide (0 ≤ i), true), (decide (i < lenI l), true), (i64B (getI l i), true), (i64B a, true), (i64B (fit64 (getI l i * a)), true), (i64B b, true), (!fits64 (getI l i * a), true), (true, true)] [0, 1, 2, 1, 2, 3, 4, 5, 6, 7, 7, 7, 8, 8, 8, 8])) := by kernel_rfl
set_option maxRecDepth 100000 in
theorem frr_101 (l : List Int) (i : Int) (a : Int) (b : Int) (rest : List (Nat × AV Nm)) : evView (ctxOf Tryd.prog numI eqsF libG) 64 (false :: [false, true, false, true, true, true]) (loopAt (bodyOf Tryd.f10) [false, true, false, true, true, true]) ([(0, .w (.one (.fv (.row l)))), (6, .w (.one (.int .i64 i)))] ++ (ptrN 0 [5, 2] ++ rest)) [⟨23, [.int .i64 a, .int .i64 b]⟩, ⟨23, [.int .i64 0, .int .i64 0]⟩] 2 [3, 5, 2] [true, false, true] = some ((Ex.ret, [AV.w (AW.one (AC.int IntKind.i64 2)), AV.w (AW.one (AC.ptr 0 0)), AV.w (AW.one (AC.ptr 1 0))], [{ ty := 23, cs := [AC.int IntKind.i64 a, AC.int IntKind.i64 b] }, { ty := 23, cs := [AC.int IntKind.i64 0, AC.int IntKind.i64 0] }]), (pickL [(decide (i ≥ 0), true), (decide (0 ≤ i), true), (decide (i < lenI l), true), (i64B (getI l i), true), (i64B a, true), (i64B (fit64 (getI l i * a)), true), (i64B b, true), (!fits64 (getI l i * a), false), (!fits64 (fit64 (getI l i * a) + b), true), (true, true)] [0, 1, 2, 1, 2, 3, 4, 5, 6, 7, 7, 7, 8, 8, 8, 9])) := by kernel_rfl
set_option maxRecDepth 100000 in
theorem frr_1001 (l : List Int) (i : Int) (a : Int) (b : Int) (rest : List (Nat × AV Nm)) : evView (ctxOf Tryd.prog numI eqsF libG) 64 (false :: [false, true, false, true, true, true]) (loopAt (bodyOf Tryd.f10) [false, true, false, true, true, true]) ([(0, .w (.one (.fv (.row l)))), (6, .w (.one (.int .i64 i)))] ++ (ptrN 0 [5, 2] ++ rest)) [⟨23, [.int .i64 a, .int .i64 b]⟩, ⟨23, [.int .i64 0, .int .i64 0]⟩] 2 [3, 5, 2] [true, false, false, true] = some ((Ex.ret, [AV.w (AW.one (AC.int IntKind.i64 2)), AV.w (AW.one (AC.ptr 0 0)), AV.w (AW.one (AC.ptr 1 0))], [{ ty := 23, cs := [AC.int IntKind.i64 a, AC.int IntKind.i64 b] }, { ty := 23, cs := [AC.int IntKind.i64 0, AC.int IntKind.i64 0] }]), (pickL [(decide (i ≥ 0), true), (decide (0 ≤ i), true), (decide (i < lenI l), true), (i64B (getI l i), true), (i64B a, true), (i64B (fit64 (getI l i * a)), true), (i64B b, true), (!fits64 (getI l i * a), false), (!fits64 (fit64 (getI l i * a) + b), false), (limE (fit64 (fit64 (getI l i * a) + b)) a != 0, true)] [0, 1, 2, 1, 2, 3, 4, 5, 6, 7, 7, 7, 8, 8, 8, 9])) := by kernel_rfl
set_option maxRecDepth 100000 in
theorem frn_0 (l : List Int) (i : Int) (a : Int) (b : Int) (rest : List (Nat × AV Nm)) : evView (ctxOf Tryd.prog numI eqsF libG) 64 (false :: [false, true, false, true, true, true]) (loopAt (bodyOf Tryd.f10) [false, true, false, true, true, true]) ([(0, .w (.one (.fv (.row l)))), (6, .w (.one (.int .i64 i)))] ++ (ptrN 0 [5, 2] ++ rest)) [⟨23, [.int .i64 a, .int .i64 b]⟩, ⟨23, [.int .i64 0, .int .i64 0]⟩] 2 [5, 2] [false] = some ((Ex.exit 0, [AV.w (AW.one (AC.ptr 0 0)), AV.w (AW.one (AC.ptr 1 0))], [{ ty := 23, cs := [AC.int IntKind.i64 a, AC.int IntKind.i64 b] }, { ty := 23, cs := [AC.int IntKind.i64 0, AC.int IntKind.i64 0] }]), (pickL [(decide (i ≥ 0), false)] [0])) := by kernel_rfl
/-- frac.checkTerms. -/
def gCT : List (AV Nm) → Option (AV Nm × List (Bool × Bool))
  | [.w (.one (.fv (.row l)))] => some (.w (.one (.int .i64 (ctV l))), [(decide (lenI l ≤ 9223372036854775807), true)])
  | _ => none
set_option maxRecDepth 100000 in
theorem gCT_ok : (factSp gCT).ok Tryd.prog rowI 30 :=
  factR_ok (ctxLp_ok (lib1_nil _ _) eqsF_ok (fns_nil _) (fun f fn h => by cases h)) (by kernel_rfl) Tryd.func30 rfl ctLps_ok fun args v cd hg hc => by
    unfold gCT at hg
    split at hg
    · rename_i l
      cases hg
      refine ⟨rfl, rfl, rfl, ?_⟩
      have h1 : lenI l ≤ 9223372036854775807 := of_decide_eq_true (hc (decide (lenI l ≤ 9223372036854775807), true) (by simp))
      have h0 : 0 ≤ lenI l := by unfold lenI; omega
      have ok : (okC l (lenI l) 0 && decide ((0 : Int) = 0)) = true := by
        simp only [okC, Bool.and_eq_true, decide_eq_true_eq]
        exact ⟨⟨⟨⟨trivial, by omega⟩, h0⟩, h1⟩, trivial⟩
      by_cases hl : l = []
      · have hv : ctV l = 8 := by rw [ctV, if_pos hl]
        have c1 : (lenI l == 0) = true := by subst hl; rfl
        refine ⟨[true], _, _, ck_1 l, fun E u hu => ?_, pickL_ok ?_ _⟩
        · rw [hv]; exact hu
        repeat' (first | exact cd_nil | refine cd_cons ?_ ?_)
        all_goals first | rfl | with_reducible assumption
      · have hn : ¬ lenI l = 0 := fun h => hl (List.eq_nil_of_length_eq_zero (by unfold lenI at h; omega))
        have c1 : (lenI l == 0) = false := by simpa using hn
        by_cases hr : rg (-1152921504606846976) l = true
        · have w1 : IntKind.i64.wrap (lenI l - 1) = lenI l - 1 := by rw [IntKind.wrap_i64]; omega
          by_cases hm : 1 < lenI l
          · have c2 : decide (lenI l > 1) = true := decide_eq_true hm
            have c3 : decide (0 ≤ IntKind.i64.wrap (lenI l - 1)) = true := by rw [w1]; exact decide_eq_true (by omega)
            have c4 : decide (IntKind.i64.wrap (lenI l - 1) < lenI l) = true := by rw [w1]; exact decide_eq_true (by omega)
            by_cases hg : getI l (lenI l - 1) = 1
            · have hv : ctV l = 3 := by rw [ctV, if_neg hl, if_pos hr, if_pos ⟨hm, hg⟩]
              have c5 : (getI l (IntKind.i64.wrap (lenI l - 1)) == 1) = true := by rw [w1, hg]; rfl
              refine ⟨[false, true, true, true], _, _, ck_0111 l, fun E u hu => ?_, pickL_ok ?_ _⟩
              · rw [hv]; exact hu
              repeat' (first | exact cd_nil | refine cd_cons ?_ ?_)
              all_goals first | rfl | with_reducible assumption
            · have hv : ctV l = 0 := by rw [ctV, if_neg hl, if_pos hr, if_neg (fun h => hg h.2)]
              have c5 : (getI l (IntKind.i64.wrap (lenI l - 1)) == 1) = false := by rw [w1]; simpa using hg
              refine ⟨[false, true, true, false], _, _, ck_0110 l, fun E u hu => ?_, pickL_ok ?_ _⟩
              · rw [hv]; exact hu
              repeat' (first | exact cd_nil | refine cd_cons ?_ ?_)
              all_goals first | rfl | with_reducible assumption
          · have hv : ctV l = 0 := by rw [ctV, if_neg hl, if_pos hr, if_neg (fun h => hm h.1)]
            have c2 : decide (lenI l > 1) = false := decide_eq_false hm
            refine ⟨[false, true, false], _, _, ck_010 l, fun E u hu => ?_, pickL_ok ?_ _⟩
            · rw [hv]; exact hu
            repeat' (first | exact cd_nil | refine cd_cons ?_ ?_)
            all_goals first | rfl | with_reducible assumption
        · have hv : ctV l = 4 := by rw [ctV, if_neg hl, if_neg hr]
          have c2 : rg (-1152921504606846976) l = false := by simpa using hr
          refine ⟨[false, false], _, _, ck_00 l, fun E u hu => ?_, pickL_ok ?_ _⟩
          · rw [hv]; exact hu
          repeat' (first | exact cd_nil | refine cd_cons ?_ ?_)
          all_goals first | rfl | with_reducible assumption
    · cases hg
structure FR where
  l : List Int
  i : Int
  a : Int
  b : Int
def frTm (l : List Int) (i : Int) : List (Nat × AV Nm) := [(0, .w (.one (.fv (.row l)))), (6, .w (.one (.int .i64 i)))]
def frB (a b : Int) : List (Blk Nm) := [⟨23, [.int .i64 a, .int .i64 b]⟩, ⟨23, [.int .i64 0, .int .i64 0]⟩]
def frS : LpSt FR Nm where
  ps := [5, 2]
  tm := fun t => frTm t.l t.i
  hp := fun t => frB t.a t.b
def okR (l : List Int) (i a b : Int) : Bool := rg (-1152921504606846976) l && decide (-1 ≤ i) && decide (i < lenI l) && decide (lenI l ≤ 9223372036854775807) && decide (-1152921504606846976 ≤ a) && decide (a ≤ 1152921504606846976) && decide (0 ≤ b) && decide (b ≤ 1152921504606846976)
def frStep (t : FR) : Nxt FR Nm := if okR t.l t.i t.a t.b = true then (if 0 ≤ t.i then (if frOk (getI t.l t.i * t.a + t.b) t.a = true then .go ⟨t.l, t.i - 1, getI t.l t.i * t.a + t.b, t.a⟩ else .out .ret [(3, .w (.one (.int .i64 2)))] (frB t.a t.b)) else .out (.exit 0) [] (frB t.a t.b)) else .bad
set_option maxRecDepth 100000 in
theorem fr_round (t : FR) (hb : (frStep t).isBad = false) (rest : List (Nat × AV Nm)) : ∃ fuel path r, evC (ctxOf Tryd.prog numI eqsF libG) fuel 64 (false :: [false, true, false, true, true, true]) (loopAt (bodyOf Tryd.f10) [false, true, false, true, true, true]) (frS.tm t ++ (ptrN 0 frS.ps ++ rest)) (numb 0 (frS.hp t)) 2 path = some r ∧ (∀ p ∈ r.cd, p.1 = p.2) ∧ Gives frS 2 r (frStep t) := by
  obtain ⟨l, i, a, b⟩ := t
  unfold frStep at hb ⊢
  cases hok : okR l i a b with
  | false => simp only [hok] at hb; cases hb
  | true =>
  clear hb
  simp only [if_true]
  simp only [okR, Bool.and_eq_true, decide_eq_true_eq] at hok
  obtain ⟨⟨⟨⟨⟨⟨⟨h1, h2⟩, h3⟩, h4⟩, h5⟩, h6⟩, h7⟩, h8⟩ := hok
  by_cases hi : 0 ≤ i
  · simp only [if_pos hi]
    have c1 : decide (i ≥ 0) = true := decide_eq_true hi
    have c2 : decide (0 ≤ i) = true := decide_eq_true hi
    have c3 : decide (i < lenI l) = true := decide_eq_true h3
    have hx : ((i.toNat : Nat) : Int) = i := Int.toNat_of_nonneg hi
    have hgt := rg_get (k := i.toNat) h1 (by omega) (by unfold lenI at h3; omega)
    rw [hx] at hgt
    have i1 : i64B (getI l i) = true := i64B_iff.2 (by omega)
    have i2 : i64B a = true := i64B_iff.2 (by omega)
    have i3 : i64B b = true := i64B_iff.2 (by omega)
    by_cases hf : fits64 (getI l i * a) = true
    · have f1 : (!fits64 (getI l i * a)) = false := by rw [hf]; rfl
      have e1 : fit64 (getI l i * a) = getI l i * a := if_pos (of_decide_eq_true hf)
      have i4 : i64B (fit64 (getI l i * a)) = true := by rw [e1]; exact i64B_iff.2 (of_decide_eq_true hf)
      by_cases hs : fits64 (getI l i * a + b) = true
      · have f2 : (!fits64 (fit64 (getI l i * a) + b)) = false := by rw [e1, hs]; rfl
        have e2 : fit64 (getI l i * a + b) = getI l i * a + b := if_pos (of_decide_eq_true hs)
        by_cases hg : frOk (getI l i * a + b) a = true
        · simp only [if_pos hg]
          obtain ⟨l1, l2, l3⟩ := lim_yes (frOk_iff.1 hg)
          have f3 : (limE (fit64 (fit64 (getI l i * a) + b)) a != 0) = false := by rw [e1, e2, l3]; rfl
          have w1 : IntKind.i64.wrap (i - 1) = i - 1 := by rw [IntKind.wrap_i64]; omega
          have L := frg_1000 l i a b rest
          rw [w1, e1, e2, l1, l2] at L
          rw [e1] at i4 f2
          rw [e1, e2] at f3
          refine round_go L (pickL_ok ?_ _) rfl rfl rfl rfl
          repeat' (first | exact cd_nil | refine cd_cons ?_ ?_)
          all_goals first | rfl | with_reducible assumption
        · simp only [if_neg hg]
          obtain ⟨l1, l2, l3⟩ := lim_no (fun h => hg (frOk_iff.2 h))
          have f3 : (limE (fit64 (fit64 (getI l i * a) + b)) a != 0) = true := by rw [e1, e2, l3]; rfl
          refine round_outR (frr_1001 l i a b rest) rfl (pickL_ok ?_ _) rfl rfl
          repeat' (first | exact cd_nil | refine cd_cons ?_ ?_)
          all_goals first | rfl | with_reducible assumption
      · have f2 : (!fits64 (fit64 (getI l i * a) + b)) = true := by rw [e1]; simpa using hs
        have hg : ¬ frOk (getI l i * a + b) a = true := fun h => hs (decide_eq_true (by have := frOk_iff.1 h; omega))
        simp only [if_neg hg]
        refine round_outR (frr_101 l i a b rest) rfl (pickL_ok ?_ _) rfl rfl
        repeat' (first | exact cd_nil | refine cd_cons ?_ ?_)
        all_goals first | rfl | with_reducible assumption
    · have f1 : (!fits64 (getI l i * a)) = true := by simpa using hf
      have hp : ¬ (-9223372036854775808 ≤ getI l i * a ∧ getI l i * a ≤ 9223372036854775807) := fun h => hf (decide_eq_true h)
      have i4 : i64B (fit64 (getI l i * a)) = true := by
        have : fit64 (getI l i * a) = 0 := if_neg hp
        rw [this]; rfl
      have hg : ¬ frOk (getI l i * a + b) a = true := fun h => hp (by have := frOk_iff.1 h; omega)
      simp only [if_neg hg]
      refine round_outR (frr_11 l i a b rest) rfl (pickL_ok ?_ _) rfl rfl
      repeat' (first | exact cd_nil | refine cd_cons ?_ ?_)
      all_goals first | rfl | with_reducible assumption
  · simp only [if_neg hi]
    have c1 : decide (i ≥ 0) = false := decide_eq_false hi
    refine round_outR (frn_0 l i a b rest) rfl (pickL_ok ?_ _) rfl rfl
    repeat' (first | exact cd_nil | refine cd_cons ?_ ?_)
    all_goals first | rfl | with_reducible assumption
theorem fr_runs {l : List Int} (h1 : rg (-1152921504606846976) l = true) (h5 : lenI l ≤ 9223372036854775807) : ∀ (k : Nat) (a b : Int), k ≤ l.length → -1152921504606846976 ≤ a → a ≤ 1152921504606846976 → 0 ≤ b → b ≤ 1152921504606846976 →
    ∃ M, runs frStep M ⟨l, (k : Int) - 1, a, b⟩ = if (frR l k a b).1 = true then some (.exit 0, [], frB (frR l k a b).2.1 (frR l k a b).2.2) else some (.ret, [(3, .w (.one (.int .i64 2)))], frB (frR l k a b).2.1 (frR l k a b).2.2)
  | 0, a, b, hk, a1, a2, b1, b2 => by
    have hok : okR l (((0 : Nat) : Int) - 1) a b = true := by
      simp only [okR, Bool.and_eq_true, decide_eq_true_eq]
      exact ⟨⟨⟨⟨⟨⟨⟨h1, by omega⟩, by unfold lenI; omega⟩, h5⟩, a1⟩, a2⟩, b1⟩, b2⟩
    have hst : frStep ⟨l, ((0 : Nat) : Int) - 1, a, b⟩ = .out (.exit 0) [] (frB a b) := by
      unfold frStep
      rw [if_pos hok, if_neg (by show ¬ (0 : Int) ≤ ((0 : Nat) : Int) - 1; omega)]
    refine ⟨1, ?_⟩
    rw [frR, if_pos (show (true, a, b).1 = true from rfl)]
    simp only [runs, hst]
  | k + 1, a, b, hk, a1, a2, b1, b2 => by
    have ek : ((k + 1 : Nat) : Int) - 1 = (k : Int) := by omega
    rw [ek]
    have hok : okR l (k : Int) a b = true := by
      simp only [okR, Bool.and_eq_true, decide_eq_true_eq]
      exact ⟨⟨⟨⟨⟨⟨⟨h1, by omega⟩, by unfold lenI; omega⟩, h5⟩, a1⟩, a2⟩, b1⟩, b2⟩
    by_cases hg : frOk (getI l (k : Int) * a + b) a = true
    · have hst : frStep ⟨l, (k : Int), a, b⟩ = .go ⟨l, (k : Int) - 1, getI l (k : Int) * a + b, a⟩ := by
        unfold frStep
        rw [if_pos hok, if_pos (by show (0 : Int) ≤ (k : Int); omega), if_pos hg]
      have hq := frOk_iff.1 hg
      obtain ⟨M, hM⟩ := fr_runs h1 h5 k (getI l (k : Int) * a + b) a (by omega) hq.1 hq.2.1 (by omega) hq.2.2.2
      refine ⟨M + 1, ?_⟩
      have er : frR l (k + 1) a b = frR l k (getI l (k : Int) * a + b) a := by rw [frR, if_pos hg]
      rw [er]
      simp only [runs, hst]
      exact hM
    · have hst : frStep ⟨l, (k : Int), a, b⟩ = .out .ret [(3, .w (.one (.int .i64 2)))] (frB a b) := by
        unfold frStep
        rw [if_pos hok, if_pos (by show (0 : Int) ≤ (k : Int); omega), if_neg hg]
      have er : frR l (k + 1) a b = (false, a, b) := by rw [frR, if_neg hg]
      refine ⟨1, ?_⟩
      rw [er, if_neg (show ¬ ((false, a, b) : Bool × Int × Int).1 = true from Bool.false_ne_true)]
      simp only [runs, hst]
def frD : LpDefR FR Nm where
  ts := [0, 6]
  ps := [5, 2]
  rs := []
  W := [0, 2, 3, 5, 6, 7, 8, 9, 10, 11, 12, 23, 24, 25, 26, 27, 28, 29, 30, 31, 32, 33, 34, 35, 36, 37, 38, 39, 40, 41, 42, 43, 44, 45, 46, 47, 48, 49, 50, 51, 52, 53, 54, 55, 56, 57, 58, 59, 60, 61, 62]
  dec := fun vs tr ks => match vs, tr, ks with
    | [.w (.one (.fv (.row l))), .w (.one (.int .i64 i))], [], [⟨t0, [.int .i64 a, .int .i64 b]⟩, ⟨t1, [.int .i64 c, .int .i64 d]⟩] => bif Nat.beq t0 23 && Nat.beq t1 23 && decide (c = 0) && decide (d = 0) then some ⟨l, i, a, b⟩ else none
    | _, _, _ => none
  fk := fun t => some (frR t.l (t.i + 1).toNat t.a t.b).1
  spec := fun t β => match β with
    | true => some (.exit 0, [], [], frB (frR t.l (t.i + 1).toNat t.a t.b).2.1 (frR t.l (t.i + 1).toNat t.a t.b).2.2, [(okR t.l t.i t.a t.b, true)])
    | false => some (.ret, [(3, .w (.one (.int .i64 2)))], [], frB (frR t.l (t.i + 1).toNat t.a t.b).2.1 (frR t.l (t.i + 1).toNat t.a t.b).2.2, [(okR t.l t.i t.a t.b, true)])
theorem frD_ok (x : Code) (hx : codeAt (bodyOf Tryd.f10) [false, true, false, true, true, true] = some (.loop x)) : LpOk Tryd.prog numI 64 x (frD.sp nmSafe) := by
  obtain rfl := loopAt_eq hx
  refine lpR_ok (c := ctxOf Tryd.prog numI eqsF libG) (ctxOf_ok libG_ok eqsF_ok) (by kernel_rfl) (fun _ _ _ h => h) hx lps_nil (S := frS) (step := frStep) (fun _ h => h) (by kernel_rfl) (by kernel_rfl) ?_ rfl (fun t e he => ?_) (fun t hb rest => fr_round t hb rest) ?_
  · intro vs tr ks s hv1 hv2 h hv3
    simp only [frD] at h
    split at h
    · rename_i l i t0 a b t1 c d
      cases hb : Nat.beq t0 23 && Nat.beq t1 23 && decide (c = 0) && decide (d = 0) with
      | false => rw [hb] at h; cases h
      | true =>
        rw [hb] at h
        cases h
        simp only [Bool.and_eq_true, decide_eq_true_eq] at hb
        obtain ⟨⟨⟨b0, b1⟩, rfl⟩, rfl⟩ := hb
        obtain rfl := Nat.eq_of_beq_eq_true b0
        obtain rfl := Nat.eq_of_beq_eq_true b1
        exact ⟨rfl, fun e he => .inl he⟩
    · cases h
  · have : ∀ e ∈ frTm t.l t.i, memN e.1 frD.W = true := fun e he => by
      simp only [frTm, List.mem_cons, List.not_mem_nil, or_false] at he
      rcases he with rfl | rfl <;> rfl
    exact this e he
  · intro s β ex outs rts wb cd h hfk hc
    obtain ⟨l, i, a, b⟩ := s
    have hb : (frR l (i + 1).toNat a b).1 = β := hfk _ rfl
    have key : okR l i a b = true → ∃ M, runs frStep M ⟨l, i, a, b⟩ = if (frR l (i + 1).toNat a b).1 = true then some (.exit 0, [], frB (frR l (i + 1).toNat a b).2.1 (frR l (i + 1).toNat a b).2.2) else some (.ret, [(3, .w (.one (.int .i64 2)))], frB (frR l (i + 1).toNat a b).2.1 (frR l (i + 1).toNat a b).2.2) := fun hok => by
      simp only [okR, Bool.and_eq_true, decide_eq_true_eq] at hok
      obtain ⟨⟨⟨⟨⟨⟨⟨h1, h2⟩, h3⟩, h4⟩, h5⟩, h6⟩, h7⟩, h8⟩ := hok
      have := fr_runs h1 h4 (i + 1).toNat a b (by unfold lenI at h3; omega) h5 h6 h7 h8
      rwa [show (((i + 1).toNat : Nat) : Int) - 1 = i by omega] at this
    cases β with
    | true =>
      simp only [frD] at h
      cases h
      obtain ⟨M, hM⟩ := key (hc _ (List.mem_cons_self))
      rw [if_pos hb] at hM
      exact ⟨M, hM⟩
    | false =>
      simp only [frD] at h
      cases h
      obtain ⟨M, hM⟩ := key (hc _ (List.mem_cons_self))
      rw [if_neg (by rw [hb]; decide)] at hM
      exact ⟨M, hM⟩
abbrev frLps : Lps Nm := [((64, [false, true, false, true, true, true]), frD.sp nmSafe)]
theorem frLps_ok : LpsOk Tryd.prog rowI frLps Tryd.f10.ntmps (bodyOf Tryd.f10) := lps_cons (fun _ x hx => (frD_ok x hx).rows) lps_nil
end Go.Proofs.YtocheeocnbfbiaaDoor

