/-
  Package scale: days of years, of months, and of dates.
  Conditions: those of each theorem.
-/
import Derived.Test.YtokkaeaciigapaaDoorProg
import Derived.Test.YtokkaeaciigapaaDoorEv2
import Derived.IntWalk
import Derived.Test.YtokkaeaciigapaaDoorDM
set_option linter.unusedVariables false
set_option linter.unusedSimpArgs false
namespace Go.Proofs.YtokkaeaciigapaaDoor
open Go.RowKit Ev Sc
variable {F : Type}
noncomputable section

theorem w64 {x : Int} (h1 : -9223372036854775808 ≤ x) (h2 : x ≤ 9223372036854775807) : IntKind.i64.wrap x = x := by rw [IntKind.wrap_i64]; omega
def y0B (y : Int) : Bool := decide (0 ≤ y) && decide (y ≤ 100000)
def y1B (y : Int) : Bool := decide (1 ≤ y) && decide (y ≤ 100000)
theorem y0B_iff {y : Int} : y0B y = true ↔ 0 ≤ y ∧ y ≤ 100000 := by unfold y0B; simp
theorem y1B_iff {y : Int} : y1B y = true ↔ 1 ≤ y ∧ y ≤ 100000 := by unfold y1B; simp
abbrev libQ1 : List (Nat × FnSp F) := [(49, sp1 (dInt .i64) (fun y => aInt .i64 (dyV y)) (fun y => [(y0B y, true)]))]
theorem cd1' {a : Bool} (h : ∀ p ∈ [(a, true)], p.1 = p.2) : a = true := h (a, true) (by simp)
theorem libQ0_ok : LibOk Tryd.prog noFacts (lib1 []) := lib1_nil _ _
set_option maxRecDepth 100000 in
theorem dysf_l0 (y : Int) : evR (ctxOf Tryd.prog noFacts (fun _ => false) []) Tryd.f49 [(.w (.one (.int .i64 y)))] [] = some (AV.w (AW.one (AC.int IntKind.i64 (IntKind.i64.wrap (IntKind.i64.wrap (IntKind.i64.wrap (IntKind.i64.wrap (365 * y) + IntKind.i64.wrap (y.tdiv 4)) - IntKind.i64.wrap (y.tdiv 100)) + IntKind.i64.wrap (y.tdiv 400))))), [(decide (4 = 0), false), (decide (100 = 0), false), (decide (400 = 0), false)]) := by kernel_rfl
set_option maxRecDepth 100000 in
theorem dysf_t (y : Int) (s0 : (decide (400 = 0)) = false) (s1 : (decide (100 = 0)) = false) (s2 : (decide (4 = 0)) = false) : Pl Tryd.prog 49 [.int .i64 y] (AV.get ((AV.w (AW.one (AC.int IntKind.i64 (IntKind.i64.wrap (IntKind.i64.wrap (IntKind.i64.wrap (IntKind.i64.wrap (365 * y) + IntKind.i64.wrap (y.tdiv 4)) - IntKind.i64.wrap (y.tdiv 100)) + IntKind.i64.wrap (y.tdiv 400)))))) : AV Empty)) :=
  (pl_leaf rfl (ctxOf_ok libQ0_ok (eq_none _)) (by kernel_rfl) Tryd.func49 rfl (dysf_l0 y) rfl (all2_R (.cons rfl .nil)) rfl (cd_cons (s2 ) (cd_cons (s1 ) (cd_cons (s0 ) cd_nil))))
theorem days_of_pl (y : Int) (hy : y0B y = true) : Pl Tryd.prog 49 [.int .i64 y] (.int .i64 (dyV y)) := by
  refine Eq.mp (congrArg (Pl _ _ _) ?_) (dysf_t y (by first | rfl | assumption) (by first | rfl | assumption) (by first | rfl | assumption))
  refine congrArg (Value.int .i64) ?_
  have h := y0B_iff.1 hy
  rw [Int.tdiv_eq_ediv_of_nonneg h.1, Int.tdiv_eq_ediv_of_nonneg h.1, Int.tdiv_eq_ediv_of_nonneg h.1]
  unfold dyV
  rw [w64 (x := 365 * y) (by omega) (by omega), w64 (x := y / 4) (by omega) (by omega), w64 (x := y / 100) (by omega) (by omega), w64 (x := y / 400) (by omega) (by omega), w64 (x := 365 * y + y / 4) (by omega) (by omega), w64 (x := 365 * y + y / 4 - y / 100) (by omega) (by omega), w64 (by omega) (by omega)]
theorem libQ1_ok (I : Interp F) : LibOk Tryd.prog I (lib1 libQ1) := lib1_cons (sp1_ok fun y hc => ⟨_, rfl, days_of_pl y (cd1' hc)⟩) Tryd.call49 (lib1_nil _ _)
theorem dy_1999 : dyV 1999 = 730119 := by decide
set_option maxRecDepth 100000 in
theorem nysf_l0 (y : Int) : evR (ctxOf Tryd.prog noFacts (fun _ => false) libQ1) Tryd.f35 [(.w (.one (.int .i64 y)))] [] = some (AV.w (AW.one (AC.int IntKind.i64 (IntKind.i64.wrap (dyV (IntKind.i64.wrap (y - 1)) - dyV 1999)))), [(y0B (IntKind.i64.wrap (y - 1)), true), (y0B 1999, true)]) := by kernel_rfl
set_option maxRecDepth 100000 in
theorem nysf_t (y : Int) (s0 : (y0B 1999) = true) (s1 : (y0B (IntKind.i64.wrap (y - 1))) = true) : Pl Tryd.prog 35 [.int .i64 y] (AV.get ((AV.w (AW.one (AC.int IntKind.i64 (IntKind.i64.wrap (dyV (IntKind.i64.wrap (y - 1)) - dyV 1999))))) : AV Empty)) :=
  (pl_leaf rfl (ctxOf_ok (libQ1_ok _) (eq_none _)) (by kernel_rfl) Tryd.func35 rfl (nysf_l0 y) rfl (all2_R (.cons rfl .nil)) rfl (cd_cons (s1 ) (cd_cons (s0 ) cd_nil)))
theorem nysf_pl (y : Int) (hy : y1B y = true) : Pl Tryd.prog 35 [.int .i64 y] (.int .i64 (nyV y)) := by
  refine Eq.mp (congrArg (Pl _ _ _) ?_) (nysf_t y (by first | rfl | (have h := y1B_iff.1 hy; rw [w64 (x := y - 1) (by omega) (by omega)]; exact y0B_iff.2 (by omega))) (by first | rfl | (have h := y1B_iff.1 hy; rw [w64 (x := y - 1) (by omega) (by omega)]; exact y0B_iff.2 (by omega))))
  refine congrArg (Value.int .i64) ?_
  have h := y1B_iff.1 hy
  have e := w64 (x := y - 1) (by omega) (by omega)
  have g : nyV y = dyV (y - 1) - 730119 := rfl
  have b := ny_in (y := y) (by omega) (by omega)
  rw [e, dy_1999, ← g, w64 (by omega) (by omega)]
set_option maxRecDepth 100000 in
theorem mlsf_l0 (y : Int) (m : Int) : evR (ctxOf Tryd.prog noFacts (fun _ => false) libQ1) Tryd.f34 [(.w (.one (.int .i64 y))), (.w (.one (.int .i64 m)))] [true] = some (AV.w (AW.one (AC.int IntKind.i64 (IntKind.i64.wrap (IntKind.i64.wrap (dyV y - dyV (IntKind.i64.wrap (y - 1))) - 337)))), [(m == 2, true), (y0B y, true), (y0B (IntKind.i64.wrap (y - 1)), true)]) := by kernel_rfl
set_option maxRecDepth 100000 in
theorem mlsf_l1 (y : Int) (m : Int) : evR (ctxOf Tryd.prog noFacts (fun _ => false) libQ1) Tryd.f34 [(.w (.one (.int .i64 y))), (.w (.one (.int .i64 m)))] [false, true, true] = some (AV.w (AW.one (AC.int IntKind.i64 30)), [(m == 2, false), (m == 4, true), (m == 4, true)]) := by kernel_rfl
set_option maxRecDepth 100000 in
theorem mlsf_l2 (y : Int) (m : Int) : evR (ctxOf Tryd.prog noFacts (fun _ => false) libQ1) Tryd.f34 [(.w (.one (.int .i64 y))), (.w (.one (.int .i64 m)))] [false, true, false] = some (AV.w (AW.one (AC.int IntKind.i64 31)), [(m == 2, false), (m == 4, true), (m == 4, false)]) := by kernel_rfl
set_option maxRecDepth 100000 in
theorem mlsf_l3 (y : Int) (m : Int) : evR (ctxOf Tryd.prog noFacts (fun _ => false) libQ1) Tryd.f34 [(.w (.one (.int .i64 y))), (.w (.one (.int .i64 m)))] [false, false, true, true] = some (AV.w (AW.one (AC.int IntKind.i64 30)), [(m == 2, false), (m == 4, false), (m == 6, true), (m == 6, true)]) := by kernel_rfl
set_option maxRecDepth 100000 in
theorem mlsf_l4 (y : Int) (m : Int) : evR (ctxOf Tryd.prog noFacts (fun _ => false) libQ1) Tryd.f34 [(.w (.one (.int .i64 y))), (.w (.one (.int .i64 m)))] [false, false, true, false] = some (AV.w (AW.one (AC.int IntKind.i64 31)), [(m == 2, false), (m == 4, false), (m == 6, true), (m == 6, false)]) := by kernel_rfl
set_option maxRecDepth 100000 in
theorem mlsf_l5 (y : Int) (m : Int) : evR (ctxOf Tryd.prog noFacts (fun _ => false) libQ1) Tryd.f34 [(.w (.one (.int .i64 y))), (.w (.one (.int .i64 m)))] [false, false, false, true, true] = some (AV.w (AW.one (AC.int IntKind.i64 30)), [(m == 2, false), (m == 4, false), (m == 6, false), (m == 9, true), (m == 9, true)]) := by kernel_rfl
set_option maxRecDepth 100000 in
theorem mlsf_l6 (y : Int) (m : Int) : evR (ctxOf Tryd.prog noFacts (fun _ => false) libQ1) Tryd.f34 [(.w (.one (.int .i64 y))), (.w (.one (.int .i64 m)))] [false, false, false, true, false] = some (AV.w (AW.one (AC.int IntKind.i64 31)), [(m == 2, false), (m == 4, false), (m == 6, false), (m == 9, true), (m == 9, false)]) := by kernel_rfl
set_option maxRecDepth 100000 in
theorem mlsf_l7 (y : Int) (m : Int) : evR (ctxOf Tryd.prog noFacts (fun _ => false) libQ1) Tryd.f34 [(.w (.one (.int .i64 y))), (.w (.one (.int .i64 m)))] [false, false, false, false, true] = some (AV.w (AW.one (AC.int IntKind.i64 30)), [(m == 2, false), (m == 4, false), (m == 6, false), (m == 9, false), (m == 11, true)]) := by kernel_rfl
set_option maxRecDepth 100000 in
theorem mlsf_l8 (y : Int) (m : Int) : evR (ctxOf Tryd.prog noFacts (fun _ => false) libQ1) Tryd.f34 [(.w (.one (.int .i64 y))), (.w (.one (.int .i64 m)))] [false, false, false, false, false] = some (AV.w (AW.one (AC.int IntKind.i64 31)), [(m == 2, false), (m == 4, false), (m == 6, false), (m == 9, false), (m == 11, false)]) := by kernel_rfl
set_option maxRecDepth 100000 in
theorem mlsf_t (y : Int) (m : Int) (s0 : (m == 2) = true → (y0B (IntKind.i64.wrap (y - 1))) = true) (s1 : (m == 2) = true → (y0B y) = true) : Pl Tryd.prog 34 [.int .i64 y, .int .i64 m] (AV.get ((bif m == 2 then (AV.w (AW.one (AC.int IntKind.i64 (IntKind.i64.wrap (IntKind.i64.wrap (dyV y - dyV (IntKind.i64.wrap (y - 1))) - 337))))) else (bif m == 4 then (bif m == 4 then (AV.w (AW.one (AC.int IntKind.i64 30))) else (AV.w (AW.one (AC.int IntKind.i64 31)))) else (bif m == 6 then (bif m == 6 then (AV.w (AW.one (AC.int IntKind.i64 30))) else (AV.w (AW.one (AC.int IntKind.i64 31)))) else (bif m == 9 then (bif m == 9 then (AV.w (AW.one (AC.int IntKind.i64 30))) else (AV.w (AW.one (AC.int IntKind.i64 31)))) else (bif m == 11 then (AV.w (AW.one (AC.int IntKind.i64 30))) else (AV.w (AW.one (AC.int IntKind.i64 31)))))))) : AV Empty)) :=
  (pl_node (fun h0 => (pl_leaf rfl (ctxOf_ok (libQ1_ok _) (eq_none _)) (by kernel_rfl) Tryd.func34 rfl (mlsf_l0 y m) rfl (all2_R (.cons rfl (.cons rfl .nil))) rfl (cd_cons h0 (cd_cons (s1 h0) (cd_cons (s0 h0) cd_nil))))) (fun h0 => (pl_node (fun h1 => (pl_node (fun h2 => (pl_leaf rfl (ctxOf_ok (libQ1_ok _) (eq_none _)) (by kernel_rfl) Tryd.func34 rfl (mlsf_l1 y m) rfl (all2_R (.cons rfl (.cons rfl .nil))) rfl (cd_cons h0 (cd_cons h1 (cd_cons h1 cd_nil))))) (fun h2 => (pl_leaf rfl (ctxOf_ok (libQ1_ok _) (eq_none _)) (by kernel_rfl) Tryd.func34 rfl (mlsf_l2 y m) rfl (all2_R (.cons rfl (.cons rfl .nil))) rfl (cd_cons h0 (cd_cons h1 (cd_cons h2 cd_nil))))))) (fun h1 => (pl_node (fun h2 => (pl_node (fun h3 => (pl_leaf rfl (ctxOf_ok (libQ1_ok _) (eq_none _)) (by kernel_rfl) Tryd.func34 rfl (mlsf_l3 y m) rfl (all2_R (.cons rfl (.cons rfl .nil))) rfl (cd_cons h0 (cd_cons h1 (cd_cons h2 (cd_cons h2 cd_nil)))))) (fun h3 => (pl_leaf rfl (ctxOf_ok (libQ1_ok _) (eq_none _)) (by kernel_rfl) Tryd.func34 rfl (mlsf_l4 y m) rfl (all2_R (.cons rfl (.cons rfl .nil))) rfl (cd_cons h0 (cd_cons h1 (cd_cons h2 (cd_cons h3 cd_nil)))))))) (fun h2 => (pl_node (fun h3 => (pl_node (fun h4 => (pl_leaf rfl (ctxOf_ok (libQ1_ok _) (eq_none _)) (by kernel_rfl) Tryd.func34 rfl (mlsf_l5 y m) rfl (all2_R (.cons rfl (.cons rfl .nil))) rfl (cd_cons h0 (cd_cons h1 (cd_cons h2 (cd_cons h3 (cd_cons h3 cd_nil))))))) (fun h4 => (pl_leaf rfl (ctxOf_ok (libQ1_ok _) (eq_none _)) (by kernel_rfl) Tryd.func34 rfl (mlsf_l6 y m) rfl (all2_R (.cons rfl (.cons rfl .nil))) rfl (cd_cons h0 (cd_cons h1 (cd_cons h2 (cd_cons h3 (cd_cons h4 cd_nil))))))))) (fun h3 => (pl_node (fun h4 => (pl_leaf rfl (ctxOf_ok (libQ1_ok _) (eq_none _)) (by kernel_rfl) Tryd.func34 rfl (mlsf_l7 y m) rfl (all2_R (.cons rfl (.cons rfl .nil))) rfl (cd_cons h0 (cd_cons h1 (cd_cons h2 (cd_cons h3 (cd_cons h4 cd_nil))))))) (fun h4 => (pl_leaf rfl (ctxOf_ok (libQ1_ok _) (eq_none _)) (by kernel_rfl) Tryd.func34 rfl (mlsf_l8 y m) rfl (all2_R (.cons rfl (.cons rfl .nil))) rfl (cd_cons h0 (cd_cons h1 (cd_cons h2 (cd_cons h3 (cd_cons h4 cd_nil))))))))))))))))
theorem mlsf_pl (y : Int) (m : Int) (hy : y1B y = true) : Pl Tryd.prog 34 [.int .i64 y, .int .i64 m] (.int .i64 (mlV y m)) := by
  refine Eq.mp (congrArg (Pl _ _ _) ?_) (mlsf_t y m (fun h0 => by first | rfl | assumption | (have h := y1B_iff.1 hy; first | (rw [w64 (x := y - 1) (by omega) (by omega)]; exact y0B_iff.2 (by omega)) | exact y0B_iff.2 (by omega))) (fun h0 => by first | rfl | assumption | (have h := y1B_iff.1 hy; first | (rw [w64 (x := y - 1) (by omega) (by omega)]; exact y0B_iff.2 (by omega)) | exact y0B_iff.2 (by omega))))
  have h := y1B_iff.1 hy
  have e := w64 (x := y - 1) (by omega) (by omega)
  have s := dy_step y
  have yl := yl_in y
  have e2 : IntKind.i64.wrap (dyV y - dyV (y - 1)) = dyV y - dyV (y - 1) := w64 (by omega) (by omega)
  have e3 : IntKind.i64.wrap (dyV y - dyV (y - 1) - 337) = dyV y - dyV (y - 1) - 337 := w64 (by omega) (by omega)
  rw [e, e2, e3, dy_ml]
  have b : ∀ k : Int, (m == k) = decide (m = k) := fun k => by by_cases g : m = k <;> simp [g]
  rw [b, b, b, b, b]
  by_cases h2 : m = 2
  · subst h2; rfl
  · by_cases h4 : m = 4
    · subst h4; rfl
    · by_cases h6 : m = 6
      · subst h6; rfl
      · by_cases h9 : m = 9
        · subst h9; rfl
        · by_cases h11 : m = 11
          · subst h11; rfl
          · rw [decide_eq_false h2, decide_eq_false h4, decide_eq_false h6, decide_eq_false h9, decide_eq_false h11]
            refine congrArg (Value.int .i64) ?_
            unfold mlV
            rw [if_neg h2, if_neg (by omega)]
abbrev libQ2 : List (Nat × FnSp F) := [(35, sp1 (dInt .i64) (fun y => aInt .i64 (nyV y)) (fun y => [(y1B y, true)])), (34, sp2 (dInt .i64) (dInt .i64) (fun y m => aInt .i64 (mlV y m)) (fun y _ => [(y1B y, true)]))]
theorem libQ2_ok (I : Interp F) : LibOk Tryd.prog I (lib1 libQ2) := lib1_cons (sp1_ok fun y hc => ⟨_, rfl, nysf_pl y (cd1' hc)⟩) Tryd.call35 (lib1_cons (sp2_ok fun y m hc => ⟨_, rfl, mlsf_pl y m (cd1' hc)⟩) Tryd.call34 (lib1_nil _ _))
set_option maxRecDepth 100000 in
theorem dl_1 (y : Int) (m : Int) (n : Int) (k : Int) (rest : List (Nat × AV Empty)) : evView (ctxOf Tryd.prog noFacts (fun _ => false) libQ2) 51 (false :: [false, true, false, true, true, true]) (loopAt (bodyOf Tryd.f19) [false, true, false, true, true, true]) ([(0, (.w (.one (.int .i64 y)))), (1, (.w (.one (.int .i64 m)))), (8, (.w (.one (.int .i64 n)))), (9, (.w (.one (.int .i64 k))))] ++ (ptrN 0 [] ++ rest)) [] 0 [0, 1, 8, 9] [true] = some ((Ex.normal, [AV.w (AW.one (AC.int IntKind.i64 y)), AV.w (AW.one (AC.int IntKind.i64 m)), AV.w (AW.one (AC.int IntKind.i64 (IntKind.i64.wrap (n + mlV y k)))), AV.w (AW.one (AC.int IntKind.i64 (IntKind.i64.wrap (k + 1))))], []), (pickL [(decide (k < m), true), (y1B y, true)] [0, 1])) := by kernel_rfl
set_option maxRecDepth 100000 in
theorem dl_0 (y : Int) (m : Int) (n : Int) (k : Int) (rest : List (Nat × AV Empty)) : evView (ctxOf Tryd.prog noFacts (fun _ => false) libQ2) 51 (false :: [false, true, false, true, true, true]) (loopAt (bodyOf Tryd.f19) [false, true, false, true, true, true]) ([(0, (.w (.one (.int .i64 y)))), (1, (.w (.one (.int .i64 m)))), (8, (.w (.one (.int .i64 n)))), (9, (.w (.one (.int .i64 k))))] ++ (ptrN 0 [] ++ rest)) [] 0 [0, 1, 8, 9] [false] = some ((Ex.exit 0, [AV.w (AW.one (AC.int IntKind.i64 y)), AV.w (AW.one (AC.int IntKind.i64 m)), AV.w (AW.one (AC.int IntKind.i64 n)), AV.w (AW.one (AC.int IntKind.i64 k))], []), (pickL [(decide (k < m), false)] [0])) := by kernel_rfl
structure dlT where
  y : Int
  m : Int
  n : Int
  k : Int
def dlP (y : Int) (m : Int) (n : Int) (k : Int) : Prop := 1 ≤ y ∧ y ≤ 9999 ∧ 1 ≤ k ∧ k ≤ m ∧ m ≤ 12 ∧ -10000000 ≤ n ∧ n ≤ 10000000 + 31 * k
instance (y : Int) (m : Int) (n : Int) (k : Int) : Decidable (dlP y m n k) := by unfold dlP; infer_instance
def dlTm (y : Int) (m : Int) (n : Int) (k : Int) : List (Nat × AV Empty) := [(0, (.w (.one (.int .i64 y)))), (1, (.w (.one (.int .i64 m)))), (8, (.w (.one (.int .i64 n)))), (9, (.w (.one (.int .i64 k))))]
def dlS : LpSt dlT Empty where
  ps := []
  tm := fun t => dlTm t.y t.m t.n t.k
  hp := fun t => []
def dlNx (y : Int) (m : Int) (n : Int) (k : Int) : Nxt dlT Empty := if k < m then .go ⟨y, m, n + mlV y k, k + 1⟩ else .out (.exit 0) (dlTm y m n k) []
def dlStep (t : dlT) : Nxt dlT Empty := if dlP t.y t.m t.n t.k then dlNx t.y t.m t.n t.k else .bad
theorem dl_go {y m n k : Int} (h : dlP y m n k) : dlStep ⟨y, m, n, k⟩ = dlNx y m n k := if_pos h
set_option maxRecDepth 100000 in
set_option maxHeartbeats 4000000 in
theorem dl_round (t : dlT) (hb : (dlStep t).isBad = false) (rest : List (Nat × AV Empty)) : ∃ fuel path r, evC (ctxOf Tryd.prog noFacts (fun _ => false) libQ2) fuel 51 (false :: [false, true, false, true, true, true]) (loopAt (bodyOf Tryd.f19) [false, true, false, true, true, true]) (dlS.tm t ++ (ptrN 0 dlS.ps ++ rest)) (numb 0 (dlS.hp t)) 0 path = some r ∧ (∀ p ∈ r.cd, p.1 = p.2) ∧ Gives dlS 0 r (dlStep t) := by
  obtain ⟨y, m, n, k⟩ := t
  by_cases ok : dlP y m n k
  · rw [dl_go ok]
    clear hb
    unfold dlNx
    obtain ⟨h1, h2, h3, h4, h5, h6, h7⟩ := ok
    have ml := ml_in y k
    have i1 : y1B y = true := y1B_iff.2 (by omega)
    have e1 : IntKind.i64.wrap (n + mlV y k) = n + mlV y k := w64 (by omega) (by omega)
    have e2 : IntKind.i64.wrap (k + 1) = k + 1 := w64 (by omega) (by omega)
    by_cases hk : k < m
    · have c1 : decide (k < m) = true := decide_eq_true hk
      rw [if_pos hk]
      have L := dl_1 y m n k rest
      rw [e1, e2] at L
      refine round_go L (pickL_ok ?_ _) rfl rfl rfl rfl
      repeat' (first | exact cd_nil | refine cd_cons ?_ ?_)
      all_goals first | rfl | with_reducible assumption
    · have c1 : decide (k < m) = false := decide_eq_false hk
      rw [if_neg hk]
      have L := dl_0 y m n k rest
      refine round_out L rfl (pickL_ok ?_ _) rfl rfl rfl
      repeat' (first | exact cd_nil | refine cd_cons ?_ ?_)
      all_goals first | rfl | with_reducible assumption
  · exfalso
    have : dlStep ⟨y, m, n, k⟩ = .bad := if_neg ok
    rw [this] at hb; cases hb
theorem dl_runs {y : Int} (hy : 1 ≤ y ∧ y ≤ 9999) {q : Nat} (hq : q < 12) : ∀ (j i : Nat) (n : Int), i + j = q → -10000000 ≤ n → n ≤ 10000000 + 31 * ((i : Int) + 1) → ∃ c, runs dlStep c ⟨y, (q : Int) + 1, n, (i : Int) + 1⟩ = some (.exit 0, dlTm y ((q : Int) + 1) (n + (mbV y q - mbV y i)) ((q : Int) + 1), [])
  | 0, i, n, hi, h1, h2 => by
    have : i = q := by omega
    subst this
    refine ⟨1, ?_⟩
    rw [runs, dl_go ⟨hy.1, hy.2, by omega, by omega, by omega, h1, h2⟩]
    unfold dlNx
    rw [if_neg (by omega), show n + (mbV y i - mbV y i) = n by omega]
  | j + 1, i, n, hi, h1, h2 => by
    have ml := ml_in y ((i : Int) + 1)
    obtain ⟨c, hc⟩ := dl_runs hy hq j (i + 1) (n + mlV y ((i : Int) + 1)) (by omega) (by omega) (by omega)
    refine ⟨c + 1, ?_⟩
    rw [runs, dl_go ⟨hy.1, hy.2, by omega, by omega, by omega, h1, h2⟩]
    unfold dlNx
    rw [if_pos (by omega)]
    have e : mbV y (i + 1) = mbV y i + mlV y ((i : Int) + 1) := rfl
    rw [e, show n + mlV y ((i : Int) + 1) + (mbV y q - (mbV y i + mlV y ((i : Int) + 1))) = n + (mbV y q - mbV y i) by omega] at hc
    exact hc
def dlD : LpDef dlT Empty where
  ts := [0, 1, 8, 9]
  ps := []
  W := [0, 1, 8, 9, 40, 41, 42, 43, 44, 45, 46, 47, 48, 49]
  dec := fun vs ks => match vs, ks with
    | [.w (.one (.int .i64 y)), .w (.one (.int .i64 m)), .w (.one (.int .i64 n)), .w (.one (.int .i64 k))], [] => some ⟨y, m, n, k⟩
    | _, _ => none
  spec := fun t => some ((.exit 0), dlTm t.y t.m (t.n + mbV t.y (t.m - 1).toNat) t.m, [], [(decide (dlP t.y t.m t.n t.k) && decide (t.k = 1) && decide (t.n ≤ 10000000), true)])
theorem dlD_ok (x : Code) (hx : codeAt (bodyOf Tryd.f19) [false, true, false, true, true, true] = some (.loop x)) : LpOk Tryd.prog noFacts 51 x (dlD.sp (fun _ => false)) := by
  obtain rfl := loopAt_eq hx
  refine lp_ok (c := ctxOf Tryd.prog noFacts (fun _ => false) libQ2) (ctxOf_ok (libQ2_ok _) (eq_none _)) (by kernel_rfl) hx lps_nil (S := dlS) (step := dlStep) (fun _ h => by cases h) (by kernel_rfl) (by kernel_rfl) ?_ rfl (fun t e he => ?_) (fun t hb rest => dl_round t hb rest) ?_
  · intro vs ks s hv1 h hv2
    simp only [dlD] at h
    split at h
    · cases h
      exact ⟨rfl, fun e he => he⟩
    · cases h
  · simp only [dlS, dlTm, List.mem_cons, List.not_mem_nil, or_false] at he
    rcases he with rfl | rfl | rfl | rfl <;> rfl
  · intro s ex outs wb cd h hc
    obtain ⟨y, m, n, k⟩ := s
    simp only [dlD] at h
    cases h
    have := cd1' hc
    simp only [Bool.and_eq_true, decide_eq_true_eq] at this
    obtain ⟨⟨⟨h1, h2, h3, h4, h5, h6, h7⟩, rfl⟩, h8⟩ := this
    obtain ⟨q, rfl⟩ : ∃ q : Nat, m = (q : Int) + 1 := ⟨(m - 1).toNat, by omega⟩
    obtain ⟨c, hc⟩ := dl_runs ⟨h1, h2⟩ (q := q) (by omega) q 0 n (by omega) h6 (by omega)
    refine ⟨c, ?_⟩
    rw [show ((q : Int) + 1 - 1).toNat = q by omega]
    rw [show n + (mbV y q - mbV y 0) = n + mbV y q by simp [mbV]] at hc
    exact hc
structure dmT where
  y : Int
  m : Int
  r : Int
def dmP (y : Int) (m : Int) (r : Int) : Prop := 1 ≤ y ∧ y ≤ 9999 ∧ 1 ≤ m ∧ m ≤ 12 ∧ 0 ≤ r ∧ r ≤ 400
instance (y : Int) (m : Int) (r : Int) : Decidable (dmP y m r) := by unfold dmP; infer_instance
def dmTm (y : Int) (m : Int) (r : Int) : List (Nat × AV Empty) := [(6, (.w (.one (.int .i64 y)))), (7, (.w (.one (.int .i64 m)))), (8, (.w (.one (.int .i64 r))))]
def dmS : LpSt dmT Empty where
  ps := []
  tm := fun t => dmTm t.y t.m t.r
  hp := fun t => []
def dmNx (y : Int) (m : Int) (r : Int) : Nxt dmT Empty := if mlV y m ≤ r then .go ⟨y, m + 1, r - mlV y m⟩ else .out (.exit 0) (dmTm y m r) []
def dmStep (t : dmT) : Nxt dmT Empty := if dmP t.y t.m t.r then dmNx t.y t.m t.r else .bad
theorem dm_go {y m r : Int} (h : dmP y m r) : dmStep ⟨y, m, r⟩ = dmNx y m r := if_pos h
theorem dm_runs {y d : Int} (hy : 1 ≤ y ∧ y ≤ 9999) {q : Nat} (hq : q < 12) (h0 : 1 ≤ d) (h1 : d ≤ mlV y ((q : Int) + 1)) : ∀ (j i : Nat) (r : Int), i + j = q → r = mbV y q - mbV y i + d - 1 → ∃ c, runs dmStep c ⟨y, (i : Int) + 1, r⟩ = some (.exit 0, dmTm y ((q : Int) + 1) (d - 1), [])
  | 0, i, r, hi, hr => by
    have : i = q := by omega
    subst this
    have ml := ml_in y ((i : Int) + 1)
    refine ⟨1, ?_⟩
    rw [runs, dm_go ⟨hy.1, hy.2, by omega, by omega, by omega, by omega⟩]
    unfold dmNx
    rw [if_neg (by omega), show r = d - 1 by omega]
  | j + 1, i, r, hi, hr => by
    have ml := ml_in y ((i : Int) + 1)
    have ml' := ml_in y ((q : Int) + 1)
    have e : mbV y (i + 1) = mbV y i + mlV y ((i : Int) + 1) := rfl
    have mo := mb_mono y (a := i + 1) (b := q) (by omega)
    have m2 := mb_in y q
    have m3 := mb_in y i
    obtain ⟨c, hc⟩ := dm_runs hy hq h0 h1 j (i + 1) (r - mlV y ((i : Int) + 1)) (by omega) (by omega)
    refine ⟨c + 1, ?_⟩
    rw [runs, dm_go ⟨hy.1, hy.2, by omega, by omega, by omega, by omega⟩]
    unfold dmNx
    rw [if_pos (by omega)]
    exact hc
def dmD : LpDef dmT Empty where
  ts := [6, 7, 8]
  ps := []
  W := [6, 7, 8, 24, 25, 26, 27, 28, 29, 30, 31, 32, 33, 34, 35]
  dec := fun vs ks => match vs, ks with
    | [.w (.one (.int .i64 y)), .w (.one (.int .i64 m)), .w (.one (.int .i64 r))], [] => some ⟨y, m, r⟩
    | _, _ => none
  spec := fun t => some ((.exit 0), dmTm t.y (dtM (nyV t.y + t.r)) (dtD (nyV t.y + t.r) - 1), [], [(decide (1 ≤ t.y) && decide (t.y ≤ 9999) && decide (t.m = 1) && decide (0 ≤ t.r) && decide (t.r < ylV t.y), true)])
structure dsT where
  d : Int
  i : Int
  j : Int
def dsP (d : Int) (i : Int) (j : Int) : Prop := inD d = true ∧ 0 ≤ i ∧ i ≤ dtY d - 1 ∧ dtY d - 1 ≤ j ∧ j ≤ 9999
instance (d : Int) (i : Int) (j : Int) : Decidable (dsP d i j) := by unfold dsP; infer_instance
def dsTm (d : Int) (i : Int) (j : Int) : List (Nat × AV Empty) := [(5, (.w (.one (.int .i64 i)))), (6, (.w (.one (.int .i64 j))))]
def dsNx (d : Int) (i : Int) (j : Int) : Nxt dsT Empty := if i < j then (if dtY d - 1 ≤ (i + j) / 2 then .go ⟨d, i, (i + j) / 2⟩ else .go ⟨d, (i + j) / 2 + 1, j⟩) else .out (.exit 0) (dsTm d i j) [⟨3, [.int .i64 d]⟩]
def dsStep (t : dsT) : Nxt dsT Empty := if dsP t.d t.i t.j then dsNx t.d t.i t.j else .bad
theorem ds_go {d i j : Int} (h : dsP d i j) : dsStep ⟨d, i, j⟩ = dsNx d i j := if_pos h
theorem ds_h {i j : Int} (h1 : 0 ≤ i) (h2 : i ≤ j) (h3 : j ≤ 9999) : IntKind.i64.wrap ((IntKind.u64.wrap (IntKind.i64.wrap (i + j))).fdiv (2 ^ min (Int.toNat 1) IntKind.u64.bits)) = (i + j) / 2 := by
  have e2 : (2 : Int) ^ min (Int.toNat 1) IntKind.u64.bits = 2 := rfl
  rw [w64 (x := i + j) (by omega) (by omega), IntKind.wrap_u64, e2, Int.fdiv_eq_ediv_of_nonneg _ (by omega), Int.emod_eq_of_lt (by omega) (by omega), w64 (by omega) (by omega)]
theorem dt_span {d : Int} (h : inD d = true) : 1 ≤ dtY d ∧ dtY d ≤ 9999 ∧ nyV (dtY d) ≤ d ∧ d < nyV (dtY d + 1) := by
  have a := dt_is h
  have b := isD_span a
  exact ⟨a.1, a.2.1, b.2.2.1, b.2.2.2⟩
theorem ds_runs {d : Int} (hd : inD d = true) : ∀ (n : Nat) (i j : Int), (j - i).toNat ≤ n → 0 ≤ i → i ≤ dtY d - 1 → dtY d - 1 ≤ j → j ≤ 9999 → ∃ c, runs dsStep c ⟨d, i, j⟩ = some (.exit 0, dsTm d (dtY d - 1) (dtY d - 1), [⟨3, [.int .i64 d]⟩])
  | n, i, j, hn, h1, h2, h3, h4 => by
    by_cases hk : i < j
    · cases n with
      | zero => omega
      | succ n =>
        by_cases hm : dtY d - 1 ≤ (i + j) / 2
        · obtain ⟨c, hc⟩ := ds_runs hd n i ((i + j) / 2) (by omega) h1 h2 hm (by omega)
          refine ⟨c + 1, ?_⟩
          rw [runs, ds_go ⟨hd, h1, h2, h3, h4⟩]
          unfold dsNx
          rw [if_pos hk, if_pos hm]
          exact hc
        · obtain ⟨c, hc⟩ := ds_runs hd n ((i + j) / 2 + 1) j (by omega) (by omega) (by omega) h3 h4
          refine ⟨c + 1, ?_⟩
          rw [runs, ds_go ⟨hd, h1, h2, h3, h4⟩]
          unfold dsNx
          rw [if_pos hk, if_neg hm]
          exact hc
    · refine ⟨1, ?_⟩
      rw [runs, ds_go ⟨hd, h1, h2, h3, h4⟩]
      unfold dsNx
      rw [if_neg hk, show i = dtY d - 1 by omega, show j = dtY d - 1 by omega]
  termination_by n => n
end
end Go.Proofs.YtokkaeaciigapaaDoor

