/-
  The reference's FirstDay, DayNumber and DateOf as functions of their arguments; the walk of spylaw1.ScaleDates.
  Conditions: those of each theorem.
-/
import Derived.Test.YtokkaeaciigapaaDoorD7
import Derived.Test.YtokkaeaciigapaaDoorD5R
import Derived.Test.YtokkaeaciigapaaDoorNumM
set_option linter.unusedVariables false
set_option linter.unusedSimpArgs false
namespace Go.Proofs.YtokkaeaciigapaaDoor
open Go.RowKit Ev Sc
variable {F : Type}
noncomputable section

def yFB (y : Int) : Bool := decide (1 ≤ y) && decide (y ≤ 10000)
noncomputable abbrev lpsFD : Lps Empty := [((29, [false, true, false, true, true]), faD.sp (fun _ => false)), ((29, [false, true, false, true, true, true]), fbD.sp (fun _ => false))]
noncomputable abbrev lpsRN : Lps Empty := [((51, [false, true, false, true, true, true]), rnD.sp (fun _ => false))]
noncomputable abbrev lpsRD : Lps Empty := [((55, [false, false, true, true, true]), raD.sp (fun _ => false)), ((55, [false, true, false, true, true, true, true]), rbD.sp (fun _ => false)), ((55, [false, false, true, true, true, true, true, true]), rcD.sp (fun _ => false))]
theorem lps_FD : LpsOk Tryd.prog noFacts lpsFD Tryd.f43.ntmps (bodyOf Tryd.f43) := lps_cons (fun _ x hx => faD_ok x hx) (lps_cons (fun _ x hx => fbD_ok x hx) (lps_nil))
theorem lps_RN : LpsOk Tryd.prog noFacts lpsRN Tryd.f23.ntmps (bodyOf Tryd.f23) := lps_cons (fun _ x hx => rnD_ok x hx) (lps_nil)
theorem yFB_iff {y : Int} : yFB y = true ↔ 1 ≤ y ∧ y ≤ 10000 := by unfold yFB; simp
theorem fd_in {y : Int} (h : yFB y = true) : (decide (y ≤ 10000) && decide ((0 : Int) = 0) && decide ((2000 : Int) = 2000)) = true ∧ decide (fbP (nyV (mxV y)) y) = true := by
  rw [yFB_iff] at h
  refine ⟨by rw [decide_eq_true h.2]; rfl, decide_eq_true ⟨h.1, h.2, ?_, ?_⟩⟩
  · have := ny_mono (show (1 : Int) ≤ mxV y by unfold mxV; split <;> omega)
    rw [ny_1] at this; omega
  · have := ny_mono (show mxV y ≤ 10000 by unfold mxV; split <;> omega)
    rw [ny_10000] at this; omega
set_option maxRecDepth 100000 in
theorem fdf_l0 (y : Int) : evR (ctxLp Tryd.prog noFacts (fun _ => false) libR1 [] lpsFD) Tryd.f43 [(.w (.one (.int .i64 y)))] [] = some (AV.w (AW.one (AC.int IntKind.i64 (nyV (mxV y) - (nyV (mxV y) - nyV y)))), [(decide (y ≤ 10000) && decide ((0 : Int) = 0) && decide ((2000 : Int) = 2000), true), (decide (fbP (nyV (mxV y)) y), true)]) := by kernel_rfl
set_option maxRecDepth 100000 in
theorem fdf_t (y : Int) (s0 : (decide (fbP (nyV (mxV y)) y)) = true) (s1 : (decide (y ≤ 10000) && decide ((0 : Int) = 0) && decide ((2000 : Int) = 2000)) = true) : Pl Tryd.prog 43 [.int .i64 y] (AV.get ((AV.w (AW.one (AC.int IntKind.i64 (nyV (mxV y) - (nyV (mxV y) - nyV y))))) : AV Empty)) :=
  (pl_leaf (hL := lps_FD) rfl (ctxLp_ok (libR1_ok _) (eq_none _) (fns_nil _) (fun f fn h => by cases h)) (by kernel_rfl) Tryd.func43 rfl (fdf_l0 y) rfl (all2_R (.cons rfl .nil)) rfl (cd_cons (s1 ) (cd_cons (s0 ) cd_nil)))
theorem fdf_pl (y : Int) (hy : yFB y = true) : Pl Tryd.prog 43 [.int .i64 y] (.int .i64 (nyV y)) := by
  refine Eq.mp (congrArg (Pl _ _ _) ?_) (fdf_t y (by first | rfl | exact (fd_in hy).1 | exact (fd_in hy).2) (by first | rfl | exact (fd_in hy).1 | exact (fd_in hy).2))
  exact congrArg (Value.int .i64) (by omega)
noncomputable abbrev libR3 : List (Nat × FnSp F) := (43, sp1 (dInt .i64) (fun y => aInt .i64 (nyV y)) (fun y => [(yFB y, true)])) :: libR2
theorem libR3_ok (I : Interp F) : LibOk Tryd.prog I (lib1 libR3) := lib1_cons (sp1_ok fun y hc => ⟨_, rfl, fdf_pl y (cd1' hc)⟩) Tryd.call43 (libR2_ok _)
theorem rn_in {y m d : Int} (h1 : 1 ≤ y) (h2 : y ≤ 9999) (h3 : 1 ≤ m) (h4 : m ≤ 12) (h5 : 1 ≤ d) (h6 : d ≤ mlV y m) : IntKind.i64.wrap (IntKind.i64.wrap (nyV y + mbV y (m - 1).toNat + d) - 1) = nyV y + d - 1 + mbV y (m - 1).toNat ∧ (decide (rnP y m (nyV y) 1) && decide ((1 : Int) = 1) && decide (nyV y ≤ 10000000)) = true := by
  have a := ny_mono h1
  have b := ny_mono (show y ≤ 10000 by omega)
  rw [ny_1] at a
  rw [ny_10000] at b
  have c := ml_in y m
  have e := mb_in y (m - 1).toNat
  refine ⟨by rw [w64 (x := nyV y + mbV y (m - 1).toNat + d) (by omega) (by omega), w64 (by omega) (by omega)]; omega, ?_⟩
  rw [decide_eq_true (show rnP y m (nyV y) 1 from ⟨h1, h2, by omega, by omega, h4, by omega, by omega⟩), decide_eq_true (show nyV y ≤ 10000000 by omega)]
  rfl
set_option maxHeartbeats 2000000 in
set_option maxRecDepth 100000 in
theorem rnf_l0 (y : Int) (m : Int) (d : Int) : evR (ctxLp Tryd.prog noFacts (fun _ => false) libR3 [] lpsRN) Tryd.f23 [(.w (.one (.int .i64 y))), (.w (.one (.int .i64 m))), (.w (.one (.int .i64 d)))] [true] = some (AV.tup [AW.one (AC.int IntKind.i64 0), AW.one (AC.int IntKind.i64 4)], [(decide (y < 1), true), (decide (y < 1), true), (decide (y < 1), true), (true, true), (true, true), (true, true), (true, true), (true, true), (true, true), (true, true), (true, true), (true, true), (true, true), (true, true), (true, true), (true, true), (true, true), (true, true), (true, true)]) := by kernel_rfl
set_option maxRecDepth 100000 in
theorem rnf_l1 (y : Int) (m : Int) (d : Int) : evR (ctxLp Tryd.prog noFacts (fun _ => false) libR3 [] lpsRN) Tryd.f23 [(.w (.one (.int .i64 y))), (.w (.one (.int .i64 m))), (.w (.one (.int .i64 d)))] [false, true] = some (AV.tup [AW.one (AC.int IntKind.i64 0), AW.one (AC.int IntKind.i64 4)], [(decide (y < 1), false), (decide (y < 1), false), (decide (y < 1), false), (decide (y > 9999), true), (decide (y > 9999), true), (decide (y > 9999), true), (true, true), (true, true), (true, true), (true, true), (true, true), (true, true), (true, true), (true, true), (true, true), (true, true), (true, true), (true, true), (true, true)]) := by kernel_rfl
set_option maxRecDepth 100000 in
theorem rnf_l2 (y : Int) (m : Int) (d : Int) : evR (ctxLp Tryd.prog noFacts (fun _ => false) libR3 [] lpsRN) Tryd.f23 [(.w (.one (.int .i64 y))), (.w (.one (.int .i64 m))), (.w (.one (.int .i64 d)))] [false, false, true] = some (AV.tup [AW.one (AC.int IntKind.i64 0), AW.one (AC.int IntKind.i64 4)], [(decide (y < 1), false), (decide (y < 1), false), (decide (y < 1), false), (decide (y > 9999), false), (decide (y > 9999), false), (decide (y > 9999), false), (decide (m < 1), true), (decide (m < 1), true), (decide (m < 1), true), (true, true), (true, true), (true, true), (true, true), (true, true), (true, true), (true, true), (true, true), (true, true), (true, true)]) := by kernel_rfl
set_option maxRecDepth 100000 in
theorem rnf_l3 (y : Int) (m : Int) (d : Int) : evR (ctxLp Tryd.prog noFacts (fun _ => false) libR3 [] lpsRN) Tryd.f23 [(.w (.one (.int .i64 y))), (.w (.one (.int .i64 m))), (.w (.one (.int .i64 d)))] [false, false, false, true] = some (AV.tup [AW.one (AC.int IntKind.i64 0), AW.one (AC.int IntKind.i64 4)], [(decide (y < 1), false), (decide (y < 1), false), (decide (y < 1), false), (decide (y > 9999), false), (decide (y > 9999), false), (decide (y > 9999), false), (decide (m < 1), false), (decide (m < 1), false), (decide (m < 1), false), (decide (m > 12), true), (decide (m > 12), true), (decide (m > 12), true), (true, true), (true, true), (true, true), (true, true), (true, true), (true, true), (true, true)]) := by kernel_rfl
set_option maxRecDepth 100000 in
theorem rnf_l4 (y : Int) (m : Int) (d : Int) : evR (ctxLp Tryd.prog noFacts (fun _ => false) libR3 [] lpsRN) Tryd.f23 [(.w (.one (.int .i64 y))), (.w (.one (.int .i64 m))), (.w (.one (.int .i64 d)))] [false, false, false, false, true] = some (AV.tup [AW.one (AC.int IntKind.i64 0), AW.one (AC.int IntKind.i64 4)], [(decide (y < 1), false), (decide (y < 1), false), (decide (y < 1), false), (decide (y > 9999), false), (decide (y > 9999), false), (decide (y > 9999), false), (decide (m < 1), false), (decide (m < 1), false), (decide (m < 1), false), (decide (m > 12), false), (decide (m > 12), false), (decide (m > 12), false), (decide (d < 1), true), (decide (d < 1), true), (decide (d < 1), true), (decide (d < 1), true), (decide (d < 1), true), (decide (d < 1), true), (true, true)]) := by kernel_rfl
set_option maxRecDepth 100000 in
theorem rnf_l5 (y : Int) (m : Int) (d : Int) : evR (ctxLp Tryd.prog noFacts (fun _ => false) libR3 [] lpsRN) Tryd.f23 [(.w (.one (.int .i64 y))), (.w (.one (.int .i64 m))), (.w (.one (.int .i64 d)))] [false, false, false, false, false, true] = some (AV.tup [AW.one (AC.int IntKind.i64 0), AW.one (AC.int IntKind.i64 4)], [(decide (y < 1), false), (decide (y < 1), false), (decide (y < 1), false), (decide (y > 9999), false), (decide (y > 9999), false), (decide (y > 9999), false), (decide (m < 1), false), (decide (m < 1), false), (decide (m < 1), false), (decide (m > 12), false), (decide (m > 12), false), (decide (m > 12), false), (decide (d < 1), false), (decide (d < 1), false), (decide (d < 1), false), (decide (d < 1), false), (y0B y, true), (m12B m, true), (decide (d < 1), false), (decide (d < 1), false), (decide (d > mlV y m), true)]) := by kernel_rfl
set_option maxRecDepth 100000 in
theorem rnf_l6 (y : Int) (m : Int) (d : Int) : evR (ctxLp Tryd.prog noFacts (fun _ => false) libR3 [] lpsRN) Tryd.f23 [(.w (.one (.int .i64 y))), (.w (.one (.int .i64 m))), (.w (.one (.int .i64 d)))] [false, false, false, false, false, false] = some (AV.tup [AW.one (AC.int IntKind.i64 (IntKind.i64.wrap (IntKind.i64.wrap (nyV y + mbV y (m - 1).toNat + d) - 1))), AW.one (AC.int IntKind.i64 0)], [(decide (y < 1), false), (decide (y < 1), false), (decide (y < 1), false), (decide (y > 9999), false), (decide (y > 9999), false), (decide (y > 9999), false), (decide (m < 1), false), (decide (m < 1), false), (decide (m < 1), false), (decide (m > 12), false), (decide (m > 12), false), (decide (m > 12), false), (decide (d < 1), false), (decide (d < 1), false), (decide (d < 1), false), (decide (d < 1), false), (y0B y, true), (m12B m, true), (decide (d < 1), false), (decide (d < 1), false), (decide (d > mlV y m), false), (yFB y, true), (decide (rnP y m (nyV y) 1) && decide ((1 : Int) = 1) && decide (nyV y ≤ 10000000), true)]) := by kernel_rfl
set_option maxRecDepth 100000 in
theorem rnf_t (y : Int) (m : Int) (d : Int) (s0 : (decide (y < 1)) = false → (decide (y > 9999)) = false → (decide (m < 1)) = false → (decide (m > 12)) = false → (decide (d < 1)) = false → (decide (d > mlV y m)) = true → (m12B m) = true) (s1 : (decide (y < 1)) = false → (decide (y > 9999)) = false → (decide (m < 1)) = false → (decide (m > 12)) = false → (decide (d < 1)) = false → (decide (d > mlV y m)) = true → (y0B y) = true) (s2 : (decide (y < 1)) = false → (decide (y > 9999)) = false → (decide (m < 1)) = false → (decide (m > 12)) = false → (decide (d < 1)) = false → (decide (d > mlV y m)) = false → (decide (rnP y m (nyV y) 1) && decide ((1 : Int) = 1) && decide (nyV y ≤ 10000000)) = true) (s3 : (decide (y < 1)) = false → (decide (y > 9999)) = false → (decide (m < 1)) = false → (decide (m > 12)) = false → (decide (d < 1)) = false → (decide (d > mlV y m)) = false → (yFB y) = true) (s4 : (decide (y < 1)) = false → (decide (y > 9999)) = false → (decide (m < 1)) = false → (decide (m > 12)) = false → (decide (d < 1)) = false → (decide (d > mlV y m)) = false → (m12B m) = true) (s5 : (decide (y < 1)) = false → (decide (y > 9999)) = false → (decide (m < 1)) = false → (decide (m > 12)) = false → (decide (d < 1)) = false → (decide (d > mlV y m)) = false → (y0B y) = true) : Pl Tryd.prog 23 [.int .i64 y, .int .i64 m, .int .i64 d] (AV.get ((bif decide (y < 1) then (AV.tup [AW.one (AC.int IntKind.i64 0), AW.one (AC.int IntKind.i64 4)]) else (bif decide (y > 9999) then (AV.tup [AW.one (AC.int IntKind.i64 0), AW.one (AC.int IntKind.i64 4)]) else (bif decide (m < 1) then (AV.tup [AW.one (AC.int IntKind.i64 0), AW.one (AC.int IntKind.i64 4)]) else (bif decide (m > 12) then (AV.tup [AW.one (AC.int IntKind.i64 0), AW.one (AC.int IntKind.i64 4)]) else (bif decide (d < 1) then (AV.tup [AW.one (AC.int IntKind.i64 0), AW.one (AC.int IntKind.i64 4)]) else (bif decide (d > mlV y m) then (AV.tup [AW.one (AC.int IntKind.i64 0), AW.one (AC.int IntKind.i64 4)]) else (AV.tup [AW.one (AC.int IntKind.i64 (IntKind.i64.wrap (IntKind.i64.wrap (nyV y + mbV y (m - 1).toNat + d) - 1))), AW.one (AC.int IntKind.i64 0)]))))))) : AV Empty)) :=
  (pl_node (fun h0 => (pl_leaf (hL := lps_RN) rfl (ctxLp_ok (libR3_ok _) (eq_none _) (fns_nil _) (fun f fn h => by cases h)) (by kernel_rfl) Tryd.func23 rfl (rnf_l0 y m d) rfl (all2_R (.cons rfl (.cons rfl (.cons rfl .nil)))) rfl (cd_cons h0 (cd_cons h0 (cd_cons h0 (cd_cons rfl (cd_cons rfl (cd_cons rfl (cd_cons rfl (cd_cons rfl (cd_cons rfl (cd_cons rfl (cd_cons rfl (cd_cons rfl (cd_cons rfl (cd_cons rfl (cd_cons rfl (cd_cons rfl (cd_cons rfl (cd_cons rfl (cd_cons rfl cd_nil))))))))))))))))))))) (fun h0 => (pl_node (fun h1 => (pl_leaf (hL := lps_RN) rfl (ctxLp_ok (libR3_ok _) (eq_none _) (fns_nil _) (fun f fn h => by cases h)) (by kernel_rfl) Tryd.func23 rfl (rnf_l1 y m d) rfl (all2_R (.cons rfl (.cons rfl (.cons rfl .nil)))) rfl (cd_cons h0 (cd_cons h0 (cd_cons h0 (cd_cons h1 (cd_cons h1 (cd_cons h1 (cd_cons rfl (cd_cons rfl (cd_cons rfl (cd_cons rfl (cd_cons rfl (cd_cons rfl (cd_cons rfl (cd_cons rfl (cd_cons rfl (cd_cons rfl (cd_cons rfl (cd_cons rfl (cd_cons rfl cd_nil))))))))))))))))))))) (fun h1 => (pl_node (fun h2 => (pl_leaf (hL := lps_RN) rfl (ctxLp_ok (libR3_ok _) (eq_none _) (fns_nil _) (fun f fn h => by cases h)) (by kernel_rfl) Tryd.func23 rfl (rnf_l2 y m d) rfl (all2_R (.cons rfl (.cons rfl (.cons rfl .nil)))) rfl (cd_cons h0 (cd_cons h0 (cd_cons h0 (cd_cons h1 (cd_cons h1 (cd_cons h1 (cd_cons h2 (cd_cons h2 (cd_cons h2 (cd_cons rfl (cd_cons rfl (cd_cons rfl (cd_cons rfl (cd_cons rfl (cd_cons rfl (cd_cons rfl (cd_cons rfl (cd_cons rfl (cd_cons rfl cd_nil))))))))))))))))))))) (fun h2 => (pl_node (fun h3 => (pl_leaf (hL := lps_RN) rfl (ctxLp_ok (libR3_ok _) (eq_none _) (fns_nil _) (fun f fn h => by cases h)) (by kernel_rfl) Tryd.func23 rfl (rnf_l3 y m d) rfl (all2_R (.cons rfl (.cons rfl (.cons rfl .nil)))) rfl (cd_cons h0 (cd_cons h0 (cd_cons h0 (cd_cons h1 (cd_cons h1 (cd_cons h1 (cd_cons h2 (cd_cons h2 (cd_cons h2 (cd_cons h3 (cd_cons h3 (cd_cons h3 (cd_cons rfl (cd_cons rfl (cd_cons rfl (cd_cons rfl (cd_cons rfl (cd_cons rfl (cd_cons rfl cd_nil))))))))))))))))))))) (fun h3 => (pl_node (fun h4 => (pl_leaf (hL := lps_RN) rfl (ctxLp_ok (libR3_ok _) (eq_none _) (fns_nil _) (fun f fn h => by cases h)) (by kernel_rfl) Tryd.func23 rfl (rnf_l4 y m d) rfl (all2_R (.cons rfl (.cons rfl (.cons rfl .nil)))) rfl (cd_cons h0 (cd_cons h0 (cd_cons h0 (cd_cons h1 (cd_cons h1 (cd_cons h1 (cd_cons h2 (cd_cons h2 (cd_cons h2 (cd_cons h3 (cd_cons h3 (cd_cons h3 (cd_cons h4 (cd_cons h4 (cd_cons h4 (cd_cons h4 (cd_cons h4 (cd_cons h4 (cd_cons rfl cd_nil))))))))))))))))))))) (fun h4 => (pl_node (fun h5 => (pl_leaf (hL := lps_RN) rfl (ctxLp_ok (libR3_ok _) (eq_none _) (fns_nil _) (fun f fn h => by cases h)) (by kernel_rfl) Tryd.func23 rfl (rnf_l5 y m d) rfl (all2_R (.cons rfl (.cons rfl (.cons rfl .nil)))) rfl (cd_cons h0 (cd_cons h0 (cd_cons h0 (cd_cons h1 (cd_cons h1 (cd_cons h1 (cd_cons h2 (cd_cons h2 (cd_cons h2 (cd_cons h3 (cd_cons h3 (cd_cons h3 (cd_cons h4 (cd_cons h4 (cd_cons h4 (cd_cons h4 (cd_cons (s1 h0 h1 h2 h3 h4 h5) (cd_cons (s0 h0 h1 h2 h3 h4 h5) (cd_cons h4 (cd_cons h4 (cd_cons h5 cd_nil))))))))))))))))))))))) (fun h5 => (pl_leaf (hL := lps_RN) rfl (ctxLp_ok (libR3_ok _) (eq_none _) (fns_nil _) (fun f fn h => by cases h)) (by kernel_rfl) Tryd.func23 rfl (rnf_l6 y m d) rfl (all2_R (.cons rfl (.cons rfl (.cons rfl .nil)))) rfl (cd_cons h0 (cd_cons h0 (cd_cons h0 (cd_cons h1 (cd_cons h1 (cd_cons h1 (cd_cons h2 (cd_cons h2 (cd_cons h2 (cd_cons h3 (cd_cons h3 (cd_cons h3 (cd_cons h4 (cd_cons h4 (cd_cons h4 (cd_cons h4 (cd_cons (s5 h0 h1 h2 h3 h4 h5) (cd_cons (s4 h0 h1 h2 h3 h4 h5) (cd_cons h4 (cd_cons h4 (cd_cons h5 (cd_cons (s3 h0 h1 h2 h3 h4 h5) (cd_cons (s2 h0 h1 h2 h3 h4 h5) cd_nil))))))))))))))))))))))))))))))))))))
theorem rnf_pl (y : Int) (m : Int) (d : Int)  : Pl Tryd.prog 23 [.int .i64 y, .int .i64 m, .int .i64 d] (.tuple #[.int .i64 (dnV y m d), .int .i64 (dnE y m d)]) := by
  refine Eq.mp (congrArg (Pl _ _ _) ?_) (rnf_t y m d (fun h0 h1 h2 h3 h4 h5 => by first | rfl | (simp only [decide_eq_false_iff_not, decide_eq_true_eq] at *; first | exact y0B_iff.2 (by omega) | exact m12B_iff.2 (by omega) | exact yFB_iff.2 (by omega) | exact (rn_in (y := y) (m := m) (d := d) (by omega) (by omega) (by omega) (by omega) (by omega) (by omega)).2)) (fun h0 h1 h2 h3 h4 h5 => by first | rfl | (simp only [decide_eq_false_iff_not, decide_eq_true_eq] at *; first | exact y0B_iff.2 (by omega) | exact m12B_iff.2 (by omega) | exact yFB_iff.2 (by omega) | exact (rn_in (y := y) (m := m) (d := d) (by omega) (by omega) (by omega) (by omega) (by omega) (by omega)).2)) (fun h0 h1 h2 h3 h4 h5 => by first | rfl | (simp only [decide_eq_false_iff_not, decide_eq_true_eq] at *; first | exact y0B_iff.2 (by omega) | exact m12B_iff.2 (by omega) | exact yFB_iff.2 (by omega) | exact (rn_in (y := y) (m := m) (d := d) (by omega) (by omega) (by omega) (by omega) (by omega) (by omega)).2)) (fun h0 h1 h2 h3 h4 h5 => by first | rfl | (simp only [decide_eq_false_iff_not, decide_eq_true_eq] at *; first | exact y0B_iff.2 (by omega) | exact m12B_iff.2 (by omega) | exact yFB_iff.2 (by omega) | exact (rn_in (y := y) (m := m) (d := d) (by omega) (by omega) (by omega) (by omega) (by omega) (by omega)).2)) (fun h0 h1 h2 h3 h4 h5 => by first | rfl | (simp only [decide_eq_false_iff_not, decide_eq_true_eq] at *; first | exact y0B_iff.2 (by omega) | exact m12B_iff.2 (by omega) | exact yFB_iff.2 (by omega) | exact (rn_in (y := y) (m := m) (d := d) (by omega) (by omega) (by omega) (by omega) (by omega) (by omega)).2)) (fun h0 h1 h2 h3 h4 h5 => by first | rfl | (simp only [decide_eq_false_iff_not, decide_eq_true_eq] at *; first | exact y0B_iff.2 (by omega) | exact m12B_iff.2 (by omega) | exact yFB_iff.2 (by omega) | exact (rn_in (y := y) (m := m) (d := d) (by omega) (by omega) (by omega) (by omega) (by omega) (by omega)).2)))
  by_cases a0 : y < 1
  · have e : okD y m d = false := by
      cases hh : okD y m d with
      | false => rfl
      | true => have := okD_iff.1 hh; omega
    have e1 : dnV y m d = 0 := by unfold dnV; rw [e]; rfl
    have e2 : dnE y m d = 4 := by unfold dnE; rw [e]; rfl
    rw [e1, e2, decide_eq_true a0]
    rfl
  · rw [decide_eq_false a0]
    by_cases a1 : y > 9999
    · have e : okD y m d = false := by
        cases hh : okD y m d with
        | false => rfl
        | true => have := okD_iff.1 hh; omega
      have e1 : dnV y m d = 0 := by unfold dnV; rw [e]; rfl
      have e2 : dnE y m d = 4 := by unfold dnE; rw [e]; rfl
      rw [e1, e2, decide_eq_true a1]
      rfl
    · rw [decide_eq_false a1]
      by_cases a2 : m < 1
      · have e : okD y m d = false := by
          cases hh : okD y m d with
          | false => rfl
          | true => have := okD_iff.1 hh; omega
        have e1 : dnV y m d = 0 := by unfold dnV; rw [e]; rfl
        have e2 : dnE y m d = 4 := by unfold dnE; rw [e]; rfl
        rw [e1, e2, decide_eq_true a2]
        rfl
      · rw [decide_eq_false a2]
        by_cases a3 : m > 12
        · have e : okD y m d = false := by
            cases hh : okD y m d with
            | false => rfl
            | true => have := okD_iff.1 hh; omega
          have e1 : dnV y m d = 0 := by unfold dnV; rw [e]; rfl
          have e2 : dnE y m d = 4 := by unfold dnE; rw [e]; rfl
          rw [e1, e2, decide_eq_true a3]
          rfl
        · rw [decide_eq_false a3]
          by_cases a4 : d < 1
          · have e : okD y m d = false := by
              cases hh : okD y m d with
              | false => rfl
              | true => have := okD_iff.1 hh; omega
            have e1 : dnV y m d = 0 := by unfold dnV; rw [e]; rfl
            have e2 : dnE y m d = 4 := by unfold dnE; rw [e]; rfl
            rw [e1, e2, decide_eq_true a4]
            rfl
          · rw [decide_eq_false a4]
            by_cases a5 : d > mlV y m
            · have e : okD y m d = false := by
                cases hh : okD y m d with
                | false => rfl
                | true => have := okD_iff.1 hh; omega
              have e1 : dnV y m d = 0 := by unfold dnV; rw [e]; rfl
              have e2 : dnE y m d = 4 := by unfold dnE; rw [e]; rfl
              rw [e1, e2, decide_eq_true a5]
              rfl
            · rw [decide_eq_false a5]
              have e : okD y m d = true := okD_iff.2 ⟨by omega, by omega, by omega, by omega, by omega, by omega⟩
              have e1 : dnV y m d = nyV y + d - 1 + mbV y (m - 1).toNat := by unfold dnV; rw [if_pos e]; omega
              have e2 : dnE y m d = 0 := by unfold dnE; rw [if_pos e]
              rw [e1, e2, (rn_in (y := y) (m := m) (d := d) (by omega) (by omega) (by omega) (by omega) (by omega) (by omega)).1]
              rfl
theorem rd_in {d : Int} (h : inD d = true) : nyV (raY d) + (d - nyV (raY d)) = d ∧ (inD d && decide ((2000 : Int) = 2000)) = true ∧ (inD d && decide (1 ≤ raY d) && decide (0 ≤ d - nyV (raY d)) && decide ((365 : Int) = 365)) = true ∧ nyV (dtY d) + (d - nyV (dtY d)) = d ∧ IntKind.i64.wrap (dtD d - 1 + 1) = dtD d ∧
    (decide (1 ≤ dtY d) && decide (dtY d ≤ 9999) && decide ((1 : Int) = 1) && decide (0 ≤ d - nyV (dtY d)) && decide (d - nyV (dtY d) < ylV (dtY d))) = true := by
  obtain ⟨e1, e2, e3, e4, e5, e6⟩ := date_in h
  obtain ⟨s1, s2, s3, s4⟩ := dt_span h
  have b : 1 ≤ raY d ∧ 0 ≤ d - nyV (raY d) := by
    unfold raY
    split
    · exact ⟨s1, by omega⟩
    · rw [ny_2000]; omega
  refine ⟨by omega, by rw [h]; rfl, ?_, e3, e4, e6⟩
  rw [h, decide_eq_true b.1, decide_eq_true b.2]; rfl
noncomputable abbrev dayNS : FnSp F := sp3 (dInt .i64) (dInt .i64) (dInt .i64) (fun y m d => .tup [.one (.int .i64 (dnV y m d)), .one (.int .i64 (dnE y m d))]) (fun _ _ _ => [])
noncomputable abbrev libLD : List (Nat × FnSp Empty) := [(8, sp0 (.w (.one (.yes true)))), (19, daysS), (23, dayNS)]

theorem libLD_ok : LibOk Tryd.prog noFacts (lib1 libLD) := (lib1_cons (sp0_ok rfl sfact_pl) Tryd.call8 (lib1_cons (daysS_ok _) Tryd.call19 (lib1_cons (sp3_ok fun y m d _ => ⟨_, rfl, rnf_pl y m d⟩) Tryd.call23 (lib1_nil _ _))))

end
end Go.Proofs.YtokkaeaciigapaaDoor

