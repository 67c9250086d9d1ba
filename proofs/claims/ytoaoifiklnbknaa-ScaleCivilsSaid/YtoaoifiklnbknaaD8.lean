/-
  The reference's FirstDay, DayNumber and DateOf as functions of their arguments; the walk of spylaw1.ScaleDates.
  Conditions: those of each theorem.
-/
import Derived.Test.YtoaoifiklnbknaaD7
import Derived.Test.YtoaoifiklnbknaaD5R
import Derived.Test.YtoaoifiklnbknaaNumM
set_option linter.unusedVariables false
set_option linter.unusedSimpArgs false
namespace Go.Proofs.Ytoaoifiklnbknaa
open Go.RowKit Ev Sc
variable {F : Type}
noncomputable section

def yFB (y : Int) : Bool := decide (1 ≤ y) && decide (y ≤ 10000)
noncomputable abbrev lpsFD : Lps Empty := [((29, [false, true, false, true, true]), faD.sp (fun _ => false)), ((29, [false, true, false, true, true, true]), fbD.sp (fun _ => false))]
noncomputable abbrev lpsRN : Lps Empty := [((51, [false, true, false, true, true, true]), rnD.sp (fun _ => false))]
noncomputable abbrev lpsRD : Lps Empty := [((55, [false, false, true, true, true]), raD.sp (fun _ => false)), ((55, [false, true, false, true, true, true, true]), rbD.sp (fun _ => false)), ((55, [false, false, true, true, true, true, true, true]), rcD.sp (fun _ => false))]
theorem lps_FD : LpsOk Try.prog noFacts lpsFD Try.f101.ntmps (bodyOf Try.f101) := lps_cons (fun _ x hx => faD_ok x hx) (lps_cons (fun _ x hx => fbD_ok x hx) (lps_nil))
theorem lps_RN : LpsOk Try.prog noFacts lpsRN Try.f58.ntmps (bodyOf Try.f58) := lps_cons (fun _ x hx => rnD_ok x hx) (lps_nil)
theorem lps_RD : LpsOk Try.prog noFacts lpsRD Try.f60.ntmps (bodyOf Try.f60) := lps_cons (fun _ x hx => raD_ok x hx) (lps_cons (fun _ x hx => rbD_ok x hx) (lps_cons (fun _ x hx => rcD_ok x hx) (lps_nil)))
theorem yFB_iff {y : Int} : yFB y = true ↔ 1 ≤ y ∧ y ≤ 10000 := by unfold yFB; simp
theorem fd_in {y : Int} (h : yFB y = true) : (decide (y ≤ 10000) && decide ((0 : Int) = 0) && decide ((2000 : Int) = 2000)) = true ∧ decide (fbP (nyV (mxV y)) y) = true := by
  rw [yFB_iff] at h
  refine ⟨by rw [decide_eq_true h.2]; rfl, decide_eq_true ⟨h.1, h.2, ?_, ?_⟩⟩
  · have := ny_mono (show (1 : Int) ≤ mxV y by unfold mxV; split <;> omega)
    rw [ny_1] at this; omega
  · have := ny_mono (show mxV y ≤ 10000 by unfold mxV; split <;> omega)
    rw [ny_10000] at this; omega
set_option maxRecDepth 100000 in
theorem fdf_l0 (y : Int) : evR (ctxLp Try.prog noFacts (fun _ => false) libR1 [] lpsFD) Try.f101 [(.w (.one (.int .i64 y)))] [] = some (AV.w (AW.one (AC.int IntKind.i64 (nyV (mxV y) - (nyV (mxV y) - nyV y)))), [(decide (y ≤ 10000) && decide ((0 : Int) = 0) && decide ((2000 : Int) = 2000), true), (decide (fbP (nyV (mxV y)) y), true)]) := by kernel_rfl
set_option maxRecDepth 100000 in
theorem fdf_t (y : Int) (s0 : (decide (fbP (nyV (mxV y)) y)) = true) (s1 : (decide (y ≤ 10000) && decide ((0 : Int) = 0) && decide ((2000 : Int) = 2000)) = true) : Pl Try.prog 101 [.int .i64 y] (AV.get ((AV.w (AW.one (AC.int IntKind.i64 (nyV (mxV y) - (nyV (mxV y) - nyV y))))) : AV Empty)) :=
  (pl_leaf (hL := lps_FD) rfl (ctxLp_ok (libR1_ok _) (eq_none _) (fns_nil _) (fun f fn h => by cases h)) (by kernel_rfl) Try.func101 rfl (fdf_l0 y) rfl (all2_R (.cons rfl .nil)) rfl (cd_cons (s1 ) (cd_cons (s0 ) cd_nil)))
theorem fdf_pl (y : Int) (hy : yFB y = true) : Pl Try.prog 101 [.int .i64 y] (.int .i64 (nyV y)) := by
  refine Eq.mp (congrArg (Pl _ _ _) ?_) (fdf_t y (by first | rfl | exact (fd_in hy).1 | exact (fd_in hy).2) (by first | rfl | exact (fd_in hy).1 | exact (fd_in hy).2))
  exact congrArg (Value.int .i64) (by omega)
noncomputable abbrev libR3 : List (Nat × FnSp F) := (101, sp1 (dInt .i64) (fun y => aInt .i64 (nyV y)) (fun y => [(yFB y, true)])) :: libR2
theorem libR3_ok (I : Interp F) : LibOk Try.prog I (lib1 libR3) := lib1_cons (sp1_ok fun y hc => ⟨_, rfl, fdf_pl y (cd1' hc)⟩) Try.call101 (libR2_ok _)
theorem rn_in {y m d : Int} (h1 : 1 ≤ y) (h2 : y ≤ 9999) (h3 : 1 ≤ m) (h4 : m ≤ 12) (h5 : 1 ≤ d) (h6 : d ≤ mlV y m) : IntKind.i64.wrap (IntKind.i64.wrap (nyV y + mbV y (m - 1).toNat + d) - 1) = nyV y + d - 1 + mbV y (m - 1).toNat ∧ (decide (rnP y m (nyV y) 1) && decide ((1 : Int) = 1) && decide (nyV y ≤ 10000000)) = true := by
  have a := ny_mono h1
  have b := ny_mono (show y ≤ 10000 by omega)
  rw [ny_1] at a
  rw [ny_10000] at b
  have c := ml_in y m
  have e := mb_in y (m - 1).toNat
  refine ⟨by rw [w64 (x := nyV y + mbV y (m - 1).toNat + d) (by omega) (by omega), w64 (by omega) (by omega)]; omega, ?_⟩
  rw [decide_eq_true (show rnP y m (nyV y) 1 from ⟨h1, h2, by omega, by omega, h4, by omega, by omega⟩), decide_eq_true (show nyV y ≤ 10000000 by omega)]
  rfl
set_option maxHeartbeats 2000000 in
set_option maxRecDepth 100000 in
theorem rnf_l0 (y : Int) (m : Int) (d : Int) : evR (ctxLp Try.prog noFacts (fun _ => false) libR3 [] lpsRN) Try.f58 [(.w (.one (.int .i64 y))), (.w (.one (.int .i64 m))), (.w (.one (.int .i64 d)))] [true] = some (AV.tup [AW.one (AC.int IntKind.i64 0), AW.one (AC.int IntKind.i64 4)], [(decide (y < 1), true), (decide (y < 1), true), (decide (y < 1), true), (true, true), (true, true), (true, true), (true, true), (true, true), (true, true), (true, true), (true, true), (true, true), (true, true), (true, true), (true, true), (true, true), (true, true), (true, true), (true, true)]) := by kernel_rfl
set_option maxRecDepth 100000 in
theorem rnf_l1 (y : Int) (m : Int) (d : Int) : evR (ctxLp Try.prog noFacts (fun _ => false) libR3 [] lpsRN) Try.f58 [(.w (.one (.int .i64 y))), (.w (.one (.int .i64 m))), (.w (.one (.int .i64 d)))] [false, true] = some (AV.tup [AW.one (AC.int IntKind.i64 0), AW.one (AC.int IntKind.i64 4)], [(decide (y < 1), false), (decide (y < 1), false), (decide (y < 1), false), (decide (y > 9999), true), (decide (y > 9999), true), (decide (y > 9999), true), (true, true), (true, true), (true, true), (true, true), (true, true), (true, true), (true, true), (true, true), (true, true), (true, true), (true, true), (true, true), (true, true)]) := by kernel_rfl
set_option maxRecDepth 100000 in
theorem rnf_l2 (y : Int) (m : Int) (d : Int) : evR (ctxLp Try.prog noFacts (fun _ => false) libR3 [] lpsRN) Try.f58 [(.w (.one (.int .i64 y))), (.w (.one (.int .i64 m))), (.w (.one (.int .i64 d)))] [false, false, true] = some (AV.tup [AW.one (AC.int IntKind.i64 0), AW.one (AC.int IntKind.i64 4)], [(decide (y < 1), false), (decide (y < 1), false), (decide (y < 1), false), (decide (y > 9999), false), (decide (y > 9999), false), (decide (y > 9999), false), (decide (m < 1), true), (decide (m < 1), true), (decide (m < 1), true), (true, true), (true, true), (true, true), (true, true), (true, true), (true, true), (true, true), (true, true), (true, true), (true, true)]) := by kernel_rfl
set_option maxRecDepth 100000 in
theorem rnf_l3 (y : Int) (m : Int) (d : Int) : evR (ctxLp Try.prog noFacts (fun _ => false) libR3 [] lpsRN) Try.f58 [(.w (.one (.int .i64 y))), (.w (.one (.int .i64 m))), (.w (.one (.int .i64 d)))] [false, false, false, true] = some (AV.tup [AW.one (AC.int IntKind.i64 0), AW.one (AC.int IntKind.i64 4)], [(decide (y < 1), false), (decide (y < 1), false), (decide (y < 1), false), (decide (y > 9999), false), (decide (y > 9999), false), (decide (y > 9999), false), (decide (m < 1), false), (decide (m < 1), false), (decide (m < 1), false), (decide (m > 12), true), (decide (m > 12), true), (decide (m > 12), true), (true, true), (true, true), (true, true), (true, true), (true, true), (true, true), (true, true)]) := by kernel_rfl
set_option maxRecDepth 100000 in
theorem rnf_l4 (y : Int) (m : Int) (d : Int) : evR (ctxLp Try.prog noFacts (fun _ => false) libR3 [] lpsRN) Try.f58 [(.w (.one (.int .i64 y))), (.w (.one (.int .i64 m))), (.w (.one (.int .i64 d)))] [false, false, false, false, true] = some (AV.tup [AW.one (AC.int IntKind.i64 0), AW.one (AC.int IntKind.i64 4)], [(decide (y < 1), false), (decide (y < 1), false), (decide (y < 1), false), (decide (y > 9999), false), (decide (y > 9999), false), (decide (y > 9999), false), (decide (m < 1), false), (decide (m < 1), false), (decide (m < 1), false), (decide (m > 12), false), (decide (m > 12), false), (decide (m > 12), false), (decide (d < 1), true), (decide (d < 1), true), (decide (d < 1), true), (decide (d < 1), true), (decide (d < 1), true), (decide (d < 1), true), (true, true)]) := by kernel_rfl
set_option maxRecDepth 100000 in
theorem rnf_l5 (y : Int) (m : Int) (d : Int) : evR (ctxLp Try.prog noFacts (fun _ => false) libR3 [] lpsRN) Try.f58 [(.w (.one (.int .i64 y))), (.w (.one (.int .i64 m))), (.w (.one (.int .i64 d)))] [false, false, false, false, false, true] = some (AV.tup [AW.one (AC.int IntKind.i64 0), AW.one (AC.int IntKind.i64 4)], [(decide (y < 1), false), (decide (y < 1), false), (decide (y < 1), false), (decide (y > 9999), false), (decide (y > 9999), false), (decide (y > 9999), false), (decide (m < 1), false), (decide (m < 1), false), (decide (m < 1), false), (decide (m > 12), false), (decide (m > 12), false), (decide (m > 12), false), (decide (d < 1), false), (decide (d < 1), false), (decide (d < 1), false), (decide (d < 1), false), (y0B y, true), (m12B m, true), (decide (d < 1), false), (decide (d < 1), false), (decide (d > mlV y m), true)]) := by kernel_rfl
set_option maxRecDepth 100000 in
theorem rnf_l6 (y : Int) (m : Int) (d : Int) : evR (ctxLp Try.prog noFacts (fun _ => false) libR3 [] lpsRN) Try.f58 [(.w (.one (.int .i64 y))), (.w (.one (.int .i64 m))), (.w (.one (.int .i64 d)))] [false, false, false, false, false, false] = some (AV.tup [AW.one (AC.int IntKind.i64 (IntKind.i64.wrap (IntKind.i64.wrap (nyV y + mbV y (m - 1).toNat + d) - 1))), AW.one (AC.int IntKind.i64 0)], [(decide (y < 1), false), (decide (y < 1), false), (decide (y < 1), false), (decide (y > 9999), false), (decide (y > 9999), false), (decide (y > 9999), false), (decide (m < 1), false), (decide (m < 1), false), (decide (m < 1), false), (decide (m > 12), false), (decide (m > 12), false), (decide (m > 12), false), (decide (d < 1), false), (decide (d < 1), false), (decide (d < 1), false), (decide (d < 1), false), (y0B y, true), (m12B m, true), (decide (d < 1), false), (decide (d < 1), false), (decide (d > mlV y m), false), (yFB y, true), (decide (rnP y m (nyV y) 1) && decide ((1 : Int) = 1) && decide (nyV y ≤ 10000000), true)]) := by kernel_rfl
set_option maxRecDepth 100000 in
theorem rnf_t (y : Int) (m : Int) (d : Int) (s0 : (decide (y < 1)) = false → (decide (y > 9999)) = false → (decide (m < 1)) = false → (decide (m > 12)) = false → (decide (d < 1)) = false → (decide (d > mlV y m)) = true → (m12B m) = true) (s1 : (decide (y < 1)) = false → (decide (y > 9999)) = false → (decide (m < 1)) = false → (decide (m > 12)) = false → (decide (d < 1)) = false → (decide (d > mlV y m)) = true → (y0B y) = true) (s2 : (decide (y < 1)) = false → (decide (y > 9999)) = false → (decide (m < 1)) = false → (decide (m > 12)) = false → (decide (d < 1)) = false → (decide (d > mlV y m)) = false → (decide (rnP y m (nyV y) 1) && decide ((1 : Int) = 1) && decide (nyV y ≤ 10000000)) = true) (s3 : (decide (y < 1)) = false → (decide (y > 9999)) = false → (decide (m < 1)) = false → (decide (m > 12)) = false → (decide (d < 1)) = false → (decide (d > mlV y m)) = false → (yFB y) = true) (s4 : (decide (y < 1)) = false → (decide (y > 9999)) = false → (decide (m < 1)) = false → (decide (m > 12)) = false → (decide (d < 1)) = false → (decide (d > mlV y m)) = false → (m12B m) = true) (s5 : (decide (y < 1)) = false → (decide (y > 9999)) = false → (decide (m < 1)) = false → (decide (m > 12)) = false → (decide (d < 1)) = false → (decide (d > mlV y m)) = false → (y0B y) = true) : Pl Try.prog 58 [.int .i64 y, .int .i64 m, .int .i64 d] (AV.get ((bif decide (y < 1) then (AV.tup [AW.one (AC.int IntKind.i64 0), AW.one (AC.int IntKind.i64 4)]) else (bif decide (y > 9999) then (AV.tup [AW.one (AC.int IntKind.i64 0), AW.one (AC.int IntKind.i64 4)]) else (bif decide (m < 1) then (AV.tup [AW.one (AC.int IntKind.i64 0), AW.one (AC.int IntKind.i64 4)]) else (bif decide (m > 12) then (AV.tup [AW.one (AC.int IntKind.i64 0), AW.one (AC.int IntKind.i64 4)]) else (bif decide (d < 1) then (AV.tup [AW.one (AC.int IntKind.i64 0), AW.one (AC.int IntKind.i64 4)]) else (bif decide (d > mlV y m) then (AV.tup [AW.one (AC.int IntKind.i64 0), AW.one (AC.int IntKind.i64 4)]) else (AV.tup [AW.one (AC.int IntKind.i64 (IntKind.i64.wrap (IntKind.i64.wrap (nyV y + mbV y (m - 1).toNat + d) - 1))), AW.one (AC.int IntKind.i64 0)]))))))) : AV Empty)) :=
  (pl_node (fun h0 => (pl_leaf (hL := lps_RN) rfl (ctxLp_ok (libR3_ok _) (eq_none _) (fns_nil _) (fun f fn h => by cases h)) (by kernel_rfl) Try.func58 rfl (rnf_l0 y m d) rfl (all2_R (.cons rfl (.cons rfl (.cons rfl .nil)))) rfl (cd_cons h0 (cd_cons h0 (cd_cons h0 (cd_cons rfl (cd_cons rfl (cd_cons rfl (cd_cons rfl (cd_cons rfl (cd_cons rfl (cd_cons rfl (cd_cons rfl (cd_cons rfl (cd_cons rfl (cd_cons rfl (cd_cons rfl (cd_cons rfl (cd_cons rfl (cd_cons rfl (cd_cons rfl cd_nil))))))))))))))))))))) (fun h0 => (pl_node (fun h1 => (pl_leaf (hL := lps_RN) rfl (ctxLp_ok (libR3_ok _) (eq_none _) (fns_nil _) (fun f fn h => by cases h)) (by kernel_rfl) Try.func58 rfl (rnf_l1 y m d) rfl (all2_R (.cons rfl (.cons rfl (.cons rfl .nil)))) rfl (cd_cons h0 (cd_cons h0 (cd_cons h0 (cd_cons h1 (cd_cons h1 (cd_cons h1 (cd_cons rfl (cd_cons rfl (cd_cons rfl (cd_cons rfl (cd_cons rfl (cd_cons rfl (cd_cons rfl (cd_cons rfl (cd_cons rfl (cd_cons rfl (cd_cons rfl (cd_cons rfl (cd_cons rfl cd_nil))))))))))))))))))))) (fun h1 => (pl_node (fun h2 => (pl_leaf (hL := lps_RN) rfl (ctxLp_ok (libR3_ok _) (eq_none _) (fns_nil _) (fun f fn h => by cases h)) (by kernel_rfl) Try.func58 rfl (rnf_l2 y m d) rfl (all2_R (.cons rfl (.cons rfl (.cons rfl .nil)))) rfl (cd_cons h0 (cd_cons h0 (cd_cons h0 (cd_cons h1 (cd_cons h1 (cd_cons h1 (cd_cons h2 (cd_cons h2 (cd_cons h2 (cd_cons rfl (cd_cons rfl (cd_cons rfl (cd_cons rfl (cd_cons rfl (cd_cons rfl (cd_cons rfl (cd_cons rfl (cd_cons rfl (cd_cons rfl cd_nil))))))))))))))))))))) (fun h2 => (pl_node (fun h3 => (pl_leaf (hL := lps_RN) rfl (ctxLp_ok (libR3_ok _) (eq_none _) (fns_nil _) (fun f fn h => by cases h)) (by kernel_rfl) Try.func58 rfl (rnf_l3 y m d) rfl (all2_R (.cons rfl (.cons rfl (.cons rfl .nil)))) rfl (cd_cons h0 (cd_cons h0 (cd_cons h0 (cd_cons h1 (cd_cons h1 (cd_cons h1 (cd_cons h2 (cd_cons h2 (cd_cons h2 (cd_cons h3 (cd_cons h3 (cd_cons h3 (cd_cons rfl (cd_cons rfl (cd_cons rfl (cd_cons rfl (cd_cons rfl (cd_cons rfl (cd_cons rfl cd_nil))))))))))))))))))))) (fun h3 => (pl_node (fun h4 => (pl_leaf (hL := lps_RN) rfl (ctxLp_ok (libR3_ok _) (eq_none _) (fns_nil _) (fun f fn h => by cases h)) (by kernel_rfl) Try.func58 rfl (rnf_l4 y m d) rfl (all2_R (.cons rfl (.cons rfl (.cons rfl .nil)))) rfl (cd_cons h0 (cd_cons h0 (cd_cons h0 (cd_cons h1 (cd_cons h1 (cd_cons h1 (cd_cons h2 (cd_cons h2 (cd_cons h2 (cd_cons h3 (cd_cons h3 (cd_cons h3 (cd_cons h4 (cd_cons h4 (cd_cons h4 (cd_cons h4 (cd_cons h4 (cd_cons h4 (cd_cons rfl cd_nil))))))))))))))))))))) (fun h4 => (pl_node (fun h5 => (pl_leaf (hL := lps_RN) rfl (ctxLp_ok (libR3_ok _) (eq_none _) (fns_nil _) (fun f fn h => by cases h)) (by kernel_rfl) Try.func58 rfl (rnf_l5 y m d) rfl (all2_R (.cons rfl (.cons rfl (.cons rfl .nil)))) rfl (cd_cons h0 (cd_cons h0 (cd_cons h0 (cd_cons h1 (cd_cons h1 (cd_cons h1 (cd_cons h2 (cd_cons h2 (cd_cons h2 (cd_cons h3 (cd_cons h3 (cd_cons h3 (cd_cons h4 (cd_cons h4 (cd_cons h4 (cd_cons h4 (cd_cons (s1 h0 h1 h2 h3 h4 h5) (cd_cons (s0 h0 h1 h2 h3 h4 h5) (cd_cons h4 (cd_cons h4 (cd_cons h5 cd_nil))))))))))))))))))))))) (fun h5 => (pl_leaf (hL := lps_RN) rfl (ctxLp_ok (libR3_ok _) (eq_none _) (fns_nil _) (fun f fn h => by cases h)) (by kernel_rfl) Try.func58 rfl (rnf_l6 y m d) rfl (all2_R (.cons rfl (.cons rfl (.cons rfl .nil)))) rfl (cd_cons h0 (cd_cons h0 (cd_cons h0 (cd_cons h1 (cd_cons h1 (cd_cons h1 (cd_cons h2 (cd_cons h2 (cd_cons h2 (cd_cons h3 (cd_cons h3 (cd_cons h3 (cd_cons h4 (cd_cons h4 (cd_cons h4 (cd_cons h4 (cd_cons (s5 h0 h1 h2 h3 h4 h5) (cd_cons (s4 h0 h1 h2 h3 h4 h5) (cd_cons h4 (cd_cons h4 (cd_cons h5 (cd_cons (s3 h0 h1 h2 h3 h4 h5) (cd_cons (s2 h0 h1 h2 h3 h4 h5) cd_nil))))))))))))))))))))))))))))))))))))
theorem rnf_pl (y : Int) (m : Int) (d : Int)  : Pl Try.prog 58 [.int .i64 y, .int .i64 m, .int .i64 d] (.tuple #[.int .i64 (dnV y m d), .int .i64 (dnE y m d)]) := by
  refine Eq.mp (congrArg (Pl _ _ _) ?_) (rnf_t y m d (fun h0 h1 h2 h3 h4 h5 => by first | rfl | (simp only [decide_eq_false_iff_not, decide_eq_true_eq] at *; first | exact y0B_iff.2 (by omega) | exact m12B_iff.2 (by omega) | exact yFB_iff.2 (by omega) | exact (rn_in (y := y) (m := m) (d := d) (by omega) (by omega) (by omega) (by omega) (by omega) (by omega)).2)) (fun h0 h1 h2 h3 h4 h5 => by first | rfl | (simp only [decide_eq_false_iff_not, decide_eq_true_eq] at *; first | exact y0B_iff.2 (by omega) | exact m12B_iff.2 (by omega) | exact yFB_iff.2 (by omega) | exact (rn_in (y := y) (m := m) (d := d) (by omega) (by omega) (by omega) (by omega) (by omega) (by omega)).2)) (fun h0 h1 h2 h3 h4 h5 => by first | rfl | (simp only [decide_eq_false_iff_not, decide_eq_true_eq] at *; first | exact y0B_iff.2 (by omega) | exact m12B_iff.2 (by omega) | exact yFB_iff.2 (by omega) | exact (rn_in (y := y) (m := m) (d := d) (by omega) (by omega) (by omega) (by omega) (by omega) (by omega)).2)) (fun h0 h1 h2 h3 h4 h5 => by first | rfl | (simp only [decide_eq_false_iff_not, decide_eq_true_eq] at *; first | exact y0B_iff.2 (by omega) | exact m12B_iff.2 (by omega) | exact yFB_iff.2 (by omega) | exact (rn_in (y := y) (m := m) (d := d) (by omega) (by omega) (by omega) (by omega) (by omega) (by omega)).2)) (fun h0 h1 h2 h3 h4 h5 => by first | rfl | (simp only [decide_eq_false_iff_not, decide_eq_true_eq] at *; first | exact y0B_iff.2 (by omega) | exact m12B_iff.2 (by omega) | exact yFB_iff.2 (by omega) | exact (rn_in (y := y) (m := m) (d := d) (by omega) (by omega) (by omega) (by omega) (by omega) (by omega)).2)) (fun h0 h1 h2 h3 h4 h5 => by first | rfl | (simp only [decide_eq_false_iff_not, decide_eq_true_eq] at *; first | exact y0B_iff.2 (by omega) | exact m12B_iff.2 (by omega) | exact yFB_iff.2 (by omega) | exact (rn_in (y := y) (m := m) (d := d) (by omega) (by omega) (by omega) (by omega) (by omega) (by omega)).2)))
  by_cases a0 : y < 1
  · have e : okD y m d = false := by
      cases hh : okD y m d with
      | false => rfl
      | true => have := okD_iff.1 hh; omega
    have e1 : dnV y m d = 0 := by unfold dnV; rw [e]; rfl
    have e2 : dnE y m d = 4 := by unfold dnE; rw [e]; rfl
    rw [e1, e2, decide_eq_true a0]
    rfl
  · rw [decide_eq_false a0]
    by_cases a1 : y > 9999
    · have e : okD y m d = false := by
        cases hh : okD y m d with
        | false => rfl
        | true => have := okD_iff.1 hh; omega
      have e1 : dnV y m d = 0 := by unfold dnV; rw [e]; rfl
      have e2 : dnE y m d = 4 := by unfold dnE; rw [e]; rfl
      rw [e1, e2, decide_eq_true a1]
      rfl
    · rw [decide_eq_false a1]
      by_cases a2 : m < 1
      · have e : okD y m d = false := by
          cases hh : okD y m d with
          | false => rfl
          | true => have := okD_iff.1 hh; omega
        have e1 : dnV y m d = 0 := by unfold dnV; rw [e]; rfl
        have e2 : dnE y m d = 4 := by unfold dnE; rw [e]; rfl
        rw [e1, e2, decide_eq_true a2]
        rfl
      · rw [decide_eq_false a2]
        by_cases a3 : m > 12
        · have e : okD y m d = false := by
            cases hh : okD y m d with
            | false => rfl
            | true => have := okD_iff.1 hh; omega
          have e1 : dnV y m d = 0 := by unfold dnV; rw [e]; rfl
          have e2 : dnE y m d = 4 := by unfold dnE; rw [e]; rfl
          rw [e1, e2, decide_eq_true a3]
          rfl
        · rw [decide_eq_false a3]
          by_cases a4 : d < 1
          · have e : okD y m d = false := by
              cases hh : okD y m d with
              | false => rfl
              | true => have := okD_iff.1 hh; omega
            have e1 : dnV y m d = 0 := by unfold dnV; rw [e]; rfl
            have e2 : dnE y m d = 4 := by unfold dnE; rw [e]; rfl
            rw [e1, e2, decide_eq_true a4]
            rfl
          · rw [decide_eq_false a4]
            by_cases a5 : d > mlV y m
            · have e : okD y m d = false := by
                cases hh : okD y m d with
                | false => rfl
                | true => have := okD_iff.1 hh; omega
              have e1 : dnV y m d = 0 := by unfold dnV; rw [e]; rfl
              have e2 : dnE y m d = 4 := by unfold dnE; rw [e]; rfl
              rw [e1, e2, decide_eq_true a5]
              rfl
            · rw [decide_eq_false a5]
              have e : okD y m d = true := okD_iff.2 ⟨by omega, by omega, by omega, by omega, by omega, by omega⟩
              have e1 : dnV y m d = nyV y + d - 1 + mbV y (m - 1).toNat := by unfold dnV; rw [if_pos e]; omega
              have e2 : dnE y m d = 0 := by unfold dnE; rw [if_pos e]
              rw [e1, e2, (rn_in (y := y) (m := m) (d := d) (by omega) (by omega) (by omega) (by omega) (by omega) (by omega)).1]
              rfl
theorem rd_in {d : Int} (h : inD d = true) : nyV (raY d) + (d - nyV (raY d)) = d ∧ (inD d && decide ((2000 : Int) = 2000)) = true ∧ (inD d && decide (1 ≤ raY d) && decide (0 ≤ d - nyV (raY d)) && decide ((365 : Int) = 365)) = true ∧ nyV (dtY d) + (d - nyV (dtY d)) = d ∧ IntKind.i64.wrap (dtD d - 1 + 1) = dtD d ∧
    (decide (1 ≤ dtY d) && decide (dtY d ≤ 9999) && decide ((1 : Int) = 1) && decide (0 ≤ d - nyV (dtY d)) && decide (d - nyV (dtY d) < ylV (dtY d))) = true := by
  obtain ⟨e1, e2, e3, e4, e5, e6⟩ := date_in h
  obtain ⟨s1, s2, s3, s4⟩ := dt_span h
  have b : 1 ≤ raY d ∧ 0 ≤ d - nyV (raY d) := by
    unfold raY
    split
    · exact ⟨s1, by omega⟩
    · rw [ny_2000]; omega
  refine ⟨by omega, by rw [h]; rfl, ?_, e3, e4, e6⟩
  rw [h, decide_eq_true b.1, decide_eq_true b.2]; rfl
set_option maxHeartbeats 2000000 in
set_option maxRecDepth 100000 in
theorem rdf_l0 (d : Int) : evR (ctxLp Try.prog noFacts (fun _ => false) libR3 [] lpsRD) Try.f60 [(.w (.one (.int .i64 d)))] [true] = some (AV.tup [AW.one (AC.int IntKind.i64 0), AW.one (AC.int IntKind.i64 0), AW.one (AC.int IntKind.i64 0), AW.one (AC.int IntKind.i64 4)], [(yFB 1, true), (decide (d < nyV 1), true), (decide (d < nyV 1), true), (decide (d < nyV 1), true), (decide (d < nyV 1), true), (true, true)]) := by kernel_rfl
set_option maxRecDepth 100000 in
theorem rdf_l1 (d : Int) : evR (ctxLp Try.prog noFacts (fun _ => false) libR3 [] lpsRD) Try.f60 [(.w (.one (.int .i64 d)))] [false, true] = some (AV.tup [AW.one (AC.int IntKind.i64 0), AW.one (AC.int IntKind.i64 0), AW.one (AC.int IntKind.i64 0), AW.one (AC.int IntKind.i64 4)], [(yFB 1, true), (decide (d < nyV 1), false), (decide (d < nyV 1), false), (yFB 10000, true), (decide (d < nyV 1), false), (decide (d < nyV 1), false), (decide (d ≥ nyV 10000), true)]) := by kernel_rfl
set_option maxRecDepth 100000 in
theorem rdf_l2 (d : Int) : evR (ctxLp Try.prog noFacts (fun _ => false) libR3 [] lpsRD) Try.f60 [(.w (.one (.int .i64 d)))] [false, false] = some (AV.tup [AW.one (AC.int IntKind.i64 (dtY (nyV (raY d) + (d - nyV (raY d))))), AW.one (AC.int IntKind.i64 (dtM (nyV (dtY (nyV (raY d) + (d - nyV (raY d)))) + (nyV (raY d) + (d - nyV (raY d)) - nyV (dtY (nyV (raY d) + (d - nyV (raY d)))))))), AW.one (AC.int IntKind.i64 (IntKind.i64.wrap (dtD (nyV (dtY (nyV (raY d) + (d - nyV (raY d)))) + (nyV (raY d) + (d - nyV (raY d)) - nyV (dtY (nyV (raY d) + (d - nyV (raY d)))))) - 1 + 1))), AW.one (AC.int IntKind.i64 0)], [(yFB 1, true), (decide (d < nyV 1), false), (decide (d < nyV 1), false), (yFB 10000, true), (decide (d < nyV 1), false), (decide (d < nyV 1), false), (decide (d ≥ nyV 10000), false), (inD d && decide ((2000 : Int) = 2000), true), (inD (nyV (raY d) + (d - nyV (raY d))) && decide (1 ≤ raY d) && decide (0 ≤ d - nyV (raY d)) && decide ((365 : Int) = 365), true), (decide (1 ≤ dtY (nyV (raY d) + (d - nyV (raY d)))) && decide (dtY (nyV (raY d) + (d - nyV (raY d))) ≤ 9999) && decide ((1 : Int) = 1) && decide (0 ≤ nyV (raY d) + (d - nyV (raY d)) - nyV (dtY (nyV (raY d) + (d - nyV (raY d))))) && decide (nyV (raY d) + (d - nyV (raY d)) - nyV (dtY (nyV (raY d) + (d - nyV (raY d)))) < ylV (dtY (nyV (raY d) + (d - nyV (raY d))))), true)]) := by kernel_rfl
set_option maxRecDepth 100000 in
theorem rdf_t (d : Int) (s0 : (decide (d < nyV 1)) = true → (yFB 1) = true) (s1 : (decide (d < nyV 1)) = false → (decide (d ≥ nyV 10000)) = true → (yFB 10000) = true) (s2 : (decide (d < nyV 1)) = false → (decide (d ≥ nyV 10000)) = true → (yFB 1) = true) (s3 : (decide (d < nyV 1)) = false → (decide (d ≥ nyV 10000)) = false → (decide (1 ≤ dtY (nyV (raY d) + (d - nyV (raY d)))) && decide (dtY (nyV (raY d) + (d - nyV (raY d))) ≤ 9999) && decide ((1 : Int) = 1) && decide (0 ≤ nyV (raY d) + (d - nyV (raY d)) - nyV (dtY (nyV (raY d) + (d - nyV (raY d))))) && decide (nyV (raY d) + (d - nyV (raY d)) - nyV (dtY (nyV (raY d) + (d - nyV (raY d)))) < ylV (dtY (nyV (raY d) + (d - nyV (raY d)))))) = true) (s4 : (decide (d < nyV 1)) = false → (decide (d ≥ nyV 10000)) = false → (inD (nyV (raY d) + (d - nyV (raY d))) && decide (1 ≤ raY d) && decide (0 ≤ d - nyV (raY d)) && decide ((365 : Int) = 365)) = true) (s5 : (decide (d < nyV 1)) = false → (decide (d ≥ nyV 10000)) = false → (inD d && decide ((2000 : Int) = 2000)) = true) (s6 : (decide (d < nyV 1)) = false → (decide (d ≥ nyV 10000)) = false → (yFB 10000) = true) (s7 : (decide (d < nyV 1)) = false → (decide (d ≥ nyV 10000)) = false → (yFB 1) = true) : Pl Try.prog 60 [.int .i64 d] (AV.get ((bif decide (d < nyV 1) then (AV.tup [AW.one (AC.int IntKind.i64 0), AW.one (AC.int IntKind.i64 0), AW.one (AC.int IntKind.i64 0), AW.one (AC.int IntKind.i64 4)]) else (bif decide (d ≥ nyV 10000) then (AV.tup [AW.one (AC.int IntKind.i64 0), AW.one (AC.int IntKind.i64 0), AW.one (AC.int IntKind.i64 0), AW.one (AC.int IntKind.i64 4)]) else (AV.tup [AW.one (AC.int IntKind.i64 (dtY (nyV (raY d) + (d - nyV (raY d))))), AW.one (AC.int IntKind.i64 (dtM (nyV (dtY (nyV (raY d) + (d - nyV (raY d)))) + (nyV (raY d) + (d - nyV (raY d)) - nyV (dtY (nyV (raY d) + (d - nyV (raY d)))))))), AW.one (AC.int IntKind.i64 (IntKind.i64.wrap (dtD (nyV (dtY (nyV (raY d) + (d - nyV (raY d)))) + (nyV (raY d) + (d - nyV (raY d)) - nyV (dtY (nyV (raY d) + (d - nyV (raY d)))))) - 1 + 1))), AW.one (AC.int IntKind.i64 0)]))) : AV Empty)) :=
  (pl_node (fun h0 => (pl_leaf (hL := lps_RD) rfl (ctxLp_ok (libR3_ok _) (eq_none _) (fns_nil _) (fun f fn h => by cases h)) (by kernel_rfl) Try.func60 rfl (rdf_l0 d) rfl (all2_R (.cons rfl .nil)) rfl (cd_cons (s0 h0) (cd_cons h0 (cd_cons h0 (cd_cons h0 (cd_cons h0 (cd_cons rfl cd_nil)))))))) (fun h0 => (pl_node (fun h1 => (pl_leaf (hL := lps_RD) rfl (ctxLp_ok (libR3_ok _) (eq_none _) (fns_nil _) (fun f fn h => by cases h)) (by kernel_rfl) Try.func60 rfl (rdf_l1 d) rfl (all2_R (.cons rfl .nil)) rfl (cd_cons (s2 h0 h1) (cd_cons h0 (cd_cons h0 (cd_cons (s1 h0 h1) (cd_cons h0 (cd_cons h0 (cd_cons h1 cd_nil))))))))) (fun h1 => (pl_leaf (hL := lps_RD) rfl (ctxLp_ok (libR3_ok _) (eq_none _) (fns_nil _) (fun f fn h => by cases h)) (by kernel_rfl) Try.func60 rfl (rdf_l2 d) rfl (all2_R (.cons rfl .nil)) rfl (cd_cons (s7 h0 h1) (cd_cons h0 (cd_cons h0 (cd_cons (s6 h0 h1) (cd_cons h0 (cd_cons h0 (cd_cons h1 (cd_cons (s5 h0 h1) (cd_cons (s4 h0 h1) (cd_cons (s3 h0 h1) cd_nil)))))))))))))))
theorem rdf_pl (d : Int)  : Pl Try.prog 60 [.int .i64 d] (.tuple #[.int .i64 (dtY d), .int .i64 (dtM d), .int .i64 (dtD d), .int .i64 (dtE d)]) := by
  refine Eq.mp (congrArg (Pl _ _ _) ?_) (rdf_t d (fun h0 => by first | rfl | (simp only [decide_eq_false_iff_not, decide_eq_true_eq] at *; have h := inD_iff.2 (show nyV 1 ≤ d ∧ d < nyV 10000 by omega); obtain ⟨e1, e2, e3, e4, e5, e6⟩ := rd_in h; first | exact e2 | (rw [e1]; exact e3) | (rw [e1]; exact e6) | (rw [e1, e4]; exact e6))) (fun h0 h1 => by first | rfl | (simp only [decide_eq_false_iff_not, decide_eq_true_eq] at *; have h := inD_iff.2 (show nyV 1 ≤ d ∧ d < nyV 10000 by omega); obtain ⟨e1, e2, e3, e4, e5, e6⟩ := rd_in h; first | exact e2 | (rw [e1]; exact e3) | (rw [e1]; exact e6) | (rw [e1, e4]; exact e6))) (fun h0 h1 => by first | rfl | (simp only [decide_eq_false_iff_not, decide_eq_true_eq] at *; have h := inD_iff.2 (show nyV 1 ≤ d ∧ d < nyV 10000 by omega); obtain ⟨e1, e2, e3, e4, e5, e6⟩ := rd_in h; first | exact e2 | (rw [e1]; exact e3) | (rw [e1]; exact e6) | (rw [e1, e4]; exact e6))) (fun h0 h1 => by first | rfl | (simp only [decide_eq_false_iff_not, decide_eq_true_eq] at *; have h := inD_iff.2 (show nyV 1 ≤ d ∧ d < nyV 10000 by omega); obtain ⟨e1, e2, e3, e4, e5, e6⟩ := rd_in h; first | exact e2 | (rw [e1]; exact e3) | (rw [e1]; exact e6) | (rw [e1, e4]; exact e6))) (fun h0 h1 => by first | rfl | (simp only [decide_eq_false_iff_not, decide_eq_true_eq] at *; have h := inD_iff.2 (show nyV 1 ≤ d ∧ d < nyV 10000 by omega); obtain ⟨e1, e2, e3, e4, e5, e6⟩ := rd_in h; first | exact e2 | (rw [e1]; exact e3) | (rw [e1]; exact e6) | (rw [e1, e4]; exact e6))) (fun h0 h1 => by first | rfl | (simp only [decide_eq_false_iff_not, decide_eq_true_eq] at *; have h := inD_iff.2 (show nyV 1 ≤ d ∧ d < nyV 10000 by omega); obtain ⟨e1, e2, e3, e4, e5, e6⟩ := rd_in h; first | exact e2 | (rw [e1]; exact e3) | (rw [e1]; exact e6) | (rw [e1, e4]; exact e6))) (fun h0 h1 => by first | rfl | (simp only [decide_eq_false_iff_not, decide_eq_true_eq] at *; have h := inD_iff.2 (show nyV 1 ≤ d ∧ d < nyV 10000 by omega); obtain ⟨e1, e2, e3, e4, e5, e6⟩ := rd_in h; first | exact e2 | (rw [e1]; exact e3) | (rw [e1]; exact e6) | (rw [e1, e4]; exact e6))) (fun h0 h1 => by first | rfl | (simp only [decide_eq_false_iff_not, decide_eq_true_eq] at *; have h := inD_iff.2 (show nyV 1 ≤ d ∧ d < nyV 10000 by omega); obtain ⟨e1, e2, e3, e4, e5, e6⟩ := rd_in h; first | exact e2 | (rw [e1]; exact e3) | (rw [e1]; exact e6) | (rw [e1, e4]; exact e6))))
  by_cases h : inD d = true
  · have g := inD_iff.1 h
    obtain ⟨e1, e2, e3, e4, e5, e6⟩ := rd_in h
    rw [decide_eq_false (show ¬ d < nyV 1 by omega), decide_eq_false (show ¬ d ≥ nyV 10000 by omega), e1, e4, e5]
    have e7 : dtE d = 0 := if_pos h
    rw [e7]
    rfl
  · have h0 : inD d = false := by simpa using h
    obtain ⟨e1, e2, e3⟩ := dt_no h0
    have e4 : dtE d = 4 := if_neg h
    rw [e1, e2, e3, e4]
    by_cases a : d < nyV 1
    · rw [decide_eq_true a]; rfl
    · rw [decide_eq_false a]
      by_cases b : d ≥ nyV 10000
      · rw [decide_eq_true b]; rfl
      · exact absurd (inD_iff.2 ⟨by omega, by omega⟩) h
noncomputable abbrev dayNS : FnSp F := sp3 (dInt .i64) (dInt .i64) (dInt .i64) (fun y m d => .tup [.one (.int .i64 (dnV y m d)), .one (.int .i64 (dnE y m d))]) (fun _ _ _ => [])
noncomputable abbrev libLD : List (Nat × FnSp Empty) := [(61, sp0 (.w (.one (.yes true)))), (57, daysS), (58, dayNS), (59, dateS), (60, dateS)]
theorem libLD_ok : LibOk Try.prog noFacts (lib1 libLD) := lib1_cons (sp0_ok rfl sfact_pl) Try.call61 (lib1_cons (daysS_ok _) Try.call57 (lib1_cons (sp3_ok fun y m d _ => ⟨_, rfl, rnf_pl y m d⟩) Try.call58 (lib1_cons (dateS_ok _) Try.call59 (lib1_cons (sp1_ok fun d _ => ⟨_, rfl, rdf_pl d⟩) Try.call60 (lib1_nil _ _)))))
set_option maxRecDepth 100000 in
theorem ld_11111 (y : Int) (m : Int) (d : Int) (n : Int) : evR (ctxOf Try.prog noFacts (fun _ => false) libLD) Try.f9 [(.w (.one (.int .i64 y))), (.w (.one (.int .i64 m))), (.w (.one (.int .i64 d))), (.w (.one (.int .i64 n)))] [true, true, true, true, true] = some (AV.w (AW.one (AC.bool (dtE n == dtE n))), (pickL [(true, true), (dnV y m d == dnV y m d, true), (dnE y m d == dnE y m d, true), (dtY n == dtY n, true), (dtM n == dtM n, true), (dtD n == dtD n, true)] [0, 0, 0, 0, 1, 1, 1, 1, 2, 2, 2, 2, 3, 3, 3, 3, 4, 4, 4, 4, 5, 5, 5, 5])) := by kernel_rfl
set_option maxRecDepth 100000 in
theorem scaleDates_law (y : Int) (y1 : -9223372036854775808 ≤ y) (y2 : y ≤ 9223372036854775807) (m : Int) (m1 : -9223372036854775808 ≤ m) (m2 : m ≤ 9223372036854775807) (d : Int) (d1 : -9223372036854775808 ≤ d) (d2 : d ≤ 9223372036854775807) (n : Int) (n1 : -9223372036854775808 ≤ n) (n2 : n ≤ 9223372036854775807) (w : World) : Calls Try.prog 9 #[.int .i64 y, .int .i64 m, .int .i64 d, .int .i64 n] w fun e w' => e = .returned (.bool true) ∧ Below w.heap.size w w' := by
  have k0 : (dnV y m d == dnV y m d) = true := beq_self_eq_true _
  have k1 : (dnE y m d == dnE y m d) = true := beq_self_eq_true _
  have k2 : (dtY n == dtY n) = true := beq_self_eq_true _
  have k3 : (dtM n == dtM n) = true := beq_self_eq_true _
  have k4 : (dtD n == dtD n) = true := beq_self_eq_true _
  have L := ld_11111 y m d n
  have V : (dtE n == dtE n) = true := by
    exact beq_self_eq_true _
  refine evR_calls (I := noFacts) (v := .bool true) (ctxOf_ok libLD_ok (eq_none _)) (by kernel_rfl) Try.func9 rfl lps_nil L rfl (all2_R (.cons rfl (.cons rfl (.cons rfl (.cons rfl .nil))))) (congrArg (fun b => some (Value.bool b)) V) _ (Nat.zero_le _) (pickL_ok ?_ _)
  repeat' (first | exact cd_nil | refine cd_cons ?_ ?_)
  all_goals first | rfl | with_reducible assumption
end
end Go.Proofs.Ytoaoifiklnbknaa

