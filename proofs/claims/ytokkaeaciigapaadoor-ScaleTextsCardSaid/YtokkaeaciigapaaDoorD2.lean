/-
  Package scale: Days and Date as functions of their arguments.
  Conditions: none.
-/
import Derived.Test.YtokkaeaciigapaaDoorD1
set_option linter.unusedVariables false
set_option linter.unusedSimpArgs false
namespace Go.Proofs.YtokkaeaciigapaaDoor
open Go.RowKit Ev Sc
variable {F : Type}
noncomputable section

noncomputable abbrev lpsDays : Lps Empty := [((51, [false, true, false, true, true, true]), dlD.sp (fun _ => false))]
theorem lps_Days : LpsOk Tryd.prog noFacts lpsDays Tryd.f19.ntmps (bodyOf Tryd.f19) := lps_cons (fun _ x hx => dlD_ok x hx) lps_nil
theorem days_in {y m d : Int} (h1 : 1 ≤ y) (h2 : y ≤ 9999) (h3 : 1 ≤ m) (h4 : m ≤ 12) (h5 : 1 ≤ d) (h6 : d ≤ mlV y m) : IntKind.i64.wrap (IntKind.i64.wrap (nyV y + d) - 1) = nyV y + d - 1 ∧ (decide (dlP y m (nyV y + d - 1) 1) && decide ((1 : Int) = 1) && decide (nyV y + d - 1 ≤ 10000000)) = true := by
  have a := ny_mono h1
  have b := ny_mono (show y ≤ 10000 by omega)
  rw [show nyV 1 = -730119 from by decide] at a
  rw [show nyV 10000 = 2921940 from by decide] at b
  have c := ml_in y m
  refine ⟨by rw [w64 (x := nyV y + d) (by omega) (by omega), w64 (by omega) (by omega)], ?_⟩
  rw [decide_eq_true (show dlP y m (nyV y + d - 1) 1 from ⟨h1, h2, by omega, by omega, h4, by omega, by omega⟩), decide_eq_true (show nyV y + d - 1 ≤ 10000000 by omega)]
  rfl
set_option maxHeartbeats 2000000 in
set_option maxRecDepth 100000 in
theorem daysf_l0 (y : Int) (m : Int) (d : Int) : evR (ctxLp Tryd.prog noFacts (fun _ => false) libQ2 [] lpsDays) Tryd.f19 [(.w (.one (.int .i64 y))), (.w (.one (.int .i64 m))), (.w (.one (.int .i64 d)))] [true] = some (AV.tup [AW.one (AC.int IntKind.i64 0), AW.one (AC.int IntKind.i64 4)], [(decide (y < 1), true), (decide (y < 1), true), (decide (y < 1), true), (true, true), (true, true), (true, true), (true, true), (true, true), (true, true), (true, true), (true, true), (true, true), (true, true), (true, true), (true, true), (true, true), (true, true), (true, true), (true, true)]) := by kernel_rfl
set_option maxRecDepth 100000 in
theorem daysf_l1 (y : Int) (m : Int) (d : Int) : evR (ctxLp Tryd.prog noFacts (fun _ => false) libQ2 [] lpsDays) Tryd.f19 [(.w (.one (.int .i64 y))), (.w (.one (.int .i64 m))), (.w (.one (.int .i64 d)))] [false, true] = some (AV.tup [AW.one (AC.int IntKind.i64 0), AW.one (AC.int IntKind.i64 4)], [(decide (y < 1), false), (decide (y < 1), false), (decide (y < 1), false), (decide (y > 9999), true), (decide (y > 9999), true), (decide (y > 9999), true), (true, true), (true, true), (true, true), (true, true), (true, true), (true, true), (true, true), (true, true), (true, true), (true, true), (true, true), (true, true), (true, true)]) := by kernel_rfl
set_option maxRecDepth 100000 in
theorem daysf_l2 (y : Int) (m : Int) (d : Int) : evR (ctxLp Tryd.prog noFacts (fun _ => false) libQ2 [] lpsDays) Tryd.f19 [(.w (.one (.int .i64 y))), (.w (.one (.int .i64 m))), (.w (.one (.int .i64 d)))] [false, false, true] = some (AV.tup [AW.one (AC.int IntKind.i64 0), AW.one (AC.int IntKind.i64 4)], [(decide (y < 1), false), (decide (y < 1), false), (decide (y < 1), false), (decide (y > 9999), false), (decide (y > 9999), false), (decide (y > 9999), false), (decide (m < 1), true), (decide (m < 1), true), (decide (m < 1), true), (true, true), (true, true), (true, true), (true, true), (true, true), (true, true), (true, true), (true, true), (true, true), (true, true)]) := by kernel_rfl
set_option maxRecDepth 100000 in
theorem daysf_l3 (y : Int) (m : Int) (d : Int) : evR (ctxLp Tryd.prog noFacts (fun _ => false) libQ2 [] lpsDays) Tryd.f19 [(.w (.one (.int .i64 y))), (.w (.one (.int .i64 m))), (.w (.one (.int .i64 d)))] [false, false, false, true] = some (AV.tup [AW.one (AC.int IntKind.i64 0), AW.one (AC.int IntKind.i64 4)], [(decide (y < 1), false), (decide (y < 1), false), (decide (y < 1), false), (decide (y > 9999), false), (decide (y > 9999), false), (decide (y > 9999), false), (decide (m < 1), false), (decide (m < 1), false), (decide (m < 1), false), (decide (m > 12), true), (decide (m > 12), true), (decide (m > 12), true), (true, true), (true, true), (true, true), (true, true), (true, true), (true, true), (true, true)]) := by kernel_rfl
set_option maxRecDepth 100000 in
theorem daysf_l4 (y : Int) (m : Int) (d : Int) : evR (ctxLp Tryd.prog noFacts (fun _ => false) libQ2 [] lpsDays) Tryd.f19 [(.w (.one (.int .i64 y))), (.w (.one (.int .i64 m))), (.w (.one (.int .i64 d)))] [false, false, false, false, true] = some (AV.tup [AW.one (AC.int IntKind.i64 0), AW.one (AC.int IntKind.i64 4)], [(decide (y < 1), false), (decide (y < 1), false), (decide (y < 1), false), (decide (y > 9999), false), (decide (y > 9999), false), (decide (y > 9999), false), (decide (m < 1), false), (decide (m < 1), false), (decide (m < 1), false), (decide (m > 12), false), (decide (m > 12), false), (decide (m > 12), false), (decide (d < 1), true), (decide (d < 1), true), (decide (d < 1), true), (decide (d < 1), true), (decide (d < 1), true), (decide (d < 1), true), (true, true)]) := by kernel_rfl
set_option maxRecDepth 100000 in
theorem daysf_l5 (y : Int) (m : Int) (d : Int) : evR (ctxLp Tryd.prog noFacts (fun _ => false) libQ2 [] lpsDays) Tryd.f19 [(.w (.one (.int .i64 y))), (.w (.one (.int .i64 m))), (.w (.one (.int .i64 d)))] [false, false, false, false, false, true] = some (AV.tup [AW.one (AC.int IntKind.i64 0), AW.one (AC.int IntKind.i64 4)], [(decide (y < 1), false), (decide (y < 1), false), (decide (y < 1), false), (decide (y > 9999), false), (decide (y > 9999), false), (decide (y > 9999), false), (decide (m < 1), false), (decide (m < 1), false), (decide (m < 1), false), (decide (m > 12), false), (decide (m > 12), false), (decide (m > 12), false), (decide (d < 1), false), (decide (d < 1), false), (decide (d < 1), false), (decide (d < 1), false), (y1B y, true), (decide (d < 1), false), (decide (d < 1), false), (decide (d > mlV y m), true)]) := by kernel_rfl
set_option maxRecDepth 100000 in
theorem daysf_l6 (y : Int) (m : Int) (d : Int) : evR (ctxLp Tryd.prog noFacts (fun _ => false) libQ2 [] lpsDays) Tryd.f19 [(.w (.one (.int .i64 y))), (.w (.one (.int .i64 m))), (.w (.one (.int .i64 d)))] [false, false, false, false, false, false] = some (AV.tup [AW.one (AC.int IntKind.i64 (IntKind.i64.wrap (IntKind.i64.wrap (nyV y + d) - 1) + mbV y (m - 1).toNat)), AW.one (AC.int IntKind.i64 0)], [(decide (y < 1), false), (decide (y < 1), false), (decide (y < 1), false), (decide (y > 9999), false), (decide (y > 9999), false), (decide (y > 9999), false), (decide (m < 1), false), (decide (m < 1), false), (decide (m < 1), false), (decide (m > 12), false), (decide (m > 12), false), (decide (m > 12), false), (decide (d < 1), false), (decide (d < 1), false), (decide (d < 1), false), (decide (d < 1), false), (y1B y, true), (decide (d < 1), false), (decide (d < 1), false), (decide (d > mlV y m), false), (y1B y, true), (decide (dlP y m (IntKind.i64.wrap (IntKind.i64.wrap (nyV y + d) - 1)) 1) && decide (1 = 1) && decide (IntKind.i64.wrap (IntKind.i64.wrap (nyV y + d) - 1) ≤ 10000000), true)]) := by kernel_rfl
set_option maxRecDepth 100000 in
theorem daysf_t (y : Int) (m : Int) (d : Int) (s0 : (decide (y < 1)) = false → (decide (y > 9999)) = false → (decide (m < 1)) = false → (decide (m > 12)) = false → (decide (d < 1)) = false → (decide (d > mlV y m)) = true → (y1B y) = true) (s1 : (decide (y < 1)) = false → (decide (y > 9999)) = false → (decide (m < 1)) = false → (decide (m > 12)) = false → (decide (d < 1)) = false → (decide (d > mlV y m)) = false → (decide (dlP y m (IntKind.i64.wrap (IntKind.i64.wrap (nyV y + d) - 1)) 1) && decide (1 = 1) && decide (IntKind.i64.wrap (IntKind.i64.wrap (nyV y + d) - 1) ≤ 10000000)) = true) (s2 : (decide (y < 1)) = false → (decide (y > 9999)) = false → (decide (m < 1)) = false → (decide (m > 12)) = false → (decide (d < 1)) = false → (decide (d > mlV y m)) = false → (y1B y) = true) : Pl Tryd.prog 19 [.int .i64 y, .int .i64 m, .int .i64 d] (AV.get ((bif decide (y < 1) then (AV.tup [AW.one (AC.int IntKind.i64 0), AW.one (AC.int IntKind.i64 4)]) else (bif decide (y > 9999) then (AV.tup [AW.one (AC.int IntKind.i64 0), AW.one (AC.int IntKind.i64 4)]) else (bif decide (m < 1) then (AV.tup [AW.one (AC.int IntKind.i64 0), AW.one (AC.int IntKind.i64 4)]) else (bif decide (m > 12) then (AV.tup [AW.one (AC.int IntKind.i64 0), AW.one (AC.int IntKind.i64 4)]) else (bif decide (d < 1) then (AV.tup [AW.one (AC.int IntKind.i64 0), AW.one (AC.int IntKind.i64 4)]) else (bif decide (d > mlV y m) then (AV.tup [AW.one (AC.int IntKind.i64 0), AW.one (AC.int IntKind.i64 4)]) else (AV.tup [AW.one (AC.int IntKind.i64 (IntKind.i64.wrap (IntKind.i64.wrap (nyV y + d) - 1) + mbV y (m - 1).toNat)), AW.one (AC.int IntKind.i64 0)]))))))) : AV Empty)) :=
  (pl_node (fun h0 => (pl_leaf (hL := lps_Days) rfl (ctxLp_ok (libQ2_ok _) (eq_none _) (fns_nil _) (fun f fn h => by cases h)) (by kernel_rfl) Tryd.func19 rfl (daysf_l0 y m d) rfl (all2_R (.cons rfl (.cons rfl (.cons rfl .nil)))) rfl (cd_cons h0 (cd_cons h0 (cd_cons h0 (cd_cons rfl (cd_cons rfl (cd_cons rfl (cd_cons rfl (cd_cons rfl (cd_cons rfl (cd_cons rfl (cd_cons rfl (cd_cons rfl (cd_cons rfl (cd_cons rfl (cd_cons rfl (cd_cons rfl (cd_cons rfl (cd_cons rfl (cd_cons rfl cd_nil))))))))))))))))))))) (fun h0 => (pl_node (fun h1 => (pl_leaf (hL := lps_Days) rfl (ctxLp_ok (libQ2_ok _) (eq_none _) (fns_nil _) (fun f fn h => by cases h)) (by kernel_rfl) Tryd.func19 rfl (daysf_l1 y m d) rfl (all2_R (.cons rfl (.cons rfl (.cons rfl .nil)))) rfl (cd_cons h0 (cd_cons h0 (cd_cons h0 (cd_cons h1 (cd_cons h1 (cd_cons h1 (cd_cons rfl (cd_cons rfl (cd_cons rfl (cd_cons rfl (cd_cons rfl (cd_cons rfl (cd_cons rfl (cd_cons rfl (cd_cons rfl (cd_cons rfl (cd_cons rfl (cd_cons rfl (cd_cons rfl cd_nil))))))))))))))))))))) (fun h1 => (pl_node (fun h2 => (pl_leaf (hL := lps_Days) rfl (ctxLp_ok (libQ2_ok _) (eq_none _) (fns_nil _) (fun f fn h => by cases h)) (by kernel_rfl) Tryd.func19 rfl (daysf_l2 y m d) rfl (all2_R (.cons rfl (.cons rfl (.cons rfl .nil)))) rfl (cd_cons h0 (cd_cons h0 (cd_cons h0 (cd_cons h1 (cd_cons h1 (cd_cons h1 (cd_cons h2 (cd_cons h2 (cd_cons h2 (cd_cons rfl (cd_cons rfl (cd_cons rfl (cd_cons rfl (cd_cons rfl (cd_cons rfl (cd_cons rfl (cd_cons rfl (cd_cons rfl (cd_cons rfl cd_nil))))))))))))))))))))) (fun h2 => (pl_node (fun h3 => (pl_leaf (hL := lps_Days) rfl (ctxLp_ok (libQ2_ok _) (eq_none _) (fns_nil _) (fun f fn h => by cases h)) (by kernel_rfl) Tryd.func19 rfl (daysf_l3 y m d) rfl (all2_R (.cons rfl (.cons rfl (.cons rfl .nil)))) rfl (cd_cons h0 (cd_cons h0 (cd_cons h0 (cd_cons h1 (cd_cons h1 (cd_cons h1 (cd_cons h2 (cd_cons h2 (cd_cons h2 (cd_cons h3 (cd_cons h3 (cd_cons h3 (cd_cons rfl (cd_cons rfl (cd_cons rfl (cd_cons rfl (cd_cons rfl (cd_cons rfl (cd_cons rfl cd_nil))))))))))))))))))))) (fun h3 => (pl_node (fun h4 => (pl_leaf (hL := lps_Days) rfl (ctxLp_ok (libQ2_ok _) (eq_none _) (fns_nil _) (fun f fn h => by cases h)) (by kernel_rfl) Tryd.func19 rfl (daysf_l4 y m d) rfl (all2_R (.cons rfl (.cons rfl (.cons rfl .nil)))) rfl (cd_cons h0 (cd_cons h0 (cd_cons h0 (cd_cons h1 (cd_cons h1 (cd_cons h1 (cd_cons h2 (cd_cons h2 (cd_cons h2 (cd_cons h3 (cd_cons h3 (cd_cons h3 (cd_cons h4 (cd_cons h4 (cd_cons h4 (cd_cons h4 (cd_cons h4 (cd_cons h4 (cd_cons rfl cd_nil))))))))))))))))))))) (fun h4 => (pl_node (fun h5 => (pl_leaf (hL := lps_Days) rfl (ctxLp_ok (libQ2_ok _) (eq_none _) (fns_nil _) (fun f fn h => by cases h)) (by kernel_rfl) Tryd.func19 rfl (daysf_l5 y m d) rfl (all2_R (.cons rfl (.cons rfl (.cons rfl .nil)))) rfl (cd_cons h0 (cd_cons h0 (cd_cons h0 (cd_cons h1 (cd_cons h1 (cd_cons h1 (cd_cons h2 (cd_cons h2 (cd_cons h2 (cd_cons h3 (cd_cons h3 (cd_cons h3 (cd_cons h4 (cd_cons h4 (cd_cons h4 (cd_cons h4 (cd_cons (s0 h0 h1 h2 h3 h4 h5) (cd_cons h4 (cd_cons h4 (cd_cons h5 cd_nil)))))))))))))))))))))) (fun h5 => (pl_leaf (hL := lps_Days) rfl (ctxLp_ok (libQ2_ok _) (eq_none _) (fns_nil _) (fun f fn h => by cases h)) (by kernel_rfl) Tryd.func19 rfl (daysf_l6 y m d) rfl (all2_R (.cons rfl (.cons rfl (.cons rfl .nil)))) rfl (cd_cons h0 (cd_cons h0 (cd_cons h0 (cd_cons h1 (cd_cons h1 (cd_cons h1 (cd_cons h2 (cd_cons h2 (cd_cons h2 (cd_cons h3 (cd_cons h3 (cd_cons h3 (cd_cons h4 (cd_cons h4 (cd_cons h4 (cd_cons h4 (cd_cons (s2 h0 h1 h2 h3 h4 h5) (cd_cons h4 (cd_cons h4 (cd_cons h5 (cd_cons (s2 h0 h1 h2 h3 h4 h5) (cd_cons (s1 h0 h1 h2 h3 h4 h5) cd_nil)))))))))))))))))))))))))))))))))))
theorem daysf_pl (y : Int) (m : Int) (d : Int)  : Pl Tryd.prog 19 [.int .i64 y, .int .i64 m, .int .i64 d] (.tuple #[.int .i64 (dnV y m d), .int .i64 (dnE y m d)]) := by
  refine Eq.mp (congrArg (Pl _ _ _) ?_) (daysf_t y m d (fun h0 h1 h2 h3 h4 h5 => by first | rfl | (simp only [decide_eq_false_iff_not, decide_eq_true_eq] at *; first | exact y1B_iff.2 (by omega) | (rw [(days_in (y := y) (m := m) (d := d) (by omega) (by omega) (by omega) (by omega) (by omega) (by omega)).1]; exact (days_in (y := y) (m := m) (d := d) (by omega) (by omega) (by omega) (by omega) (by omega) (by omega)).2))) (fun h0 h1 h2 h3 h4 h5 => by first | rfl | (simp only [decide_eq_false_iff_not, decide_eq_true_eq] at *; first | exact y1B_iff.2 (by omega) | (rw [(days_in (y := y) (m := m) (d := d) (by omega) (by omega) (by omega) (by omega) (by omega) (by omega)).1]; exact (days_in (y := y) (m := m) (d := d) (by omega) (by omega) (by omega) (by omega) (by omega) (by omega)).2))) (fun h0 h1 h2 h3 h4 h5 => by first | rfl | (simp only [decide_eq_false_iff_not, decide_eq_true_eq] at *; first | exact y1B_iff.2 (by omega) | (rw [(days_in (y := y) (m := m) (d := d) (by omega) (by omega) (by omega) (by omega) (by omega) (by omega)).1]; exact (days_in (y := y) (m := m) (d := d) (by omega) (by omega) (by omega) (by omega) (by omega) (by omega)).2))))
  by_cases a0 : y < 1
  · have e : okD y m d = false := by
      cases hh : okD y m d with
      | false => rfl
      | true => have := okD_iff.1 hh; omega
    have e1 : dnV y m d = 0 := by unfold dnV; rw [e]; rfl
    have e2 : dnE y m d = 4 := by unfold dnE; rw [e]; rfl
    rw [e1, e2, decide_eq_true a0]
    rfl
  · rw [decide_eq_false a0]
    by_cases a1 : y > 9999
    · have e : okD y m d = false := by
        cases hh : okD y m d with
        | false => rfl
        | true => have := okD_iff.1 hh; omega
      have e1 : dnV y m d = 0 := by unfold dnV; rw [e]; rfl
      have e2 : dnE y m d = 4 := by unfold dnE; rw [e]; rfl
      rw [e1, e2, decide_eq_true a1]
      rfl
    · rw [decide_eq_false a1]
      by_cases a2 : m < 1
      · have e : okD y m d = false := by
          cases hh : okD y m d with
          | false => rfl
          | true => have := okD_iff.1 hh; omega
        have e1 : dnV y m d = 0 := by unfold dnV; rw [e]; rfl
        have e2 : dnE y m d = 4 := by unfold dnE; rw [e]; rfl
        rw [e1, e2, decide_eq_true a2]
        rfl
      · rw [decide_eq_false a2]
        by_cases a3 : m > 12
        · have e : okD y m d = false := by
            cases hh : okD y m d with
            | false => rfl
            | true => have := okD_iff.1 hh; omega
          have e1 : dnV y m d = 0 := by unfold dnV; rw [e]; rfl
          have e2 : dnE y m d = 4 := by unfold dnE; rw [e]; rfl
          rw [e1, e2, decide_eq_true a3]
          rfl
        · rw [decide_eq_false a3]
          by_cases a4 : d < 1
          · have e : okD y m d = false := by
              cases hh : okD y m d with
              | false => rfl
              | true => have := okD_iff.1 hh; omega
            have e1 : dnV y m d = 0 := by unfold dnV; rw [e]; rfl
            have e2 : dnE y m d = 4 := by unfold dnE; rw [e]; rfl
            rw [e1, e2, decide_eq_true a4]
            rfl
          · rw [decide_eq_false a4]
            by_cases a5 : d > mlV y m
            · have e : okD y m d = false := by
                cases hh : okD y m d with
                | false => rfl
                | true => have := okD_iff.1 hh; omega
              have e1 : dnV y m d = 0 := by unfold dnV; rw [e]; rfl
              have e2 : dnE y m d = 4 := by unfold dnE; rw [e]; rfl
              rw [e1, e2, decide_eq_true a5]
              rfl
            · rw [decide_eq_false a5]
              have e : okD y m d = true := okD_iff.2 ⟨by omega, by omega, by omega, by omega, by omega, by omega⟩
              have e1 : dnV y m d = nyV y + d - 1 + mbV y (m - 1).toNat := by unfold dnV; rw [if_pos e]; omega
              have e2 : dnE y m d = 0 := by unfold dnE; rw [if_pos e]
              rw [e1, e2, (days_in (y := y) (m := m) (d := d) (by omega) (by omega) (by omega) (by omega) (by omega) (by omega)).1]
              rfl
theorem ny_1 : nyV 1 = -730119 := by decide
theorem ny_10000 : nyV 10000 = 2921940 := by decide
theorem date_in {d : Int} (h : inD d = true) : IntKind.i64.wrap (1 + (dtY d - 1)) = dtY d ∧ IntKind.i64.wrap (d - nyV (dtY d)) = d - nyV (dtY d) ∧ nyV (dtY d) + (d - nyV (dtY d)) = d ∧ IntKind.i64.wrap (dtD d - 1 + 1) = dtD d ∧ y1B (dtY d) = true ∧
    (decide (1 ≤ dtY d) && decide (dtY d ≤ 9999) && decide ((1 : Int) = 1) && decide (0 ≤ d - nyV (dtY d)) && decide (d - nyV (dtY d) < ylV (dtY d))) = true := by
  obtain ⟨s1, s2, s3, s4⟩ := dt_span h
  have a := dt_is h
  have ml := ml_in (dtY d) (dtM d)
  obtain ⟨_, _, _, _, a5, a6, _⟩ := a
  have st := ny_step (dtY d)
  have yl := yl_in (dtY d)
  refine ⟨by rw [w64 (by omega) (by omega)]; omega, w64 (by omega) (by omega), by omega, by rw [w64 (by omega) (by omega)]; omega, y1B_iff.2 (by omega), ?_⟩
  rw [decide_eq_true s1, decide_eq_true s2, decide_eq_true (show 0 ≤ d - nyV (dtY d) by omega), decide_eq_true (show d - nyV (dtY d) < ylV (dtY d) by omega)]
  rfl
abbrev daysS : FnSp F := sp3 (dInt .i64) (dInt .i64) (dInt .i64) (fun y m d => .tup [.one (.int .i64 (dnV y m d)), .one (.int .i64 (dnE y m d))]) (fun _ _ _ => [])
theorem daysS_ok (I : Interp F) : daysS.ok Tryd.prog I 19 := sp3_ok fun y m d _ => ⟨_, rfl, daysf_pl y m d⟩
abbrev dateS : FnSp F := sp1 (dInt .i64) (fun d => .tup [.one (.int .i64 (dtY d)), .one (.int .i64 (dtM d)), .one (.int .i64 (dtD d)), .one (.int .i64 (dtE d))]) (fun _ => [])
end
end Go.Proofs.YtokkaeaciigapaaDoor

