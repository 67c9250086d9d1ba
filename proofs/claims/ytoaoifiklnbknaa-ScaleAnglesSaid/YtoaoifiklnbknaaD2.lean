/-
  Package scale: Days and Date as functions of their arguments.
  Conditions: none.
-/
import Derived.Test.YtoaoifiklnbknaaD1
set_option linter.unusedVariables false
set_option linter.unusedSimpArgs false
namespace Go.Proofs.Ytoaoifiklnbknaa
open Go.RowKit Ev Sc
variable {F : Type}
noncomputable section

noncomputable abbrev lpsDays : Lps Empty := [((51, [false, true, false, true, true, true]), dlD.sp (fun _ => false))]
noncomputable abbrev fnsDate : List (Nat × Func) := [(102, Try.f102), (103, Try.f103)]
noncomputable abbrev lpsDate : Lps Empty := [((26, [false, false, true, true]), dsD.sp (fun _ => true)), ((40, [false, false, true, true, true, true]), dmD.sp (fun _ => false))]
theorem lps_Days : LpsOk Try.prog noFacts lpsDays Try.f57.ntmps (bodyOf Try.f57) := lps_cons (fun _ x hx => dlD_ok x hx) lps_nil
theorem lps_Search : LpsOk Try.prog noFacts lpsDate Try.f102.ntmps (bodyOf Try.f102) := lps_cons (fun _ x hx => dsD_ok x hx) (lps_cons (fun h => absurd h (by decide)) lps_nil)
theorem lps_Date1 : LpsOk Try.prog noFacts lpsDate Try.f103.ntmps (bodyOf Try.f103) := lps_cons (fun h => absurd h (by decide)) (lps_cons (fun h => absurd h (by decide)) lps_nil)
theorem lps_Date : LpsOk Try.prog noFacts lpsDate Try.f59.ntmps (bodyOf Try.f59) := lps_cons (fun h => absurd h (by decide)) (lps_cons (fun _ x hx => dmD_ok x hx) lps_nil)
theorem fns_Date : FnsOk Try.prog fnsDate := fns_cons Try.func102 rfl Try.call102 (fns_cons Try.func103 rfl Try.call103 (fns_nil _))
theorem fnl_Date : ∀ f fn, Ev.look f fnsDate = some fn → LpsOk Try.prog noFacts lpsDate fn.ntmps (bodyOf fn) := fun f fn h => by
  unfold fnsDate at h
  rw [look_cons] at h
  split at h
  · cases h; exact lps_Search
  · rw [look_cons] at h
    split at h
    · cases h; exact lps_Date1
    · cases h
theorem days_in {y m d : Int} (h1 : 1 ≤ y) (h2 : y ≤ 9999) (h3 : 1 ≤ m) (h4 : m ≤ 12) (h5 : 1 ≤ d) (h6 : d ≤ mlV y m) : IntKind.i64.wrap (IntKind.i64.wrap (nyV y + d) - 1) = nyV y + d - 1 ∧ (decide (dlP y m (nyV y + d - 1) 1) && decide ((1 : Int) = 1) && decide (nyV y + d - 1 ≤ 10000000)) = true := by
  have a := ny_mono h1
  have b := ny_mono (show y ≤ 10000 by omega)
  rw [show nyV 1 = -730119 from by decide] at a
  rw [show nyV 10000 = 2921940 from by decide] at b
  have c := ml_in y m
  refine ⟨by rw [w64 (x := nyV y + d) (by omega) (by omega), w64 (by omega) (by omega)], ?_⟩
  rw [decide_eq_true (show dlP y m (nyV y + d - 1) 1 from ⟨h1, h2, by omega, by omega, h4, by omega, by omega⟩), decide_eq_true (show nyV y + d - 1 ≤ 10000000 by omega)]
  rfl
set_option maxHeartbeats 2000000 in
set_option maxRecDepth 100000 in
theorem daysf_l0 (y : Int) (m : Int) (d : Int) : evR (ctxLp Try.prog noFacts (fun _ => false) libQ2 [] lpsDays) Try.f57 [(.w (.one (.int .i64 y))), (.w (.one (.int .i64 m))), (.w (.one (.int .i64 d)))] [true] = some (AV.tup [AW.one (AC.int IntKind.i64 0), AW.one (AC.int IntKind.i64 4)], [(decide (y < 1), true), (decide (y < 1), true), (decide (y < 1), true), (true, true), (true, true), (true, true), (true, true), (true, true), (true, true), (true, true), (true, true), (true, true), (true, true), (true, true), (true, true), (true, true), (true, true), (true, true), (true, true)]) := by kernel_rfl
set_option maxRecDepth 100000 in
theorem daysf_l1 (y : Int) (m : Int) (d : Int) : evR (ctxLp Try.prog noFacts (fun _ => false) libQ2 [] lpsDays) Try.f57 [(.w (.one (.int .i64 y))), (.w (.one (.int .i64 m))), (.w (.one (.int .i64 d)))] [false, true] = some (AV.tup [AW.one (AC.int IntKind.i64 0), AW.one (AC.int IntKind.i64 4)], [(decide (y < 1), false), (decide (y < 1), false), (decide (y < 1), false), (decide (y > 9999), true), (decide (y > 9999), true), (decide (y > 9999), true), (true, true), (true, true), (true, true), (true, true), (true, true), (true, true), (true, true), (true, true), (true, true), (true, true), (true, true), (true, true), (true, true)]) := by kernel_rfl
set_option maxRecDepth 100000 in
theorem daysf_l2 (y : Int) (m : Int) (d : Int) : evR (ctxLp Try.prog noFacts (fun _ => false) libQ2 [] lpsDays) Try.f57 [(.w (.one (.int .i64 y))), (.w (.one (.int .i64 m))), (.w (.one (.int .i64 d)))] [false, false, true] = some (AV.tup [AW.one (AC.int IntKind.i64 0), AW.one (AC.int IntKind.i64 4)], [(decide (y < 1), false), (decide (y < 1), false), (decide (y < 1), false), (decide (y > 9999), false), (decide (y > 9999), false), (decide (y > 9999), false), (decide (m < 1), true), (decide (m < 1), true), (decide (m < 1), true), (true, true), (true, true), (true, true), (true, true), (true, true), (true, true), (true, true), (true, true), (true, true), (true, true)]) := by kernel_rfl
set_option maxRecDepth 100000 in
theorem daysf_l3 (y : Int) (m : Int) (d : Int) : evR (ctxLp Try.prog noFacts (fun _ => false) libQ2 [] lpsDays) Try.f57 [(.w (.one (.int .i64 y))), (.w (.one (.int .i64 m))), (.w (.one (.int .i64 d)))] [false, false, false, true] = some (AV.tup [AW.one (AC.int IntKind.i64 0), AW.one (AC.int IntKind.i64 4)], [(decide (y < 1), false), (decide (y < 1), false), (decide (y < 1), false), (decide (y > 9999), false), (decide (y > 9999), false), (decide (y > 9999), false), (decide (m < 1), false), (decide (m < 1), false), (decide (m < 1), false), (decide (m > 12), true), (decide (m > 12), true), (decide (m > 12), true), (true, true), (true, true), (true, true), (true, true), (true, true), (true, true), (true, true)]) := by kernel_rfl
set_option maxRecDepth 100000 in
theorem daysf_l4 (y : Int) (m : Int) (d : Int) : evR (ctxLp Try.prog noFacts (fun _ => false) libQ2 [] lpsDays) Try.f57 [(.w (.one (.int .i64 y))), (.w (.one (.int .i64 m))), (.w (.one (.int .i64 d)))] [false, false, false, false, true] = some (AV.tup [AW.one (AC.int IntKind.i64 0), AW.one (AC.int IntKind.i64 4)], [(decide (y < 1), false), (decide (y < 1), false), (decide (y < 1), false), (decide (y > 9999), false), (decide (y > 9999), false), (decide (y > 9999), false), (decide (m < 1), false), (decide (m < 1), false), (decide (m < 1), false), (decide (m > 12), false), (decide (m > 12), false), (decide (m > 12), false), (decide (d < 1), true), (decide (d < 1), true), (decide (d < 1), true), (decide (d < 1), true), (decide (d < 1), true), (decide (d < 1), true), (true, true)]) := by kernel_rfl
set_option maxRecDepth 100000 in
theorem daysf_l5 (y : Int) (m : Int) (d : Int) : evR (ctxLp Try.prog noFacts (fun _ => false) libQ2 [] lpsDays) Try.f57 [(.w (.one (.int .i64 y))), (.w (.one (.int .i64 m))), (.w (.one (.int .i64 d)))] [false, false, false, false, false, true] = some (AV.tup [AW.one (AC.int IntKind.i64 0), AW.one (AC.int IntKind.i64 4)], [(decide (y < 1), false), (decide (y < 1), false), (decide (y < 1), false), (decide (y > 9999), false), (decide (y > 9999), false), (decide (y > 9999), false), (decide (m < 1), false), (decide (m < 1), false), (decide (m < 1), false), (decide (m > 12), false), (decide (m > 12), false), (decide (m > 12), false), (decide (d < 1), false), (decide (d < 1), false), (decide (d < 1), false), (decide (d < 1), false), (y1B y, true), (decide (d < 1), false), (decide (d < 1), false), (decide (d > mlV y m), true)]) := by kernel_rfl
set_option maxRecDepth 100000 in
theorem daysf_l6 (y : Int) (m : Int) (d : Int) : evR (ctxLp Try.prog noFacts (fun _ => false) libQ2 [] lpsDays) Try.f57 [(.w (.one (.int .i64 y))), (.w (.one (.int .i64 m))), (.w (.one (.int .i64 d)))] [false, false, false, false, false, false] = some (AV.tup [AW.one (AC.int IntKind.i64 (IntKind.i64.wrap (IntKind.i64.wrap (nyV y + d) - 1) + mbV y (m - 1).toNat)), AW.one (AC.int IntKind.i64 0)], [(decide (y < 1), false), (decide (y < 1), false), (decide (y < 1), false), (decide (y > 9999), false), (decide (y > 9999), false), (decide (y > 9999), false), (decide (m < 1), false), (decide (m < 1), false), (decide (m < 1), false), (decide (m > 12), false), (decide (m > 12), false), (decide (m > 12), false), (decide (d < 1), false), (decide (d < 1), false), (decide (d < 1), false), (decide (d < 1), false), (y1B y, true), (decide (d < 1), false), (decide (d < 1), false), (decide (d > mlV y m), false), (y1B y, true), (decide (dlP y m (IntKind.i64.wrap (IntKind.i64.wrap (nyV y + d) - 1)) 1) && decide (1 = 1) && decide (IntKind.i64.wrap (IntKind.i64.wrap (nyV y + d) - 1) ≤ 10000000), true)]) := by kernel_rfl
set_option maxRecDepth 100000 in
theorem daysf_t (y : Int) (m : Int) (d : Int) (s0 : (decide (y < 1)) = false → (decide (y > 9999)) = false → (decide (m < 1)) = false → (decide (m > 12)) = false → (decide (d < 1)) = false → (decide (d > mlV y m)) = true → (y1B y) = true) (s1 : (decide (y < 1)) = false → (decide (y > 9999)) = false → (decide (m < 1)) = false → (decide (m > 12)) = false → (decide (d < 1)) = false → (decide (d > mlV y m)) = false → (decide (dlP y m (IntKind.i64.wrap (IntKind.i64.wrap (nyV y + d) - 1)) 1) && decide (1 = 1) && decide (IntKind.i64.wrap (IntKind.i64.wrap (nyV y + d) - 1) ≤ 10000000)) = true) (s2 : (decide (y < 1)) = false → (decide (y > 9999)) = false → (decide (m < 1)) = false → (decide (m > 12)) = false → (decide (d < 1)) = false → (decide (d > mlV y m)) = false → (y1B y) = true) : Pl Try.prog 57 [.int .i64 y, .int .i64 m, .int .i64 d] (AV.get ((bif decide (y < 1) then (AV.tup [AW.one (AC.int IntKind.i64 0), AW.one (AC.int IntKind.i64 4)]) else (bif decide (y > 9999) then (AV.tup [AW.one (AC.int IntKind.i64 0), AW.one (AC.int IntKind.i64 4)]) else (bif decide (m < 1) then (AV.tup [AW.one (AC.int IntKind.i64 0), AW.one (AC.int IntKind.i64 4)]) else (bif decide (m > 12) then (AV.tup [AW.one (AC.int IntKind.i64 0), AW.one (AC.int IntKind.i64 4)]) else (bif decide (d < 1) then (AV.tup [AW.one (AC.int IntKind.i64 0), AW.one (AC.int IntKind.i64 4)]) else (bif decide (d > mlV y m) then (AV.tup [AW.one (AC.int IntKind.i64 0), AW.one (AC.int IntKind.i64 4)]) else (AV.tup [AW.one (AC.int IntKind.i64 (IntKind.i64.wrap (IntKind.i64.wrap (nyV y + d) - 1) + mbV y (m - 1).toNat)), AW.one (AC.int IntKind.i64 0)]))))))) : AV Empty)) :=
  (pl_node (fun h0 => (pl_leaf (hL := lps_Days) rfl (ctxLp_ok (libQ2_ok _) (eq_none _) (fns_nil _) (fun f fn h => by cases h)) (by kernel_rfl) Try.func57 rfl (daysf_l0 y m d) rfl (all2_R (.cons rfl (.cons rfl (.cons rfl .nil)))) rfl (cd_cons h0 (cd_cons h0 (cd_cons h0 (cd_cons rfl (cd_cons rfl (cd_cons rfl (cd_cons rfl (cd_cons rfl (cd_cons rfl (cd_cons rfl (cd_cons rfl (cd_cons rfl (cd_cons rfl (cd_cons rfl (cd_cons rfl (cd_cons rfl (cd_cons rfl (cd_cons rfl (cd_cons rfl cd_nil))))))))))))))))))))) (fun h0 => (pl_node (fun h1 => (pl_leaf (hL := lps_Days) rfl (ctxLp_ok (libQ2_ok _) (eq_none _) (fns_nil _) (fun f fn h => by cases h)) (by kernel_rfl) Try.func57 rfl (daysf_l1 y m d) rfl (all2_R (.cons rfl (.cons rfl (.cons rfl .nil)))) rfl (cd_cons h0 (cd_cons h0 (cd_cons h0 (cd_cons h1 (cd_cons h1 (cd_cons h1 (cd_cons rfl (cd_cons rfl (cd_cons rfl (cd_cons rfl (cd_cons rfl (cd_cons rfl (cd_cons rfl (cd_cons rfl (cd_cons rfl (cd_cons rfl (cd_cons rfl (cd_cons rfl (cd_cons rfl cd_nil))))))))))))))))))))) (fun h1 => (pl_node (fun h2 => (pl_leaf (hL := lps_Days) rfl (ctxLp_ok (libQ2_ok _) (eq_none _) (fns_nil _) (fun f fn h => by cases h)) (by kernel_rfl) Try.func57 rfl (daysf_l2 y m d) rfl (all2_R (.cons rfl (.cons rfl (.cons rfl .nil)))) rfl (cd_cons h0 (cd_cons h0 (cd_cons h0 (cd_cons h1 (cd_cons h1 (cd_cons h1 (cd_cons h2 (cd_cons h2 (cd_cons h2 (cd_cons rfl (cd_cons rfl (cd_cons rfl (cd_cons rfl (cd_cons rfl (cd_cons rfl (cd_cons rfl (cd_cons rfl (cd_cons rfl (cd_cons rfl cd_nil))))))))))))))))))))) (fun h2 => (pl_node (fun h3 => (pl_leaf (hL := lps_Days) rfl (ctxLp_ok (libQ2_ok _) (eq_none _) (fns_nil _) (fun f fn h => by cases h)) (by kernel_rfl) Try.func57 rfl (daysf_l3 y m d) rfl (all2_R (.cons rfl (.cons rfl (.cons rfl .nil)))) rfl (cd_cons h0 (cd_cons h0 (cd_cons h0 (cd_cons h1 (cd_cons h1 (cd_cons h1 (cd_cons h2 (cd_cons h2 (cd_cons h2 (cd_cons h3 (cd_cons h3 (cd_cons h3 (cd_cons rfl (cd_cons rfl (cd_cons rfl (cd_cons rfl (cd_cons rfl (cd_cons rfl (cd_cons rfl cd_nil))))))))))))))))))))) (fun h3 => (pl_node (fun h4 => (pl_leaf (hL := lps_Days) rfl (ctxLp_ok (libQ2_ok _) (eq_none _) (fns_nil _) (fun f fn h => by cases h)) (by kernel_rfl) Try.func57 rfl (daysf_l4 y m d) rfl (all2_R (.cons rfl (.cons rfl (.cons rfl .nil)))) rfl (cd_cons h0 (cd_cons h0 (cd_cons h0 (cd_cons h1 (cd_cons h1 (cd_cons h1 (cd_cons h2 (cd_cons h2 (cd_cons h2 (cd_cons h3 (cd_cons h3 (cd_cons h3 (cd_cons h4 (cd_cons h4 (cd_cons h4 (cd_cons h4 (cd_cons h4 (cd_cons h4 (cd_cons rfl cd_nil))))))))))))))))))))) (fun h4 => (pl_node (fun h5 => (pl_leaf (hL := lps_Days) rfl (ctxLp_ok (libQ2_ok _) (eq_none _) (fns_nil _) (fun f fn h => by cases h)) (by kernel_rfl) Try.func57 rfl (daysf_l5 y m d) rfl (all2_R (.cons rfl (.cons rfl (.cons rfl .nil)))) rfl (cd_cons h0 (cd_cons h0 (cd_cons h0 (cd_cons h1 (cd_cons h1 (cd_cons h1 (cd_cons h2 (cd_cons h2 (cd_cons h2 (cd_cons h3 (cd_cons h3 (cd_cons h3 (cd_cons h4 (cd_cons h4 (cd_cons h4 (cd_cons h4 (cd_cons (s0 h0 h1 h2 h3 h4 h5) (cd_cons h4 (cd_cons h4 (cd_cons h5 cd_nil)))))))))))))))))))))) (fun h5 => (pl_leaf (hL := lps_Days) rfl (ctxLp_ok (libQ2_ok _) (eq_none _) (fns_nil _) (fun f fn h => by cases h)) (by kernel_rfl) Try.func57 rfl (daysf_l6 y m d) rfl (all2_R (.cons rfl (.cons rfl (.cons rfl .nil)))) rfl (cd_cons h0 (cd_cons h0 (cd_cons h0 (cd_cons h1 (cd_cons h1 (cd_cons h1 (cd_cons h2 (cd_cons h2 (cd_cons h2 (cd_cons h3 (cd_cons h3 (cd_cons h3 (cd_cons h4 (cd_cons h4 (cd_cons h4 (cd_cons h4 (cd_cons (s2 h0 h1 h2 h3 h4 h5) (cd_cons h4 (cd_cons h4 (cd_cons h5 (cd_cons (s2 h0 h1 h2 h3 h4 h5) (cd_cons (s1 h0 h1 h2 h3 h4 h5) cd_nil)))))))))))))))))))))))))))))))))))
theorem daysf_pl (y : Int) (m : Int) (d : Int)  : Pl Try.prog 57 [.int .i64 y, .int .i64 m, .int .i64 d] (.tuple #[.int .i64 (dnV y m d), .int .i64 (dnE y m d)]) := by
  refine Eq.mp (congrArg (Pl _ _ _) ?_) (daysf_t y m d (fun h0 h1 h2 h3 h4 h5 => by first | rfl | (simp only [decide_eq_false_iff_not, decide_eq_true_eq] at *; first | exact y1B_iff.2 (by omega) | (rw [(days_in (y := y) (m := m) (d := d) (by omega) (by omega) (by omega) (by omega) (by omega) (by omega)).1]; exact (days_in (y := y) (m := m) (d := d) (by omega) (by omega) (by omega) (by omega) (by omega) (by omega)).2))) (fun h0 h1 h2 h3 h4 h5 => by first | rfl | (simp only [decide_eq_false_iff_not, decide_eq_true_eq] at *; first | exact y1B_iff.2 (by omega) | (rw [(days_in (y := y) (m := m) (d := d) (by omega) (by omega) (by omega) (by omega) (by omega) (by omega)).1]; exact (days_in (y := y) (m := m) (d := d) (by omega) (by omega) (by omega) (by omega) (by omega) (by omega)).2))) (fun h0 h1 h2 h3 h4 h5 => by first | rfl | (simp only [decide_eq_false_iff_not, decide_eq_true_eq] at *; first | exact y1B_iff.2 (by omega) | (rw [(days_in (y := y) (m := m) (d := d) (by omega) (by omega) (by omega) (by omega) (by omega) (by omega)).1]; exact (days_in (y := y) (m := m) (d := d) (by omega) (by omega) (by omega) (by omega) (by omega) (by omega)).2))))
  by_cases a0 : y < 1
  · have e : okD y m d = false := by
      cases hh : okD y m d with
      | false => rfl
      | true => have := okD_iff.1 hh; omega
    have e1 : dnV y m d = 0 := by unfold dnV; rw [e]; rfl
    have e2 : dnE y m d = 4 := by unfold dnE; rw [e]; rfl
    rw [e1, e2, decide_eq_true a0]
    rfl
  · rw [decide_eq_false a0]
    by_cases a1 : y > 9999
    · have e : okD y m d = false := by
        cases hh : okD y m d with
        | false => rfl
        | true => have := okD_iff.1 hh; omega
      have e1 : dnV y m d = 0 := by unfold dnV; rw [e]; rfl
      have e2 : dnE y m d = 4 := by unfold dnE; rw [e]; rfl
      rw [e1, e2, decide_eq_true a1]
      rfl
    · rw [decide_eq_false a1]
      by_cases a2 : m < 1
      · have e : okD y m d = false := by
          cases hh : okD y m d with
          | false => rfl
          | true => have := okD_iff.1 hh; omega
        have e1 : dnV y m d = 0 := by unfold dnV; rw [e]; rfl
        have e2 : dnE y m d = 4 := by unfold dnE; rw [e]; rfl
        rw [e1, e2, decide_eq_true a2]
        rfl
      · rw [decide_eq_false a2]
        by_cases a3 : m > 12
        · have e : okD y m d = false := by
            cases hh : okD y m d with
            | false => rfl
            | true => have := okD_iff.1 hh; omega
          have e1 : dnV y m d = 0 := by unfold dnV; rw [e]; rfl
          have e2 : dnE y m d = 4 := by unfold dnE; rw [e]; rfl
          rw [e1, e2, decide_eq_true a3]
          rfl
        · rw [decide_eq_false a3]
          by_cases a4 : d < 1
          · have e : okD y m d = false := by
              cases hh : okD y m d with
              | false => rfl
              | true => have := okD_iff.1 hh; omega
            have e1 : dnV y m d = 0 := by unfold dnV; rw [e]; rfl
            have e2 : dnE y m d = 4 := by unfold dnE; rw [e]; rfl
            rw [e1, e2, decide_eq_true a4]
            rfl
          · rw [decide_eq_false a4]
            by_cases a5 : d > mlV y m
            · have e : okD y m d = false := by
                cases hh : okD y m d with
                | false => rfl
                | true => have := okD_iff.1 hh; omega
              have e1 : dnV y m d = 0 := by unfold dnV; rw [e]; rfl
              have e2 : dnE y m d = 4 := by unfold dnE; rw [e]; rfl
              rw [e1, e2, decide_eq_true a5]
              rfl
            · rw [decide_eq_false a5]
              have e : okD y m d = true := okD_iff.2 ⟨by omega, by omega, by omega, by omega, by omega, by omega⟩
              have e1 : dnV y m d = nyV y + d - 1 + mbV y (m - 1).toNat := by unfold dnV; rw [if_pos e]; omega
              have e2 : dnE y m d = 0 := by unfold dnE; rw [if_pos e]
              rw [e1, e2, (days_in (y := y) (m := m) (d := d) (by omega) (by omega) (by omega) (by omega) (by omega) (by omega)).1]
              rfl
theorem ny_1 : nyV 1 = -730119 := by decide
theorem ny_10000 : nyV 10000 = 2921940 := by decide
theorem date_in {d : Int} (h : inD d = true) : IntKind.i64.wrap (1 + (dtY d - 1)) = dtY d ∧ IntKind.i64.wrap (d - nyV (dtY d)) = d - nyV (dtY d) ∧ nyV (dtY d) + (d - nyV (dtY d)) = d ∧ IntKind.i64.wrap (dtD d - 1 + 1) = dtD d ∧ y1B (dtY d) = true ∧
    (decide (1 ≤ dtY d) && decide (dtY d ≤ 9999) && decide ((1 : Int) = 1) && decide (0 ≤ d - nyV (dtY d)) && decide (d - nyV (dtY d) < ylV (dtY d))) = true := by
  obtain ⟨s1, s2, s3, s4⟩ := dt_span h
  have a := dt_is h
  have ml := ml_in (dtY d) (dtM d)
  obtain ⟨_, _, _, _, a5, a6, _⟩ := a
  have st := ny_step (dtY d)
  have yl := yl_in (dtY d)
  refine ⟨by rw [w64 (by omega) (by omega)]; omega, w64 (by omega) (by omega), by omega, by rw [w64 (by omega) (by omega)]; omega, y1B_iff.2 (by omega), ?_⟩
  rw [decide_eq_true s1, decide_eq_true s2, decide_eq_true (show 0 ≤ d - nyV (dtY d) by omega), decide_eq_true (show d - nyV (dtY d) < ylV (dtY d) by omega)]
  rfl
set_option maxHeartbeats 2000000 in
set_option maxRecDepth 100000 in
theorem datef_l0 (d : Int) : evR (ctxLp Try.prog noFacts (fun _ => false) libQ2 fnsDate lpsDate) Try.f59 [(.w (.one (.int .i64 d)))] [true] = some (AV.tup [AW.one (AC.int IntKind.i64 0), AW.one (AC.int IntKind.i64 0), AW.one (AC.int IntKind.i64 0), AW.one (AC.int IntKind.i64 4)], [(y1B 1, true), (decide (d < nyV 1), true), (decide (d < nyV 1), true), (decide (d < nyV 1), true), (decide (d < nyV 1), true), (true, true)]) := by kernel_rfl
set_option maxRecDepth 100000 in
theorem datef_l1 (d : Int) : evR (ctxLp Try.prog noFacts (fun _ => false) libQ2 fnsDate lpsDate) Try.f59 [(.w (.one (.int .i64 d)))] [false, true] = some (AV.tup [AW.one (AC.int IntKind.i64 0), AW.one (AC.int IntKind.i64 0), AW.one (AC.int IntKind.i64 0), AW.one (AC.int IntKind.i64 4)], [(y1B 1, true), (decide (d < nyV 1), false), (decide (d < nyV 1), false), (y1B 10000, true), (decide (d < nyV 1), false), (decide (d < nyV 1), false), (decide (d ≥ nyV 10000), true)]) := by kernel_rfl
set_option maxRecDepth 100000 in
theorem datef_l2 (d : Int) : evR (ctxLp Try.prog noFacts (fun _ => false) libQ2 fnsDate lpsDate) Try.f59 [(.w (.one (.int .i64 d)))] [false, false] = some (AV.tup [AW.one (AC.int IntKind.i64 (IntKind.i64.wrap (1 + (dtY d - 1)))), AW.one (AC.int IntKind.i64 (dtM (nyV (IntKind.i64.wrap (1 + (dtY d - 1))) + IntKind.i64.wrap (d - nyV (IntKind.i64.wrap (1 + (dtY d - 1))))))), AW.one (AC.int IntKind.i64 (IntKind.i64.wrap (dtD (nyV (IntKind.i64.wrap (1 + (dtY d - 1))) + IntKind.i64.wrap (d - nyV (IntKind.i64.wrap (1 + (dtY d - 1))))) - 1 + 1))), AW.one (AC.int IntKind.i64 0)], [(y1B 1, true), (decide (d < nyV 1), false), (decide (d < nyV 1), false), (y1B 10000, true), (decide (d < nyV 1), false), (decide (d < nyV 1), false), (decide (d ≥ nyV 10000), false), (inD d && decide (0 = 0) && decide (9999 = 9999), true), (y1B (IntKind.i64.wrap (1 + (dtY d - 1))), true), (decide (1 ≤ IntKind.i64.wrap (1 + (dtY d - 1))) && decide (IntKind.i64.wrap (1 + (dtY d - 1)) ≤ 9999) && decide (1 = 1) && decide (0 ≤ IntKind.i64.wrap (d - nyV (IntKind.i64.wrap (1 + (dtY d - 1))))) && decide (IntKind.i64.wrap (d - nyV (IntKind.i64.wrap (1 + (dtY d - 1)))) < ylV (IntKind.i64.wrap (1 + (dtY d - 1)))), true)]) := by kernel_rfl
set_option maxRecDepth 100000 in
theorem datef_t (d : Int) (s0 : (decide (d < nyV 1)) = true → (y1B 1) = true) (s1 : (decide (d < nyV 1)) = false → (decide (d ≥ nyV 10000)) = true → (y1B 10000) = true) (s2 : (decide (d < nyV 1)) = false → (decide (d ≥ nyV 10000)) = true → (y1B 1) = true) (s3 : (decide (d < nyV 1)) = false → (decide (d ≥ nyV 10000)) = false → (decide (1 ≤ IntKind.i64.wrap (1 + (dtY d - 1))) && decide (IntKind.i64.wrap (1 + (dtY d - 1)) ≤ 9999) && decide (1 = 1) && decide (0 ≤ IntKind.i64.wrap (d - nyV (IntKind.i64.wrap (1 + (dtY d - 1))))) && decide (IntKind.i64.wrap (d - nyV (IntKind.i64.wrap (1 + (dtY d - 1)))) < ylV (IntKind.i64.wrap (1 + (dtY d - 1))))) = true) (s4 : (decide (d < nyV 1)) = false → (decide (d ≥ nyV 10000)) = false → (y1B (IntKind.i64.wrap (1 + (dtY d - 1)))) = true) (s5 : (decide (d < nyV 1)) = false → (decide (d ≥ nyV 10000)) = false → (inD d && decide (0 = 0) && decide (9999 = 9999)) = true) (s6 : (decide (d < nyV 1)) = false → (decide (d ≥ nyV 10000)) = false → (y1B 10000) = true) (s7 : (decide (d < nyV 1)) = false → (decide (d ≥ nyV 10000)) = false → (y1B 1) = true) : Pl Try.prog 59 [.int .i64 d] (AV.get ((bif decide (d < nyV 1) then (AV.tup [AW.one (AC.int IntKind.i64 0), AW.one (AC.int IntKind.i64 0), AW.one (AC.int IntKind.i64 0), AW.one (AC.int IntKind.i64 4)]) else (bif decide (d ≥ nyV 10000) then (AV.tup [AW.one (AC.int IntKind.i64 0), AW.one (AC.int IntKind.i64 0), AW.one (AC.int IntKind.i64 0), AW.one (AC.int IntKind.i64 4)]) else (AV.tup [AW.one (AC.int IntKind.i64 (IntKind.i64.wrap (1 + (dtY d - 1)))), AW.one (AC.int IntKind.i64 (dtM (nyV (IntKind.i64.wrap (1 + (dtY d - 1))) + IntKind.i64.wrap (d - nyV (IntKind.i64.wrap (1 + (dtY d - 1))))))), AW.one (AC.int IntKind.i64 (IntKind.i64.wrap (dtD (nyV (IntKind.i64.wrap (1 + (dtY d - 1))) + IntKind.i64.wrap (d - nyV (IntKind.i64.wrap (1 + (dtY d - 1))))) - 1 + 1))), AW.one (AC.int IntKind.i64 0)]))) : AV Empty)) :=
  (pl_node (fun h0 => (pl_leaf (hL := lps_Date) rfl (ctxLp_ok (libQ2_ok _) (eq_none _) fns_Date fnl_Date) (by kernel_rfl) Try.func59 rfl (datef_l0 d) rfl (all2_R (.cons rfl .nil)) rfl (cd_cons (s0 h0) (cd_cons h0 (cd_cons h0 (cd_cons h0 (cd_cons h0 (cd_cons rfl cd_nil)))))))) (fun h0 => (pl_node (fun h1 => (pl_leaf (hL := lps_Date) rfl (ctxLp_ok (libQ2_ok _) (eq_none _) fns_Date fnl_Date) (by kernel_rfl) Try.func59 rfl (datef_l1 d) rfl (all2_R (.cons rfl .nil)) rfl (cd_cons (s2 h0 h1) (cd_cons h0 (cd_cons h0 (cd_cons (s1 h0 h1) (cd_cons h0 (cd_cons h0 (cd_cons h1 cd_nil))))))))) (fun h1 => (pl_leaf (hL := lps_Date) rfl (ctxLp_ok (libQ2_ok _) (eq_none _) fns_Date fnl_Date) (by kernel_rfl) Try.func59 rfl (datef_l2 d) rfl (all2_R (.cons rfl .nil)) rfl (cd_cons (s7 h0 h1) (cd_cons h0 (cd_cons h0 (cd_cons (s6 h0 h1) (cd_cons h0 (cd_cons h0 (cd_cons h1 (cd_cons (s5 h0 h1) (cd_cons (s4 h0 h1) (cd_cons (s3 h0 h1) cd_nil)))))))))))))))
theorem datef_pl (d : Int)  : Pl Try.prog 59 [.int .i64 d] (.tuple #[.int .i64 (dtY d), .int .i64 (dtM d), .int .i64 (dtD d), .int .i64 (dtE d)]) := by
  refine Eq.mp (congrArg (Pl _ _ _) ?_) (datef_t d (fun h0 => by first | rfl | (simp only [decide_eq_false_iff_not, decide_eq_true_eq] at *; have h := inD_iff.2 (show nyV 1 ≤ d ∧ d < nyV 10000 by omega); obtain ⟨e1, e2, e3, e4, e5, e6⟩ := date_in h; first | (rw [e1]; exact e5) | (rw [e1, e2]; exact e6) | (rw [h]; rfl))) (fun h0 h1 => by first | rfl | (simp only [decide_eq_false_iff_not, decide_eq_true_eq] at *; have h := inD_iff.2 (show nyV 1 ≤ d ∧ d < nyV 10000 by omega); obtain ⟨e1, e2, e3, e4, e5, e6⟩ := date_in h; first | (rw [e1]; exact e5) | (rw [e1, e2]; exact e6) | (rw [h]; rfl))) (fun h0 h1 => by first | rfl | (simp only [decide_eq_false_iff_not, decide_eq_true_eq] at *; have h := inD_iff.2 (show nyV 1 ≤ d ∧ d < nyV 10000 by omega); obtain ⟨e1, e2, e3, e4, e5, e6⟩ := date_in h; first | (rw [e1]; exact e5) | (rw [e1, e2]; exact e6) | (rw [h]; rfl))) (fun h0 h1 => by first | rfl | (simp only [decide_eq_false_iff_not, decide_eq_true_eq] at *; have h := inD_iff.2 (show nyV 1 ≤ d ∧ d < nyV 10000 by omega); obtain ⟨e1, e2, e3, e4, e5, e6⟩ := date_in h; first | (rw [e1]; exact e5) | (rw [e1, e2]; exact e6) | (rw [h]; rfl))) (fun h0 h1 => by first | rfl | (simp only [decide_eq_false_iff_not, decide_eq_true_eq] at *; have h := inD_iff.2 (show nyV 1 ≤ d ∧ d < nyV 10000 by omega); obtain ⟨e1, e2, e3, e4, e5, e6⟩ := date_in h; first | (rw [e1]; exact e5) | (rw [e1, e2]; exact e6) | (rw [h]; rfl))) (fun h0 h1 => by first | rfl | (simp only [decide_eq_false_iff_not, decide_eq_true_eq] at *; have h := inD_iff.2 (show nyV 1 ≤ d ∧ d < nyV 10000 by omega); obtain ⟨e1, e2, e3, e4, e5, e6⟩ := date_in h; first | (rw [e1]; exact e5) | (rw [e1, e2]; exact e6) | (rw [h]; rfl))) (fun h0 h1 => by first | rfl | (simp only [decide_eq_false_iff_not, decide_eq_true_eq] at *; have h := inD_iff.2 (show nyV 1 ≤ d ∧ d < nyV 10000 by omega); obtain ⟨e1, e2, e3, e4, e5, e6⟩ := date_in h; first | (rw [e1]; exact e5) | (rw [e1, e2]; exact e6) | (rw [h]; rfl))) (fun h0 h1 => by first | rfl | (simp only [decide_eq_false_iff_not, decide_eq_true_eq] at *; have h := inD_iff.2 (show nyV 1 ≤ d ∧ d < nyV 10000 by omega); obtain ⟨e1, e2, e3, e4, e5, e6⟩ := date_in h; first | (rw [e1]; exact e5) | (rw [e1, e2]; exact e6) | (rw [h]; rfl))))
  by_cases h : inD d = true
  · have g := inD_iff.1 h
    obtain ⟨e1, e2, e3, e4, e5, e6⟩ := date_in h
    rw [decide_eq_false (show ¬ d < nyV 1 by omega), decide_eq_false (show ¬ d ≥ nyV 10000 by omega), e1, e2, e3, e4]
    have e7 : dtE d = 0 := if_pos h
    rw [e7]
    rfl
  · have h0 : inD d = false := by simpa using h
    obtain ⟨e1, e2, e3⟩ := dt_no h0
    have e4 : dtE d = 4 := if_neg h
    rw [e1, e2, e3, e4]
    by_cases a : d < nyV 1
    · rw [decide_eq_true a]; rfl
    · rw [decide_eq_false a]
      by_cases b : d ≥ nyV 10000
      · rw [decide_eq_true b]; rfl
      · exact absurd (inD_iff.2 ⟨by omega, by omega⟩) h
abbrev daysS : FnSp F := sp3 (dInt .i64) (dInt .i64) (dInt .i64) (fun y m d => .tup [.one (.int .i64 (dnV y m d)), .one (.int .i64 (dnE y m d))]) (fun _ _ _ => [])
theorem daysS_ok (I : Interp F) : daysS.ok Try.prog I 57 := sp3_ok fun y m d _ => ⟨_, rfl, daysf_pl y m d⟩
abbrev dateS : FnSp F := sp1 (dInt .i64) (fun d => .tup [.one (.int .i64 (dtY d)), .one (.int .i64 (dtM d)), .one (.int .i64 (dtD d)), .one (.int .i64 (dtE d))]) (fun _ => [])
theorem dateS_ok (I : Interp F) : dateS.ok Try.prog I 59 := sp1_ok fun d _ => ⟨_, rfl, datef_pl d⟩
end
end Go.Proofs.Ytoaoifiklnbknaa

