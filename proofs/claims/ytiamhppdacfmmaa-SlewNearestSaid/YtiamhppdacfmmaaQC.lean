/-
  Package slew's Fastest as a function, the braking distances, and the reference's search for the greatest speed (its loop).
  Conditions: those of each theorem.
-/
import Derived.Test.YtiamhppdacfmmaaQB
set_option linter.unusedVariables false
set_option linter.unusedSimpArgs false
namespace Go.Proofs.Ytiamhppdacfmmaa.AtSl
open Go.RowKit Ev Wd
open Go.Proofs.Ytiamhppdacfmmaa
variable {F : Type}
noncomputable section

noncomputable abbrev bkLps : Lps Empty := [((15, [false, false, true, true]), bkD.sp (fun _ => false))]
theorem bkLps_ok : LpsOk Try.prog noFacts bkLps Try.f51.ntmps (bodyOf Try.f51) := lps_cons (fun _ x hx => bkD_ok x hx) lps_nil
noncomputable abbrev bsLps : Lps Empty := [((16, [false, false, true, true]), bsD.sp (fun _ => true))]
theorem bsLps_ok : LpsOk Try.prog noFacts bsLps Try.f45.ntmps (bodyOf Try.f45) := lps_cons (fun _ x hx => bsD_ok x hx) lps_nil
noncomputable abbrev flLps : Lps Empty := [((42, [false, false, true, true, true]), flD.sp (fun _ => true))]
theorem flLps_ok : LpsOk Try.prog noFacts flLps Try.f50.ntmps (bodyOf Try.f50) := lps_cons (fun _ x hx => flD_ok x hx) lps_nil
set_option maxRecDepth 100000 in
theorem bra_ (b : Int) (v : Int) : evR (ctxLp Try.prog noFacts (fun _ => false) libB0 [] bkLps) Try.f51 [(.w (.one (.int .i64 b))), (.w (.one (.int .i64 v)))] [] = some (AV.w (AW.one (AC.int IntKind.i64 (0 + brV b v))), (pickL [(decide ((1 : Int) ≤ b) && decide (b ≤ 2147483648), true), (decide (v ≤ 2147483648), true), (decide ((0 : Int) = 0), true)] [0, 1, 2])) := by kernel_rfl
theorem bra_pl (b : Int) (v : Int) (h1 : (decide (1 ≤ b) && decide (b ≤ 2147483648)) = true) (h2 : decide (v ≤ 2147483648) = true) : Pl Try.prog 51 [.int .i64 b, .int .i64 v] (.int .i64 (brV b v)) := fun w => by
  have V : (brV b v) = ((0 + brV b v)) := by
    rw [Int.zero_add]
  rw [V]
  refine evR_calls (I := noFacts) (v := .int .i64 ((0 + brV b v))) (ctxLp_ok libB0_ok (eq_none _) (fns_nil _) (fun f fn h => by cases h)) (by kernel_rfl) Try.func51 rfl bkLps_ok (bra_ b v) rfl (all2_R (.cons rfl (.cons rfl .nil))) rfl w (Nat.zero_le _) (pickL_ok ?_ _)
  repeat' (first | exact cd_nil | refine cd_cons ?_ ?_)
  all_goals first | with_reducible rfl | with_reducible assumption | rfl
set_option maxRecDepth 100000 in
theorem brs_ (a : Ax) (v : Int) : evR (ctxLp Try.prog noFacts (fun _ => false) libB0 [] bsLps) Try.f45 [(axA a), (.w (.one (.int .i64 v)))] [] = some (AV.w (AW.one (AC.int IntKind.i64 (0 + brV a.ac v))), (pickL [(decide ((1 : Int) ≤ a.ac) && decide (a.ac ≤ 2147483648), true), (decide (v ≤ 2147483648), true), (decide ((0 : Int) = 0), true)] [0, 1, 2])) := by kernel_rfl
theorem brs_pl (a : Ax) (v : Int) (h1 : (decide (1 ≤ a.ac) && decide (a.ac ≤ 2147483648)) = true) (h2 : decide (v ≤ 2147483648) = true) : Pl Try.prog 45 [axV a, .int .i64 v] (.int .i64 (brV a.ac v)) := fun w => by
  have V : (brV a.ac v) = ((0 + brV a.ac v)) := by
    rw [Int.zero_add]
  rw [V]
  refine evR_calls (I := noFacts) (v := .int .i64 ((0 + brV a.ac v))) (ctxLp_ok libB0_ok (eq_none _) (fns_nil _) (fun f fn h => by cases h)) (by kernel_rfl) Try.func45 rfl bsLps_ok (brs_ a v) rfl (all2_R (.cons rfl (.cons rfl .nil))) rfl w (Nat.zero_le _) (pickL_ok ?_ _)
  repeat' (first | exact cd_nil | refine cd_cons ?_ ?_)
  all_goals first | with_reducible rfl | with_reducible assumption | rfl
set_option maxRecDepth 100000 in
theorem fas_1 (a : Ax) (d : Int) : evR (ctxLp Try.prog noFacts (fun _ => false) libB0 [] flLps) Try.f50 [(axA a), (.w (.one (.int .i64 d)))] [true] = some (AV.w (AW.one (AC.int IntKind.i64 a.sp)), (pickL [(decide (d ≥ IntKind.i64.wrap (64 * a.sp)), true)] [0])) := by kernel_rfl
set_option maxRecDepth 100000 in
theorem fas_0 (a : Ax) (d : Int) : evR (ctxLp Try.prog noFacts (fun _ => false) libB0 [] flLps) Try.f50 [(axA a), (.w (.one (.int .i64 d)))] [false] = some (AV.w (AW.one (AC.int IntKind.i64 (bif false then if IntKind.i64.wrap ((IntKind.i64.wrap (d + IntKind.i64.wrap ((IntKind.i64.wrap (IntKind.i64.wrap (a.ac * cntV a.ac d 4096 1) * IntKind.i64.wrap (cntV a.ac d 4096 1 - 1))).tdiv 2))).tdiv (cntV a.ac d 4096 1)) > a.sp then IntKind.i64.wrap ((IntKind.i64.wrap (d + IntKind.i64.wrap ((IntKind.i64.wrap (IntKind.i64.wrap (a.ac * cntV a.ac d 4096 1) * IntKind.i64.wrap (cntV a.ac d 4096 1 - 1))).tdiv 2))).tdiv (cntV a.ac d 4096 1)) else a.sp else if IntKind.i64.wrap ((IntKind.i64.wrap (d + IntKind.i64.wrap ((IntKind.i64.wrap (IntKind.i64.wrap (a.ac * cntV a.ac d 4096 1) * IntKind.i64.wrap (cntV a.ac d 4096 1 - 1))).tdiv 2))).tdiv (cntV a.ac d 4096 1)) < a.sp then IntKind.i64.wrap ((IntKind.i64.wrap (d + IntKind.i64.wrap ((IntKind.i64.wrap (IntKind.i64.wrap (a.ac * cntV a.ac d 4096 1) * IntKind.i64.wrap (cntV a.ac d 4096 1 - 1))).tdiv 2))).tdiv (cntV a.ac d 4096 1)) else a.sp))), (pickL [(decide (d ≥ IntKind.i64.wrap (64 * a.sp)), false), (decide (axE a = 0) && (decide ((0 : Int) ≤ d) && (decide (d < 64 * a.sp) && decide ((1 : Int) = 1))), true), (decide ((2 : Int) = 0), false), (decide (cntV a.ac d 4096 1 = 0), false)] [0, 1, 2, 3])) := by kernel_rfl
set_option maxHeartbeats 4000000 in
theorem fas_pl (a : Ax) (d : Int) (h1 : decide (axE a = 0) = true) (h2 : decide (0 ≤ d) = true) : Pl Try.prog 50 [axV a, .int .i64 d] (.int .i64 (fstV a.sp a.ac d)) := fun w => by
  have g1 := of_decide_eq_true h1
  have g2 := of_decide_eq_true h2
  have ha := axE_ok.1 g1
  unfold okA at ha
  have e0 : IntKind.i64.wrap (64 * a.sp) = 64 * a.sp := v64 (by omega) (by omega)
  by_cases hd : 64 * a.sp ≤ d
  · have k0 : decide (d ≥ IntKind.i64.wrap (64 * a.sp)) = true := by rw [e0]; exact decide_eq_true hd
    have V : fstV a.sp a.ac d = a.sp := if_pos hd
    rw [V]
    refine evR_calls (I := noFacts) (v := .int .i64 a.sp) (ctxLp_ok libB0_ok (eq_none _) (fns_nil _) (fun f fn h => by cases h)) (by kernel_rfl) Try.func50 rfl flLps_ok (fas_1 a d) rfl (all2_R (.cons rfl (.cons rfl .nil))) rfl w (Nat.zero_le _) (pickL_ok ?_ _)
    repeat' (first | exact cd_nil | refine cd_cons ?_ ?_)
    all_goals first | with_reducible rfl | with_reducible assumption | rfl

  · have k0 : decide (d ≥ IntKind.i64.wrap (64 * a.sp)) = false := by rw [e0]; exact decide_eq_false hd
    have k1 : (decide (axE a = 0) && (decide ((0 : Int) ≤ d) && (decide (d < 64 * a.sp) && decide ((1 : Int) = 1)))) = true := by rw [h1, h2, decide_eq_true (show d < 64 * a.sp by omega)]; rfl
    obtain ⟨k, q1, q2, q3, q4, q5⟩ := cntV_sp (A := a.ac) (d := d) (by omega) (by omega) 4096 1 (by omega) (by omega) (.inl rfl)
    have q1' : cntV a.ac d 4096 1 = (k : Int) := q1
    have k2 : decide (cntV a.ac d 4096 1 = 0) = false := decide_eq_false (by omega)
    have V : fstV a.sp a.ac d = (bif false then if IntKind.i64.wrap ((IntKind.i64.wrap (d + IntKind.i64.wrap ((IntKind.i64.wrap (IntKind.i64.wrap (a.ac * cntV a.ac d 4096 1) * IntKind.i64.wrap (cntV a.ac d 4096 1 - 1))).tdiv 2))).tdiv (cntV a.ac d 4096 1)) > a.sp then IntKind.i64.wrap ((IntKind.i64.wrap (d + IntKind.i64.wrap ((IntKind.i64.wrap (IntKind.i64.wrap (a.ac * cntV a.ac d 4096 1) * IntKind.i64.wrap (cntV a.ac d 4096 1 - 1))).tdiv 2))).tdiv (cntV a.ac d 4096 1)) else a.sp else if IntKind.i64.wrap ((IntKind.i64.wrap (d + IntKind.i64.wrap ((IntKind.i64.wrap (IntKind.i64.wrap (a.ac * cntV a.ac d 4096 1) * IntKind.i64.wrap (cntV a.ac d 4096 1 - 1))).tdiv 2))).tdiv (cntV a.ac d 4096 1)) < a.sp then IntKind.i64.wrap ((IntKind.i64.wrap (d + IntKind.i64.wrap ((IntKind.i64.wrap (IntKind.i64.wrap (a.ac * cntV a.ac d 4096 1) * IntKind.i64.wrap (cntV a.ac d 4096 1 - 1))).tdiv 2))).tdiv (cntV a.ac d 4096 1)) else a.sp) := by
      unfold fstV
      rw [if_neg hd]
      clear k0 k1 k2 q1
      generalize cntV a.ac d 4096 1 = c at *
      subst q1'
      have kb : (k : Int) ≤ 4096 := by omega
      have p0 : 0 ≤ a.ac * (k : Int) := Int.mul_nonneg (by omega) (by omega)
      have p1 : a.ac * (k : Int) ≤ a.ac * 4096 := Int.mul_le_mul_of_nonneg_left kb (by omega)
      have e1 : IntKind.i64.wrap (a.ac * (k : Int)) = a.ac * (k : Int) := v64 (by omega) (by omega)
      have e2 : IntKind.i64.wrap ((k : Int) - 1) = (k : Int) - 1 := v64 (by omega) (by omega)
      have p2 : 0 ≤ a.ac * (k : Int) * ((k : Int) - 1) := Int.mul_nonneg p0 (by omega)
      have p3 : a.ac * (k : Int) * ((k : Int) - 1) ≤ a.ac * (k : Int) * 4096 := Int.mul_le_mul_of_nonneg_left (by omega) p0
      have e3 : IntKind.i64.wrap (a.ac * (k : Int) * ((k : Int) - 1)) = a.ac * (k : Int) * ((k : Int) - 1) := v64 (by omega) (by omega)
      have e4 : (a.ac * (k : Int) * ((k : Int) - 1)).tdiv 2 = a.ac * (k : Int) * ((k : Int) - 1) / 2 := Int.tdiv_eq_ediv_of_nonneg p2
      rw [e1, e2, e3, e4]
      have t0 : 0 ≤ a.ac * (k : Int) * ((k : Int) - 1) / 2 := by omega
      have t1 : a.ac * (k : Int) * ((k : Int) - 1) / 2 ≤ 1073741824 * 4096 * 4096 := by omega
      generalize a.ac * (k : Int) * ((k : Int) - 1) / 2 = t at *
      have e5 : IntKind.i64.wrap t = t := v64 (by omega) (by omega)
      have e6 : IntKind.i64.wrap (d + t) = d + t := v64 (by omega) (by omega)
      have e7 : (d + t).tdiv (k : Int) = (d + t) / (k : Int) := Int.tdiv_eq_ediv_of_nonneg (by omega)
      have p5 : 0 ≤ (d + t) / (k : Int) := Int.ediv_nonneg (by omega) (by omega)
      have p6 : (d + t) / (k : Int) ≤ d + t := Int.ediv_le_self _ (by omega)
      have e8 : IntKind.i64.wrap ((d + t) / (k : Int)) = (d + t) / (k : Int) := v64 (by omega) (by omega)
      rw [e5, e6, e7, e8]
      rfl
    rw [V]
    refine evR_calls (I := noFacts) (v := .int .i64 ((bif false then if IntKind.i64.wrap ((IntKind.i64.wrap (d + IntKind.i64.wrap ((IntKind.i64.wrap (IntKind.i64.wrap (a.ac * cntV a.ac d 4096 1) * IntKind.i64.wrap (cntV a.ac d 4096 1 - 1))).tdiv 2))).tdiv (cntV a.ac d 4096 1)) > a.sp then IntKind.i64.wrap ((IntKind.i64.wrap (d + IntKind.i64.wrap ((IntKind.i64.wrap (IntKind.i64.wrap (a.ac * cntV a.ac d 4096 1) * IntKind.i64.wrap (cntV a.ac d 4096 1 - 1))).tdiv 2))).tdiv (cntV a.ac d 4096 1)) else a.sp else if IntKind.i64.wrap ((IntKind.i64.wrap (d + IntKind.i64.wrap ((IntKind.i64.wrap (IntKind.i64.wrap (a.ac * cntV a.ac d 4096 1) * IntKind.i64.wrap (cntV a.ac d 4096 1 - 1))).tdiv 2))).tdiv (cntV a.ac d 4096 1)) < a.sp then IntKind.i64.wrap ((IntKind.i64.wrap (d + IntKind.i64.wrap ((IntKind.i64.wrap (IntKind.i64.wrap (a.ac * cntV a.ac d 4096 1) * IntKind.i64.wrap (cntV a.ac d 4096 1 - 1))).tdiv 2))).tdiv (cntV a.ac d 4096 1)) else a.sp))) (ctxLp_ok libB0_ok (eq_none _) (fns_nil _) (fun f fn h => by cases h)) (by kernel_rfl) Try.func50 rfl flLps_ok (fas_0 a d) rfl (all2_R (.cons rfl (.cons rfl .nil))) rfl w (Nat.zero_le _) (pickL_ok ?_ _)
    repeat' (first | exact cd_nil | refine cd_cons ?_ ?_)
    all_goals first | with_reducible rfl | with_reducible assumption | rfl
noncomputable abbrev libC1 : List (Nat × FnSp Empty) := [(16, axS), (50, fsS)]
theorem libC1_ok : LibOk Try.prog noFacts (lib1 libC1) := (lib1_cons (sp1_ok fun a _ => ⟨_, rfl, cax_pl a⟩) Try.call16 (lib1_cons (sp2_ok fun a d hc => ⟨_, rfl, fas_pl a d (ca2 hc).1 (ca2 hc).2⟩) Try.call50 (lib1_nil _ _)))
set_option maxRecDepth 100000 in
theorem Fas_1 (a : Ax) (d : Int) : evR (ctxOf Try.prog noFacts (fun _ => false) libC1) Try.f24 [(axA a), (.w (.one (.int .i64 d)))] [true] = some (AV.w (AW.one (AC.int IntKind.i64 0)), (pickL [(axE a != 0, true), (true, true)] [0, 0, 0, 1])) := by kernel_rfl
set_option maxRecDepth 100000 in
theorem Fas_01 (a : Ax) (d : Int) : evR (ctxOf Try.prog noFacts (fun _ => false) libC1) Try.f24 [(axA a), (.w (.one (.int .i64 d)))] [false, true] = some (AV.w (AW.one (AC.int IntKind.i64 0)), (pickL [(axE a != 0, false), (decide (d < 0), true)] [0, 0, 0, 1])) := by kernel_rfl
set_option maxRecDepth 100000 in
theorem Fas_00 (a : Ax) (d : Int) : evR (ctxOf Try.prog noFacts (fun _ => false) libC1) Try.f24 [(axA a), (.w (.one (.int .i64 d)))] [false, false] = some (AV.w (AW.one (AC.int IntKind.i64 (fstV a.sp a.ac d))), (pickL [(axE a != 0, false), (decide (d < 0), false), (decide (axE a = 0), true), (decide ((0 : Int) ≤ d), true)] [0, 0, 0, 1, 2, 3])) := by kernel_rfl
theorem Fas_pl (a : Ax) (d : Int)  : Pl Try.prog 24 [axV a, .int .i64 d] (.int .i64 (FTv a d)) := fun w => by
  cases k0 : (axE a != 0) with
  | true =>
    have V : (FTv a d) = (0) := by
      unfold FTv
      simp_all <;> omega
    rw [V]
    refine evR_calls (I := noFacts) (v := .int .i64 (0)) (ctxOf_ok libC1_ok (eq_none _)) (by kernel_rfl) Try.func24 rfl lps_nil (Fas_1 a d) rfl (all2_R (.cons rfl (.cons rfl .nil))) rfl w (Nat.zero_le _) (pickL_ok ?_ _)
    repeat' (first | exact cd_nil | refine cd_cons ?_ ?_)
    all_goals first | with_reducible rfl | with_reducible assumption | rfl | (refine decide_eq_true ?_; simp only [beq_iff_eq, beq_eq_false_iff_ne, ne_eq, bne_iff_ne, bne_eq_false_iff_eq, decide_eq_true_eq, decide_eq_false_iff_not, Bool.not_eq_true', Bool.not_eq_false'] at *; omega) | (simp_all; done)

  | false =>
    cases k1 : (decide (d < 0)) with
    | true =>
      have V : (FTv a d) = (0) := by
        unfold FTv
        simp_all <;> omega
      rw [V]
      refine evR_calls (I := noFacts) (v := .int .i64 (0)) (ctxOf_ok libC1_ok (eq_none _)) (by kernel_rfl) Try.func24 rfl lps_nil (Fas_01 a d) rfl (all2_R (.cons rfl (.cons rfl .nil))) rfl w (Nat.zero_le _) (pickL_ok ?_ _)
      repeat' (first | exact cd_nil | refine cd_cons ?_ ?_)
      all_goals first | with_reducible rfl | with_reducible assumption | rfl | (refine decide_eq_true ?_; simp only [beq_iff_eq, beq_eq_false_iff_ne, ne_eq, bne_iff_ne, bne_eq_false_iff_eq, decide_eq_true_eq, decide_eq_false_iff_not, Bool.not_eq_true', Bool.not_eq_false'] at *; omega) | (simp_all; done)

    | false =>
      have V : (FTv a d) = ((fstV a.sp a.ac d)) := by
        unfold FTv
        simp_all <;> omega
      rw [V]
      refine evR_calls (I := noFacts) (v := .int .i64 ((fstV a.sp a.ac d))) (ctxOf_ok libC1_ok (eq_none _)) (by kernel_rfl) Try.func24 rfl lps_nil (Fas_00 a d) rfl (all2_R (.cons rfl (.cons rfl .nil))) rfl w (Nat.zero_le _) (pickL_ok ?_ _)
      repeat' (first | exact cd_nil | refine cd_cons ?_ ?_)
      all_goals first | with_reducible rfl | with_reducible assumption | rfl | (refine decide_eq_true ?_; simp only [beq_iff_eq, beq_eq_false_iff_ne, ne_eq, bne_iff_ne, bne_eq_false_iff_eq, decide_eq_true_eq, decide_eq_false_iff_not, Bool.not_eq_true', Bool.not_eq_false'] at *; omega) | (simp_all; done)
noncomputable abbrev libB1 : List (Nat × FnSp Empty) := [(51, bgS)]
theorem libB1_ok : LibOk Try.prog noFacts (lib1 libB1) := (lib1_cons (sp2_ok fun A v hc => ⟨_, rfl, bra_pl A v (ca2 hc).1 (ca2 hc).2⟩) Try.call51 (lib1_nil _ _))
set_option maxRecDepth 100000 in
theorem ff_11 (a : Ax) (d : Int) (lo : Int) (hi : Int) (rest : List (Nat × AV Empty)) : evView (ctxOf Try.prog noFacts (fun _ => false) libB1) 42 (false :: [false, false, true, true, true, true]) (loopAt (bodyOf Try.f25) [false, false, true, true, true, true]) ([(1, (.w (.one (.int .i64 d)))), (5, (.w (.one (.int .i64 lo)))), (6, (.w (.one (.int .i64 hi))))] ++ (ptrN 0 [2] ++ rest)) [⟨23, [.int .i64 a.mn, .int .i64 a.mx, .int .i64 a.sp, .int .i64 a.ac]⟩] 1 [1, 5, 6, 2] [true, true] = some ((Ex.normal, [AV.w (AW.one (AC.int IntKind.i64 d)), AV.w (AW.one (AC.int IntKind.i64 (IntKind.i64.wrap ((IntKind.i64.wrap (IntKind.i64.wrap (lo + hi) + 1)).tdiv 2)))), AV.w (AW.one (AC.int IntKind.i64 hi)), AV.w (AW.one (AC.ptr 0 0))], [{ ty := 23, cs := [AC.int IntKind.i64 a.mn, AC.int IntKind.i64 a.mx, AC.int IntKind.i64 a.sp, AC.int IntKind.i64 a.ac] }]), (pickL [(decide (lo < hi), true), (decide ((2 : Int) = 0), false), (decide ((1 : Int) ≤ a.ac) && decide (a.ac ≤ 2147483648), true), (decide (IntKind.i64.wrap ((IntKind.i64.wrap (IntKind.i64.wrap (lo + hi) + 1)).tdiv 2) ≤ 2147483648), true), (decide (brV a.ac (IntKind.i64.wrap ((IntKind.i64.wrap (IntKind.i64.wrap (lo + hi) + 1)).tdiv 2)) ≤ d), true)] [0, 1, 2, 3, 4])) := by kernel_rfl
set_option maxRecDepth 100000 in
theorem ff_10 (a : Ax) (d : Int) (lo : Int) (hi : Int) (rest : List (Nat × AV Empty)) : evView (ctxOf Try.prog noFacts (fun _ => false) libB1) 42 (false :: [false, false, true, true, true, true]) (loopAt (bodyOf Try.f25) [false, false, true, true, true, true]) ([(1, (.w (.one (.int .i64 d)))), (5, (.w (.one (.int .i64 lo)))), (6, (.w (.one (.int .i64 hi))))] ++ (ptrN 0 [2] ++ rest)) [⟨23, [.int .i64 a.mn, .int .i64 a.mx, .int .i64 a.sp, .int .i64 a.ac]⟩] 1 [1, 5, 6, 2] [true, false] = some ((Ex.normal, [AV.w (AW.one (AC.int IntKind.i64 d)), AV.w (AW.one (AC.int IntKind.i64 lo)), AV.w (AW.one (AC.int IntKind.i64 (IntKind.i64.wrap (IntKind.i64.wrap ((IntKind.i64.wrap (IntKind.i64.wrap (lo + hi) + 1)).tdiv 2) - 1)))), AV.w (AW.one (AC.ptr 0 0))], [{ ty := 23, cs := [AC.int IntKind.i64 a.mn, AC.int IntKind.i64 a.mx, AC.int IntKind.i64 a.sp, AC.int IntKind.i64 a.ac] }]), (pickL [(decide (lo < hi), true), (decide ((2 : Int) = 0), false), (decide ((1 : Int) ≤ a.ac) && decide (a.ac ≤ 2147483648), true), (decide (IntKind.i64.wrap ((IntKind.i64.wrap (IntKind.i64.wrap (lo + hi) + 1)).tdiv 2) ≤ 2147483648), true), (decide (brV a.ac (IntKind.i64.wrap ((IntKind.i64.wrap (IntKind.i64.wrap (lo + hi) + 1)).tdiv 2)) ≤ d), false)] [0, 1, 2, 3, 4])) := by kernel_rfl
set_option maxRecDepth 100000 in
theorem ffr_0 (a : Ax) (d : Int) (lo : Int) (hi : Int) (rest : List (Nat × AV Empty)) : evView (ctxOf Try.prog noFacts (fun _ => false) libB1) 42 (false :: [false, false, true, true, true, true]) (loopAt (bodyOf Try.f25) [false, false, true, true, true, true]) ([(1, (.w (.one (.int .i64 d)))), (5, (.w (.one (.int .i64 lo)))), (6, (.w (.one (.int .i64 hi))))] ++ (ptrN 0 [2] ++ rest)) [⟨23, [.int .i64 a.mn, .int .i64 a.mx, .int .i64 a.sp, .int .i64 a.ac]⟩] 1 [5, 2] [false] = some ((Ex.exit 0, [AV.w (AW.one (AC.int IntKind.i64 lo)), AV.w (AW.one (AC.ptr 0 0))], [{ ty := 23, cs := [AC.int IntKind.i64 a.mn, AC.int IntKind.i64 a.mx, AC.int IntKind.i64 a.sp, AC.int IntKind.i64 a.ac] }]), (pickL [(decide (lo < hi), false)] [0])) := by kernel_rfl
structure ffT where
  a : Ax
  d : Int
  lo : Int
  hi : Int
def ffP (a : Ax) (d : Int) (lo : Int) (hi : Int) : Prop := axE a = 0 ∧ 0 ≤ lo ∧ lo ≤ hi ∧ hi ≤ a.sp
instance (a : Ax) (d : Int) (lo : Int) (hi : Int) : Decidable (ffP a d lo hi) := by unfold ffP; infer_instance
def ffTm (a : Ax) (d : Int) (lo : Int) (hi : Int) : List (Nat × AV Empty) := [(1, (.w (.one (.int .i64 d)))), (5, (.w (.one (.int .i64 lo)))), (6, (.w (.one (.int .i64 hi))))]
def ffS : LpSt ffT Empty where
  ps := [2]
  tm := fun t => ffTm t.a t.d t.lo t.hi
  hp := fun t => [⟨23, [.int .i64 t.a.mn, .int .i64 t.a.mx, .int .i64 t.a.sp, .int .i64 t.a.ac]⟩]
def ffNx (a : Ax) (d : Int) (lo : Int) (hi : Int) : Nxt ffT Empty := if lo < hi then (if brV a.ac ((lo + hi + 1) / 2) ≤ d then .go ⟨a, d, (lo + hi + 1) / 2, hi⟩ else .go ⟨a, d, lo, (lo + hi + 1) / 2 - 1⟩) else .out (.exit 0) [(5, .w (.one (.int .i64 lo)))] [⟨23, [.int .i64 a.mn, .int .i64 a.mx, .int .i64 a.sp, .int .i64 a.ac]⟩]
def ffStep (t : ffT) : Nxt ffT Empty := if ffP t.a t.d t.lo t.hi then ffNx t.a t.d t.lo t.hi else .bad
theorem ff_go {a : Ax} {d : Int} {lo : Int} {hi : Int} (h : ffP a d lo hi) : ffStep ⟨a, d, lo, hi⟩ = ffNx a d lo hi := if_pos h
set_option maxRecDepth 100000 in
set_option maxHeartbeats 4000000 in
theorem ff_round (t : ffT) (hb : (ffStep t).isBad = false) (rest : List (Nat × AV Empty)) : ∃ fuel path r, evC (ctxOf Try.prog noFacts (fun _ => false) libB1) fuel 42 (false :: [false, false, true, true, true, true]) (loopAt (bodyOf Try.f25) [false, false, true, true, true, true]) (ffS.tm t ++ (ptrN 0 ffS.ps ++ rest)) (numb 0 (ffS.hp t)) 1 path = some r ∧ (∀ p ∈ r.cd, p.1 = p.2) ∧ Gives ffS 1 r (ffStep t) := by
  obtain ⟨a, d, lo, hi⟩ := t
  by_cases ok : ffP a d lo hi
  · rw [ff_go ok]
    clear hb
    unfold ffNx
    obtain ⟨h1, h2, h3, h4⟩ := ok
    have ha := axE_ok.1 h1
    unfold okA at ha
    have e0 : IntKind.i64.wrap (lo + hi) = lo + hi := v64 (by omega) (by omega)
    have e1 : IntKind.i64.wrap (lo + hi + 1) = lo + hi + 1 := v64 (by omega) (by omega)
    have e2 : (lo + hi + 1).tdiv 2 = (lo + hi + 1) / 2 := Int.tdiv_eq_ediv_of_nonneg (by omega)
    have e3 : IntKind.i64.wrap ((lo + hi + 1) / 2) = (lo + hi + 1) / 2 := v64 (by omega) (by omega)
    have e4 : IntKind.i64.wrap ((lo + hi + 1) / 2 - 1) = (lo + hi + 1) / 2 - 1 := v64 (by omega) (by omega)
    have i1 : (decide (1 ≤ a.ac) && decide (a.ac ≤ 2147483648)) = true := by simp; omega
    have i2 : decide ((lo + hi + 1) / 2 ≤ 2147483648) = true := decide_eq_true (by omega)
    by_cases hk : lo < hi
    · have c1 : decide (lo < hi) = true := decide_eq_true hk
      rw [if_pos hk]
      by_cases hb : brV a.ac ((lo + hi + 1) / 2) ≤ d
      · have c2 : decide (brV a.ac ((lo + hi + 1) / 2) ≤ d) = true := decide_eq_true hb
        rw [if_pos hb]
        have L := ff_11 a d lo hi rest
        rw [e0, e1, e2, e3] at L
        refine round_go L (pickL_ok ?_ _) rfl rfl rfl rfl
        repeat' (first | exact cd_nil | refine cd_cons ?_ ?_)
        all_goals first | with_reducible rfl | with_reducible assumption | rfl | (simp; omega)
      · have c2 : decide (brV a.ac ((lo + hi + 1) / 2) ≤ d) = false := decide_eq_false hb
        rw [if_neg hb]
        have L := ff_10 a d lo hi rest
        rw [e0, e1, e2, e3, e4] at L
        refine round_go L (pickL_ok ?_ _) rfl rfl rfl rfl
        repeat' (first | exact cd_nil | refine cd_cons ?_ ?_)
        all_goals first | with_reducible rfl | with_reducible assumption | rfl | (simp; omega)
    · have c1 : decide (lo < hi) = false := decide_eq_false hk
      rw [if_neg hk]
      have L := ffr_0 a d lo hi rest
      refine round_out L rfl (pickL_ok ?_ _) rfl rfl rfl
      repeat' (first | exact cd_nil | refine cd_cons ?_ ?_)
      all_goals first | with_reducible rfl | with_reducible assumption | rfl | (simp; omega)
  · exfalso
    have : ffStep ⟨a, d, lo, hi⟩ = .bad := if_neg ok
    rw [this] at hb; cases hb
theorem ff_runs {a : Ax} {d : Int} (h1 : axE a = 0) (h0 : 0 ≤ d) : ∀ (n : Nat) (lo hi : Int), (hi - lo).toNat ≤ n → 0 ≤ lo → lo ≤ hi → hi ≤ a.sp → brV a.ac lo ≤ d → (hi = a.sp ∨ d < brV a.ac (hi + 1)) → ∃ k, runs ffStep k ⟨a, d, lo, hi⟩ = some (.exit 0, [(5, .w (.one (.int .i64 (fstV a.sp a.ac d))))], [⟨23, [.int .i64 a.mn, .int .i64 a.mx, .int .i64 a.sp, .int .i64 a.ac]⟩])
  | n, lo, hi, hn, h2, h3, h4, h5, h6 => by
    have ha := axE_ok.1 h1
    unfold okA at ha
    by_cases hk : lo < hi
    · obtain ⟨n, rfl⟩ : ∃ k, n = k + 1 := ⟨n - 1, by omega⟩
      by_cases hb : brV a.ac ((lo + hi + 1) / 2) ≤ d
      · obtain ⟨k, hr⟩ := ff_runs h1 h0 n ((lo + hi + 1) / 2) hi (by omega) (by omega) (by omega) h4 hb h6
        refine ⟨k + 1, ?_⟩
        rw [runs, ff_go ⟨h1, h2, h3, h4⟩]
        unfold ffNx
        rw [if_pos hk, if_pos hb]
        exact hr
      · obtain ⟨k, hr⟩ := ff_runs h1 h0 n lo ((lo + hi + 1) / 2 - 1) (by omega) (by omega) (by omega) (by omega) h5 (.inr (by rw [Int.sub_add_cancel]; omega))
        refine ⟨k + 1, ?_⟩
        rw [runs, ff_go ⟨h1, h2, h3, h4⟩]
        unfold ffNx
        rw [if_pos hk, if_neg hb]
        exact hr
    · refine ⟨1, ?_⟩
      rw [runs, ff_go ⟨h1, h2, h3, h4⟩]
      unfold ffNx
      have : lo = hi := by omega
      subst this
      rw [if_neg hk, isF_uniq (show 1 ≤ a.ac by omega) (fstV_sp (S := a.sp) (A := a.ac) (by omega) (by omega) (by omega) h0) ⟨h2, h4, h5, h6⟩]
termination_by n => n
def ffD : LpDef ffT Empty where
  ts := [1, 5, 6]
  ps := [2]
  W := [1, 2, 5, 6, 7, 24, 25, 26, 27, 28, 29, 30, 31, 32, 33, 34, 35, 36, 37, 38, 39, 40]
  dec := fun vs ks => match vs, ks with
    | [.w (.one (.int .i64 d)), .w (.one (.int .i64 lo)), .w (.one (.int .i64 hi))], [⟨23, [.int .i64 x0, .int .i64 x1, .int .i64 x2, .int .i64 x3]⟩] => some ⟨⟨x0, x1, x2, x3⟩, d, lo, hi⟩
    | _, _ => none
  spec := fun t => some ((.exit 0), [(5, .w (.one (.int .i64 (fstV t.a.sp t.a.ac t.d))))], [⟨23, [.int .i64 t.a.mn, .int .i64 t.a.mx, .int .i64 t.a.sp, .int .i64 t.a.ac]⟩], [(decide (axE t.a = 0) && (decide (0 ≤ t.d) && (decide (t.lo = 0) && decide (t.hi = t.a.sp))), true)])
theorem ffD_ok (x : Code) (hx : codeAt (bodyOf Try.f25) [false, false, true, true, true, true] = some (.loop x)) : LpOk Try.prog noFacts 42 x (ffD.sp (fun _ => true)) := by
  obtain rfl := loopAt_eq hx
  refine lp_ok (c := ctxOf Try.prog noFacts (fun _ => false) libB1) (ctxOf_ok libB1_ok (eq_none _)) (by kernel_rfl) hx lps_nil (S := ffS) (step := ffStep) (fun _ _ => rfl) (by kernel_rfl) (by kernel_rfl) ?_ rfl (fun t e he => ?_) (fun t hb rest => ff_round t hb rest) ?_
  · intro vs ks s hv1 h hv2
    simp only [ffD] at h
    split at h
    · cases h
      exact ⟨rfl, fun e he => he⟩
    · cases h
  · simp only [ffS, ffTm, List.mem_cons, List.not_mem_nil, or_false] at he
    rcases he with rfl | rfl | rfl <;> rfl
  · intro s ex outs wb cd h hc
    obtain ⟨a, d, lo, hi⟩ := s
    simp only [ffD] at h
    cases h
    have := ca1 hc
    simp only [Bool.and_eq_true, decide_eq_true_eq] at this
    obtain ⟨h1, h2, rfl, rfl⟩ := this
    have ha := axE_ok.1 h1
    unfold okA at ha
    exact ff_runs h1 h2 _ 0 _ (Nat.le_refl _) (by omega) (by omega) (by omega) (by rw [brV_neg (by omega)]; exact h2) (.inl rfl)
noncomputable abbrev ffLps : Lps Empty := [((42, [false, false, true, true, true, true]), ffD.sp (fun _ => true))]
theorem ffLps_ok : LpsOk Try.prog noFacts ffLps Try.f25.ntmps (bodyOf Try.f25) := lps_cons (fun _ x hx => ffD_ok x hx) lps_nil
end
end Go.Proofs.Ytiamhppdacfmmaa.AtSl

