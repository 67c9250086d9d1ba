/-
 Package slew's Fastest as a function, the braking distances, and the reference's search for the greatest speed (its loop).
 Conditions: those of each theorem.
-/
import Derived.Test.YtmhhdedekblbnaaGreatQQB
set_option maxRecDepth 100000
set_option linter.unusedVariables false
set_option linter.unusedSimpArgs false
namespace Go.Proofs.YtmhhdedekblbnaaGreat.AtSl
open Go.RowKit Ev Wd
open Go.Proofs.YtmhhdedekblbnaaGreat
variable {F : Type}
noncomputable section

noncomputable abbrev flLps : Lps Empty := [((42, [false, false, true, true, true]), flD.sp (fun _ => true))]
theorem flLps_ok : LpsOk Tryz.prog noFacts flLps Tryz.f142.ntmps (bodyOf Tryz.f142) := lps_cons (fun _ x hx => flD_ok x hx) lps_nil
theorem fas_1 (a : Ax) (d : Int) : evR (ctxLp Tryz.prog noFacts (fun _ => false) libB0 [] flLps) Tryz.f142 [(axA a), (.w (.one (.int .i64 d)))] [true] = some (AV.w (AW.one (AC.int IntKind.i64 a.sp)), (pickL [(decide (d >= IntKind.i64.wrap (64 * a.sp)), true)] [0])) := by kernel_rfl
theorem fas_0 (a : Ax) (d : Int) : evR (ctxLp Tryz.prog noFacts (fun _ => false) libB0 [] flLps) Tryz.f142 [(axA a), (.w (.one (.int .i64 d)))] [false] = some (AV.w (AW.one (AC.int IntKind.i64 (bif false then if IntKind.i64.wrap ((IntKind.i64.wrap (d + IntKind.i64.wrap ((IntKind.i64.wrap (IntKind.i64.wrap (a.ac * cntV a.ac d 4096 1) * IntKind.i64.wrap (cntV a.ac d 4096 1 - 1))).tdiv 2))).tdiv (cntV a.ac d 4096 1)) > a.sp then IntKind.i64.wrap ((IntKind.i64.wrap (d + IntKind.i64.wrap ((IntKind.i64.wrap (IntKind.i64.wrap (a.ac * cntV a.ac d 4096 1) * IntKind.i64.wrap (cntV a.ac d 4096 1 - 1))).tdiv 2))).tdiv (cntV a.ac d 4096 1)) else a.sp else if IntKind.i64.wrap ((IntKind.i64.wrap (d + IntKind.i64.wrap ((IntKind.i64.wrap (IntKind.i64.wrap (a.ac * cntV a.ac d 4096 1) * IntKind.i64.wrap (cntV a.ac d 4096 1 - 1))).tdiv 2))).tdiv (cntV a.ac d 4096 1)) < a.sp then IntKind.i64.wrap ((IntKind.i64.wrap (d + IntKind.i64.wrap ((IntKind.i64.wrap (IntKind.i64.wrap (a.ac * cntV a.ac d 4096 1) * IntKind.i64.wrap (cntV a.ac d 4096 1 - 1))).tdiv 2))).tdiv (cntV a.ac d 4096 1)) else a.sp))), (pickL [(decide (d >= IntKind.i64.wrap (64 * a.sp)), false), (decide (axE a = 0) && (decide ((0 : Int) <= d) && (decide (d < 64 * a.sp) && decide ((1 : Int) = 1))), true), (decide ((2 : Int) = 0), false), (decide (cntV a.ac d 4096 1 = 0), false)] [0, 1, 2, 3])) := by kernel_rfl
set_option maxHeartbeats 4000000 in
theorem fas_pl (a : Ax) (d : Int) (h1 : decide (axE a = 0) = true) (h2 : decide (0 <= d) = true) : Pl Tryz.prog 142 [axV a, .int .i64 d] (.int .i64 (fstV a.sp a.ac d)) := fun w => by
 have g1 := of_decide_eq_true h1
 have g2 := of_decide_eq_true h2
 have ha := axE_ok.1 g1
 unfold okA at ha
 have e0 : IntKind.i64.wrap (64 * a.sp) = 64 * a.sp := v64 (by omega) (by omega)
 by_cases hd : 64 * a.sp <= d
 · have k0 : decide (d >= IntKind.i64.wrap (64 * a.sp)) = true := by rw [e0]; exact decide_eq_true hd
   have V : fstV a.sp a.ac d = a.sp := if_pos hd
   rw [V]
   refine evR_calls (I := noFacts) (v := .int .i64 a.sp) (ctxLp_ok libB0_ok (eq_none _) (fns_nil _) (fun f fn h => by cases h)) (by kernel_rfl) Tryz.func142 rfl flLps_ok (fas_1 a d) rfl (all2_R (.cons rfl (.cons rfl .nil))) rfl w (Nat.zero_le _) (pickL_ok ?_ _)
   repeat' (first | exact cd_nil | refine cd_cons ?_ ?_)
   all_goals first | with_reducible rfl | with_reducible assumption | rfl
 · have k0 : decide (d >= IntKind.i64.wrap (64 * a.sp)) = false := by rw [e0]; exact decide_eq_false hd
   have k1 : (decide (axE a = 0) && (decide ((0 : Int) <= d) && (decide (d < 64 * a.sp) && decide ((1 : Int) = 1)))) = true := by rw [h1, h2, decide_eq_true (show d < 64 * a.sp by omega)]; rfl
   obtain ⟨k, q1, q2, q3, q4, q5⟩ := cntV_sp (A := a.ac) (d := d) (by omega) (by omega) 4096 1 (by omega) (by omega) (.inl rfl)
   have q1' : cntV a.ac d 4096 1 = (k : Int) := q1
   have k2 : decide (cntV a.ac d 4096 1 = 0) = false := decide_eq_false (by omega)
   have V : fstV a.sp a.ac d = (bif false then if IntKind.i64.wrap ((IntKind.i64.wrap (d + IntKind.i64.wrap ((IntKind.i64.wrap (IntKind.i64.wrap (a.ac * cntV a.ac d 4096 1) * IntKind.i64.wrap (cntV a.ac d 4096 1 - 1))).tdiv 2))).tdiv (cntV a.ac d 4096 1)) > a.sp then IntKind.i64.wrap ((IntKind.i64.wrap (d + IntKind.i64.wrap ((IntKind.i64.wrap (IntKind.i64.wrap (a.ac * cntV a.ac d 4096 1) * IntKind.i64.wrap (cntV a.ac d 4096 1 - 1))).tdiv 2))).tdiv (cntV a.ac d 4096 1)) else a.sp else if IntKind.i64.wrap ((IntKind.i64.wrap (d + IntKind.i64.wrap ((IntKind.i64.wrap (IntKind.i64.wrap (a.ac * cntV a.ac d 4096 1) * IntKind.i64.wrap (cntV a.ac d 4096 1 - 1))).tdiv 2))).tdiv (cntV a.ac d 4096 1)) < a.sp then IntKind.i64.wrap ((IntKind.i64.wrap (d + IntKind.i64.wrap ((IntKind.i64.wrap (IntKind.i64.wrap (a.ac * cntV a.ac d 4096 1) * IntKind.i64.wrap (cntV a.ac d 4096 1 - 1))).tdiv 2))).tdiv (cntV a.ac d 4096 1)) else a.sp) := by
     unfold fstV
     rw [if_neg hd]
     clear k0 k1 k2 q1
     generalize cntV a.ac d 4096 1 = c at *
     subst q1'
     have kb : (k : Int) <= 4096 := by omega
     have p0 : 0 <= a.ac * (k : Int) := Int.mul_nonneg (by omega) (by omega)
     have p1 : a.ac * (k : Int) <= a.ac * 4096 := Int.mul_le_mul_of_nonneg_left kb (by omega)
     have e1 : IntKind.i64.wrap (a.ac * (k : Int)) = a.ac * (k : Int) := v64 (by omega) (by omega)
     have e2 : IntKind.i64.wrap ((k : Int) - 1) = (k : Int) - 1 := v64 (by omega) (by omega)
     have p2 : 0 <= a.ac * (k : Int) * ((k : Int) - 1) := Int.mul_nonneg p0 (by omega)
     have p3 : a.ac * (k : Int) * ((k : Int) - 1) <= a.ac * (k : Int) * 4096 := Int.mul_le_mul_of_nonneg_left (by omega) p0
     have e3 : IntKind.i64.wrap (a.ac * (k : Int) * ((k : Int) - 1)) = a.ac * (k : Int) * ((k : Int) - 1) := v64 (by omega) (by omega)
     have e4 : (a.ac * (k : Int) * ((k : Int) - 1)).tdiv 2 = a.ac * (k : Int) * ((k : Int) - 1) / 2 := Int.tdiv_eq_ediv_of_nonneg p2
     rw [e1, e2, e3, e4]
     have t0 : 0 <= a.ac * (k : Int) * ((k : Int) - 1) / 2 := by omega
     have t1 : a.ac * (k : Int) * ((k : Int) - 1) / 2 <= 1073741824 * 4096 * 4096 := by omega
     generalize a.ac * (k : Int) * ((k : Int) - 1) / 2 = t at *
     have e5 : IntKind.i64.wrap t = t := v64 (by omega) (by omega)
     have e6 : IntKind.i64.wrap (d + t) = d + t := v64 (by omega) (by omega)
     have e7 : (d + t).tdiv (k : Int) = (d + t) / (k : Int) := Int.tdiv_eq_ediv_of_nonneg (by omega)
     have p5 : 0 <= (d + t) / (k : Int) := Int.ediv_nonneg (by omega) (by omega)
     have p6 : (d + t) / (k : Int) <= d + t := Int.ediv_le_self _ (by omega)
     have e8 : IntKind.i64.wrap ((d + t) / (k : Int)) = (d + t) / (k : Int) := v64 (by omega) (by omega)
     rw [e5, e6, e7, e8]
     rfl
   rw [V]
   refine evR_calls (I := noFacts) (v := .int .i64 ((bif false then if IntKind.i64.wrap ((IntKind.i64.wrap (d + IntKind.i64.wrap ((IntKind.i64.wrap (IntKind.i64.wrap (a.ac * cntV a.ac d 4096 1) * IntKind.i64.wrap (cntV a.ac d 4096 1 - 1))).tdiv 2))).tdiv (cntV a.ac d 4096 1)) > a.sp then IntKind.i64.wrap ((IntKind.i64.wrap (d + IntKind.i64.wrap ((IntKind.i64.wrap (IntKind.i64.wrap (a.ac * cntV a.ac d 4096 1) * IntKind.i64.wrap (cntV a.ac d 4096 1 - 1))).tdiv 2))).tdiv (cntV a.ac d 4096 1)) else a.sp else if IntKind.i64.wrap ((IntKind.i64.wrap (d + IntKind.i64.wrap ((IntKind.i64.wrap (IntKind.i64.wrap (a.ac * cntV a.ac d 4096 1) * IntKind.i64.wrap (cntV a.ac d 4096 1 - 1))).tdiv 2))).tdiv (cntV a.ac d 4096 1)) < a.sp then IntKind.i64.wrap ((IntKind.i64.wrap (d + IntKind.i64.wrap ((IntKind.i64.wrap (IntKind.i64.wrap (a.ac * cntV a.ac d 4096 1) * IntKind.i64.wrap (cntV a.ac d 4096 1 - 1))).tdiv 2))).tdiv (cntV a.ac d 4096 1)) else a.sp))) (ctxLp_ok libB0_ok (eq_none _) (fns_nil _) (fun f fn h => by cases h)) (by kernel_rfl) Tryz.func142 rfl flLps_ok (fas_0 a d) rfl (all2_R (.cons rfl (.cons rfl .nil))) rfl w (Nat.zero_le _) (pickL_ok ?_ _)
   repeat' (first | exact cd_nil | refine cd_cons ?_ ?_)
   all_goals first | with_reducible rfl | with_reducible assumption | rfl
def ffP (a : Ax) (d : Int) (lo : Int) (hi : Int) : Prop := axE a = 0 /\ 0 <= lo /\ lo <= hi /\ hi <= a.sp
instance (a : Ax) (d : Int) (lo : Int) (hi : Int) : Decidable (ffP a d lo hi) := by unfold ffP; infer_instance
end
end Go.Proofs.YtmhhdedekblbnaaGreat.AtSl
