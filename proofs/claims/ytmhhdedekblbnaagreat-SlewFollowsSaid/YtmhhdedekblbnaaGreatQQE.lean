/-
 Steps and Target as functions; the reference's likewise.
 Conditions: those of each theorem.
-/
import Derived.Test.YtmhhdedekblbnaaGreatQQD
set_option maxRecDepth 100000
set_option linter.unusedVariables false
set_option linter.unusedSimpArgs false
namespace Go.Proofs.YtmhhdedekblbnaaGreat.AtSl
open Go.RowKit Ev Wd
open Go.Proofs.YtmhhdedekblbnaaGreat
variable {F : Type}
noncomputable section

abbrev moS2 : FnSp F := sp2 (dInt .i64) (dInt .i64) (fun a b => aInt .i64 (mdV a b)) (fun a b => [(i64B a, true), (i64B b, true)])
theorem moS2_ok : (moS2 (F := Empty)).ok Tryz.prog noFacts 165 := sp2_ok fun a b hc => by
 obtain ⟨h1, h2⟩ := ca2 hc
 rw [i64B_iff] at h1 h2
 exact ⟨_, rfl, Pl.same fun w => mod_any a b h2.1 h2.2 w⟩
theorem in_rg {a : Ax} {x : Int} (h1 : axE a = 0) (h2 : inA a x = true) : -17179869184 <= x /\ x <= 17179869184 := by
 have ha := axE_ok.1 h1
 unfold okA at ha
 rw [inA_iff] at h2
 omega
theorem dst_rg {x y : Int} (hx : -17179869184 <= x /\ x <= 17179869184) (hy : -17179869184 <= y /\ y <= 17179869184) : 0 <= dst x y /\ dst x y <= 34359738368 := by
 unfold dst; split <;> omega
noncomputable abbrev libE1 : List (Nat × FnSp Empty) := [(142, fsS)]
theorem libE1_ok : LibOk Tryz.prog noFacts (lib1 libE1) := (lib1_cons (sp2_ok fun a d hc => ⟨_, rfl, fas_pl a d (ca2 hc).1 (ca2 hc).2⟩) Tryz.call142 (lib1_nil _ _))
theorem ste_ (a : Ax) (x : Int) (y : Int) : evR (ctxLp Tryz.prog noFacts (fun _ => false) libE1 [] slLps) Tryz.f85 [(axA a), (.w (.one (.int .i64 x))), (.w (.one (.int .i64 y)))] [] = some (AV.w (AW.one (AC.int IntKind.i64 (stV a.sp a.ac (IntKind.i64.wrap ((bif true then if y > x then y else x else if y < x then y else x) - bif false then if y > x then y else x else if y < x then y else x))))), (pickL [(decide (axE a = 0) && (decide ((0 : Int) <= IntKind.i64.wrap ((bif true then if y > x then y else x else if y < x then y else x) - bif false then if y > x then y else x else if y < x then y else x)) && (decide (IntKind.i64.wrap ((bif true then if y > x then y else x else if y < x then y else x) - bif false then if y > x then y else x else if y < x then y else x) <= 1099511627776) && (decide ((0 : Int) = 0) && decide ((0 : Int) = 0)))), true)] [0])) := by kernel_rfl
theorem ste_pl (a : Ax) (x : Int) (y : Int) (h1 : decide (axE a = 0) = true) (h2 : inA a x = true) (h3 : inA a y = true) : Pl Tryz.prog 85 [axV a, .int .i64 x, .int .i64 y] (.int .i64 (stV a.sp a.ac (dst x y))) := fun w => by
 have g1 := of_decide_eq_true h1
 have gx := in_rg g1 h2
 have gy := in_rg g1 h3
 have gd := dst_rg gx gy
 have EW : IntKind.i64.wrap ((bif true then if y > x then y else x else if y < x then y else x) - bif false then if y > x then y else x else if y < x then y else x) = dst x y := by
   simp only [IntKind.wrap_i64, cond_true, cond_false]
   unfold dst
   repeat' split
   all_goals omega
 have hc : (decide (axE a = 0) && (decide ((0 : Int) <= IntKind.i64.wrap ((bif true then if y > x then y else x else if y < x then y else x) - bif false then if y > x then y else x else if y < x then y else x)) && (decide (IntKind.i64.wrap ((bif true then if y > x then y else x else if y < x then y else x) - bif false then if y > x then y else x else if y < x then y else x) <= 1099511627776) && (decide ((0 : Int) = 0) && decide ((0 : Int) = 0))))) = true := by
   rw [EW, h1, decide_eq_true gd.1, decide_eq_true (show dst x y <= 1099511627776 by omega)]; rfl
 have V : (stV a.sp a.ac (dst x y)) = ((stV a.sp a.ac (IntKind.i64.wrap ((bif true then if y > x then y else x else if y < x then y else x) - bif false then if y > x then y else x else if y < x then y else x)))) := by
   rw [EW]
 rw [V]
 refine evR_calls (I := noFacts) (v := .int .i64 ((stV a.sp a.ac (IntKind.i64.wrap ((bif true then if y > x then y else x else if y < x then y else x) - bif false then if y > x then y else x else if y < x then y else x))))) (ctxLp_ok libE1_ok (eq_none _) (fns_nil _) (fun f fn h => by cases h)) (by kernel_rfl) Tryz.func85 rfl slLps_ok (ste_ a x y) rfl (all2_R (.cons rfl (.cons rfl (.cons rfl .nil)))) rfl w (Nat.zero_le _) (pickL_ok ?_ _)
 repeat' (first | exact cd_nil | refine cd_cons ?_ ?_)
 all_goals first | with_reducible rfl | with_reducible assumption | rfl | (refine decide_eq_true ?_; simp only [beq_iff_eq, beq_eq_false_iff_ne, ne_eq, bne_iff_ne, bne_eq_false_iff_eq, decide_eq_true_eq, decide_eq_false_iff_not, Bool.not_eq_true', Bool.not_eq_false'] at *; omega) | (simp_all; done)
noncomputable abbrev libE2 : List (Nat × FnSp Empty) := [(126, axS), (127, inS), (85, stS)]
theorem libE2_ok : LibOk Tryz.prog noFacts (lib1 libE2) := (lib1_cons (sp1_ok fun a _ => ⟨_, rfl, cax_pl a⟩) Tryz.call126 (lib1_cons (sp2_ok fun a p _ => ⟨_, rfl, inn_pl a p⟩) Tryz.call127 (lib1_cons (sp3_ok fun a p q hc => ⟨_, rfl, ste_pl a p q (ca3 hc).1 (ca3 hc).2.1 (ca3 hc).2.2⟩) Tryz.call85 (lib1_nil _ _))))
theorem Ste_1 (a : Ax) (x : Int) (y : Int) : evR (ctxOf Tryz.prog noFacts (fun _ => false) libE2) Tryz.f75 [(axA a), (.w (.one (.int .i64 x))), (.w (.one (.int .i64 y)))] [true] = some (AV.tup [AW.one (AC.int IntKind.i64 0), AW.one (AC.int IntKind.i64 (axE a))], (pickL [(axE a != 0, true)] [0])) := by kernel_rfl
theorem Ste_01 (a : Ax) (x : Int) (y : Int) : evR (ctxOf Tryz.prog noFacts (fun _ => false) libE2) Tryz.f75 [(axA a), (.w (.one (.int .i64 x))), (.w (.one (.int .i64 y)))] [false, true] = some (AV.tup [AW.one (AC.int IntKind.i64 0), AW.one (AC.int IntKind.i64 4)], (pickL [(axE a != 0, false), (!inA a x, true), (true, true)] [0, 1, 1, 1, 1, 1, 2])) := by kernel_rfl
theorem Ste_001 (a : Ax) (x : Int) (y : Int) : evR (ctxOf Tryz.prog noFacts (fun _ => false) libE2) Tryz.f75 [(axA a), (.w (.one (.int .i64 x))), (.w (.one (.int .i64 y)))] [false, false, true] = some (AV.tup [AW.one (AC.int IntKind.i64 0), AW.one (AC.int IntKind.i64 4)], (pickL [(axE a != 0, false), (!inA a x, false), (!inA a y, true)] [0, 1, 1, 1, 1, 1, 2])) := by kernel_rfl
theorem Ste_000 (a : Ax) (x : Int) (y : Int) : evR (ctxOf Tryz.prog noFacts (fun _ => false) libE2) Tryz.f75 [(axA a), (.w (.one (.int .i64 x))), (.w (.one (.int .i64 y)))] [false, false, false] = some (AV.tup [AW.one (AC.int IntKind.i64 (stV a.sp a.ac (dst x y))), AW.one (AC.int IntKind.i64 0)], (pickL [(axE a != 0, false), (!inA a x, false), (!inA a y, false), (decide (axE a = 0), true), (inA a x, true), (inA a y, true)] [0, 1, 1, 1, 1, 1, 2, 3, 4, 5])) := by kernel_rfl
set_option maxHeartbeats 4000000 in
theorem Ste_pl (a : Ax) (x : Int) (y : Int)  : Pl Tryz.prog 75 [axV a, .int .i64 x, .int .i64 y] (.tuple #[.int .i64 (SNv a x y), .int .i64 (SEv a x y)]) := fun w => by
 cases k0 : (axE a != 0) with
 | true =>
   have V0 : (SNv a x y) = (0) := by
     unfold SNv
     simp_all
   have V1 : (SEv a x y) = ((axE a)) := by
     unfold SEv
     simp_all
   rw [V0, V1]
   refine evR_calls (I := noFacts) (v := .tuple #[.int .i64 (0), .int .i64 ((axE a))]) (ctxOf_ok libE2_ok (eq_none _)) (by kernel_rfl) Tryz.func75 rfl lps_nil (Ste_1 a x y) rfl (all2_R (.cons rfl (.cons rfl (.cons rfl .nil)))) rfl w (Nat.zero_le _) (pickL_ok ?_ _)
   repeat' (first | exact cd_nil | refine cd_cons ?_ ?_)
   all_goals first | with_reducible rfl | with_reducible assumption | rfl | (refine decide_eq_true ?_; simp only [beq_iff_eq, beq_eq_false_iff_ne, ne_eq, bne_iff_ne, bne_eq_false_iff_eq, decide_eq_true_eq, decide_eq_false_iff_not, Bool.not_eq_true', Bool.not_eq_false'] at *; omega) | (simp_all; done)
 | false =>
   cases k1 : (!inA a x) with
   | true =>
     have V0 : (SNv a x y) = (0) := by
       unfold SNv
       simp_all
     have V1 : (SEv a x y) = (4) := by
       unfold SEv
       simp_all
     rw [V0, V1]
     refine evR_calls (I := noFacts) (v := .tuple #[.int .i64 (0), .int .i64 (4)]) (ctxOf_ok libE2_ok (eq_none _)) (by kernel_rfl) Tryz.func75 rfl lps_nil (Ste_01 a x y) rfl (all2_R (.cons rfl (.cons rfl (.cons rfl .nil)))) rfl w (Nat.zero_le _) (pickL_ok ?_ _)
     repeat' (first | exact cd_nil | refine cd_cons ?_ ?_)
     all_goals first | with_reducible rfl | with_reducible assumption | rfl | (refine decide_eq_true ?_; simp only [beq_iff_eq, beq_eq_false_iff_ne, ne_eq, bne_iff_ne, bne_eq_false_iff_eq, decide_eq_true_eq, decide_eq_false_iff_not, Bool.not_eq_true', Bool.not_eq_false'] at *; omega) | (simp_all; done)
   | false =>
     cases k2 : (!inA a y) with
     | true =>
       have V0 : (SNv a x y) = (0) := by
         unfold SNv
         simp_all
       have V1 : (SEv a x y) = (4) := by
         unfold SEv
         simp_all
       rw [V0, V1]
       refine evR_calls (I := noFacts) (v := .tuple #[.int .i64 (0), .int .i64 (4)]) (ctxOf_ok libE2_ok (eq_none _)) (by kernel_rfl) Tryz.func75 rfl lps_nil (Ste_001 a x y) rfl (all2_R (.cons rfl (.cons rfl (.cons rfl .nil)))) rfl w (Nat.zero_le _) (pickL_ok ?_ _)
       repeat' (first | exact cd_nil | refine cd_cons ?_ ?_)
       all_goals first | with_reducible rfl | with_reducible assumption | rfl | (refine decide_eq_true ?_; simp only [beq_iff_eq, beq_eq_false_iff_ne, ne_eq, bne_iff_ne, bne_eq_false_iff_eq, decide_eq_true_eq, decide_eq_false_iff_not, Bool.not_eq_true', Bool.not_eq_false'] at *; omega) | (simp_all; done)
     | false =>
       have V0 : (SNv a x y) = ((stV a.sp a.ac (dst x y))) := by
         unfold SNv
         simp_all
       have V1 : (SEv a x y) = (0) := by
         unfold SEv
         simp_all
       rw [V0, V1]
       refine evR_calls (I := noFacts) (v := .tuple #[.int .i64 ((stV a.sp a.ac (dst x y))), .int .i64 (0)]) (ctxOf_ok libE2_ok (eq_none _)) (by kernel_rfl) Tryz.func75 rfl lps_nil (Ste_000 a x y) rfl (all2_R (.cons rfl (.cons rfl (.cons rfl .nil)))) rfl w (Nat.zero_le _) (pickL_ok ?_ _)
       repeat' (first | exact cd_nil | refine cd_cons ?_ ?_)
       all_goals first | with_reducible rfl | with_reducible assumption | rfl | (refine decide_eq_true ?_; simp only [beq_iff_eq, beq_eq_false_iff_ne, ne_eq, bne_iff_ne, bne_eq_false_iff_eq, decide_eq_true_eq, decide_eq_false_iff_not, Bool.not_eq_true', Bool.not_eq_false'] at *; omega) | (simp_all; done)
noncomputable abbrev libE4 : List (Nat × FnSp Empty) := [(127, inS), (165, moS2)]
theorem libE4_ok : LibOk Tryz.prog noFacts (lib1 libE4) := (lib1_cons (sp2_ok fun a p _ => ⟨_, rfl, inn_pl a p⟩) Tryz.call127 (lib1_cons moS2_ok Tryz.call165 (lib1_nil _ _)))
theorem tar_11 (a : Ax) (x : Int) (y : Int) : evR (ctxOf Tryz.prog noFacts (fun _ => false) libE4) Tryz.f128 [(axA a), (.w (.one (.int .i64 x))), (.w (.one (.int .i64 y)))] [true, true] = some (AV.tup [AW.one (AC.int IntKind.i64 (IntKind.i64.wrap (x - mdV (IntKind.i64.wrap (x - mdV y 4294967296)) 4294967296))), AW.one (AC.int IntKind.i64 0)], (pickL [(i64B y, true), (i64B 4294967296, true), (i64B (IntKind.i64.wrap (x - mdV y 4294967296)), true), (inA a (IntKind.i64.wrap (x - mdV (IntKind.i64.wrap (x - mdV y 4294967296)) 4294967296)), true), (!inA a (IntKind.i64.wrap (IntKind.i64.wrap (x - mdV (IntKind.i64.wrap (x - mdV y 4294967296)) 4294967296) + 4294967296)), true), (true, true)] [0, 1, 2, 1, 3, 3, 3, 3, 3, 4, 4, 4, 4, 4, 4, 4, 3, 4, 3, 5])) := by kernel_rfl
theorem tar_101 (a : Ax) (x : Int) (y : Int) : evR (ctxOf Tryz.prog noFacts (fun _ => false) libE4) Tryz.f128 [(axA a), (.w (.one (.int .i64 x))), (.w (.one (.int .i64 y)))] [true, false, true] = some (AV.tup [AW.one (AC.int IntKind.i64 (IntKind.i64.wrap (x - mdV (IntKind.i64.wrap (x - mdV y 4294967296)) 4294967296))), AW.one (AC.int IntKind.i64 0)], (pickL [(i64B y, true), (i64B 4294967296, true), (i64B (IntKind.i64.wrap (x - mdV y 4294967296)), true), (inA a (IntKind.i64.wrap (x - mdV (IntKind.i64.wrap (x - mdV y 4294967296)) 4294967296)), true), (!inA a (IntKind.i64.wrap (IntKind.i64.wrap (x - mdV (IntKind.i64.wrap (x - mdV y 4294967296)) 4294967296) + 4294967296)), false), (decide (IntKind.i64.wrap (x - IntKind.i64.wrap (x - mdV (IntKind.i64.wrap (x - mdV y 4294967296)) 4294967296)) <= IntKind.i64.wrap (IntKind.i64.wrap (IntKind.i64.wrap (x - mdV (IntKind.i64.wrap (x - mdV y 4294967296)) 4294967296) + 4294967296) - x)), true)] [0, 1, 2, 1, 3, 3, 3, 3, 3, 4, 4, 4, 4, 4, 4, 4, 3, 4, 3, 5])) := by kernel_rfl
theorem tar_1001 (a : Ax) (x : Int) (y : Int) : evR (ctxOf Tryz.prog noFacts (fun _ => false) libE4) Tryz.f128 [(axA a), (.w (.one (.int .i64 x))), (.w (.one (.int .i64 y)))] [true, false, false, true] = some (AV.tup [AW.one (AC.int IntKind.i64 (IntKind.i64.wrap (IntKind.i64.wrap (x - mdV (IntKind.i64.wrap (x - mdV y 4294967296)) 4294967296) + 4294967296))), AW.one (AC.int IntKind.i64 0)], (pickL [(i64B y, true), (i64B 4294967296, true), (i64B (IntKind.i64.wrap (x - mdV y 4294967296)), true), (inA a (IntKind.i64.wrap (x - mdV (IntKind.i64.wrap (x - mdV y 4294967296)) 4294967296)), true), (!inA a (IntKind.i64.wrap (IntKind.i64.wrap (x - mdV (IntKind.i64.wrap (x - mdV y 4294967296)) 4294967296) + 4294967296)), false), (decide (IntKind.i64.wrap (x - IntKind.i64.wrap (x - mdV (IntKind.i64.wrap (x - mdV y 4294967296)) 4294967296)) <= IntKind.i64.wrap (IntKind.i64.wrap (IntKind.i64.wrap (x - mdV (IntKind.i64.wrap (x - mdV y 4294967296)) 4294967296) + 4294967296) - x)), false), (inA a (IntKind.i64.wrap (IntKind.i64.wrap (x - mdV (IntKind.i64.wrap (x - mdV y 4294967296)) 4294967296) + 4294967296)), true)] [0, 1, 2, 1, 3, 3, 3, 3, 3, 4, 4, 4, 4, 4, 4, 4, 3, 4, 3, 5, 6])) := by kernel_rfl
theorem tar_1000 (a : Ax) (x : Int) (y : Int) : evR (ctxOf Tryz.prog noFacts (fun _ => false) libE4) Tryz.f128 [(axA a), (.w (.one (.int .i64 x))), (.w (.one (.int .i64 y)))] [true, false, false, false] = some (AV.tup [AW.one (AC.int IntKind.i64 0), AW.one (AC.int IntKind.i64 4)], (pickL [(i64B y, true), (i64B 4294967296, true), (i64B (IntKind.i64.wrap (x - mdV y 4294967296)), true), (inA a (IntKind.i64.wrap (x - mdV (IntKind.i64.wrap (x - mdV y 4294967296)) 4294967296)), true), (!inA a (IntKind.i64.wrap (IntKind.i64.wrap (x - mdV (IntKind.i64.wrap (x - mdV y 4294967296)) 4294967296) + 4294967296)), false), (decide (IntKind.i64.wrap (x - IntKind.i64.wrap (x - mdV (IntKind.i64.wrap (x - mdV y 4294967296)) 4294967296)) <= IntKind.i64.wrap (IntKind.i64.wrap (IntKind.i64.wrap (x - mdV (IntKind.i64.wrap (x - mdV y 4294967296)) 4294967296) + 4294967296) - x)), false), (inA a (IntKind.i64.wrap (IntKind.i64.wrap (x - mdV (IntKind.i64.wrap (x - mdV y 4294967296)) 4294967296) + 4294967296)), false)] [0, 1, 2, 1, 3, 3, 3, 3, 3, 4, 4, 4, 4, 4, 4, 4, 3, 4, 3, 5, 6])) := by kernel_rfl
theorem tar_01 (a : Ax) (x : Int) (y : Int) : evR (ctxOf Tryz.prog noFacts (fun _ => false) libE4) Tryz.f128 [(axA a), (.w (.one (.int .i64 x))), (.w (.one (.int .i64 y)))] [false, true] = some (AV.tup [AW.one (AC.int IntKind.i64 (IntKind.i64.wrap (IntKind.i64.wrap (x - mdV (IntKind.i64.wrap (x - mdV y 4294967296)) 4294967296) + 4294967296))), AW.one (AC.int IntKind.i64 0)], (pickL [(i64B y, true), (i64B 4294967296, true), (i64B (IntKind.i64.wrap (x - mdV y 4294967296)), true), (inA a (IntKind.i64.wrap (x - mdV (IntKind.i64.wrap (x - mdV y 4294967296)) 4294967296)), false), (false, false), (inA a (IntKind.i64.wrap (IntKind.i64.wrap (x - mdV (IntKind.i64.wrap (x - mdV y 4294967296)) 4294967296) + 4294967296)), true)] [0, 1, 2, 1, 3, 3, 3, 3, 3, 3, 3, 4, 5])) := by kernel_rfl
theorem tar_00 (a : Ax) (x : Int) (y : Int) : evR (ctxOf Tryz.prog noFacts (fun _ => false) libE4) Tryz.f128 [(axA a), (.w (.one (.int .i64 x))), (.w (.one (.int .i64 y)))] [false, false] = some (AV.tup [AW.one (AC.int IntKind.i64 0), AW.one (AC.int IntKind.i64 4)], (pickL [(i64B y, true), (i64B 4294967296, true), (i64B (IntKind.i64.wrap (x - mdV y 4294967296)), true), (inA a (IntKind.i64.wrap (x - mdV (IntKind.i64.wrap (x - mdV y 4294967296)) 4294967296)), false), (false, false), (inA a (IntKind.i64.wrap (IntKind.i64.wrap (x - mdV (IntKind.i64.wrap (x - mdV y 4294967296)) 4294967296) + 4294967296)), false)] [0, 1, 2, 1, 3, 3, 3, 3, 3, 3, 3, 4, 5])) := by kernel_rfl
set_option maxHeartbeats 4000000 in
theorem tar_pl (a : Ax) (x : Int) (y : Int) (h1 : decide (axE a = 0) = true) (h2 : inA a x = true) (h3 : i64B y = true) : Pl Tryz.prog 128 [axV a, .int .i64 x, .int .i64 y] (.tuple #[.int .i64 (tgP a x y), .int .i64 (tgE a x y)]) := fun w => by
 have g1 := of_decide_eq_true h1
 have gx := in_rg g1 h2
 have i1 : i64B 4294967296 = true := by decide
 have m0 : mdV y 4294967296 = y % 4294967296 := if_neg (by omega)
 have i2 : i64B (IntKind.i64.wrap (x - mdV y 4294967296)) = true := by rw [m0, v64 (by omega) (by omega)]; exact i64B_iff.2 (by omega)
 have E1 : IntKind.i64.wrap (x - mdV (IntKind.i64.wrap (x - mdV y 4294967296)) 4294967296) = tgL x y := by
   rw [m0, v64 (x := x - y % 4294967296) (by omega) (by omega), show mdV (x - y % 4294967296) 4294967296 = bkV x y from if_neg (by omega)]
   have := bk_sp x y
   exact v64 (by omega) (by omega)
 have bl : x - 4294967296 < tgL x y /\ tgL x y <= x := by
   have := bk_sp x y
   unfold tgL; omega
 have E2 : IntKind.i64.wrap (tgL x y + 4294967296) = tgH x y := v64 (by omega) (by omega)
 have bh : tgH x y = tgL x y + 4294967296 := rfl
 have E3 : IntKind.i64.wrap (x - tgL x y) = x - tgL x y := v64 (by omega) (by omega)
 have E4 : IntKind.i64.wrap (tgH x y - x) = tgH x y - x := v64 (by omega) (by omega)
 cases k0 : (inA a (IntKind.i64.wrap (x - mdV (IntKind.i64.wrap (x - mdV y 4294967296)) 4294967296))) with
 | true =>
   cases k1 : (!inA a (IntKind.i64.wrap (IntKind.i64.wrap (x - mdV (IntKind.i64.wrap (x - mdV y 4294967296)) 4294967296) + 4294967296))) with
   | true =>
     have V0 : (tgP a x y) = ((IntKind.i64.wrap (x - mdV (IntKind.i64.wrap (x - mdV y 4294967296)) 4294967296))) := by
       clear i1 i2 m0
       try simp only [E1, E2, E3, E4] at k0
       try simp only [E1, E2, E3, E4] at k1
       try simp only [E1, E2, E3, E4]
       clear E1 E2 E3 E4 bl bh
       unfold tgP tgW
       simp_all <;> omega
     have V1 : (tgE a x y) = (0) := by
       clear i1 i2 m0
       try simp only [E1, E2, E3, E4] at k0
       try simp only [E1, E2, E3, E4] at k1
       try simp only [E1, E2, E3, E4]
       clear E1 E2 E3 E4 bl bh
       unfold tgE tgO
       simp_all <;> omega
     rw [V0, V1]
     refine evR_calls (I := noFacts) (v := .tuple #[.int .i64 ((IntKind.i64.wrap (x - mdV (IntKind.i64.wrap (x - mdV y 4294967296)) 4294967296))), .int .i64 (0)]) (ctxOf_ok libE4_ok (eq_none _)) (by kernel_rfl) Tryz.func128 rfl lps_nil (tar_11 a x y) rfl (all2_R (.cons rfl (.cons rfl (.cons rfl .nil)))) rfl w (Nat.zero_le _) (pickL_ok ?_ _)
     repeat' (first | exact cd_nil | refine cd_cons ?_ ?_)
     all_goals first | with_reducible rfl | with_reducible assumption | rfl | (refine decide_eq_true ?_; simp only [beq_iff_eq, beq_eq_false_iff_ne, ne_eq, bne_iff_ne, bne_eq_false_iff_eq, decide_eq_true_eq, decide_eq_false_iff_not, Bool.not_eq_true', Bool.not_eq_false'] at *; omega) | (simp_all; done)
   | false =>
     cases k2 : (decide (IntKind.i64.wrap (x - IntKind.i64.wrap (x - mdV (IntKind.i64.wrap (x - mdV y 4294967296)) 4294967296)) <= IntKind.i64.wrap (IntKind.i64.wrap (IntKind.i64.wrap (x - mdV (IntKind.i64.wrap (x - mdV y 4294967296)) 4294967296) + 4294967296) - x))) with
     | true =>
       have V0 : (tgP a x y) = ((IntKind.i64.wrap (x - mdV (IntKind.i64.wrap (x - mdV y 4294967296)) 4294967296))) := by
         clear i1 i2 m0
         try simp only [E1, E2, E3, E4] at k0
         try simp only [E1, E2, E3, E4] at k1
         try simp only [E1, E2, E3, E4] at k2
         try simp only [E1, E2, E3, E4]
         clear E1 E2 E3 E4 bl bh
         unfold tgP tgW
         simp_all <;> omega
       have V1 : (tgE a x y) = (0) := by
         clear i1 i2 m0
         try simp only [E1, E2, E3, E4] at k0
         try simp only [E1, E2, E3, E4] at k1
         try simp only [E1, E2, E3, E4] at k2
         try simp only [E1, E2, E3, E4]
         clear E1 E2 E3 E4 bl bh
         unfold tgE tgO
         simp_all <;> omega
       rw [V0, V1]
       refine evR_calls (I := noFacts) (v := .tuple #[.int .i64 ((IntKind.i64.wrap (x - mdV (IntKind.i64.wrap (x - mdV y 4294967296)) 4294967296))), .int .i64 (0)]) (ctxOf_ok libE4_ok (eq_none _)) (by kernel_rfl) Tryz.func128 rfl lps_nil (tar_101 a x y) rfl (all2_R (.cons rfl (.cons rfl (.cons rfl .nil)))) rfl w (Nat.zero_le _) (pickL_ok ?_ _)
       repeat' (first | exact cd_nil | refine cd_cons ?_ ?_)
       all_goals first | with_reducible rfl | with_reducible assumption | rfl | (refine decide_eq_true ?_; simp only [beq_iff_eq, beq_eq_false_iff_ne, ne_eq, bne_iff_ne, bne_eq_false_iff_eq, decide_eq_true_eq, decide_eq_false_iff_not, Bool.not_eq_true', Bool.not_eq_false'] at *; omega) | (simp_all; done)
     | false =>
       cases k3 : (inA a (IntKind.i64.wrap (IntKind.i64.wrap (x - mdV (IntKind.i64.wrap (x - mdV y 4294967296)) 4294967296) + 4294967296))) with
       | true =>
         have V0 : (tgP a x y) = ((IntKind.i64.wrap (IntKind.i64.wrap (x - mdV (IntKind.i64.wrap (x - mdV y 4294967296)) 4294967296) + 4294967296))) := by
           clear i1 i2 m0
           try simp only [E1, E2, E3, E4] at k0
           try simp only [E1, E2, E3, E4] at k1
           try simp only [E1, E2, E3, E4] at k2
           try simp only [E1, E2, E3, E4] at k3
           try simp only [E1, E2, E3, E4]
           clear E1 E2 E3 E4 bl bh
           unfold tgP tgW
           simp_all <;> omega
         have V1 : (tgE a x y) = (0) := by
           clear i1 i2 m0
           try simp only [E1, E2, E3, E4] at k0
           try simp only [E1, E2, E3, E4] at k1
           try simp only [E1, E2, E3, E4] at k2
           try simp only [E1, E2, E3, E4] at k3
           try simp only [E1, E2, E3, E4]
           clear E1 E2 E3 E4 bl bh
           unfold tgE tgO
           simp_all <;> omega
         rw [V0, V1]
         refine evR_calls (I := noFacts) (v := .tuple #[.int .i64 ((IntKind.i64.wrap (IntKind.i64.wrap (x - mdV (IntKind.i64.wrap (x - mdV y 4294967296)) 4294967296) + 4294967296))), .int .i64 (0)]) (ctxOf_ok libE4_ok (eq_none _)) (by kernel_rfl) Tryz.func128 rfl lps_nil (tar_1001 a x y) rfl (all2_R (.cons rfl (.cons rfl (.cons rfl .nil)))) rfl w (Nat.zero_le _) (pickL_ok ?_ _)
         repeat' (first | exact cd_nil | refine cd_cons ?_ ?_)
         all_goals first | with_reducible rfl | with_reducible assumption | rfl | (refine decide_eq_true ?_; simp only [beq_iff_eq, beq_eq_false_iff_ne, ne_eq, bne_iff_ne, bne_eq_false_iff_eq, decide_eq_true_eq, decide_eq_false_iff_not, Bool.not_eq_true', Bool.not_eq_false'] at *; omega) | (simp_all; done)
       | false =>
         have V0 : (tgP a x y) = (0) := by
           clear i1 i2 m0
           try simp only [E1, E2, E3, E4] at k0
           try simp only [E1, E2, E3, E4] at k1
           try simp only [E1, E2, E3, E4] at k2
           try simp only [E1, E2, E3, E4] at k3
           try simp only [E1, E2, E3, E4]
           clear E1 E2 E3 E4 bl bh
           unfold tgP tgW
           simp_all <;> omega
         have V1 : (tgE a x y) = (4) := by
           clear i1 i2 m0
           try simp only [E1, E2, E3, E4] at k0
           try simp only [E1, E2, E3, E4] at k1
           try simp only [E1, E2, E3, E4] at k2
           try simp only [E1, E2, E3, E4] at k3
           try simp only [E1, E2, E3, E4]
           clear E1 E2 E3 E4 bl bh
           unfold tgE tgO
           simp_all <;> omega
         rw [V0, V1]
         refine evR_calls (I := noFacts) (v := .tuple #[.int .i64 (0), .int .i64 (4)]) (ctxOf_ok libE4_ok (eq_none _)) (by kernel_rfl) Tryz.func128 rfl lps_nil (tar_1000 a x y) rfl (all2_R (.cons rfl (.cons rfl (.cons rfl .nil)))) rfl w (Nat.zero_le _) (pickL_ok ?_ _)
         repeat' (first | exact cd_nil | refine cd_cons ?_ ?_)
         all_goals first | with_reducible rfl | with_reducible assumption | rfl | (refine decide_eq_true ?_; simp only [beq_iff_eq, beq_eq_false_iff_ne, ne_eq, bne_iff_ne, bne_eq_false_iff_eq, decide_eq_true_eq, decide_eq_false_iff_not, Bool.not_eq_true', Bool.not_eq_false'] at *; omega) | (simp_all; done)
 | false =>
   cases k4 : (inA a (IntKind.i64.wrap (IntKind.i64.wrap (x - mdV (IntKind.i64.wrap (x - mdV y 4294967296)) 4294967296) + 4294967296))) with
   | true =>
     have V0 : (tgP a x y) = ((IntKind.i64.wrap (IntKind.i64.wrap (x - mdV (IntKind.i64.wrap (x - mdV y 4294967296)) 4294967296) + 4294967296))) := by
       clear i1 i2 m0
       try simp only [E1, E2, E3, E4] at k0
       try simp only [E1, E2, E3, E4] at k4
       try simp only [E1, E2, E3, E4]
       clear E1 E2 E3 E4 bl bh
       unfold tgP tgW
       simp_all <;> omega
     have V1 : (tgE a x y) = (0) := by
       clear i1 i2 m0
       try simp only [E1, E2, E3, E4] at k0
       try simp only [E1, E2, E3, E4] at k4
       try simp only [E1, E2, E3, E4]
       clear E1 E2 E3 E4 bl bh
       unfold tgE tgO
       simp_all <;> omega
     rw [V0, V1]
     refine evR_calls (I := noFacts) (v := .tuple #[.int .i64 ((IntKind.i64.wrap (IntKind.i64.wrap (x - mdV (IntKind.i64.wrap (x - mdV y 4294967296)) 4294967296) + 4294967296))), .int .i64 (0)]) (ctxOf_ok libE4_ok (eq_none _)) (by kernel_rfl) Tryz.func128 rfl lps_nil (tar_01 a x y) rfl (all2_R (.cons rfl (.cons rfl (.cons rfl .nil)))) rfl w (Nat.zero_le _) (pickL_ok ?_ _)
     repeat' (first | exact cd_nil | refine cd_cons ?_ ?_)
     all_goals first | with_reducible rfl | with_reducible assumption | rfl | (refine decide_eq_true ?_; simp only [beq_iff_eq, beq_eq_false_iff_ne, ne_eq, bne_iff_ne, bne_eq_false_iff_eq, decide_eq_true_eq, decide_eq_false_iff_not, Bool.not_eq_true', Bool.not_eq_false'] at *; omega) | (simp_all; done)
   | false =>
     have V0 : (tgP a x y) = (0) := by
       clear i1 i2 m0
       try simp only [E1, E2, E3, E4] at k0
       try simp only [E1, E2, E3, E4] at k4
       try simp only [E1, E2, E3, E4]
       clear E1 E2 E3 E4 bl bh
       unfold tgP tgW
       simp_all <;> omega
     have V1 : (tgE a x y) = (4) := by
       clear i1 i2 m0
       try simp only [E1, E2, E3, E4] at k0
       try simp only [E1, E2, E3, E4] at k4
       try simp only [E1, E2, E3, E4]
       clear E1 E2 E3 E4 bl bh
       unfold tgE tgO
       simp_all <;> omega
     rw [V0, V1]
     refine evR_calls (I := noFacts) (v := .tuple #[.int .i64 (0), .int .i64 (4)]) (ctxOf_ok libE4_ok (eq_none _)) (by kernel_rfl) Tryz.func128 rfl lps_nil (tar_00 a x y) rfl (all2_R (.cons rfl (.cons rfl (.cons rfl .nil)))) rfl w (Nat.zero_le _) (pickL_ok ?_ _)
     repeat' (first | exact cd_nil | refine cd_cons ?_ ?_)
     all_goals first | with_reducible rfl | with_reducible assumption | rfl | (refine decide_eq_true ?_; simp only [beq_iff_eq, beq_eq_false_iff_ne, ne_eq, bne_iff_ne, bne_eq_false_iff_eq, decide_eq_true_eq, decide_eq_false_iff_not, Bool.not_eq_true', Bool.not_eq_false'] at *; omega) | (simp_all; done)
noncomputable abbrev libE5 : List (Nat × FnSp Empty) := [(126, axS), (127, inS), (128, tgS)]
theorem libE5_ok : LibOk Tryz.prog noFacts (lib1 libE5) := (lib1_cons (sp1_ok fun a _ => ⟨_, rfl, cax_pl a⟩) Tryz.call126 (lib1_cons (sp2_ok fun a p _ => ⟨_, rfl, inn_pl a p⟩) Tryz.call127 (lib1_cons (sp3_ok fun a p g hc => ⟨_, rfl, tar_pl a p g (ca3 hc).1 (ca3 hc).2.1 (ca3 hc).2.2⟩) Tryz.call128 (lib1_nil _ _))))
theorem Tar_1 (a : Ax) (x : Int) (y : Int) : evR (ctxOf Tryz.prog noFacts (fun _ => false) libE5) Tryz.f76 [(axA a), (.w (.one (.int .i64 x))), (.w (.one (.int .i64 y)))] [true] = some (AV.tup [AW.one (AC.int IntKind.i64 0), AW.one (AC.int IntKind.i64 (axE a))], (pickL [(axE a != 0, true)] [0])) := by kernel_rfl
theorem Tar_01 (a : Ax) (x : Int) (y : Int) : evR (ctxOf Tryz.prog noFacts (fun _ => false) libE5) Tryz.f76 [(axA a), (.w (.one (.int .i64 x))), (.w (.one (.int .i64 y)))] [false, true] = some (AV.tup [AW.one (AC.int IntKind.i64 0), AW.one (AC.int IntKind.i64 4)], (pickL [(axE a != 0, false), (!inA a x, true)] [0, 1])) := by kernel_rfl
theorem Tar_00 (a : Ax) (x : Int) (y : Int) : evR (ctxOf Tryz.prog noFacts (fun _ => false) libE5) Tryz.f76 [(axA a), (.w (.one (.int .i64 x))), (.w (.one (.int .i64 y)))] [false, false] = some (AV.tup [AW.one (AC.int IntKind.i64 (tgP a x y)), AW.one (AC.int IntKind.i64 (tgE a x y))], (pickL [(axE a != 0, false), (!inA a x, false), (decide (axE a = 0), true), (inA a x, true), (i64B y, true)] [0, 1, 2, 3, 4])) := by kernel_rfl
set_option maxHeartbeats 4000000 in
theorem Tar_pl (a : Ax) (x : Int) (y : Int) (h3 : i64B y = true) : Pl Tryz.prog 76 [axV a, .int .i64 x, .int .i64 y] (.tuple #[.int .i64 (TPv a x y), .int .i64 (TEv a x y)]) := fun w => by
 cases k0 : (axE a != 0) with
 | true =>
   have V0 : (TPv a x y) = (0) := by
     unfold TPv
     simp_all
   have V1 : (TEv a x y) = ((axE a)) := by
     unfold TEv
     simp_all
   rw [V0, V1]
   refine evR_calls (I := noFacts) (v := .tuple #[.int .i64 (0), .int .i64 ((axE a))]) (ctxOf_ok libE5_ok (eq_none _)) (by kernel_rfl) Tryz.func76 rfl lps_nil (Tar_1 a x y) rfl (all2_R (.cons rfl (.cons rfl (.cons rfl .nil)))) rfl w (Nat.zero_le _) (pickL_ok ?_ _)
   repeat' (first | exact cd_nil | refine cd_cons ?_ ?_)
   all_goals first | with_reducible rfl | with_reducible assumption | rfl | (refine decide_eq_true ?_; simp only [beq_iff_eq, beq_eq_false_iff_ne, ne_eq, bne_iff_ne, bne_eq_false_iff_eq, decide_eq_true_eq, decide_eq_false_iff_not, Bool.not_eq_true', Bool.not_eq_false'] at *; omega) | (simp_all; done)
 | false =>
   cases k1 : (!inA a x) with
   | true =>
     have V0 : (TPv a x y) = (0) := by
       unfold TPv
       simp_all
     have V1 : (TEv a x y) = (4) := by
       unfold TEv
       simp_all
     rw [V0, V1]
     refine evR_calls (I := noFacts) (v := .tuple #[.int .i64 (0), .int .i64 (4)]) (ctxOf_ok libE5_ok (eq_none _)) (by kernel_rfl) Tryz.func76 rfl lps_nil (Tar_01 a x y) rfl (all2_R (.cons rfl (.cons rfl (.cons rfl .nil)))) rfl w (Nat.zero_le _) (pickL_ok ?_ _)
     repeat' (first | exact cd_nil | refine cd_cons ?_ ?_)
     all_goals first | with_reducible rfl | with_reducible assumption | rfl | (refine decide_eq_true ?_; simp only [beq_iff_eq, beq_eq_false_iff_ne, ne_eq, bne_iff_ne, bne_eq_false_iff_eq, decide_eq_true_eq, decide_eq_false_iff_not, Bool.not_eq_true', Bool.not_eq_false'] at *; omega) | (simp_all; done)
   | false =>
     have V0 : (TPv a x y) = ((tgP a x y)) := by
       unfold TPv
       simp_all
     have V1 : (TEv a x y) = ((tgE a x y)) := by
       unfold TEv
       simp_all
     rw [V0, V1]
     refine evR_calls (I := noFacts) (v := .tuple #[.int .i64 ((tgP a x y)), .int .i64 ((tgE a x y))]) (ctxOf_ok libE5_ok (eq_none _)) (by kernel_rfl) Tryz.func76 rfl lps_nil (Tar_00 a x y) rfl (all2_R (.cons rfl (.cons rfl (.cons rfl .nil)))) rfl w (Nat.zero_le _) (pickL_ok ?_ _)
     repeat' (first | exact cd_nil | refine cd_cons ?_ ?_)
     all_goals first | with_reducible rfl | with_reducible assumption | rfl | (refine decide_eq_true ?_; simp only [beq_iff_eq, beq_eq_false_iff_ne, ne_eq, bne_iff_ne, bne_eq_false_iff_eq, decide_eq_true_eq, decide_eq_false_iff_not, Bool.not_eq_true', Bool.not_eq_false'] at *; omega) | (simp_all; done)
end
end Go.Proofs.YtmhhdedekblbnaaGreat.AtSl
