/-
  The fact of chapter 6; the walk of spylaw1.TrigRules: it returns true.
  Conditions: the numbers are int64.
-/
import Derived.Test.YtdhodjbomepfbaaT2
import Derived.Test.YtdhodjbomepfbaaT4
set_option linter.unusedVariables false
set_option linter.unusedSimpArgs false
namespace Go.Proofs.Ytdhodjbomepfbaa
open Go.RowKit Go.Shelf Ev Zd Wd Tg

abbrev libX0 : List (Nat × FnSp Empty) := [(67, sp1 (dInt .i64) (fun a => aInt .i64 (sinV a)) (fun a => [(i64B a, true)])), (69, sp1 (dInt .i64) (fun a => aInt .i64 (cosV a)) (fun _ => [])), (77, sp2 (dInt .i64) (dInt .i64) (fun y x => num2 (atanV y x) (atanE y x)) (fun _ _ => []))]
theorem libX0_ok : LibOk Try.prog noFacts (lib1 libX0) := (lib1_cons (sp1_ok fun a hc => ⟨_, rfl, sinf_pl a (cd1 hc)⟩) Try.call67 (lib1_cons (sp1_ok fun a _ => ⟨_, rfl, cosf_pl a⟩) Try.call69 (lib1_cons (sp2_ok fun y x _ => ⟨_, rfl, atan_pl y x⟩) Try.call77 (lib1_nil _ _))))
set_option maxRecDepth 100000 in
theorem trigsf_111  : evR (ctxOf Try.prog noFacts (fun _ => false) libX0) Try.f66 [] [true, true, true] = some (AV.w (AW.one (AC.bool (atanV (-5) 5 == 3758096384))), (pickL [(i64B 536870912, true), (sinV 536870912 == 759250125, true), (cosV 2147483648 == -1073741824, true), (atanE (-5) 5 == 0, true)] [0, 1, 1, 1, 2, 2, 2, 3, 3, 3])) := by kernel_rfl
theorem trigs_pl : Pl Try.prog 66 [] (.bool true) := fun w => by
  have e1 : (sinV 536870912 == 759250125) = true := by decide +kernel
  have e2 : (cosV 2147483648 == -1073741824) = true := by decide +kernel
  have e3 : (atanE (-5) 5 == 0) = true := by decide +kernel
  have V : (atanV (-5) 5 == 3758096384) = true := by decide +kernel
  refine evR_calls (I := noFacts) (v := .bool true) (ctxOf_ok libX0_ok (eq_none _)) (by kernel_rfl) Try.func66 rfl lps_nil trigsf_111 rfl (all2_R .nil) (congrArg (fun b => some (Value.bool b)) V) w (Nat.zero_le _) (pickL_ok ?_ _)
  repeat' (first | exact cd_nil | refine cd_cons ?_ ?_)
  all_goals first | with_reducible assumption | rfl
abbrev libX1 : List (Nat × FnSp Nm) := [(66, sp0 (.w (.one (.yes true)))), (67, sp1 (dInt .i64) (fun a => aInt .i64 (sinV a)) (fun a => [(i64B a, true)])), (69, sp1 (dInt .i64) (fun a => aInt .i64 (cosV a)) (fun _ => [])), (68, sp1 (dInt .i64) (fun a => aInt .i64 (sinV a)) (fun a => [(i64B a, true)])), (70, sp1 (dInt .i64) (fun a => aInt .i64 (cosV a)) (fun a => [(i64B a, true)]))]
theorem libX1_ok : LibOk Try.prog numI (lib1 libX1) := (lib1_cons (sp0_ok rfl trigs_pl) Try.call66 (lib1_cons (sp1_ok fun a hc => ⟨_, rfl, sinf_pl a (cd1 hc)⟩) Try.call67 (lib1_cons (sp1_ok fun a _ => ⟨_, rfl, cosf_pl a⟩) Try.call69 (lib1_cons (sp1_ok fun a hc => ⟨_, rfl, sine_pl a (cd1 hc)⟩) Try.call68 (lib1_cons (sp1_ok fun a hc => ⟨_, rfl, cosine_pl a (cd1 hc)⟩) Try.call70 (lib1_nil _ _))))))
set_option maxRecDepth 100000 in
theorem trules_1 (a : Int) : evR (ctxOf Try.prog numI (fun _ => false) libX1) Try.f10 [(.w (.one (.int .i64 a)))] [true] = some (AV.w (AW.one (AC.bool (cosV a == cosV a))), (pickL [(true, true), (i64B a, true), (sinV a == sinV a, true)] [0, 0, 1, 0, 0, 1, 0, 0, 2, 2, 2, 2, 1, 2, 2])) := by kernel_rfl
theorem trigRules_law (a : Int) (a1 : -9223372036854775808 ≤ a) (a2 : a ≤ 9223372036854775807) (w : World) : Calls Try.prog 10 #[.int .i64 a] w fun e w' => e = .returned (.bool true) ∧ Below w.heap.size w w' := by
  have i_a : i64B a = true := i64B_iff.2 ⟨a1, a2⟩
  refine evR_calls (I := numI) (v := .bool true) (ctxOf_ok libX1_ok (eq_none _)) (by kernel_rfl) Try.func10 rfl lps_nil (trules_1 a) rfl (all2_R (.cons rfl .nil)) (congrArg (fun b => some (Value.bool b)) (beq_self_eq_true (cosV a))) w (Nat.zero_le _) (pickL_ok ?_ _)
  repeat' (first | exact cd_nil | refine cd_cons ?_ ?_)
  all_goals first | with_reducible assumption | rfl | exact beq_self_eq_true _
end Go.Proofs.Ytdhodjbomepfbaa

