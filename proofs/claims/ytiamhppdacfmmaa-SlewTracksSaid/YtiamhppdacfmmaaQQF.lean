/-
  The walks of the laws SlewChecks, SlewTargets, SlewFastest and SlewSteps.
  Conditions: the numbers of the arguments are int64.
-/
import Derived.Test.YtiamhppdacfmmaaQQE
import Derived.Test.YtiamhppdacfmmaaQGO

set_option linter.unusedVariables false
set_option linter.unusedSimpArgs false
namespace Go.Proofs.Ytiamhppdacfmmaa.AtSl
open Go.RowKit Ev Wd
open Go.Proofs.Ytiamhppdacfmmaa
variable {F : Type}
noncomputable section

noncomputable abbrev libF0 : List (Nat × FnSp Empty) := [(26, STS), (24, FTS), (20, inS)]
theorem libF0_ok : LibOk Try.prog noFacts (lib1 libF0) := (lib1_cons (sp3_ok fun a x y _ => ⟨_, rfl, Ste_pl a x y⟩) Try.call26 (lib1_cons (sp2_ok fun a d _ => ⟨_, rfl, Fas_pl a d⟩) Try.call24 (lib1_cons (sp2_ok fun a p _ => ⟨_, rfl, inn_pl a p⟩) Try.call20 (lib1_nil _ _))))
set_option maxRecDepth 100000 in
theorem axf0_111  : evR (ctxOf Try.prog noFacts (fun _ => false) libF0) Try.f15 [] [true, true, true] = some (AV.w (AW.one (AC.bool !inA { mn := 0, mx := 1000000000, sp := 16777216, ac := 16777216 } (-1))), (pickL [(SEv { mn := 0, mx := 1000000000, sp := 16777216, ac := 16777216 } 0 50331648 == 0, true), (SNv { mn := 0, mx := 1000000000, sp := 16777216, ac := 16777216 } 0 50331648 == 4, true), (FTv { mn := 0, mx := 1000000000, sp := 16777216, ac := 16777216 } 5 == 5, true)] [0, 0, 0, 1, 1, 1, 1, 2, 2, 2, 2])) := by kernel_rfl
theorem axes_pl : Pl Try.prog 15 [] (.bool true) := fun w => by
  have k0 : (SEv { mn := 0, mx := 1000000000, sp := 16777216, ac := 16777216 } 0 50331648 == 0) = true := by decide +kernel
  have k1 : (SNv { mn := 0, mx := 1000000000, sp := 16777216, ac := 16777216 } 0 50331648 == 4) = true := by decide +kernel
  have k2 : (FTv { mn := 0, mx := 1000000000, sp := 16777216, ac := 16777216 } 5 == 5) = true := by decide +kernel
  have V : (!inA { mn := 0, mx := 1000000000, sp := 16777216, ac := 16777216 } (-1)) = true := by decide +kernel
  refine evR_calls (I := noFacts) (v := .bool true) (ctxOf_ok libF0_ok (eq_none _)) (by kernel_rfl) Try.func15 rfl lps_nil axf0_111 rfl (all2_R .nil) (congrArg (fun b => some (Value.bool b)) V) w (Nat.zero_le _) (pickL_ok ?_ _)
  repeat' (first | exact cd_nil | refine cd_cons ?_ ?_)
  all_goals first | with_reducible rfl | with_reducible assumption
end
end Go.Proofs.Ytiamhppdacfmmaa.AtSl

