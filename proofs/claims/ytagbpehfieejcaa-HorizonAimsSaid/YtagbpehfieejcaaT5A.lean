/-
  The fact of chapter 6; the walk of spylaw1.TrigRules: it returns true.
  Conditions: the numbers are int64.
-/
import Derived.Test.YtagbpehfieejcaaT2
import Derived.Test.YtagbpehfieejcaaT4
set_option linter.unusedVariables false
set_option linter.unusedSimpArgs false
namespace Go.Proofs.Ytagbpehfieejcaa
open Go.RowKit Go.Shelf Ev Zd Wd Tg

abbrev libX0 : List (Nat × FnSp Empty) := [(51, sp1 (dInt .i64) (fun a => aInt .i64 (sinV a)) (fun a => [(i64B a, true)])), (122, sp1 (dInt .i64) (fun a => aInt .i64 (cosV a)) (fun _ => [])), (79, sp2 (dInt .i64) (dInt .i64) (fun y x => num2 (atanV y x) (atanE y x)) (fun _ _ => []))]
theorem libX0_ok : LibOk Try.prog noFacts (lib1 libX0) := (lib1_cons (sp1_ok fun a hc => ⟨_, rfl, sinf_pl a (cd1 hc)⟩) Try.call51 (lib1_cons (sp1_ok fun a _ => ⟨_, rfl, cosf_pl a⟩) Try.call122 (lib1_cons (sp2_ok fun y x _ => ⟨_, rfl, atan_pl y x⟩) Try.call79 (lib1_nil _ _))))
abbrev libX1 : List (Nat × FnSp Nm) := [(51, sp1 (dInt .i64) (fun a => aInt .i64 (sinV a)) (fun a => [(i64B a, true)])), (122, sp1 (dInt .i64) (fun a => aInt .i64 (cosV a)) (fun _ => [])), (87, sp1 (dInt .i64) (fun a => aInt .i64 (sinV a)) (fun a => [(i64B a, true)])), (86, sp1 (dInt .i64) (fun a => aInt .i64 (cosV a)) (fun a => [(i64B a, true)]))]

theorem libX1_ok : LibOk Try.prog numI (lib1 libX1) := (lib1_cons (sp1_ok fun a hc => ⟨_, rfl, sinf_pl a (cd1 hc)⟩) Try.call51 (lib1_cons (sp1_ok fun a _ => ⟨_, rfl, cosf_pl a⟩) Try.call122 (lib1_cons (sp1_ok fun a hc => ⟨_, rfl, sine_pl a (cd1 hc)⟩) Try.call87 (lib1_cons (sp1_ok fun a hc => ⟨_, rfl, cosine_pl a (cd1 hc)⟩) Try.call86 (lib1_nil _ _)))))

end Go.Proofs.Ytagbpehfieejcaa

