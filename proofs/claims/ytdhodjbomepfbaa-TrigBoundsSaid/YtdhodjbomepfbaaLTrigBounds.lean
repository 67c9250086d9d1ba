/-
  THE STATEMENT Rows.TrigBoundsSaid: TrigBounds returns true for every input and leaves its arguments as they were.
  Conditions: none beyond the row's own. The walk of the law's text is in YtdhodjbomepfbaaT5; this text is the row's step.
-/
import Derived.Test.YtdhodjbomepfbaaRows
import Derived.Test.YtdhodjbomepfbaaBase
import Derived.Test.YtdhodjbomepfbaaT5
import Derived.WalkKit
import Derived.ProofKit
import Derived.OpenShut
import Derived.Lib.SmallJoins
namespace Go.Proofs.Ytdhodjbomepfbaa.trigBounds
open Go.ChangeShapes Go.WideShapes Go.ChangeAt Go.RowKit Go.Joins Wd
set_option linter.unusedVariables false

theorem own : ownKnob Try.prog.godebug = none := by kernel_rfl

set_option maxRecDepth 100000 in
theorem lifted (os : Os) (started : os.Started) (H : Type) (enc : TypeId × Value → H) :
    ReturnsInHanded {} Try.checked os 12 .any (Rows.trigBoundsSpec.pre6 enc Try.prog Try.f12 Rows.trigBoundsRow.domain false) (Rows.trigBoundsSpec.post enc Try.prog Try.f12 false true false false) := by
  refine returnsInHanded_of_change (C := Try.checked) own started (by kernel_rfl) Try.func12
    (ChangeSpec.witness6 (enc := enc) (C := Try.checked) false ⟨#[], #[.agg #[.int .i64 0, .int .i64 0, .bool false]], []⟩ 8 (by kernel_rfl) (by kernel_rfl) (by kernel_rfl) (by kernel_rfl)) ?_
  intro W base args ds gs before hval0 hW hcnd _
  have hval : ∀ (j : Nat) t v, Try.f12.params[j]? = some t → args[j]? = some v → Value.okWide Try.prog W .any base t v := hval0
  have hW' := hW
  obtain ⟨p, q, hA0, hV, rfl, hfz, hnd⟩ := hW
  have hA : DataW.TrodAll enc Try.prog W 0 (fun _ => true) true Try.f12.params.toList args.toList ds p := hA0
  rw [Try.params12] at hA hval
  obtain ⟨v0, vs0, d0, ds0, p0, q0, hargs, rfl, rfl, h0, r0⟩ := trodAll_cons hA
  obtain ⟨rfl, rfl, rfl⟩ := trodAll_nil r0
  obtain rfl : args = #[v0] := by cases args; simp_all
  obtain ⟨rfl, rfl⟩ := trodVars_none hV
  obtain ⟨c00, c01, c02, y00, y01, y02, m0, rfl, rfl, rfl, hy00, hy01, hy02⟩ := open_agg3 Try.underlying44 (by kernel_rfl) (show Try.prog.cellsOf 44 = 3 by kernel_rfl) (hval 0 44 v0 rfl rfl) h0
  obtain ⟨x00, e00, rfl, w00⟩ := DataW.trod_int Try.underlying42 hy00
  obtain ⟨x01, e01, rfl, w01⟩ := DataW.trod_int Try.underlying42 hy01
  obtain ⟨x02, e02, rfl⟩ := DataW.trod_bool Try.underlying4 hy02
  simp at e00 e01 e02
  subst e00 e01 e02
  have b00 := w00
  have b01 := w01
  simp [Lit.wf, IntKind.min, IntKind.max, IntKind.signed, IntKind.bits] at b00 b01
  clear hA0 hval0
  simp only [List.append_nil] at hW'
  refine (trigBounds_law ⟨x00, x01, x02⟩ W).mono fun e W' ⟨he, hg⟩ => ?_
  subst he
  exact ⟨_, rfl, post_below (pa := []) (pv := []) hW' (fun _ _ _ => (trodAll_cons_mk (shut_bool Try.underlying4 _) trodAll_mk0)) (fun sp _ => (trodAll_cons_mk (shut_agg3 (y0 := (.lit (.int .i64 x00), [])) (y1 := (.lit (.int .i64 x01), [])) (y2 := (.lit (.bool x02), [])) Try.underlying44 (by kernel_rfl) (show Try.prog.cellsOf 44 = 3 by kernel_rfl) ⟨1, by simp [DataW.trod, Try.underlying42, w00]⟩ ⟨1, by simp [DataW.trod, Try.underlying42, w01]⟩ ⟨1, by simp [DataW.trod, Try.underlying4]⟩) trodAll_mk0)) (fun _ _ => rfl) rfl
    hg (ok_one (by kernel_rfl) rfl (okWide_bool_mk Try.underlying4 _))⟩

theorem over : Rows.trigBoundsRow.holds Try.pinned (OpenSpec.ofChange Rows.trigBoundsSpec) :=
  OpenClaim.holds_of_wide 12 Try.f12 rfl rfl rfl rfl rfl rfl rfl ⟨rfl, rfl, rfl, rfl, rfl⟩ rfl rfl rfl rfl rfl (by kernel_rfl) Try.func12 (by kernel_rfl)
    (of_decide_eq_true (by kernel_rfl)) (by unfold Func.isWrapper; first | (rw [if_pos (by decide +kernel)]; kernel_rfl) | (rw [if_neg (by decide +kernel)]; exact ⟨rfl, rfl⟩))
    (fun os started H enc _ => lifted os started H enc)

end Go.Proofs.Ytdhodjbomepfbaa.trigBounds
namespace Go.Proofs.Ytdhodjbomepfbaa
/-- The statement. -/
theorem trigBounds_holds : Rows.TrigBoundsSaid := trigBounds.over
#print axioms trigBounds_holds
end Go.Proofs.Ytdhodjbomepfbaa

