/-
  THE STATEMENT Rows.ScaleUniformsSaid: ScaleUniforms returns true for every input and leaves its arguments as they were.
  Conditions: none beyond the row's own. The walk of the law's text is in YtoaoifiklnbknaaDA; this text is the row's step.
-/
import Derived.Test.YtoaoifiklnbknaaRows
import Derived.Test.YtoaoifiklnbknaaBase
import Derived.Test.YtoaoifiklnbknaaDA
import Derived.Test.YtoaoifiklnbknaaOP
import Derived.WalkKit
import Derived.ProofKit
import Derived.OpenShut
import Derived.Lib.SmallJoins
import Derived.Carry
import Derived.ChangeSlices
namespace Go.Proofs.Ytoaoifiklnbknaa.scaleUniforms
open Go.ChangeShapes Go.WideShapes Go.ChangeAt Go.RowKit Go.Joins Ev Wd
set_option linter.unusedVariables false

theorem own : ownKnob Try.prog.godebug = none := by kernel_rfl
theorem laid : laidOutB Try.prog = true := by kernel_rfl
theorem readable : Try.prog.readableRec 82 = true := by kernel_rfl
theorem readable0 : Try.prog.readableRec 81 = true := by kernel_rfl

set_option maxRecDepth 100000 in
theorem lifted (os : Os) (started : os.Started) (H : Type) (enc : TypeId × Value → H) :
    ReturnsInHanded {} Try.checked os 10 .any (Rows.scaleUniformsSpec.pre6 enc Try.prog Try.f10 Rows.scaleUniformsRow.domain false) (Rows.scaleUniformsSpec.post enc Try.prog Try.f10 false true false false) := by
  refine returnsInHanded_of_change (C := Try.checked) own started (by kernel_rfl) Try.func10
    (ChangeSpec.witness6 (enc := enc) (C := Try.checked) false ⟨#[], #[.agg #[.int .i64 0, .int .i64 0, .int .i64 0, .int .i64 0, .int .i64 0, .int .i64 0, .int .i64 0], .slice none 0 0], []⟩ 8 (by kernel_rfl) (by kernel_rfl) (by kernel_rfl) (by kernel_rfl)) ?_
  intro W base args ds gs before hval0 hW hcnd _
  have hval : ∀ (j : Nat) t v, Try.f10.params[j]? = some t → args[j]? = some v → Value.okWide Try.prog W .any base t v := hval0
  have hW' := hW
  obtain ⟨p, q, hA0, hV, rfl, hfz, hnd⟩ := hW
  have hA : DataW.TrodAll enc Try.prog W 0 (fun _ => true) true Try.f10.params.toList args.toList ds p := hA0
  rw [Try.params10] at hA hval
  obtain ⟨v0, vs0, d0, ds0, p0, q0, hargs, rfl, rfl, h0, r0⟩ := trodAll_cons hA
  obtain ⟨v1, vs1, d1, ds1, p1, q1, rfl, rfl, rfl, h1, r1⟩ := trodAll_cons r0
  obtain ⟨rfl, rfl, rfl⟩ := trodAll_nil r1
  obtain rfl : args = #[v0, v1] := by cases args; simp_all
  obtain ⟨rfl, rfl⟩ := trodVars_none hV
  have h0k := h0
  obtain ⟨⟨z0, z1, z2, z3, z4, z5, z6, rfl⟩, rfl⟩ := open_civil Try.underlying81 (by kernel_rfl) (show Try.prog.cellsOf 81 = 7 by kernel_rfl) (show Try.prog.underlying 3 = some (.int .i64) from Try.underlying3) rfl rfl rfl rfl rfl rfl rfl (hval 0 81 v0 rfl rfl) h0
  obtain ⟨a1, len, cap, rfl⟩ := okWide_slice Try.underlying82 (hval 1 82 v1 rfl rfl)
  have hspot : ∀ a, a1 = some a → a.spot = none := fun a ha => by
    subst ha
    have hk := hval 1 82 _ rfl rfl
    simp only [Value.okWide, Try.underlying82, Cell.okWide, Cell.ok] at hk
    exact hk.2.2.2.1
  have h1k := h1
  obtain ⟨fuel, hf⟩ := h1
  clear hA0 hval0
  simp only [List.append_nil, List.nil_append] at hW'
  obtain ⟨l, hl⟩ := open_pairs Try.underlying82 Try.underlying128 (show Try.prog.cellsOf 128 = 2 by kernel_rfl) rfl rfl rfl rfl (show Try.prog.underlying 3 = some (.int .i64) from Try.underlying3) (show Try.prog.cellsOf 3 = 1 by kernel_rfl) hspot (by simpa [Value.cells] using hf)
  refine (RL.scaleUniforms_law ⟨z0, z1, z2, z3, z4, z5, z6⟩ l _ W hl).mono fun e W' ⟨he, hg⟩ => ?_
  subst he
  exact ⟨_, rfl, post_below (pv := []) hW' (fun _ _ _ => (trodAll_cons_mk (shut_bool Try.underlying4 _) trodAll_mk0)) (fun sp hsp => (by rw [Try.params10]; exact trodAll_cons_mk (WideElems.Trod_stays laid readable0 (of_decide_eq_true (by kernel_rfl)) h0k (fun x hx => by cases hx) (fun x hx => by cases hx)) (trodAll_cons_mk (WideElems.Trod_stays laid readable (of_decide_eq_true (by kernel_rfl)) h1k (fun x hx => hg.same (hW'.lt x hx)) (fun x hx => hsp x hx)) trodAll_mk0))) (fun _ _ => rfl) (by simp)
      hg (ok_one (by kernel_rfl) rfl (okWide_bool_mk Try.underlying4 _))⟩

theorem over : Rows.scaleUniformsRow.holds Try.pinned (OpenSpec.ofChange Rows.scaleUniformsSpec) :=
  OpenClaim.holds_of_wide 10 Try.f10 rfl rfl rfl rfl rfl rfl rfl ⟨rfl, rfl, rfl, rfl, rfl⟩ rfl rfl rfl rfl rfl (by kernel_rfl) Try.func10 (by kernel_rfl)
    (of_decide_eq_true (by kernel_rfl)) (by unfold Func.isWrapper; first | (rw [if_pos (by decide +kernel)]; kernel_rfl) | (rw [if_neg (by decide +kernel)]; exact ⟨rfl, rfl⟩))
    (fun os started H enc _ => lifted os started H enc)

end Go.Proofs.Ytoaoifiklnbknaa.scaleUniforms
namespace Go.Proofs.Ytoaoifiklnbknaa
/-- The statement. -/
theorem scaleUniforms_holds : Rows.ScaleUniformsSaid := scaleUniforms.over
#print axioms scaleUniforms_holds
end Go.Proofs.Ytoaoifiklnbknaa

