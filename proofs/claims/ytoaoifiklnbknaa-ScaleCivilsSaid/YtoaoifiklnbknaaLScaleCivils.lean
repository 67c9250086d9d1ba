/-
  THE STATEMENT Rows.ScaleCivilsSaid: ScaleCivils returns true for every input and leaves its arguments as they were.
  Conditions: none beyond the row's own. The walk of the law's text is in YtoaoifiklnbknaaDC; this text is the row's step.
-/
import Derived.Test.YtoaoifiklnbknaaRows
import Derived.Test.YtoaoifiklnbknaaBase
import Derived.Test.YtoaoifiklnbknaaDC
import Derived.Test.YtoaoifiklnbknaaOP
import Derived.WalkKit
import Derived.ProofKit
import Derived.OpenShut
import Derived.Lib.SmallJoins
import Derived.Carry
import Derived.ChangeSlices
namespace Go.Proofs.Ytoaoifiklnbknaa.scaleCivils
open Go.ChangeShapes Go.WideShapes Go.ChangeAt Go.RowKit Go.Joins Ev Wd
set_option linter.unusedVariables false

theorem own : ownKnob Try.prog.godebug = none := by kernel_rfl
theorem laid : laidOutB Try.prog = true := by kernel_rfl
theorem readable : Try.prog.readableRec 82 = true := by kernel_rfl

set_option maxRecDepth 100000 in
theorem lifted (os : Os) (started : os.Started) (H : Type) (enc : TypeId × Value → H) :
    ReturnsInHanded {} Try.checked os 11 .any (Rows.scaleCivilsSpec.pre6 enc Try.prog Try.f11 Rows.scaleCivilsRow.domain false) (Rows.scaleCivilsSpec.post enc Try.prog Try.f11 false true false false) := by
  refine returnsInHanded_of_change (C := Try.checked) own started (by kernel_rfl) Try.func11
    (ChangeSpec.witness6 (enc := enc) (C := Try.checked) false ⟨#[], #[.int .i64 0, .slice none 0 0], []⟩ 8 (by kernel_rfl) (by kernel_rfl) (by kernel_rfl) (by kernel_rfl)) ?_
  intro W base args ds gs before hval0 hW hcnd _
  have hval : ∀ (j : Nat) t v, Try.f11.params[j]? = some t → args[j]? = some v → Value.okWide Try.prog W .any base t v := hval0
  have hW' := hW
  obtain ⟨p, q, hA0, hV, rfl, hfz, hnd⟩ := hW
  have hA : DataW.TrodAll enc Try.prog W 0 (fun _ => true) true Try.f11.params.toList args.toList ds p := hA0
  rw [Try.params11] at hA hval
  obtain ⟨v0, vs0, d0, ds0, p0, q0, hargs, rfl, rfl, h0, r0⟩ := trodAll_cons hA
  obtain ⟨v1, vs1, d1, ds1, p1, q1, rfl, rfl, rfl, h1, r1⟩ := trodAll_cons r0
  obtain ⟨rfl, rfl, rfl⟩ := trodAll_nil r1
  obtain rfl : args = #[v0, v1] := by cases args; simp_all
  obtain ⟨rfl, rfl⟩ := trodVars_none hV
  obtain ⟨a0, rfl, rfl, rfl, w0⟩ := open_int Try.underlying83 (hval 0 83 v0 rfl rfl) h0
  have b0 := w0
  simp [Lit.wf, IntKind.min, IntKind.max, IntKind.signed, IntKind.bits] at b0
  obtain ⟨a1, len, cap, rfl⟩ := okWide_slice Try.underlying82 (hval 1 82 v1 rfl rfl)
  have hspot : ∀ a, a1 = some a → a.spot = none := fun a ha => by
    subst ha
    have hk := hval 1 82 _ rfl rfl
    simp only [Value.okWide, Try.underlying82, Cell.okWide, Cell.ok] at hk
    exact hk.2.2.2.1
  have h1k := h1
  obtain ⟨fuel, hf⟩ := h1
  clear hA0 hval0
  simp only [List.append_nil, List.nil_append] at hW'
  obtain ⟨l, hl⟩ := open_pairs Try.underlying82 Try.underlying128 (show Try.prog.cellsOf 128 = 2 by kernel_rfl) rfl rfl rfl rfl (show Try.prog.underlying 3 = some (.int .i64) from Try.underlying3) (show Try.prog.cellsOf 3 = 1 by kernel_rfl) hspot (by simpa [Value.cells] using hf)
  refine (RL.scaleCivils_law a0 (by omega) (by omega) l _ W hl).mono fun e W' ⟨he, hg⟩ => ?_
  subst he
  exact ⟨_, rfl, post_below (pv := []) hW' (fun _ _ _ => (trodAll_cons_mk (shut_bool Try.underlying4 _) trodAll_mk0)) (fun sp hsp => (by rw [Try.params11]; exact trodAll_cons_mk (shut_int Try.underlying83 w0) (trodAll_cons_mk (WideElems.Trod_stays laid readable (of_decide_eq_true (by kernel_rfl)) h1k (fun x hx => hg.same (hW'.lt x hx)) (fun x hx => hsp x hx)) trodAll_mk0))) (fun _ _ => rfl) (by simp)
      hg (ok_one (by kernel_rfl) rfl (okWide_bool_mk Try.underlying4 _))⟩

theorem over : Rows.scaleCivilsRow.holds Try.pinned (OpenSpec.ofChange Rows.scaleCivilsSpec) :=
  OpenClaim.holds_of_wide 11 Try.f11 rfl rfl rfl rfl rfl rfl rfl ⟨rfl, rfl, rfl, rfl, rfl⟩ rfl rfl rfl rfl rfl (by kernel_rfl) Try.func11 (by kernel_rfl)
    (of_decide_eq_true (by kernel_rfl)) (by unfold Func.isWrapper; first | (rw [if_pos (by decide +kernel)]; kernel_rfl) | (rw [if_neg (by decide +kernel)]; exact ⟨rfl, rfl⟩))
    (fun os started H enc _ => lifted os started H enc)

end Go.Proofs.Ytoaoifiklnbknaa.scaleCivils
namespace Go.Proofs.Ytoaoifiklnbknaa
/-- The statement. -/
theorem scaleCivils_holds : Rows.ScaleCivilsSaid := scaleCivils.over
#print axioms scaleCivils_holds
end Go.Proofs.Ytoaoifiklnbknaa

