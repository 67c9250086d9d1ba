/-
  THE STATEMENT Rows.FracSumsSaid: FracSums returns true for every input and leaves its arguments as they were.
  Conditions: none beyond the row's own. The walk of the law's text is in YtlhofholfgfphaaLFS; this text is the row's step.
-/
import Derived.Test.YtlhofholfgfphaaRows
import Derived.Test.YtlhofholfgfphaaBase
import Derived.Test.YtlhofholfgfphaaLFS
import Derived.WalkKit
import Derived.ProofKit
import Derived.OpenShut
import Derived.Lib.SmallJoins
namespace Go.Proofs.Ytlhofholfgfphaa.fracSums
open Go.ChangeShapes Go.WideShapes Go.ChangeAt Go.RowKit Go.Joins Wd
set_option linter.unusedVariables false

theorem own : ownKnob Try.prog.godebug = none := by kernel_rfl

set_option maxRecDepth 100000 in
theorem lifted (os : Os) (started : os.Started) (H : Type) (enc : TypeId × Value → H) :
    ReturnsInHanded {} Try.checked os 12 .any (Rows.fracSumsSpec.pre6 enc Try.prog Try.f12 Rows.fracSumsRow.domain false) (Rows.fracSumsSpec.post enc Try.prog Try.f12 false true false false) := by
  refine returnsInHanded_of_change (C := Try.checked) own started (by kernel_rfl) Try.func12
    (ChangeSpec.witness6 (enc := enc) (C := Try.checked) false ⟨#[], #[.int .i64 0, .int .i64 0, .agg #[.int .i64 0, .int .i64 0], .agg #[.int .i64 0, .int .i64 0]], []⟩ 8 (by kernel_rfl) (by kernel_rfl) (by kernel_rfl) (by kernel_rfl)) ?_
  intro W base args ds gs before hval0 hW hcnd _
  have hval : ∀ (j : Nat) t v, Try.f12.params[j]? = some t → args[j]? = some v → Value.okWide Try.prog W .any base t v := hval0
  have hW' := hW
  obtain ⟨p, q, hA0, hV, rfl, hfz, hnd⟩ := hW
  have hA : DataW.TrodAll enc Try.prog W 0 (fun _ => true) true Try.f12.params.toList args.toList ds p := hA0
  rw [Try.params12] at hA hval
  obtain ⟨v0, vs0, d0, ds0, p0, q0, hargs, rfl, rfl, h0, r0⟩ := trodAll_cons hA
  obtain ⟨v1, vs1, d1, ds1, p1, q1, rfl, rfl, rfl, h1, r1⟩ := trodAll_cons r0
  obtain ⟨v2, vs2, d2, ds2, p2, q2, rfl, rfl, rfl, h2, r2⟩ := trodAll_cons r1
  obtain ⟨v3, vs3, d3, ds3, p3, q3, rfl, rfl, rfl, h3, r3⟩ := trodAll_cons r2
  obtain ⟨rfl, rfl, rfl⟩ := trodAll_nil r3
  obtain rfl : args = #[v0, v1, v2, v3] := by cases args; simp_all
  obtain ⟨rfl, rfl⟩ := trodVars_none hV
  obtain ⟨a0, rfl, rfl, rfl, w0⟩ := open_int Try.underlying2 (hval 0 2 v0 rfl rfl) h0
  have b0 := w0
  simp [Lit.wf, IntKind.min, IntKind.max, IntKind.signed, IntKind.bits] at b0
  obtain ⟨a1, rfl, rfl, rfl, w1⟩ := open_int Try.underlying2 (hval 1 2 v1 rfl rfl) h1
  have b1 := w1
  simp [Lit.wf, IntKind.min, IntKind.max, IntKind.signed, IntKind.bits] at b1
  obtain ⟨c20, c21, y20, y21, m2, rfl, rfl, rfl, hy20, hy21⟩ := open_agg2 Try.underlying87 (by kernel_rfl) (show Try.prog.cellsOf 87 = 2 by kernel_rfl) (hval 2 87 v2 rfl rfl) h2
  obtain ⟨x20, e20, rfl, w20⟩ := DataW.trod_int Try.underlying2 hy20
  obtain ⟨x21, e21, rfl, w21⟩ := DataW.trod_int Try.underlying2 hy21
  simp at e20 e21
  subst e20 e21
  have b20 := w20
  have b21 := w21
  simp [Lit.wf, IntKind.min, IntKind.max, IntKind.signed, IntKind.bits] at b20 b21
  obtain ⟨c30, c31, y30, y31, m3, rfl, rfl, rfl, hy30, hy31⟩ := open_agg2 Try.underlying87 (by kernel_rfl) (show Try.prog.cellsOf 87 = 2 by kernel_rfl) (hval 3 87 v3 rfl rfl) h3
  obtain ⟨x30, e30, rfl, w30⟩ := DataW.trod_int Try.underlying2 hy30
  obtain ⟨x31, e31, rfl, w31⟩ := DataW.trod_int Try.underlying2 hy31
  simp at e30 e31
  subst e30 e31
  have b30 := w30
  have b31 := w31
  simp [Lit.wf, IntKind.min, IntKind.max, IntKind.signed, IntKind.bits] at b30 b31
  clear hA0 hval0
  simp only [List.append_nil] at hW'
  refine (fracSums_law a0 (by omega) (by omega) a1 (by omega) (by omega) x20 (by omega) (by omega) x21 (by omega) (by omega) x30 (by omega) (by omega) x31 (by omega) (by omega) W).mono fun e W' ⟨he, hg⟩ => ?_
  subst he
  exact ⟨_, rfl, post_below (pa := []) (pv := []) hW' (fun _ _ _ => (trodAll_cons_mk (shut_bool Try.underlying4 _) trodAll_mk0)) (fun sp _ => (trodAll_cons_mk (shut_int Try.underlying2 w0) (trodAll_cons_mk (shut_int Try.underlying2 w1) (trodAll_cons_mk (shut_agg2 (y0 := (.lit (.int .i64 x20), [])) (y1 := (.lit (.int .i64 x21), [])) Try.underlying87 (by kernel_rfl) (show Try.prog.cellsOf 87 = 2 by kernel_rfl) ⟨1, by simp [DataW.trod, Try.underlying2, w20]⟩ ⟨1, by simp [DataW.trod, Try.underlying2, w21]⟩) (trodAll_cons_mk (shut_agg2 (y0 := (.lit (.int .i64 x30), [])) (y1 := (.lit (.int .i64 x31), [])) Try.underlying87 (by kernel_rfl) (show Try.prog.cellsOf 87 = 2 by kernel_rfl) ⟨1, by simp [DataW.trod, Try.underlying2, w30]⟩ ⟨1, by simp [DataW.trod, Try.underlying2, w31]⟩) trodAll_mk0))))) (fun _ _ => rfl) rfl
    hg (ok_one (by kernel_rfl) rfl (okWide_bool_mk Try.underlying4 _))⟩

theorem over : Rows.fracSumsRow.holds Try.pinned (OpenSpec.ofChange Rows.fracSumsSpec) :=
  OpenClaim.holds_of_wide 12 Try.f12 rfl rfl rfl rfl rfl rfl rfl ⟨rfl, rfl, rfl, rfl, rfl⟩ rfl rfl rfl rfl rfl (by kernel_rfl) Try.func12 (by kernel_rfl)
    (of_decide_eq_true (by kernel_rfl)) (by unfold Func.isWrapper; first | (rw [if_pos (by decide +kernel)]; kernel_rfl) | (rw [if_neg (by decide +kernel)]; exact ⟨rfl, rfl⟩))
    (fun os started H enc _ => lifted os started H enc)

end Go.Proofs.Ytlhofholfgfphaa.fracSums
namespace Go.Proofs.Ytlhofholfgfphaa
/-- The statement. -/
theorem fracSums_holds : Rows.FracSumsSaid := fracSums.over
#print axioms fracSums_holds
end Go.Proofs.Ytlhofholfgfphaa

