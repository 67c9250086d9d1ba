/-
  THE STATEMENT Rows.NumWideBackSaid: NumWideBack returns true for every input and leaves its arguments as they were.
  Conditions: none beyond the row's own. The walk of the law's text is in YtjojhlchakijfaaNumWideBack; this text is the row's step.
-/
import Derived.Test.YtjojhlchakijfaaRows
import Derived.Test.YtjojhlchakijfaaBase
import Derived.Test.YtjojhlchakijfaaNumWideBack
import Derived.WalkKit
import Derived.ProofKit
import Derived.OpenShut
import Derived.Lib.SmallJoins
namespace Go.Proofs.Ytjojhlchakijfaa.numWideBack
open Go.ChangeShapes Go.WideShapes Go.ChangeAt Go.RowKit Go.Joins Wd
set_option linter.unusedVariables false

theorem own : ownKnob Try.prog.godebug = none := by kernel_rfl

set_option maxRecDepth 100000 in
theorem lifted (os : Os) (started : os.Started) (H : Type) (enc : TypeId × Value → H) :
    ReturnsInHanded {} Try.checked os 11 .any (Rows.numWideBackSpec.pre6 enc Try.prog Try.f11 Rows.numWideBackRow.domain false) (Rows.numWideBackSpec.post enc Try.prog Try.f11 false true false false) := by
  refine returnsInHanded_of_change (C := Try.checked) own started (by kernel_rfl) Try.func11
    (ChangeSpec.witness6 (enc := enc) (C := Try.checked) false ⟨#[], #[.agg #[.int .i64 0, .int .u64 0], .agg #[.int .i64 0, .int .u64 0], .int .i64 0], []⟩ 8 (by kernel_rfl) (by kernel_rfl) (by kernel_rfl) (by kernel_rfl)) ?_
  intro W base args ds gs before hval0 hW hcnd _
  have hval : ∀ (j : Nat) t v, Try.f11.params[j]? = some t → args[j]? = some v → Value.okWide Try.prog W .any base t v := hval0
  have hW' := hW
  obtain ⟨p, q, hA0, hV, rfl, hfz, hnd⟩ := hW
  have hA : DataW.TrodAll enc Try.prog W 0 (fun _ => true) true Try.f11.params.toList args.toList ds p := hA0
  rw [Try.params11] at hA hval
  obtain ⟨v0, vs0, d0, ds0, p0, q0, hargs, rfl, rfl, h0, r0⟩ := trodAll_cons hA
  obtain ⟨v1, vs1, d1, ds1, p1, q1, rfl, rfl, rfl, h1, r1⟩ := trodAll_cons r0
  obtain ⟨v2, vs2, d2, ds2, p2, q2, rfl, rfl, rfl, h2, r2⟩ := trodAll_cons r1
  obtain ⟨rfl, rfl, rfl⟩ := trodAll_nil r2
  obtain rfl : args = #[v0, v1, v2] := by cases args; simp_all
  obtain ⟨rfl, rfl⟩ := trodVars_none hV
  obtain ⟨c00, c01, y00, y01, m0, rfl, rfl, rfl, hy00, hy01⟩ := open_agg2 Try.underlying49 (by kernel_rfl) (show Try.prog.cellsOf 49 = 2 by kernel_rfl) (hval 0 49 v0 rfl rfl) h0
  obtain ⟨x00, e00, rfl, w00⟩ := DataW.trod_int Try.underlying2 hy00
  obtain ⟨x01, e01, rfl, w01⟩ := DataW.trod_int Try.underlying47 hy01
  simp at e00 e01
  subst e00 e01
  have b00 := w00
  have b01 := w01
  simp [Lit.wf, IntKind.min, IntKind.max, IntKind.signed, IntKind.bits] at b00 b01
  obtain ⟨a0, na0, ea0, fa0⟩ : ∃ n : Int, InW n ∧ x00 = n / 18446744073709551616 ∧ x01 = n % 18446744073709551616 := ⟨x00 * 18446744073709551616 + x01, by unfold InW; omega, by omega, by omega⟩
  subst ea0 fa0
  obtain ⟨c10, c11, y10, y11, m1, rfl, rfl, rfl, hy10, hy11⟩ := open_agg2 Try.underlying49 (by kernel_rfl) (show Try.prog.cellsOf 49 = 2 by kernel_rfl) (hval 1 49 v1 rfl rfl) h1
  obtain ⟨x10, e10, rfl, w10⟩ := DataW.trod_int Try.underlying2 hy10
  obtain ⟨x11, e11, rfl, w11⟩ := DataW.trod_int Try.underlying47 hy11
  simp at e10 e11
  subst e10 e11
  have b10 := w10
  have b11 := w11
  simp [Lit.wf, IntKind.min, IntKind.max, IntKind.signed, IntKind.bits] at b10 b11
  obtain ⟨a1, na1, ea1, fa1⟩ : ∃ n : Int, InW n ∧ x10 = n / 18446744073709551616 ∧ x11 = n % 18446744073709551616 := ⟨x10 * 18446744073709551616 + x11, by unfold InW; omega, by omega, by omega⟩
  subst ea1 fa1
  obtain ⟨a2, rfl, rfl, rfl, w2⟩ := open_int Try.underlying2 (hval 2 2 v2 rfl rfl) h2
  have b2 := w2
  simp [Lit.wf, IntKind.min, IntKind.max, IntKind.signed, IntKind.bits] at b2
  clear hA0 hval0
  simp only [List.append_nil] at hW'
  refine (numWideBack_any a0 na0 a1 na1 a2 (by omega) (by omega) W).mono fun e W' ⟨he, hg⟩ => ?_
  subst he
  exact ⟨_, rfl, post_below (pa := []) (pv := []) hW' (fun _ _ _ => (trodAll_cons_mk (shut_bool Try.underlying4 _) trodAll_mk0)) (fun sp _ => (trodAll_cons_mk (shut_agg2 (y0 := (.lit (.int .i64 (a0 / 18446744073709551616)), [])) (y1 := (.lit (.int .u64 (a0 % 18446744073709551616)), [])) Try.underlying49 (by kernel_rfl) (show Try.prog.cellsOf 49 = 2 by kernel_rfl) ⟨1, by simp [DataW.trod, Try.underlying2, w00]⟩ ⟨1, by simp [DataW.trod, Try.underlying47, w01]⟩) (trodAll_cons_mk (shut_agg2 (y0 := (.lit (.int .i64 (a1 / 18446744073709551616)), [])) (y1 := (.lit (.int .u64 (a1 % 18446744073709551616)), [])) Try.underlying49 (by kernel_rfl) (show Try.prog.cellsOf 49 = 2 by kernel_rfl) ⟨1, by simp [DataW.trod, Try.underlying2, w10]⟩ ⟨1, by simp [DataW.trod, Try.underlying47, w11]⟩) (trodAll_cons_mk (shut_int Try.underlying2 w2) trodAll_mk0)))) (fun _ _ => rfl) rfl
    hg (ok_one (by kernel_rfl) rfl (okWide_bool_mk Try.underlying4 _))⟩

theorem over : Rows.numWideBackRow.holds Try.pinned (OpenSpec.ofChange Rows.numWideBackSpec) :=
  OpenClaim.holds_of_wide 11 Try.f11 rfl rfl rfl rfl rfl rfl rfl ⟨rfl, rfl, rfl, rfl, rfl⟩ rfl rfl rfl rfl rfl (by kernel_rfl) Try.func11 (by kernel_rfl)
    (of_decide_eq_true (by kernel_rfl)) (by unfold Func.isWrapper; first | (rw [if_pos (by decide +kernel)]; kernel_rfl) | (rw [if_neg (by decide +kernel)]; exact ⟨rfl, rfl⟩))
    (fun os started H enc _ => lifted os started H enc)

end Go.Proofs.Ytjojhlchakijfaa.numWideBack
namespace Go.Proofs.Ytjojhlchakijfaa
/-- The statement. -/
theorem numWideBack_holds : Rows.NumWideBackSaid := numWideBack.over
#print axioms numWideBack_holds
end Go.Proofs.Ytjojhlchakijfaa
