/-
  THE STATEMENT Rows.ScaleAnglesSaid: ScaleAngles returns true for every input and leaves its arguments as they were.
  Conditions: none beyond the row's own. The walk of the law's text is in YtoaoifiklnbknaaE8; this text is the row's step.
-/
import Derived.Test.YtoaoifiklnbknaaRows
import Derived.Test.YtoaoifiklnbknaaBase
import Derived.Test.YtoaoifiklnbknaaE8
import Derived.Test.YtoaoifiklnbknaaOQ
import Derived.WalkKit
import Derived.ProofKit
import Derived.OpenShut
import Derived.Lib.SmallJoins
import Derived.Carry
import Derived.ChangeSlices
namespace Go.Proofs.Ytoaoifiklnbknaa.scaleAngles
open Go.ChangeShapes Go.WideShapes Go.ChangeAt Go.RowKit Go.Joins Ev Wd
set_option linter.unusedVariables false

theorem own : ownKnob Try.prog.godebug = none := by kernel_rfl
theorem laid : laidOutB Try.prog = true := by kernel_rfl
theorem readable0 : Try.prog.readableRec 95 = true := by kernel_rfl

set_option maxRecDepth 100000 in
theorem lifted (os : Os) (started : os.Started) (H : Type) (enc : TypeId × Value → H) :
    ReturnsInHanded {} Try.checked os 12 .any (Rows.scaleAnglesSpec.pre6 enc Try.prog Try.f12 Rows.scaleAnglesRow.domain false) (Rows.scaleAnglesSpec.post enc Try.prog Try.f12 false true false false) := by
  refine returnsInHanded_of_change (C := Try.checked) own started (by kernel_rfl) Try.func12
    (ChangeSpec.witness6 (enc := enc) (C := Try.checked) false ⟨#[], #[.agg #[.int .i64 0, .int .i64 0, .int .i64 0, .int .i64 0], .agg #[.int .i64 0, .int .i64 0, .bool false], .int .i64 0], []⟩ 8 (by kernel_rfl) (by kernel_rfl) (by kernel_rfl) (by kernel_rfl)) ?_
  intro W base args ds gs before hval0 hW hcnd _
  have hval : ∀ (j : Nat) t v, Try.f12.params[j]? = some t → args[j]? = some v → Value.okWide Try.prog W .any base t v := hval0
  have hW' := hW
  obtain ⟨p, q, hA0, hV, rfl, hfz, hnd⟩ := hW
  have hA : DataW.TrodAll enc Try.prog W 0 (fun _ => true) true Try.f12.params.toList args.toList ds p := hA0
  rw [Try.params12] at hA hval
  obtain ⟨v0, vs0, d0, ds0, p0, q0, hargs, rfl, rfl, h0, r0⟩ := trodAll_cons hA
  obtain ⟨v1, vs1, d1, ds1, p1, q1, rfl, rfl, rfl, h1, r1⟩ := trodAll_cons r0
  obtain ⟨v2, vs2, d2, ds2, p2, q2, rfl, rfl, rfl, h2, r2⟩ := trodAll_cons r1
  obtain ⟨rfl, rfl, rfl⟩ := trodAll_nil r2
  obtain rfl : args = #[v0, v1, v2] := by cases args; simp_all
  obtain ⟨rfl, rfl⟩ := trodVars_none hV
  have h0k := h0
  obtain ⟨z0, z1, z2, z3, rfl, w0, w1, w2, w3, rfl⟩ := open_rate Try.underlying95 (show Try.prog.cellsOf 95 = 4 by kernel_rfl) rfl rfl rfl (show Try.prog.cellsOf 83 = 1 by kernel_rfl) (show Try.prog.cellsOf 42 = 1 by kernel_rfl) (show Try.prog.cellsOf 93 = 2 by kernel_rfl) (show Try.prog.underlying 83 = some (.int .i64) from Try.underlying83) (show Try.prog.underlying 42 = some (.int .i64) from Try.underlying42) Try.underlying93 rfl rfl (show Try.prog.cellsOf 2 = 1 by kernel_rfl) (show Try.prog.cellsOf 2 = 1 by kernel_rfl) (show Try.prog.underlying 2 = some (.int .i64) from Try.underlying2) (show Try.prog.underlying 2 = some (.int .i64) from Try.underlying2) (hval 0 95 v0 rfl rfl) h0
  simp [Lit.wf, IntKind.min, IntKind.max, IntKind.signed, IntKind.bits] at w2 w3
  obtain ⟨c10, c11, c12, y10, y11, y12, m1, rfl, rfl, rfl, hy10, hy11, hy12⟩ := open_agg3 Try.underlying97 (by kernel_rfl) (show Try.prog.cellsOf 97 = 3 by kernel_rfl) (hval 1 97 v1 rfl rfl) h1
  obtain ⟨x10, e10, rfl, u10⟩ := DataW.trod_int Try.underlying83 hy10
  obtain ⟨x11, e11, rfl, u11⟩ := DataW.trod_int Try.underlying83 hy11
  obtain ⟨x12, e12, rfl⟩ := DataW.trod_bool Try.underlying4 hy12
  simp at e10 e11 e12
  subst e10 e11 e12
  have b10 := u10
  have b11 := u11
  simp [Lit.wf, IntKind.min, IntKind.max, IntKind.signed, IntKind.bits] at b10 b11
  obtain ⟨a2, rfl, rfl, rfl, u2⟩ := open_int Try.underlying83 (hval 2 83 v2 rfl rfl) h2
  have b2 := u2
  simp [Lit.wf, IntKind.min, IntKind.max, IntKind.signed, IntKind.bits] at b2
  clear hA0 hval0
  simp only [List.append_nil] at hW'
  refine (AtRt.scaleAngles_law ⟨z0, z1, z2, z3⟩ (i64B_iff.2 (by omega)) (i64B_iff.2 (by omega)) ⟨x10, x11, x12⟩ (i64B_iff.2 (by omega)) (i64B_iff.2 (by omega)) a2 (i64B_iff.2 (by omega)) W).mono fun e W' ⟨he, hg⟩ => ?_
  subst he
  exact ⟨_, rfl, post_below (pa := []) (pv := []) hW' (fun _ _ _ => (trodAll_cons_mk (shut_bool Try.underlying4 _) trodAll_mk0)) (fun sp hsp => (by rw [Try.params12]; exact (trodAll_cons_mk (WideElems.Trod_stays laid readable0 (of_decide_eq_true (by kernel_rfl)) h0k (fun x hx => by cases hx) (fun x hx => by cases hx)) (trodAll_cons_mk (shut_agg3 (y0 := (.lit (.int .i64 x10), [])) (y1 := (.lit (.int .i64 x11), [])) (y2 := (.lit (.bool x12), [])) Try.underlying97 (by kernel_rfl) (show Try.prog.cellsOf 97 = 3 by kernel_rfl) ⟨1, by simp [DataW.trod, Try.underlying83, u10]⟩ ⟨1, by simp [DataW.trod, Try.underlying83, u11]⟩ ⟨1, by simp [DataW.trod, Try.underlying4]⟩) (trodAll_cons_mk (shut_int Try.underlying83 u2) trodAll_mk0))))) (fun _ _ => rfl) (by simp)
      hg (ok_one (by kernel_rfl) rfl (okWide_bool_mk Try.underlying4 _))⟩

theorem over : Rows.scaleAnglesRow.holds Try.pinned (OpenSpec.ofChange Rows.scaleAnglesSpec) :=
  OpenClaim.holds_of_wide 12 Try.f12 rfl rfl rfl rfl rfl rfl rfl ⟨rfl, rfl, rfl, rfl, rfl⟩ rfl rfl rfl rfl rfl (by kernel_rfl) Try.func12 (by kernel_rfl)
    (of_decide_eq_true (by kernel_rfl)) (by unfold Func.isWrapper; first | (rw [if_pos (by decide +kernel)]; kernel_rfl) | (rw [if_neg (by decide +kernel)]; exact ⟨rfl, rfl⟩))
    (fun os started H enc _ => lifted os started H enc)

end Go.Proofs.Ytoaoifiklnbknaa.scaleAngles
namespace Go.Proofs.Ytoaoifiklnbknaa
/-- The statement. -/
theorem scaleAngles_holds : Rows.ScaleAnglesSaid := scaleAngles.over
#print axioms scaleAngles_holds
end Go.Proofs.Ytoaoifiklnbknaa

