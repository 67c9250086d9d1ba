/-
  THE STATEMENT Rows.SlewPosesSaid: SlewPoses returns true for every input and leaves its arguments as they were.
  Conditions: none beyond the row's own. The walk of the law's text is in YtiamhppdacfmmaaQG; this text is the row's step.
-/
import Derived.Test.YtiamhppdacfmmaaRows
import Derived.Test.YtiamhppdacfmmaaBase
import Derived.Test.YtiamhppdacfmmaaQG
import Derived.Test.YtiamhppdacfmmaaGO
import Derived.WalkKit
import Derived.ProofKit
import Derived.OpenShut
import Derived.Lib.SmallJoins
import Derived.Carry
import Derived.ChangeSlices
namespace Go.Proofs.Ytiamhppdacfmmaa.slewPoses
open Go.ChangeShapes Go.WideShapes Go.ChangeAt Go.RowKit Go.Joins Ev Wd
set_option linter.unusedVariables false

theorem own : ownKnob Try.prog.godebug = none := by kernel_rfl
theorem laid : laidOutB Try.prog = true := by kernel_rfl
theorem readable0 : Try.prog.readableRec 27 = true := by kernel_rfl
theorem shape0 : shapeOf Try.prog 8 27 = some [.k (some .i64), .k (some .i64), .k (some .i64), .k (some .i64), .k (some .i64), .k (some .i64), .k (some .i64), .k (some .i64), .k (some .i64), .k (some .i64)] := by kernel_rfl
theorem readable1 : Try.prog.readableRec 25 = true := by kernel_rfl
theorem shape1 : shapeOf Try.prog 8 25 = some [.k (some .i64), .k (some .i64)] := by kernel_rfl
theorem readable2 : Try.prog.readableRec 25 = true := by kernel_rfl
theorem shape2 : shapeOf Try.prog 8 25 = some [.k (some .i64), .k (some .i64)] := by kernel_rfl

set_option maxRecDepth 100000 in
theorem lifted (os : Os) (started : os.Started) (H : Type) (enc : TypeId × Value → H) :
    ReturnsInHanded {} Try.checked os 7 .any (Rows.slewPosesSpec.pre6 enc Try.prog Try.f7 Rows.slewPosesRow.domain false) (Rows.slewPosesSpec.post enc Try.prog Try.f7 false true false false) := by
  refine returnsInHanded_of_change (C := Try.checked) own started (by kernel_rfl) Try.func7
    (ChangeSpec.witness6 (enc := enc) (C := Try.checked) false ⟨#[], #[.agg #[.int .i64 0, .int .i64 0, .int .i64 0, .int .i64 0, .int .i64 0, .int .i64 0, .int .i64 0, .int .i64 0, .int .i64 0, .int .i64 0], .agg #[.int .i64 0, .int .i64 0], .agg #[.int .i64 0, .int .i64 0]], []⟩ 8 (by kernel_rfl) (by kernel_rfl) (by kernel_rfl) (by kernel_rfl)) ?_
  intro W base args ds gs before hval0 hW hcnd _
  have hval : ∀ (j : Nat) t v, Try.f7.params[j]? = some t → args[j]? = some v → Value.okWide Try.prog W .any base t v := hval0
  have hW' := hW
  obtain ⟨p, q, hA0, hV, rfl, hfz, hnd⟩ := hW
  have hA : DataW.TrodAll enc Try.prog W 0 (fun _ => true) true Try.f7.params.toList args.toList ds p := hA0
  rw [Try.params7] at hA hval
  obtain ⟨v0, vs0, d0, ds0, p0, q0, hargs, rfl, rfl, h0, r0⟩ := trodAll_cons hA
  obtain ⟨v1, vs1, d1, ds1, p1, q1, rfl, rfl, rfl, h1, r1⟩ := trodAll_cons r0
  obtain ⟨v2, vs2, d2, ds2, p2, q2, rfl, rfl, rfl, h2, r2⟩ := trodAll_cons r1
  obtain ⟨rfl, rfl, rfl⟩ := trodAll_nil r2
  obtain rfl : args = #[v0, v1, v2] := by cases args; simp_all
  obtain ⟨rfl, rfl⟩ := trodVars_none hV
  have h0k := h0
  obtain ⟨g0, a0⟩ := arg_open shape0 (hval 0 27 v0 rfl rfl) h0
  obtain ⟨cs0, rfl, z0⟩ := okWide_struct Try.underlying27 (hval 0 27 v0 rfl rfl)
  obtain ⟨cs0⟩ := cs0
  replace a0 : All3 (CtR W) [.k (some .i64), .k (some .i64), .k (some .i64), .k (some .i64), .k (some .i64), .k (some .i64), .k (some .i64), .k (some .i64), .k (some .i64), .k (some .i64)] g0 cs0 := a0
  obtain ⟨g0_0, gs0_0, v0_0, cs0_0, rfl, rfl, k0_0, a0_0⟩ := all3_cons a0
  obtain ⟨x0_0, rfl, rfl, b0_0⟩ := ct_int k0_0
  obtain ⟨g0_1, gs0_1, v0_1, cs0_1, rfl, rfl, k0_1, a0_1⟩ := all3_cons a0_0
  obtain ⟨x0_1, rfl, rfl, b0_1⟩ := ct_int k0_1
  obtain ⟨g0_2, gs0_2, v0_2, cs0_2, rfl, rfl, k0_2, a0_2⟩ := all3_cons a0_1
  obtain ⟨x0_2, rfl, rfl, b0_2⟩ := ct_int k0_2
  obtain ⟨g0_3, gs0_3, v0_3, cs0_3, rfl, rfl, k0_3, a0_3⟩ := all3_cons a0_2
  obtain ⟨x0_3, rfl, rfl, b0_3⟩ := ct_int k0_3
  obtain ⟨g0_4, gs0_4, v0_4, cs0_4, rfl, rfl, k0_4, a0_4⟩ := all3_cons a0_3
  obtain ⟨x0_4, rfl, rfl, b0_4⟩ := ct_int k0_4
  obtain ⟨g0_5, gs0_5, v0_5, cs0_5, rfl, rfl, k0_5, a0_5⟩ := all3_cons a0_4
  obtain ⟨x0_5, rfl, rfl, b0_5⟩ := ct_int k0_5
  obtain ⟨g0_6, gs0_6, v0_6, cs0_6, rfl, rfl, k0_6, a0_6⟩ := all3_cons a0_5
  obtain ⟨x0_6, rfl, rfl, b0_6⟩ := ct_int k0_6
  obtain ⟨g0_7, gs0_7, v0_7, cs0_7, rfl, rfl, k0_7, a0_7⟩ := all3_cons a0_6
  obtain ⟨x0_7, rfl, rfl, b0_7⟩ := ct_int k0_7
  obtain ⟨g0_8, gs0_8, v0_8, cs0_8, rfl, rfl, k0_8, a0_8⟩ := all3_cons a0_7
  obtain ⟨x0_8, rfl, rfl, b0_8⟩ := ct_int k0_8
  obtain ⟨g0_9, gs0_9, v0_9, cs0_9, rfl, rfl, k0_9, a0_9⟩ := all3_cons a0_8
  obtain ⟨x0_9, rfl, rfl, b0_9⟩ := ct_int k0_9
  obtain ⟨rfl, rfl⟩ := all3_nil a0_9
  have h1k := h1
  obtain ⟨g1, a1⟩ := arg_open shape1 (hval 1 25 v1 rfl rfl) h1
  obtain ⟨cs1, rfl, z1⟩ := okWide_struct Try.underlying25 (hval 1 25 v1 rfl rfl)
  obtain ⟨cs1⟩ := cs1
  replace a1 : All3 (CtR W) [.k (some .i64), .k (some .i64)] g1 cs1 := a1
  obtain ⟨g1_0, gs1_0, v1_0, cs1_0, rfl, rfl, k1_0, a1_0⟩ := all3_cons a1
  obtain ⟨x1_0, rfl, rfl, b1_0⟩ := ct_int k1_0
  obtain ⟨g1_1, gs1_1, v1_1, cs1_1, rfl, rfl, k1_1, a1_1⟩ := all3_cons a1_0
  obtain ⟨x1_1, rfl, rfl, b1_1⟩ := ct_int k1_1
  obtain ⟨rfl, rfl⟩ := all3_nil a1_1
  have h2k := h2
  obtain ⟨g2, a2⟩ := arg_open shape2 (hval 2 25 v2 rfl rfl) h2
  obtain ⟨cs2, rfl, z2⟩ := okWide_struct Try.underlying25 (hval 2 25 v2 rfl rfl)
  obtain ⟨cs2⟩ := cs2
  replace a2 : All3 (CtR W) [.k (some .i64), .k (some .i64)] g2 cs2 := a2
  obtain ⟨g2_0, gs2_0, v2_0, cs2_0, rfl, rfl, k2_0, a2_0⟩ := all3_cons a2
  obtain ⟨x2_0, rfl, rfl, b2_0⟩ := ct_int k2_0
  obtain ⟨g2_1, gs2_1, v2_1, cs2_1, rfl, rfl, k2_1, a2_1⟩ := all3_cons a2_0
  obtain ⟨x2_1, rfl, rfl, b2_1⟩ := ct_int k2_1
  obtain ⟨rfl, rfl⟩ := all3_nil a2_1
  clear hA0 hval0
  simp only [List.append_nil] at hW'
  refine (AtSl.slewPoses_law W x0_0 b0_0 x0_1 b0_1 x0_2 b0_2 x0_3 b0_3 x0_4 b0_4 x0_5 b0_5 x0_6 b0_6 x0_7 b0_7 x0_8 b0_8 x0_9 b0_9 x1_0 b1_0 x1_1 b1_1 x2_0 b2_0 x2_1 b2_1).mono fun e W' ⟨he, hg⟩ => ?_
  subst he
  exact ⟨_, rfl, post_below (pv := []) hW' (fun _ _ _ => (trodAll_cons_mk (shut_bool Try.underlying4 _) trodAll_mk0)) (fun sp hsp => (by rw [Try.params7]; have := (trodAll_cons_mk (WideElems.Trod_stays laid readable0 (of_decide_eq_true (by kernel_rfl)) h0k (fun x hx => hg.same (hW'.lt x (by simp [hx]))) (fun x hx => hsp x (by simp [hx]))) (trodAll_cons_mk (WideElems.Trod_stays laid readable1 (of_decide_eq_true (by kernel_rfl)) h1k (fun x hx => hg.same (hW'.lt x (by simp [hx]))) (fun x hx => hsp x (by simp [hx]))) (trodAll_cons_mk (WideElems.Trod_stays laid readable2 (of_decide_eq_true (by kernel_rfl)) h2k (fun x hx => hg.same (hW'.lt x (by simp [hx]))) (fun x hx => hsp x (by simp [hx]))) trodAll_mk0))); simp only [List.append_nil] at this; exact this)) (fun _ _ => rfl) (by simp)
      hg (ok_one (by kernel_rfl) rfl (okWide_bool_mk Try.underlying4 _))⟩

theorem over : Rows.slewPosesRow.holds Try.pinned (OpenSpec.ofChange Rows.slewPosesSpec) :=
  OpenClaim.holds_of_wide 7 Try.f7 rfl rfl rfl rfl rfl rfl rfl ⟨rfl, rfl, rfl, rfl, rfl⟩ rfl rfl rfl rfl rfl (by kernel_rfl) Try.func7 (by kernel_rfl)
    (of_decide_eq_true (by kernel_rfl)) (by unfold Func.isWrapper; first | (rw [if_pos (by decide +kernel)]; kernel_rfl) | (rw [if_neg (by decide +kernel)]; exact ⟨rfl, rfl⟩))
    (fun os started H enc _ => lifted os started H enc)

end Go.Proofs.Ytiamhppdacfmmaa.slewPoses
namespace Go.Proofs.Ytiamhppdacfmmaa
/-- The statement. -/
theorem slewPoses_holds : Rows.SlewPosesSaid := slewPoses.over
#print axioms slewPoses_holds
end Go.Proofs.Ytiamhppdacfmmaa

