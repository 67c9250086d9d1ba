/-
  THE STATEMENT Rows.SlewSlotsSaid: SlewSlots returns true for every input and leaves its arguments as they were.
  Conditions: none beyond the row's own. The walk of the law's text is in YtiamhppdacfmmaaQJ; this text is the row's step.
-/
import Derived.Test.YtiamhppdacfmmaaRows
import Derived.Test.YtiamhppdacfmmaaBase
import Derived.Test.YtiamhppdacfmmaaQJ
import Derived.Test.YtiamhppdacfmmaaGO
import Derived.WalkKit
import Derived.ProofKit
import Derived.OpenShut
import Derived.Lib.SmallJoins
import Derived.Carry
import Derived.ChangeSlices
namespace Go.Proofs.Ytiamhppdacfmmaa.slewSlots
open Go.ChangeShapes Go.WideShapes Go.ChangeAt Go.RowKit Go.Joins Ev Wd
set_option linter.unusedVariables false

theorem own : ownKnob Try.prog.godebug = none := by kernel_rfl
theorem laid : laidOutB Try.prog = true := by kernel_rfl
theorem readable0 : Try.prog.readableRec 57 = true := by kernel_rfl
theorem shape0 : shapeOf Try.prog 8 57 = some [.k (some .i64), .k (some .i64), .k (some .i64), .k (some .i64), .k (some .i64), .k (some .i64), .k (some .i64), .k (some .i64), .k (some .i64), .k (some .i64), .k (some .i64), .k (some .i64), .k (some .i64), .k (some .i64), .k (some .i64), .k (some .i64), .tab [some .i64]] := by kernel_rfl
theorem readable1 : Try.prog.readableRec 3 = true := by kernel_rfl
theorem shape1 : shapeOf Try.prog 8 3 = some [.k (some .i64)] := by kernel_rfl

set_option maxRecDepth 100000 in
theorem lifted (os : Os) (started : os.Started) (H : Type) (enc : TypeId × Value → H) :
    ReturnsInHanded {} Try.checked os 8 .any (Rows.slewSlotsSpec.pre6 enc Try.prog Try.f8 Rows.slewSlotsRow.domain false) (Rows.slewSlotsSpec.post enc Try.prog Try.f8 false true false false) := by
  refine returnsInHanded_of_change (C := Try.checked) own started (by kernel_rfl) Try.func8
    (ChangeSpec.witness6 (enc := enc) (C := Try.checked) false ⟨#[], #[.agg #[.int .i64 0, .int .i64 0, .int .i64 0, .int .i64 0, .int .i64 0, .int .i64 0, .int .i64 0, .int .i64 0, .int .i64 0, .int .i64 0, .int .i64 0, .int .i64 0, .int .i64 0, .int .i64 0, .int .i64 0, .int .i64 0, .slice none 0 0], .int .i64 0], []⟩ 8 (by kernel_rfl) (by kernel_rfl) (by kernel_rfl) (by kernel_rfl)) ?_
  intro W base args ds gs before hval0 hW hcnd _
  have hval : ∀ (j : Nat) t v, Try.f8.params[j]? = some t → args[j]? = some v → Value.okWide Try.prog W .any base t v := hval0
  have hW' := hW
  obtain ⟨p, q, hA0, hV, rfl, hfz, hnd⟩ := hW
  have hA : DataW.TrodAll enc Try.prog W 0 (fun _ => true) true Try.f8.params.toList args.toList ds p := hA0
  rw [Try.params8] at hA hval
  obtain ⟨v0, vs0, d0, ds0, p0, q0, hargs, rfl, rfl, h0, r0⟩ := trodAll_cons hA
  obtain ⟨v1, vs1, d1, ds1, p1, q1, rfl, rfl, rfl, h1, r1⟩ := trodAll_cons r0
  obtain ⟨rfl, rfl, rfl⟩ := trodAll_nil r1
  obtain rfl : args = #[v0, v1] := by cases args; simp_all
  obtain ⟨rfl, rfl⟩ := trodVars_none hV
  have h0k := h0
  obtain ⟨g0, a0⟩ := arg_open shape0 (hval 0 57 v0 rfl rfl) h0
  obtain ⟨cs0, rfl, z0⟩ := okWide_struct Try.underlying57 (hval 0 57 v0 rfl rfl)
  obtain ⟨cs0⟩ := cs0
  replace a0 : All3 (CtR W) [.k (some .i64), .k (some .i64), .k (some .i64), .k (some .i64), .k (some .i64), .k (some .i64), .k (some .i64), .k (some .i64), .k (some .i64), .k (some .i64), .k (some .i64), .k (some .i64), .k (some .i64), .k (some .i64), .k (some .i64), .k (some .i64), .tab [some .i64]] g0 cs0 := a0
  obtain ⟨g0_0, gs0_0, v0_0, cs0_0, rfl, rfl, k0_0, a0_0⟩ := all3_cons a0
  obtain ⟨x0_0, rfl, rfl, b0_0⟩ := ct_int k0_0
  obtain ⟨g0_1, gs0_1, v0_1, cs0_1, rfl, rfl, k0_1, a0_1⟩ := all3_cons a0_0
  obtain ⟨x0_1, rfl, rfl, b0_1⟩ := ct_int k0_1
  obtain ⟨g0_2, gs0_2, v0_2, cs0_2, rfl, rfl, k0_2, a0_2⟩ := all3_cons a0_1
  obtain ⟨x0_2, rfl, rfl, b0_2⟩ := ct_int k0_2
  obtain ⟨g0_3, gs0_3, v0_3, cs0_3, rfl, rfl, k0_3, a0_3⟩ := all3_cons a0_2
  obtain ⟨x0_3, rfl, rfl, b0_3⟩ := ct_int k0_3
  obtain ⟨g0_4, gs0_4, v0_4, cs0_4, rfl, rfl, k0_4, a0_4⟩ := all3_cons a0_3
  obtain ⟨x0_4, rfl, rfl, b0_4⟩ := ct_int k0_4
  obtain ⟨g0_5, gs0_5, v0_5, cs0_5, rfl, rfl, k0_5, a0_5⟩ := all3_cons a0_4
  obtain ⟨x0_5, rfl, rfl, b0_5⟩ := ct_int k0_5
  obtain ⟨g0_6, gs0_6, v0_6, cs0_6, rfl, rfl, k0_6, a0_6⟩ := all3_cons a0_5
  obtain ⟨x0_6, rfl, rfl, b0_6⟩ := ct_int k0_6
  obtain ⟨g0_7, gs0_7, v0_7, cs0_7, rfl, rfl, k0_7, a0_7⟩ := all3_cons a0_6
  obtain ⟨x0_7, rfl, rfl, b0_7⟩ := ct_int k0_7
  obtain ⟨g0_8, gs0_8, v0_8, cs0_8, rfl, rfl, k0_8, a0_8⟩ := all3_cons a0_7
  obtain ⟨x0_8, rfl, rfl, b0_8⟩ := ct_int k0_8
  obtain ⟨g0_9, gs0_9, v0_9, cs0_9, rfl, rfl, k0_9, a0_9⟩ := all3_cons a0_8
  obtain ⟨x0_9, rfl, rfl, b0_9⟩ := ct_int k0_9
  obtain ⟨g0_10, gs0_10, v0_10, cs0_10, rfl, rfl, k0_10, a0_10⟩ := all3_cons a0_9
  obtain ⟨x0_10, rfl, rfl, b0_10⟩ := ct_int k0_10
  obtain ⟨g0_11, gs0_11, v0_11, cs0_11, rfl, rfl, k0_11, a0_11⟩ := all3_cons a0_10
  obtain ⟨x0_11, rfl, rfl, b0_11⟩ := ct_int k0_11
  obtain ⟨g0_12, gs0_12, v0_12, cs0_12, rfl, rfl, k0_12, a0_12⟩ := all3_cons a0_11
  obtain ⟨x0_12, rfl, rfl, b0_12⟩ := ct_int k0_12
  obtain ⟨g0_13, gs0_13, v0_13, cs0_13, rfl, rfl, k0_13, a0_13⟩ := all3_cons a0_12
  obtain ⟨x0_13, rfl, rfl, b0_13⟩ := ct_int k0_13
  obtain ⟨g0_14, gs0_14, v0_14, cs0_14, rfl, rfl, k0_14, a0_14⟩ := all3_cons a0_13
  obtain ⟨x0_14, rfl, rfl, b0_14⟩ := ct_int k0_14
  obtain ⟨g0_15, gs0_15, v0_15, cs0_15, rfl, rfl, k0_15, a0_15⟩ := all3_cons a0_14
  obtain ⟨x0_15, rfl, rfl, b0_15⟩ := ct_int k0_15
  obtain ⟨g0_16, gs0_16, v0_16, cs0_16, rfl, rfl, k0_16, a0_16⟩ := all3_cons a0_15
  obtain ⟨x0_16, rfl, u0_16, b0_16⟩ := ct_tab k0_16
  obtain ⟨rfl, rfl⟩ := all3_nil a0_16
  have h1k := h1
  obtain ⟨g1, a1⟩ := arg_open shape1 (hval 1 3 v1 rfl rfl) h1
  rw [one_cell (hval 1 3 v1 rfl rfl) (by rw [Try.underlying3]; exact ⟨fun fs h => (by cases h), fun m e h => (by cases h)⟩)] at a1
  obtain ⟨g1_0, k1_0⟩ := all3_one a1
  obtain ⟨x1_0, rfl, rfl, b1_0⟩ := ct_int k1_0
  clear hA0 hval0
  simp only [List.append_nil] at hW'
  refine (AtSl.slewSlots_walk W x0_0 b0_0 x0_1 b0_1 x0_2 b0_2 x0_3 b0_3 x0_4 b0_4 x0_5 b0_5 x0_6 b0_6 x0_7 b0_7 x0_8 b0_8 x0_9 b0_9 x0_10 b0_10 x0_11 b0_11 x0_12 b0_12 x0_13 b0_13 x0_14 b0_14 x0_15 b0_15 x0_16 _ u0_16 b0_16 x1_0 b1_0).mono fun e W' ⟨he, hg⟩ => ?_
  subst he
  exact ⟨_, rfl, post_below (pv := []) hW' (fun _ _ _ => (trodAll_cons_mk (shut_bool Try.underlying4 _) trodAll_mk0)) (fun sp hsp => (by rw [Try.params8]; have := (trodAll_cons_mk (WideElems.Trod_stays laid readable0 (of_decide_eq_true (by kernel_rfl)) h0k (fun x hx => hg.same (hW'.lt x (by simp [hx]))) (fun x hx => hsp x (by simp [hx]))) (trodAll_cons_mk (WideElems.Trod_stays laid readable1 (of_decide_eq_true (by kernel_rfl)) h1k (fun x hx => hg.same (hW'.lt x (by simp [hx]))) (fun x hx => hsp x (by simp [hx]))) trodAll_mk0)); simp only [List.append_nil] at this; exact this)) (fun _ _ => rfl) (by simp)
      hg (ok_one (by kernel_rfl) rfl (okWide_bool_mk Try.underlying4 _))⟩

theorem over : Rows.slewSlotsRow.holds Try.pinned (OpenSpec.ofChange Rows.slewSlotsSpec) :=
  OpenClaim.holds_of_wide 8 Try.f8 rfl rfl rfl rfl rfl rfl rfl ⟨rfl, rfl, rfl, rfl, rfl⟩ rfl rfl rfl rfl rfl (by kernel_rfl) Try.func8 (by kernel_rfl)
    (of_decide_eq_true (by kernel_rfl)) (by unfold Func.isWrapper; first | (rw [if_pos (by decide +kernel)]; kernel_rfl) | (rw [if_neg (by decide +kernel)]; exact ⟨rfl, rfl⟩))
    (fun os started H enc _ => lifted os started H enc)

end Go.Proofs.Ytiamhppdacfmmaa.slewSlots
namespace Go.Proofs.Ytiamhppdacfmmaa
/-- The statement. -/
theorem slewSlots_holds : Rows.SlewSlotsSaid := slewSlots.over
#print axioms slewSlots_holds
end Go.Proofs.Ytiamhppdacfmmaa

