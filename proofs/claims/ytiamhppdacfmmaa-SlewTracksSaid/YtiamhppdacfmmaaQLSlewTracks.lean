/-
  THE STATEMENT Rows.SlewTracksSaid: SlewTracks returns true for every input and leaves its arguments as they were.
  Conditions: none beyond the row's own. The walk of the law's text is in YtiamhppdacfmmaaQO; this text is the row's step.
-/
import Derived.Test.YtiamhppdacfmmaaRows
import Derived.Test.YtiamhppdacfmmaaBase
import Derived.Test.YtiamhppdacfmmaaQQO
import Derived.Test.YtiamhppdacfmmaaQGO
import Derived.WalkKit
import Derived.ProofKit
import Derived.OpenShut
import Derived.Lib.SmallJoins
import Derived.Carry
import Derived.ChangeSlices

namespace Go.Proofs.Ytiamhppdacfmmaa.slewTracks
open Go.ChangeShapes Go.WideShapes Go.ChangeAt Go.RowKit Go.Joins Ev Wd
set_option linter.unusedVariables false

theorem own : ownKnob Try.prog.godebug = none := by kernel_rfl
theorem laid : laidOutB Try.prog = true := by kernel_rfl
theorem readable0 : Try.prog.readableRec 27 = true := by kernel_rfl
theorem shape0 : shapeOf Try.prog 8 27 = some [.k (some .i64), .k (some .i64), .k (some .i64), .k (some .i64), .k (some .i64), .k (some .i64), .k (some .i64), .k (some .i64), .k (some .i64), .k (some .i64)] := by kernel_rfl
theorem readable1 : Try.prog.readableRec 57 = true := by kernel_rfl
theorem shape1 : shapeOf Try.prog 8 57 = some [.k (some .i64), .k (some .i64), .k (some .i64), .k (some .i64), .k (some .i64), .k (some .i64), .k (some .i64), .k (some .i64), .k (some .i64), .k (some .i64), .k (some .i64), .k (some .i64), .k (some .i64), .k (some .i64), .k (some .i64), .k (some .i64), .tab [some .i64]] := by kernel_rfl
theorem readable2 : Try.prog.readableRec 25 = true := by kernel_rfl
theorem shape2 : shapeOf Try.prog 8 25 = some [.k (some .i64), .k (some .i64)] := by kernel_rfl
theorem readable3 : Try.prog.readableRec 53 = true := by kernel_rfl
theorem shape3 : shapeOf Try.prog 8 53 = some [.k (some .i64), .k (some .i64), .k (some .i64)] := by kernel_rfl
theorem readable4 : Try.prog.readableRec 3 = true := by kernel_rfl
theorem shape4 : shapeOf Try.prog 8 3 = some [.k (some .i64)] := by kernel_rfl
theorem readable5 : Try.prog.readableRec 3 = true := by kernel_rfl
theorem shape5 : shapeOf Try.prog 8 3 = some [.k (some .i64)] := by kernel_rfl

set_option maxRecDepth 100000 in
theorem lifted (os : Os) (started : os.Started) (H : Type) (enc : TypeId × Value → H) :
    ReturnsInHanded {} Try.checked os 10 .any (Rows.slewTracksSpec.pre6 enc Try.prog Try.f10 Rows.slewTracksRow.domain false) (Rows.slewTracksSpec.post enc Try.prog Try.f10 false true false false) := by
  refine returnsInHanded_of_change (C := Try.checked) own started (by kernel_rfl) Try.func10
    (ChangeSpec.witness6 (enc := enc) (C := Try.checked) false ⟨#[], #[.agg #[.int .i64 0, .int .i64 0, .int .i64 0, .int .i64 0, .int .i64 0, .int .i64 0, .int .i64 0, .int .i64 0, .int .i64 0, .int .i64 0], .agg #[.int .i64 0, .int .i64 0, .int .i64 0, .int .i64 0, .int .i64 0, .int .i64 0, .int .i64 0, .int .i64 0, .int .i64 0, .int .i64 0, .int .i64 0, .int .i64 0, .int .i64 0, .int .i64 0, .int .i64 0, .int .i64 0, .slice none 0 0], .agg #[.int .i64 0, .int .i64 0], .agg #[.int .i64 0, .int .i64 0, .int .i64 0], .int .i64 0, .int .i64 0], []⟩ 8 (by kernel_rfl) (by kernel_rfl) (by kernel_rfl) (by kernel_rfl)) ?_
  intro W base args ds gs before hval0 hW hcnd _
  have hval : ∀ (j : Nat) t v, Try.f10.params[j]? = some t → args[j]? = some v → Value.okWide Try.prog W .any base t v := hval0
  have hW' := hW
  obtain ⟨p, q, hA0, hV, rfl, hfz, hnd⟩ := hW
  have hA : DataW.TrodAll enc Try.prog W 0 (fun _ => true) true Try.f10.params.toList args.toList ds p := hA0
  rw [Try.params10] at hA hval
  obtain ⟨v0, vs0, d0, ds0, p0, q0, hargs, rfl, rfl, h0, r0⟩ := trodAll_cons hA
  obtain ⟨v1, vs1, d1, ds1, p1, q1, rfl, rfl, rfl, h1, r1⟩ := trodAll_cons r0
  obtain ⟨v2, vs2, d2, ds2, p2, q2, rfl, rfl, rfl, h2, r2⟩ := trodAll_cons r1
  obtain ⟨v3, vs3, d3, ds3, p3, q3, rfl, rfl, rfl, h3, r3⟩ := trodAll_cons r2
  obtain ⟨v4, vs4, d4, ds4, p4, q4, rfl, rfl, rfl, h4, r4⟩ := trodAll_cons r3
  obtain ⟨v5, vs5, d5, ds5, p5, q5, rfl, rfl, rfl, h5, r5⟩ := trodAll_cons r4
  obtain ⟨rfl, rfl, rfl⟩ := trodAll_nil r5
  obtain rfl : args = #[v0, v1, v2, v3, v4, v5] := by cases args; simp_all
  obtain ⟨rfl, rfl⟩ := trodVars_none hV
  have h0k := h0
  obtain ⟨g0, a0⟩ := arg_open shape0 (hval 0 27 v0 rfl rfl) h0
  obtain ⟨cs0, rfl, z0⟩ := okWide_struct Try.underlying27 (hval 0 27 v0 rfl rfl)
  obtain ⟨cs0⟩ := cs0
  replace a0 : All3 (CtR W) [.k (some .i64), .k (some .i64), .k (some .i64), .k (some .i64), .k (some .i64), .k (some .i64), .k (some .i64), .k (some .i64), .k (some .i64), .k (some .i64)] g0 cs0 := a0
  obtain ⟨g0_0, gs0_0, v0_0, cs0_0, rfl, rfl, k0_0, a0_0⟩ := all3_cons a0
  obtain ⟨x0_0, rfl, rfl, b0_0⟩ := ct_int k0_0
  obtain ⟨g0_1, gs0_1, v0_1, cs0_1, rfl, rfl, k0_1, a0_1⟩ := all3_cons a0_0
  obtain ⟨x0_1, rfl, rfl, b0_1⟩ := ct_int k0_1
  obtain ⟨g0_2, gs0_2, v0_2, cs0_2, rfl, rfl, k0_2, a0_2⟩ := all3_cons a0_1
  obtain ⟨x0_2, rfl, rfl, b0_2⟩ := ct_int k0_2
  obtain ⟨g0_3, gs0_3, v0_3, cs0_3, rfl, rfl, k0_3, a0_3⟩ := all3_cons a0_2
  obtain ⟨x0_3, rfl, rfl, b0_3⟩ := ct_int k0_3
  obtain ⟨g0_4, gs0_4, v0_4, cs0_4, rfl, rfl, k0_4, a0_4⟩ := all3_cons a0_3
  obtain ⟨x0_4, rfl, rfl, b0_4⟩ := ct_int k0_4
  obtain ⟨g0_5, gs0_5, v0_5, cs0_5, rfl, rfl, k0_5, a0_5⟩ := all3_cons a0_4
  obtain ⟨x0_5, rfl, rfl, b0_5⟩ := ct_int k0_5
  obtain ⟨g0_6, gs0_6, v0_6, cs0_6, rfl, rfl, k0_6, a0_6⟩ := all3_cons a0_5
  obtain ⟨x0_6, rfl, rfl, b0_6⟩ := ct_int k0_6
  obtain ⟨g0_7, gs0_7, v0_7, cs0_7, rfl, rfl, k0_7, a0_7⟩ := all3_cons a0_6
  obtain ⟨x0_7, rfl, rfl, b0_7⟩ := ct_int k0_7
  obtain ⟨g0_8, gs0_8, v0_8, cs0_8, rfl, rfl, k0_8, a0_8⟩ := all3_cons a0_7
  obtain ⟨x0_8, rfl, rfl, b0_8⟩ := ct_int k0_8
  obtain ⟨g0_9, gs0_9, v0_9, cs0_9, rfl, rfl, k0_9, a0_9⟩ := all3_cons a0_8
  obtain ⟨x0_9, rfl, rfl, b0_9⟩ := ct_int k0_9
  obtain ⟨rfl, rfl⟩ := all3_nil a0_9
  have h1k := h1
  obtain ⟨g1, a1⟩ := arg_open shape1 (hval 1 57 v1 rfl rfl) h1
  obtain ⟨cs1, rfl, z1⟩ := okWide_struct Try.underlying57 (hval 1 57 v1 rfl rfl)
  obtain ⟨cs1⟩ := cs1
  replace a1 : All3 (CtR W) [.k (some .i64), .k (some .i64), .k (some .i64), .k (some .i64), .k (some .i64), .k (some .i64), .k (some .i64), .k (some .i64), .k (some .i64), .k (some .i64), .k (some .i64), .k (some .i64), .k (some .i64), .k (some .i64), .k (some .i64), .k (some .i64), .tab [some .i64]] g1 cs1 := a1
  obtain ⟨g1_0, gs1_0, v1_0, cs1_0, rfl, rfl, k1_0, a1_0⟩ := all3_cons a1
  obtain ⟨x1_0, rfl, rfl, b1_0⟩ := ct_int k1_0
  obtain ⟨g1_1, gs1_1, v1_1, cs1_1, rfl, rfl, k1_1, a1_1⟩ := all3_cons a1_0
  obtain ⟨x1_1, rfl, rfl, b1_1⟩ := ct_int k1_1
  obtain ⟨g1_2, gs1_2, v1_2, cs1_2, rfl, rfl, k1_2, a1_2⟩ := all3_cons a1_1
  obtain ⟨x1_2, rfl, rfl, b1_2⟩ := ct_int k1_2
  obtain ⟨g1_3, gs1_3, v1_3, cs1_3, rfl, rfl, k1_3, a1_3⟩ := all3_cons a1_2
  obtain ⟨x1_3, rfl, rfl, b1_3⟩ := ct_int k1_3
  obtain ⟨g1_4, gs1_4, v1_4, cs1_4, rfl, rfl, k1_4, a1_4⟩ := all3_cons a1_3
  obtain ⟨x1_4, rfl, rfl, b1_4⟩ := ct_int k1_4
  obtain ⟨g1_5, gs1_5, v1_5, cs1_5, rfl, rfl, k1_5, a1_5⟩ := all3_cons a1_4
  obtain ⟨x1_5, rfl, rfl, b1_5⟩ := ct_int k1_5
  obtain ⟨g1_6, gs1_6, v1_6, cs1_6, rfl, rfl, k1_6, a1_6⟩ := all3_cons a1_5
  obtain ⟨x1_6, rfl, rfl, b1_6⟩ := ct_int k1_6
  obtain ⟨g1_7, gs1_7, v1_7, cs1_7, rfl, rfl, k1_7, a1_7⟩ := all3_cons a1_6
  obtain ⟨x1_7, rfl, rfl, b1_7⟩ := ct_int k1_7
  obtain ⟨g1_8, gs1_8, v1_8, cs1_8, rfl, rfl, k1_8, a1_8⟩ := all3_cons a1_7
  obtain ⟨x1_8, rfl, rfl, b1_8⟩ := ct_int k1_8
  obtain ⟨g1_9, gs1_9, v1_9, cs1_9, rfl, rfl, k1_9, a1_9⟩ := all3_cons a1_8
  obtain ⟨x1_9, rfl, rfl, b1_9⟩ := ct_int k1_9
  obtain ⟨g1_10, gs1_10, v1_10, cs1_10, rfl, rfl, k1_10, a1_10⟩ := all3_cons a1_9
  obtain ⟨x1_10, rfl, rfl, b1_10⟩ := ct_int k1_10
  obtain ⟨g1_11, gs1_11, v1_11, cs1_11, rfl, rfl, k1_11, a1_11⟩ := all3_cons a1_10
  obtain ⟨x1_11, rfl, rfl, b1_11⟩ := ct_int k1_11
  obtain ⟨g1_12, gs1_12, v1_12, cs1_12, rfl, rfl, k1_12, a1_12⟩ := all3_cons a1_11
  obtain ⟨x1_12, rfl, rfl, b1_12⟩ := ct_int k1_12
  obtain ⟨g1_13, gs1_13, v1_13, cs1_13, rfl, rfl, k1_13, a1_13⟩ := all3_cons a1_12
  obtain ⟨x1_13, rfl, rfl, b1_13⟩ := ct_int k1_13
  obtain ⟨g1_14, gs1_14, v1_14, cs1_14, rfl, rfl, k1_14, a1_14⟩ := all3_cons a1_13
  obtain ⟨x1_14, rfl, rfl, b1_14⟩ := ct_int k1_14
  obtain ⟨g1_15, gs1_15, v1_15, cs1_15, rfl, rfl, k1_15, a1_15⟩ := all3_cons a1_14
  obtain ⟨x1_15, rfl, rfl, b1_15⟩ := ct_int k1_15
  obtain ⟨g1_16, gs1_16, v1_16, cs1_16, rfl, rfl, k1_16, a1_16⟩ := all3_cons a1_15
  obtain ⟨x1_16, rfl, u1_16, b1_16⟩ := ct_tab k1_16
  obtain ⟨rfl, rfl⟩ := all3_nil a1_16
  have h2k := h2
  obtain ⟨g2, a2⟩ := arg_open shape2 (hval 2 25 v2 rfl rfl) h2
  obtain ⟨cs2, rfl, z2⟩ := okWide_struct Try.underlying25 (hval 2 25 v2 rfl rfl)
  obtain ⟨cs2⟩ := cs2
  replace a2 : All3 (CtR W) [.k (some .i64), .k (some .i64)] g2 cs2 := a2
  obtain ⟨g2_0, gs2_0, v2_0, cs2_0, rfl, rfl, k2_0, a2_0⟩ := all3_cons a2
  obtain ⟨x2_0, rfl, rfl, b2_0⟩ := ct_int k2_0
  obtain ⟨g2_1, gs2_1, v2_1, cs2_1, rfl, rfl, k2_1, a2_1⟩ := all3_cons a2_0
  obtain ⟨x2_1, rfl, rfl, b2_1⟩ := ct_int k2_1
  obtain ⟨rfl, rfl⟩ := all3_nil a2_1
  have h3k := h3
  obtain ⟨g3, a3⟩ := arg_open shape3 (hval 3 53 v3 rfl rfl) h3
  obtain ⟨cs3, rfl, z3⟩ := okWide_struct Try.underlying53 (hval 3 53 v3 rfl rfl)
  obtain ⟨cs3⟩ := cs3
  replace a3 : All3 (CtR W) [.k (some .i64), .k (some .i64), .k (some .i64)] g3 cs3 := a3
  obtain ⟨g3_0, gs3_0, v3_0, cs3_0, rfl, rfl, k3_0, a3_0⟩ := all3_cons a3
  obtain ⟨x3_0, rfl, rfl, b3_0⟩ := ct_int k3_0
  obtain ⟨g3_1, gs3_1, v3_1, cs3_1, rfl, rfl, k3_1, a3_1⟩ := all3_cons a3_0
  obtain ⟨x3_1, rfl, rfl, b3_1⟩ := ct_int k3_1
  obtain ⟨g3_2, gs3_2, v3_2, cs3_2, rfl, rfl, k3_2, a3_2⟩ := all3_cons a3_1
  obtain ⟨x3_2, rfl, rfl, b3_2⟩ := ct_int k3_2
  obtain ⟨rfl, rfl⟩ := all3_nil a3_2
  have h4k := h4
  obtain ⟨g4, a4⟩ := arg_open shape4 (hval 4 3 v4 rfl rfl) h4
  rw [one_cell (hval 4 3 v4 rfl rfl) (by rw [Try.underlying3]; exact ⟨fun fs h => (by cases h), fun m e h => (by cases h)⟩)] at a4
  obtain ⟨g4_0, k4_0⟩ := all3_one a4
  obtain ⟨x4_0, rfl, rfl, b4_0⟩ := ct_int k4_0
  have h5k := h5
  obtain ⟨g5, a5⟩ := arg_open shape5 (hval 5 3 v5 rfl rfl) h5
  rw [one_cell (hval 5 3 v5 rfl rfl) (by rw [Try.underlying3]; exact ⟨fun fs h => (by cases h), fun m e h => (by cases h)⟩)] at a5
  obtain ⟨g5_0, k5_0⟩ := all3_one a5
  obtain ⟨x5_0, rfl, rfl, b5_0⟩ := ct_int k5_0
  clear hA0 hval0
  simp only [List.append_nil] at hW'
  refine (AtSl.slewTracks_walk W x0_0 b0_0 x0_1 b0_1 x0_2 b0_2 x0_3 b0_3 x0_4 b0_4 x0_5 b0_5 x0_6 b0_6 x0_7 b0_7 x0_8 b0_8 x0_9 b0_9 x1_0 b1_0 x1_1 b1_1 x1_2 b1_2 x1_3 b1_3 x1_4 b1_4 x1_5 b1_5 x1_6 b1_6 x1_7 b1_7 x1_8 b1_8 x1_9 b1_9 x1_10 b1_10 x1_11 b1_11 x1_12 b1_12 x1_13 b1_13 x1_14 b1_14 x1_15 b1_15 x1_16 _ u1_16 b1_16 x2_0 b2_0 x2_1 b2_1 x3_0 b3_0 x3_1 b3_1 x3_2 b3_2 x4_0 b4_0 x5_0 b5_0).mono fun e W' ⟨he, hg⟩ => ?_
  subst he
  exact ⟨_, rfl, post_below (pv := []) hW' (fun _ _ _ => (trodAll_cons_mk (shut_bool Try.underlying4 _) trodAll_mk0)) (fun sp hsp => (by rw [Try.params10]; have := (trodAll_cons_mk (WideElems.Trod_stays laid readable0 (of_decide_eq_true (by kernel_rfl)) h0k (fun x hx => hg.same (hW'.lt x (by simp [hx]))) (fun x hx => hsp x (by simp [hx]))) (trodAll_cons_mk (WideElems.Trod_stays laid readable1 (of_decide_eq_true (by kernel_rfl)) h1k (fun x hx => hg.same (hW'.lt x (by simp [hx]))) (fun x hx => hsp x (by simp [hx]))) (trodAll_cons_mk (WideElems.Trod_stays laid readable2 (of_decide_eq_true (by kernel_rfl)) h2k (fun x hx => hg.same (hW'.lt x (by simp [hx]))) (fun x hx => hsp x (by simp [hx]))) (trodAll_cons_mk (WideElems.Trod_stays laid readable3 (of_decide_eq_true (by kernel_rfl)) h3k (fun x hx => hg.same (hW'.lt x (by simp [hx]))) (fun x hx => hsp x (by simp [hx]))) (trodAll_cons_mk (WideElems.Trod_stays laid readable4 (of_decide_eq_true (by kernel_rfl)) h4k (fun x hx => hg.same (hW'.lt x (by simp [hx]))) (fun x hx => hsp x (by simp [hx]))) (trodAll_cons_mk (WideElems.Trod_stays laid readable5 (of_decide_eq_true (by kernel_rfl)) h5k (fun x hx => hg.same (hW'.lt x (by simp [hx]))) (fun x hx => hsp x (by simp [hx]))) trodAll_mk0)))))); simp only [List.append_nil] at this; exact this)) (fun _ _ => rfl) (by simp)
      hg (ok_one (by kernel_rfl) rfl (okWide_bool_mk Try.underlying4 _))⟩

theorem over : Rows.slewTracksRow.holds Try.pinned (OpenSpec.ofChange Rows.slewTracksSpec) :=
  OpenClaim.holds_of_wide 10 Try.f10 rfl rfl rfl rfl rfl rfl rfl ⟨rfl, rfl, rfl, rfl, rfl⟩ rfl rfl rfl rfl rfl (by kernel_rfl) Try.func10 (by kernel_rfl)
    (of_decide_eq_true (by kernel_rfl)) (by unfold Func.isWrapper; first | (rw [if_pos (by decide +kernel)]; kernel_rfl) | (rw [if_neg (by decide +kernel)]; exact ⟨rfl, rfl⟩))
    (fun os started H enc _ => lifted os started H enc)

end Go.Proofs.Ytiamhppdacfmmaa.slewTracks
namespace Go.Proofs.Ytiamhppdacfmmaa
/-- The statement. -/
theorem slewTracks_holds : Rows.SlewTracksSaid := slewTracks.over
#print axioms slewTracks_holds
end Go.Proofs.Ytiamhppdacfmmaa

