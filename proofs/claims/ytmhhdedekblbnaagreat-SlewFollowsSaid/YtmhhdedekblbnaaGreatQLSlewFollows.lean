/-
 THE STATEMENT Rows.SlewFollowsSaid: SlewFollows returns true for every input and leaves its arguments as they were.
 Conditions: none beyond the row's own. The walk of the law's text is in YtmhhdedekblbnaaGreatSS; this text is the row's step.
-/
import Derived.Test.YtmhhdedekblbnaaGreatRows
import Derived.Test.YtmhhdedekblbnaaGreatQBase
import Derived.Test.YtmhhdedekblbnaaGreatQSS
import Derived.Test.YtmhhdedekblbnaaGreatQGO
import Derived.WalkKit
import Derived.ProofKit
import Derived.OpenShut
import Derived.Lib.SmallJoins
import Derived.Carry
import Derived.ChangeSlices
set_option maxRecDepth 100000
namespace Go.Proofs.YtmhhdedekblbnaaGreat.slewFollows
open Go.ChangeShapes Go.WideShapes Go.ChangeAt Go.RowKit Go.Joins Ev Wd
set_option linter.unusedVariables false

theorem own : ownKnob Tryz.prog.godebug = none := by kernel_rfl
theorem laid : laidOutB Tryz.prog = true := by kernel_rfl
theorem readable0 : Tryz.prog.readableRec 33 = true := by kernel_rfl
theorem shape0 : shapeOf Tryz.prog 8 33 = some [.tab [some .i64]] := by kernel_rfl
theorem readable1 : Tryz.prog.readableRec 3 = true := by kernel_rfl
theorem shape1 : shapeOf Tryz.prog 8 3 = some [.k (some .i64)] := by kernel_rfl
theorem readable2 : Tryz.prog.readableRec 3 = true := by kernel_rfl
theorem shape2 : shapeOf Tryz.prog 8 3 = some [.k (some .i64)] := by kernel_rfl
theorem readable3 : Tryz.prog.readableRec 3 = true := by kernel_rfl
theorem shape3 : shapeOf Tryz.prog 8 3 = some [.k (some .i64)] := by kernel_rfl

theorem lifted (os : Os) (started : os.Started) (H : Type) (enc : TypeId × Value -> H) :
   ReturnsInHanded {} Tryz.checked os 10 .any (Rows.slewFollowsSpec.pre6 enc Tryz.prog Tryz.f10 Rows.slewFollowsRow.domain false) (Rows.slewFollowsSpec.post enc Tryz.prog Tryz.f10 false true false false) := by
 refine returnsInHanded_of_change (C := Tryz.checked) own started (by kernel_rfl) Tryz.func10
   (ChangeSpec.witness6 (enc := enc) (C := Tryz.checked) false ⟨#[], #[.slice none 0 0, .int .i64 0, .int .i64 0, .int .i64 0], []⟩ 8 (by kernel_rfl) (by kernel_rfl) (by kernel_rfl) (by kernel_rfl)) ?_
 intro W base args ds gs before hval0 hW hcnd _
 have hval : ∀ (j : Nat) t v, Tryz.f10.params[j]? = some t -> args[j]? = some v -> Value.okWide Tryz.prog W .any base t v := hval0
 have hW' := hW
 obtain ⟨p, q, hA0, hV, rfl, hfz, hnd⟩ := hW
 have hA : DataW.TrodAll enc Tryz.prog W 0 (fun _ => true) true Tryz.f10.params.toList args.toList ds p := hA0
 rw [Tryz.params10] at hA hval
 obtain ⟨v0, vs0, d0, ds0, p0, q0, hargs, rfl, rfl, h0, r0⟩ := trodAll_cons hA
 obtain ⟨v1, vs1, d1, ds1, p1, q1, rfl, rfl, rfl, h1, r1⟩ := trodAll_cons r0
 obtain ⟨v2, vs2, d2, ds2, p2, q2, rfl, rfl, rfl, h2, r2⟩ := trodAll_cons r1
 obtain ⟨v3, vs3, d3, ds3, p3, q3, rfl, rfl, rfl, h3, r3⟩ := trodAll_cons r2
 obtain ⟨rfl, rfl, rfl⟩ := trodAll_nil r3
 obtain rfl : args = #[v0, v1, v2, v3] := by cases args; simp_all
 obtain ⟨rfl, rfl⟩ := trodVars_none hV
 have h0k := h0
 obtain ⟨g0, a0⟩ := arg_open shape0 (hval 0 33 v0 rfl rfl) h0
 rw [one_cell (hval 0 33 v0 rfl rfl) (by rw [Tryz.underlying33]; exact ⟨fun fs h => (by cases h), fun m e h => (by cases h)⟩)] at a0
 obtain ⟨g0_0, k0_0⟩ := all3_one a0
 obtain ⟨x0_0, rfl, u0_0, b0_0⟩ := ct_tab k0_0
 have h1k := h1
 obtain ⟨g1, a1⟩ := arg_open shape1 (hval 1 3 v1 rfl rfl) h1
 rw [one_cell (hval 1 3 v1 rfl rfl) (by rw [Tryz.underlying3]; exact ⟨fun fs h => (by cases h), fun m e h => (by cases h)⟩)] at a1
 obtain ⟨g1_0, k1_0⟩ := all3_one a1
 obtain ⟨x1_0, rfl, rfl, b1_0⟩ := ct_int k1_0
 have h2k := h2
 obtain ⟨g2, a2⟩ := arg_open shape2 (hval 2 3 v2 rfl rfl) h2
 rw [one_cell (hval 2 3 v2 rfl rfl) (by rw [Tryz.underlying3]; exact ⟨fun fs h => (by cases h), fun m e h => (by cases h)⟩)] at a2
 obtain ⟨g2_0, k2_0⟩ := all3_one a2
 obtain ⟨x2_0, rfl, rfl, b2_0⟩ := ct_int k2_0
 have h3k := h3
 obtain ⟨g3, a3⟩ := arg_open shape3 (hval 3 3 v3 rfl rfl) h3
 rw [one_cell (hval 3 3 v3 rfl rfl) (by rw [Tryz.underlying3]; exact ⟨fun fs h => (by cases h), fun m e h => (by cases h)⟩)] at a3
 obtain ⟨g3_0, k3_0⟩ := all3_one a3
 obtain ⟨x3_0, rfl, rfl, b3_0⟩ := ct_int k3_0
 clear hA0 hval0
 simp only [List.append_nil] at hW'
 refine (AtSl.slewFollows_walk W x0_0 _ u0_0 b0_0 x1_0 b1_0 x2_0 b2_0 x3_0 b3_0).mono fun e W' ⟨he, hg⟩ => ?_
 subst he
 exact ⟨_, rfl, post_below (pv := []) hW' (fun _ _ _ => (trodAll_cons_mk (shut_bool Tryz.underlying4 _) trodAll_mk0)) (fun sp hsp => (by rw [Tryz.params10]; have := (trodAll_cons_mk (WideElems.Trod_stays laid readable0 (of_decide_eq_true (by kernel_rfl)) h0k (fun x hx => hg.same (hW'.lt x (by simp [hx]))) (fun x hx => hsp x (by simp [hx]))) (trodAll_cons_mk (WideElems.Trod_stays laid readable1 (of_decide_eq_true (by kernel_rfl)) h1k (fun x hx => hg.same (hW'.lt x (by simp [hx]))) (fun x hx => hsp x (by simp [hx]))) (trodAll_cons_mk (WideElems.Trod_stays laid readable2 (of_decide_eq_true (by kernel_rfl)) h2k (fun x hx => hg.same (hW'.lt x (by simp [hx]))) (fun x hx => hsp x (by simp [hx]))) (trodAll_cons_mk (WideElems.Trod_stays laid readable3 (of_decide_eq_true (by kernel_rfl)) h3k (fun x hx => hg.same (hW'.lt x (by simp [hx]))) (fun x hx => hsp x (by simp [hx]))) trodAll_mk0)))); simp only [List.append_nil] at this; exact this)) (fun _ _ => rfl) (by simp)
     hg (ok_one (by kernel_rfl) rfl (okWide_bool_mk Tryz.underlying4 _))⟩

theorem over : Rows.slewFollowsRow.holds Tryz.pinned (OpenSpec.ofChange Rows.slewFollowsSpec) :=
 OpenClaim.holds_of_wide 10 Tryz.f10 rfl rfl rfl rfl rfl rfl rfl ⟨rfl, rfl, rfl, rfl, rfl⟩ rfl rfl rfl rfl rfl (by kernel_rfl) Tryz.func10 (by kernel_rfl)
   (of_decide_eq_true (by kernel_rfl)) (by unfold Func.isWrapper; first | (rw [if_pos (by decide +kernel)]; kernel_rfl) | (rw [if_neg (by decide +kernel)]; exact ⟨rfl, rfl⟩))
   (fun os started H enc _ => lifted os started H enc)

end Go.Proofs.YtmhhdedekblbnaaGreat.slewFollows
namespace Go.Proofs.YtmhhdedekblbnaaGreat
theorem slewFollows_holds : Rows.SlewFollowsSaid := slewFollows.over
#print axioms slewFollows_holds
end Go.Proofs.YtmhhdedekblbnaaGreat
