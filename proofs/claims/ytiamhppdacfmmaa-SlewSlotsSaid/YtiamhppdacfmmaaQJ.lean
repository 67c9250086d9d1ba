/-
  Slots and aims of a night; the walks of SlewSlots and SlewAims.
  Conditions: those of each theorem.
-/
import Derived.Test.YtiamhppdacfmmaaQK
import Derived.Test.YtiamhppdacfmmaaGO
set_option linter.unusedVariables false
set_option linter.unusedSimpArgs false
namespace Go.Proofs.Ytiamhppdacfmmaa.AtSl
open Go.RowKit Ev Wd AtRt AtHz AtPr
open Go.Proofs.Ytiamhppdacfmmaa
variable {F : Type}
noncomputable section

theorem ni_in {s : Si} {r : Rt} {b l k : Int} {u m : V3} {d : Int} {T : List (List Int)} (h : niE s r b l k u m d T = 0) : (1 ≤ k ∧ k ≤ 64) ∧ (60000 ≤ l ∧ l ≤ 1800000) ∧ (-8796093022208 ≤ b ∧ b ≤ 8796093022208) := by
  rw [niE_ar] at h
  split at h
  · assumption
  · omega
theorem ag_in (r : Rt) (t : Int) : i64B (agV r t) = true := by
  rw [i64B_iff]
  unfold agV
  split <;> omega
theorem aimE_t (s : Si) (t u : Int) (v : V3) : aimE s t v = aimE s u v := rfl
noncomputable abbrev libJ1 : List (Nat × FnSp Tb) := [(56, factSp gNi), (57, ceildivS)]
theorem libJ1_ok : LibOk Try.prog tbI (lib1 libJ1) := (lib1_cons gNi_ok Try.call56 (lib1_cons (ceildivS_ok _) Try.call57 (lib1_nil _ _)))
set_option maxRecDepth 100000 in
theorem sls_1 (x0 : Int) (x1 : Int) (x2 : Int) (x3 : Int) (x4 : Int) (x5 : Int) (b : Int) (l : Int) (k : Int) (x9 : Int) (x10 : Int) (x11 : Int) (x12 : Int) (x13 : Int) (x14 : Int) (d : Int) (T : List (List Int)) (st : Int) : evR (ctxOf Try.prog tbI (fun _ => false) libJ1) Try.f32 [(.w (.agg [.int .i64 x0, .int .i64 x1, .int .i64 x2, .int .i64 x3, .int .i64 x4, .int .i64 x5, .int .i64 b, .int .i64 l, .int .i64 k, .int .i64 x9, .int .i64 x10, .int .i64 x11, .int .i64 x12, .int .i64 x13, .int .i64 x14, .int .i64 d, .fv (.tab [some .i64] T)])), (.w (.one (.int .i64 st)))] [true] = some (AV.w (AW.one (AC.int IntKind.i64 0)), (pickL [(i64B x4, true), (i64B x5, true), (decide (lenT T ≤ 9223372036854775807), true), (niE ⟨x0, x1⟩ ⟨x2, x3, x4, x5⟩ b l k ⟨x9, x10, x11⟩ ⟨x12, x13, x14⟩ d T != 0, true), (true, true)] [0, 1, 2, 3, 3, 3, 4])) := by kernel_rfl
set_option maxRecDepth 100000 in
theorem sls_01 (x0 : Int) (x1 : Int) (x2 : Int) (x3 : Int) (x4 : Int) (x5 : Int) (b : Int) (l : Int) (k : Int) (x9 : Int) (x10 : Int) (x11 : Int) (x12 : Int) (x13 : Int) (x14 : Int) (d : Int) (T : List (List Int)) (st : Int) : evR (ctxOf Try.prog tbI (fun _ => false) libJ1) Try.f32 [(.w (.agg [.int .i64 x0, .int .i64 x1, .int .i64 x2, .int .i64 x3, .int .i64 x4, .int .i64 x5, .int .i64 b, .int .i64 l, .int .i64 k, .int .i64 x9, .int .i64 x10, .int .i64 x11, .int .i64 x12, .int .i64 x13, .int .i64 x14, .int .i64 d, .fv (.tab [some .i64] T)])), (.w (.one (.int .i64 st)))] [false, true] = some (AV.w (AW.one (AC.int IntKind.i64 0)), (pickL [(i64B x4, true), (i64B x5, true), (decide (lenT T ≤ 9223372036854775807), true), (niE ⟨x0, x1⟩ ⟨x2, x3, x4, x5⟩ b l k ⟨x9, x10, x11⟩ ⟨x12, x13, x14⟩ d T != 0, false), (decide (st < 1), true)] [0, 1, 2, 3, 3, 3, 4])) := by kernel_rfl
set_option maxRecDepth 100000 in
theorem sls_00 (x0 : Int) (x1 : Int) (x2 : Int) (x3 : Int) (x4 : Int) (x5 : Int) (b : Int) (l : Int) (k : Int) (x9 : Int) (x10 : Int) (x11 : Int) (x12 : Int) (x13 : Int) (x14 : Int) (d : Int) (T : List (List Int)) (st : Int) : evR (ctxOf Try.prog tbI (fun _ => false) libJ1) Try.f32 [(.w (.agg [.int .i64 x0, .int .i64 x1, .int .i64 x2, .int .i64 x3, .int .i64 x4, .int .i64 x5, .int .i64 b, .int .i64 l, .int .i64 k, .int .i64 x9, .int .i64 x10, .int .i64 x11, .int .i64 x12, .int .i64 x13, .int .i64 x14, .int .i64 d, .fv (.tab [some .i64] T)])), (.w (.one (.int .i64 st)))] [false, false] = some (AV.w (AW.one (AC.int IntKind.i64 (cdV (IntKind.i64.wrap ((bif false then if 1048576 > st then 1048576 else st else if 1048576 < st then 1048576 else st) * 1000)) l))), (pickL [(i64B x4, true), (i64B x5, true), (decide (lenT T ≤ 9223372036854775807), true), (niE ⟨x0, x1⟩ ⟨x2, x3, x4, x5⟩ b l k ⟨x9, x10, x11⟩ ⟨x12, x13, x14⟩ d T != 0, false), (decide (st < 1), false), (i64B (IntKind.i64.wrap ((bif false then if 1048576 > st then 1048576 else st else if 1048576 < st then 1048576 else st) * 1000)), true), (i64B l, true)] [0, 1, 2, 3, 3, 3, 4, 5, 6])) := by kernel_rfl
set_option maxHeartbeats 4000000 in
theorem gSl_ok : (factSp gSl).ok Try.prog tbI 32 :=
  factR_ok (ctxOf_ok libJ1_ok (eq_none _)) (by kernel_rfl) Try.func32 rfl lps_nil fun args v cd hg hc => by
    unfold gSl at hg
    split at hg
    · rename_i x0 x1 x2 x3 x4 x5 b l k x9 x10 x11 x12 x13 x14 d T st
      cases hg
      refine ⟨rfl, rfl, rfl, ?_⟩
      have i4 := (ca3 hc).1
      have i5 := (ca3 hc).2.1
      have iT := (ca3 hc).2.2
      cases k0 : (niE ⟨x0, x1⟩ ⟨x2, x3, x4, x5⟩ b l k ⟨x9, x10, x11⟩ ⟨x12, x13, x14⟩ d T != 0) with
      | true =>
        have V0 : (if niE ⟨x0, x1⟩ ⟨x2, x3, x4, x5⟩ b l k ⟨x9, x10, x11⟩ ⟨x12, x13, x14⟩ d T = 0 then clvS l st else 0) = (0) := by
          rw [if_neg (by simpa using k0)]
        refine ⟨[true], _, _, sls_1 x0 x1 x2 x3 x4 x5 b l k x9 x10 x11 x12 x13 x14 d T st, fun E u hu => by rw [V0]; exact hu, pickL_ok ?_ _⟩
        repeat' (first | exact cd_nil | refine cd_cons ?_ ?_)
        all_goals first | with_reducible rfl | with_reducible assumption | rfl | (rw [i64B_iff, IntKind.wrap_i64]; omega) | (have hn := ni_in (by simpa using k0); exact i64B_iff.2 (by omega)) | (refine decide_eq_true ?_; simp only [beq_iff_eq, beq_eq_false_iff_ne, ne_eq, bne_iff_ne, bne_eq_false_iff_eq, decide_eq_true_eq, decide_eq_false_iff_not, Bool.not_eq_true', Bool.not_eq_false'] at *; omega) | (simp_all; done)

      | false =>
        cases k1 : (decide (st < 1)) with
        | true =>
          have V0 : (if niE ⟨x0, x1⟩ ⟨x2, x3, x4, x5⟩ b l k ⟨x9, x10, x11⟩ ⟨x12, x13, x14⟩ d T = 0 then clvS l st else 0) = (0) := by
            rw [if_pos (by simpa using k0)]
            unfold clvS
            rw [if_pos (of_decide_eq_true k1)]
          refine ⟨[false, true], _, _, sls_01 x0 x1 x2 x3 x4 x5 b l k x9 x10 x11 x12 x13 x14 d T st, fun E u hu => by rw [V0]; exact hu, pickL_ok ?_ _⟩
          repeat' (first | exact cd_nil | refine cd_cons ?_ ?_)
          all_goals first | with_reducible rfl | with_reducible assumption | rfl | (rw [i64B_iff, IntKind.wrap_i64]; omega) | (have hn := ni_in (by simpa using k0); exact i64B_iff.2 (by omega)) | (refine decide_eq_true ?_; simp only [beq_iff_eq, beq_eq_false_iff_ne, ne_eq, bne_iff_ne, bne_eq_false_iff_eq, decide_eq_true_eq, decide_eq_false_iff_not, Bool.not_eq_true', Bool.not_eq_false'] at *; omega) | (simp_all; done)

        | false =>
          have V0 : (if niE ⟨x0, x1⟩ ⟨x2, x3, x4, x5⟩ b l k ⟨x9, x10, x11⟩ ⟨x12, x13, x14⟩ d T = 0 then clvS l st else 0) = ((cdV (IntKind.i64.wrap ((bif false then if 1048576 > st then 1048576 else st else if 1048576 < st then 1048576 else st) * 1000)) l)) := by
            rw [if_pos (by simpa using k0)]
            unfold clvS
            have hn := ni_in (by simpa using k0)
            have hs := of_decide_eq_false k1
            rw [if_neg hs]
            simp only [cond_false]
            have e : (if 1048576 < st then (1048576 : Int) else st) = min st 1048576 := by split <;> omega
            rw [e, v64 (by omega) (by omega)]
            unfold cdV
            rw [if_neg (by omega)]
          refine ⟨[false, false], _, _, sls_00 x0 x1 x2 x3 x4 x5 b l k x9 x10 x11 x12 x13 x14 d T st, fun E u hu => by rw [V0]; exact hu, pickL_ok ?_ _⟩
          repeat' (first | exact cd_nil | refine cd_cons ?_ ?_)
          all_goals first | with_reducible rfl | with_reducible assumption | rfl | (rw [i64B_iff, IntKind.wrap_i64]; omega) | (have hn := ni_in (by simpa using k0); exact i64B_iff.2 (by omega)) | (refine decide_eq_true ?_; simp only [beq_iff_eq, beq_eq_false_iff_ne, ne_eq, bne_iff_ne, bne_eq_false_iff_eq, decide_eq_true_eq, decide_eq_false_iff_not, Bool.not_eq_true', Bool.not_eq_false'] at *; omega) | (simp_all; done)

    · cases hg
set_option maxRecDepth 100000 in
theorem slo_1 (x0 : Int) (x1 : Int) (x2 : Int) (x3 : Int) (x4 : Int) (x5 : Int) (b : Int) (l : Int) (k : Int) (x9 : Int) (x10 : Int) (x11 : Int) (x12 : Int) (x13 : Int) (x14 : Int) (d : Int) (T : List (List Int)) (st : Int) : evR (ctxLp Try.prog tbI (fun _ => false) libJ0 [] sotLps) Try.f31 [(.w (.agg [.int .i64 x0, .int .i64 x1, .int .i64 x2, .int .i64 x3, .int .i64 x4, .int .i64 x5, .int .i64 b, .int .i64 l, .int .i64 k, .int .i64 x9, .int .i64 x10, .int .i64 x11, .int .i64 x12, .int .i64 x13, .int .i64 x14, .int .i64 d, .fv (.tab [some .i64] T)])), (.w (.one (.int .i64 st)))] [true] = some (AV.w (AW.one (AC.int IntKind.i64 0)), (pickL [(decide (st < 1), true)] [0])) := by kernel_rfl
set_option maxRecDepth 100000 in
theorem slo_01 (x0 : Int) (x1 : Int) (x2 : Int) (x3 : Int) (x4 : Int) (x5 : Int) (b : Int) (l : Int) (k : Int) (x9 : Int) (x10 : Int) (x11 : Int) (x12 : Int) (x13 : Int) (x14 : Int) (d : Int) (T : List (List Int)) (st : Int) : evR (ctxLp Try.prog tbI (fun _ => false) libJ0 [] sotLps) Try.f31 [(.w (.agg [.int .i64 x0, .int .i64 x1, .int .i64 x2, .int .i64 x3, .int .i64 x4, .int .i64 x5, .int .i64 b, .int .i64 l, .int .i64 k, .int .i64 x9, .int .i64 x10, .int .i64 x11, .int .i64 x12, .int .i64 x13, .int .i64 x14, .int .i64 d, .fv (.tab [some .i64] T)])), (.w (.one (.int .i64 st)))] [false, true] = some (AV.w (AW.one (AC.int IntKind.i64 (clv l (IntKind.i64.wrap (1048576 * 1000))))), (pickL [(decide (st < 1), false), (decide (st > 1048576), true), (decide ((60000 : Int) ≤ l) && (decide (l ≤ 1800000) && (decide ((0 : Int) ≤ IntKind.i64.wrap (1048576 * 1000)) && (decide (IntKind.i64.wrap (1048576 * 1000) ≤ 4294967296) && decide ((0 : Int) = 0)))), true)] [0, 1, 2])) := by kernel_rfl
set_option maxRecDepth 100000 in
theorem slo_00 (x0 : Int) (x1 : Int) (x2 : Int) (x3 : Int) (x4 : Int) (x5 : Int) (b : Int) (l : Int) (k : Int) (x9 : Int) (x10 : Int) (x11 : Int) (x12 : Int) (x13 : Int) (x14 : Int) (d : Int) (T : List (List Int)) (st : Int) : evR (ctxLp Try.prog tbI (fun _ => false) libJ0 [] sotLps) Try.f31 [(.w (.agg [.int .i64 x0, .int .i64 x1, .int .i64 x2, .int .i64 x3, .int .i64 x4, .int .i64 x5, .int .i64 b, .int .i64 l, .int .i64 k, .int .i64 x9, .int .i64 x10, .int .i64 x11, .int .i64 x12, .int .i64 x13, .int .i64 x14, .int .i64 d, .fv (.tab [some .i64] T)])), (.w (.one (.int .i64 st)))] [false, false] = some (AV.w (AW.one (AC.int IntKind.i64 (clv l (IntKind.i64.wrap (st * 1000))))), (pickL [(decide (st < 1), false), (decide (st > 1048576), false), (decide ((60000 : Int) ≤ l) && (decide (l ≤ 1800000) && (decide ((0 : Int) ≤ IntKind.i64.wrap (st * 1000)) && (decide (IntKind.i64.wrap (st * 1000) ≤ 4294967296) && decide ((0 : Int) = 0)))), true)] [0, 1, 2])) := by kernel_rfl
set_option maxHeartbeats 4000000 in
theorem gSo_ok : (factSp gSo).ok Try.prog tbI 31 :=
  factR_ok (ctxLp_ok libJ0_ok (eq_none _) (fns_nil _) (fun f fn h => by cases h)) (by kernel_rfl) Try.func31 rfl sotLps_ok fun args v cd hg hc => by
    unfold gSo at hg
    split at hg
    · rename_i x0 x1 x2 x3 x4 x5 b l k x9 x10 x11 x12 x13 x14 d T st
      cases hg
      refine ⟨rfl, rfl, rfl, ?_⟩
      cases k0 : (decide (st < 1)) with
      | true =>
        have V0 : (clvS l st) = (0) := by
          have hl : 60000 ≤ l ∧ l ≤ 1800000 := by simpa using (ca1 hc)
          unfold clvS
          rw [if_pos (of_decide_eq_true k0)]
        refine ⟨[true], _, _, slo_1 x0 x1 x2 x3 x4 x5 b l k x9 x10 x11 x12 x13 x14 d T st, fun E u hu => by rw [V0]; exact hu, pickL_ok ?_ _⟩
        repeat' (first | exact cd_nil | refine cd_cons ?_ ?_)
        all_goals first | with_reducible rfl | with_reducible assumption | rfl | (have hl : 60000 ≤ l ∧ l ≤ 1800000 := (by simpa using (ca1 hc)); simp only [beq_iff_eq, beq_eq_false_iff_ne, ne_eq, bne_iff_ne, bne_eq_false_iff_eq, decide_eq_true_eq, decide_eq_false_iff_not, Bool.not_eq_true', Bool.not_eq_false'] at *; simp only [Bool.and_eq_true, decide_eq_true_eq]; refine ⟨hl.1, hl.2, ?_, ?_, True.intro⟩ <;> first | decide | (rw [v64 (x := st * 1000) (by omega) (by omega)]; omega))

      | false =>
        cases k1 : (decide (st > 1048576)) with
        | true =>
          have V0 : (clvS l st) = ((clv l (IntKind.i64.wrap (1048576 * 1000)))) := by
            have hl : 60000 ≤ l ∧ l ≤ 1800000 := by simpa using (ca1 hc)
            unfold clvS
            have h0 := of_decide_eq_false k0
            rw [if_neg h0]
            have h1 := of_decide_eq_true k1
            rw [show min st 1048576 = 1048576 by omega]
            rfl
          refine ⟨[false, true], _, _, slo_01 x0 x1 x2 x3 x4 x5 b l k x9 x10 x11 x12 x13 x14 d T st, fun E u hu => by rw [V0]; exact hu, pickL_ok ?_ _⟩
          repeat' (first | exact cd_nil | refine cd_cons ?_ ?_)
          all_goals first | with_reducible rfl | with_reducible assumption | rfl | (have hl : 60000 ≤ l ∧ l ≤ 1800000 := (by simpa using (ca1 hc)); simp only [beq_iff_eq, beq_eq_false_iff_ne, ne_eq, bne_iff_ne, bne_eq_false_iff_eq, decide_eq_true_eq, decide_eq_false_iff_not, Bool.not_eq_true', Bool.not_eq_false'] at *; simp only [Bool.and_eq_true, decide_eq_true_eq]; refine ⟨hl.1, hl.2, ?_, ?_, True.intro⟩ <;> first | decide | (rw [v64 (x := st * 1000) (by omega) (by omega)]; omega))

        | false =>
          have V0 : (clvS l st) = ((clv l (IntKind.i64.wrap (st * 1000)))) := by
            have hl : 60000 ≤ l ∧ l ≤ 1800000 := by simpa using (ca1 hc)
            unfold clvS
            have h0 := of_decide_eq_false k0
            rw [if_neg h0]
            have h1 := of_decide_eq_false k1
            rw [show min st 1048576 = st by omega, v64 (by omega) (by omega)]
            unfold clv
            rw [if_pos (by omega)]
          refine ⟨[false, false], _, _, slo_00 x0 x1 x2 x3 x4 x5 b l k x9 x10 x11 x12 x13 x14 d T st, fun E u hu => by rw [V0]; exact hu, pickL_ok ?_ _⟩
          repeat' (first | exact cd_nil | refine cd_cons ?_ ?_)
          all_goals first | with_reducible rfl | with_reducible assumption | rfl | (have hl : 60000 ≤ l ∧ l ≤ 1800000 := (by simpa using (ca1 hc)); simp only [beq_iff_eq, beq_eq_false_iff_ne, ne_eq, bne_iff_ne, bne_eq_false_iff_eq, decide_eq_true_eq, decide_eq_false_iff_not, Bool.not_eq_true', Bool.not_eq_false'] at *; simp only [Bool.and_eq_true, decide_eq_true_eq]; refine ⟨hl.1, hl.2, ?_, ?_, True.intro⟩ <;> first | decide | (rw [v64 (x := st * 1000) (by omega) (by omega)]; omega))

    · cases hg
noncomputable abbrev libJ2 : List (Nat × FnSp Tb) := [(36, agTS), (35, aiTS)]
theorem libJ2_ok : LibOk Try.prog tbI (lib1 libJ2) := (lib1_cons (sp2_ok fun r t hc => ⟨_, rfl, agf_pl r t (ca2 hc).1 (ca2 hc).2⟩) Try.call36 (lib1_cons (sp3_ok fun s t v hc => ⟨_, rfl, aimf_pl s t v (ca1 hc)⟩) Try.call35 (lib1_nil _ _)))
set_option maxRecDepth 100000 in
theorem aat_ (x0 : Int) (x1 : Int) (x2 : Int) (x3 : Int) (x4 : Int) (x5 : Int) (b : Int) (l : Int) (k : Int) (x9 : Int) (x10 : Int) (x11 : Int) (x12 : Int) (x13 : Int) (x14 : Int) (d : Int) (T : List (List Int)) (v0 : Int) (v1 : Int) (v2 : Int) (j : Int) : evR (ctxOf Try.prog tbI (fun _ => false) libJ2) Try.f58 [(.w (.agg [.int .i64 x0, .int .i64 x1, .int .i64 x2, .int .i64 x3, .int .i64 x4, .int .i64 x5, .int .i64 b, .int .i64 l, .int .i64 k, .int .i64 x9, .int .i64 x10, .int .i64 x11, .int .i64 x12, .int .i64 x13, .int .i64 x14, .int .i64 d, .fv (.tab [some .i64] T)])), (.w (.agg [.int .i64 v0, .int .i64 v1, .int .i64 v2])), (.w (.one (.int .i64 j)))] [] = some (AV.tup [AW.agg [AC.int IntKind.i64 (aimAz ⟨x0, x1⟩ (agV ⟨x2, x3, x4, x5⟩ (IntKind.i64.wrap (b + IntKind.i64.wrap (j * l)))) ⟨v0, v1, v2⟩), AC.int IntKind.i64 (aimAl ⟨x0, x1⟩ (agV ⟨x2, x3, x4, x5⟩ (IntKind.i64.wrap (b + IntKind.i64.wrap (j * l)))) ⟨v0, v1, v2⟩)], AW.one (AC.int IntKind.i64 (aimE ⟨x0, x1⟩ (agV ⟨x2, x3, x4, x5⟩ (IntKind.i64.wrap (b + IntKind.i64.wrap (j * l)))) ⟨v0, v1, v2⟩))], (pickL [(i64B x4, true), (i64B x5, true), (i64B (agV ⟨x2, x3, x4, x5⟩ (IntKind.i64.wrap (b + IntKind.i64.wrap (j * l)))), true)] [0, 1, 2])) := by kernel_rfl
set_option maxHeartbeats 4000000 in
theorem gAa_ok : (factSp gAa).ok Try.prog tbI 58 :=
  factR_ok (ctxOf_ok libJ2_ok (eq_none _)) (by kernel_rfl) Try.func58 rfl lps_nil fun args v cd hg hc => by
    unfold gAa at hg
    split at hg
    · rename_i x0 x1 x2 x3 x4 x5 b l k x9 x10 x11 x12 x13 x14 d T v0 v1 v2 j
      cases hg
      refine ⟨rfl, rfl, rfl, ?_⟩
      have i4 := (ca2 hc).1
      have i5 := (ca2 hc).2
      have V0 : (aaz ⟨x0, x1⟩ ⟨x2, x3, x4, x5⟩ b l ⟨v0, v1, v2⟩ j) = ((aimAz ⟨x0, x1⟩ (agV ⟨x2, x3, x4, x5⟩ (IntKind.i64.wrap (b + IntKind.i64.wrap (j * l)))) ⟨v0, v1, v2⟩)) := by
        rfl
      have V1 : (aal ⟨x0, x1⟩ ⟨x2, x3, x4, x5⟩ b l ⟨v0, v1, v2⟩ j) = ((aimAl ⟨x0, x1⟩ (agV ⟨x2, x3, x4, x5⟩ (IntKind.i64.wrap (b + IntKind.i64.wrap (j * l)))) ⟨v0, v1, v2⟩)) := by
        rfl
      have V2 : (aae ⟨x0, x1⟩ ⟨v0, v1, v2⟩) = ((aimE ⟨x0, x1⟩ (agV ⟨x2, x3, x4, x5⟩ (IntKind.i64.wrap (b + IntKind.i64.wrap (j * l)))) ⟨v0, v1, v2⟩)) := by
        rfl
      refine ⟨[], _, _, aat_ x0 x1 x2 x3 x4 x5 b l k x9 x10 x11 x12 x13 x14 d T v0 v1 v2 j, fun E u hu => by rw [V0, V1, V2]; exact hu, pickL_ok ?_ _⟩
      repeat' (first | exact cd_nil | refine cd_cons ?_ ?_)
      all_goals first | with_reducible rfl | with_reducible assumption | rfl | exact ag_in _ _ | (refine decide_eq_true ?_; simp only [beq_iff_eq, beq_eq_false_iff_ne, ne_eq, bne_iff_ne, bne_eq_false_iff_eq, decide_eq_true_eq, decide_eq_false_iff_not, Bool.not_eq_true', Bool.not_eq_false'] at *; omega) | (simp_all; done)

    · cases hg
set_option maxRecDepth 100000 in
theorem rai_1 (x0 : Int) (x1 : Int) (x2 : Int) (x3 : Int) (x4 : Int) (x5 : Int) (b : Int) (l : Int) (k : Int) (x9 : Int) (x10 : Int) (x11 : Int) (x12 : Int) (x13 : Int) (x14 : Int) (d : Int) (T : List (List Int)) (v0 : Int) (v1 : Int) (v2 : Int) (j : Int) : evR (ctxOf Try.prog tbI (fun _ => false) libJ2) Try.f70 [(.w (.agg [.int .i64 x0, .int .i64 x1, .int .i64 x2, .int .i64 x3, .int .i64 x4, .int .i64 x5, .int .i64 b, .int .i64 l, .int .i64 k, .int .i64 x9, .int .i64 x10, .int .i64 x11, .int .i64 x12, .int .i64 x13, .int .i64 x14, .int .i64 d, .fv (.tab [some .i64] T)])), (.w (.agg [.int .i64 v0, .int .i64 v1, .int .i64 v2])), (.w (.one (.int .i64 j)))] [true] = some (AV.tup [AW.agg [AC.int IntKind.i64 0, AC.int IntKind.i64 0], AW.one (AC.int IntKind.i64 4)], (pickL [(decide (j < 0), true), (true, true)] [0, 0, 0, 0, 0, 1])) := by kernel_rfl
set_option maxRecDepth 100000 in
theorem rai_01 (x0 : Int) (x1 : Int) (x2 : Int) (x3 : Int) (x4 : Int) (x5 : Int) (b : Int) (l : Int) (k : Int) (x9 : Int) (x10 : Int) (x11 : Int) (x12 : Int) (x13 : Int) (x14 : Int) (d : Int) (T : List (List Int)) (v0 : Int) (v1 : Int) (v2 : Int) (j : Int) : evR (ctxOf Try.prog tbI (fun _ => false) libJ2) Try.f70 [(.w (.agg [.int .i64 x0, .int .i64 x1, .int .i64 x2, .int .i64 x3, .int .i64 x4, .int .i64 x5, .int .i64 b, .int .i64 l, .int .i64 k, .int .i64 x9, .int .i64 x10, .int .i64 x11, .int .i64 x12, .int .i64 x13, .int .i64 x14, .int .i64 d, .fv (.tab [some .i64] T)])), (.w (.agg [.int .i64 v0, .int .i64 v1, .int .i64 v2])), (.w (.one (.int .i64 j)))] [false, true] = some (AV.tup [AW.agg [AC.int IntKind.i64 0, AC.int IntKind.i64 0], AW.one (AC.int IntKind.i64 4)], (pickL [(decide (j < 0), false), (decide (j > k), true)] [0, 0, 0, 0, 0, 1])) := by kernel_rfl
set_option maxRecDepth 100000 in
theorem rai_00 (x0 : Int) (x1 : Int) (x2 : Int) (x3 : Int) (x4 : Int) (x5 : Int) (b : Int) (l : Int) (k : Int) (x9 : Int) (x10 : Int) (x11 : Int) (x12 : Int) (x13 : Int) (x14 : Int) (d : Int) (T : List (List Int)) (v0 : Int) (v1 : Int) (v2 : Int) (j : Int) : evR (ctxOf Try.prog tbI (fun _ => false) libJ2) Try.f70 [(.w (.agg [.int .i64 x0, .int .i64 x1, .int .i64 x2, .int .i64 x3, .int .i64 x4, .int .i64 x5, .int .i64 b, .int .i64 l, .int .i64 k, .int .i64 x9, .int .i64 x10, .int .i64 x11, .int .i64 x12, .int .i64 x13, .int .i64 x14, .int .i64 d, .fv (.tab [some .i64] T)])), (.w (.agg [.int .i64 v0, .int .i64 v1, .int .i64 v2])), (.w (.one (.int .i64 j)))] [false, false] = some (AV.tup [AW.agg [AC.int IntKind.i64 (aimAz ⟨x0, x1⟩ (agV ⟨x2, x3, x4, x5⟩ (IntKind.i64.wrap (b + IntKind.i64.wrap (j * l)))) ⟨v0, v1, v2⟩), AC.int IntKind.i64 (aimAl ⟨x0, x1⟩ (agV ⟨x2, x3, x4, x5⟩ (IntKind.i64.wrap (b + IntKind.i64.wrap (j * l)))) ⟨v0, v1, v2⟩)], AW.one (AC.int IntKind.i64 (aimE ⟨x0, x1⟩ (agV ⟨x2, x3, x4, x5⟩ (IntKind.i64.wrap (b + IntKind.i64.wrap (j * l)))) ⟨v0, v1, v2⟩))], (pickL [(decide (j < 0), false), (decide (j > k), false), (i64B x4, true), (i64B x5, true), (i64B (agV ⟨x2, x3, x4, x5⟩ (IntKind.i64.wrap (b + IntKind.i64.wrap (j * l)))), true)] [0, 0, 0, 0, 0, 1, 2, 3, 4])) := by kernel_rfl
set_option maxHeartbeats 4000000 in
theorem gRa_ok : (factSp gRa).ok Try.prog tbI 70 :=
  factR_ok (ctxOf_ok libJ2_ok (eq_none _)) (by kernel_rfl) Try.func70 rfl lps_nil fun args v cd hg hc => by
    unfold gRa at hg
    split at hg
    · rename_i x0 x1 x2 x3 x4 x5 b l k x9 x10 x11 x12 x13 x14 d T v0 v1 v2 j
      cases hg
      refine ⟨rfl, rfl, rfl, ?_⟩
      have i4 := (ca2 hc).1
      have i5 := (ca2 hc).2
      cases k0 : (decide (j < 0)) with
      | true =>
        have V0 : (if 0 ≤ j ∧ j ≤ k then aaz ⟨x0, x1⟩ ⟨x2, x3, x4, x5⟩ b l ⟨v0, v1, v2⟩ j else 0) = (0) := by
          rw [if_neg (by have := of_decide_eq_true k0; omega)]
        have V1 : (if 0 ≤ j ∧ j ≤ k then aal ⟨x0, x1⟩ ⟨x2, x3, x4, x5⟩ b l ⟨v0, v1, v2⟩ j else 0) = (0) := by
          rw [if_neg (by have := of_decide_eq_true k0; omega)]
        have V2 : (if 0 ≤ j ∧ j ≤ k then aae ⟨x0, x1⟩ ⟨v0, v1, v2⟩ else 4) = (4) := by
          rw [if_neg (by have := of_decide_eq_true k0; omega)]
        refine ⟨[true], _, _, rai_1 x0 x1 x2 x3 x4 x5 b l k x9 x10 x11 x12 x13 x14 d T v0 v1 v2 j, fun E u hu => by rw [V0, V1, V2]; exact hu, pickL_ok ?_ _⟩
        repeat' (first | exact cd_nil | refine cd_cons ?_ ?_)
        all_goals first | with_reducible rfl | with_reducible assumption | rfl | exact ag_in _ _ | (refine decide_eq_true ?_; simp only [beq_iff_eq, beq_eq_false_iff_ne, ne_eq, bne_iff_ne, bne_eq_false_iff_eq, decide_eq_true_eq, decide_eq_false_iff_not, Bool.not_eq_true', Bool.not_eq_false'] at *; omega) | (simp_all; done)

      | false =>
        cases k1 : (decide (j > k)) with
        | true =>
          have V0 : (if 0 ≤ j ∧ j ≤ k then aaz ⟨x0, x1⟩ ⟨x2, x3, x4, x5⟩ b l ⟨v0, v1, v2⟩ j else 0) = (0) := by
            rw [if_neg (by have := of_decide_eq_true k1; omega)]
          have V1 : (if 0 ≤ j ∧ j ≤ k then aal ⟨x0, x1⟩ ⟨x2, x3, x4, x5⟩ b l ⟨v0, v1, v2⟩ j else 0) = (0) := by
            rw [if_neg (by have := of_decide_eq_true k1; omega)]
          have V2 : (if 0 ≤ j ∧ j ≤ k then aae ⟨x0, x1⟩ ⟨v0, v1, v2⟩ else 4) = (4) := by
            rw [if_neg (by have := of_decide_eq_true k1; omega)]
          refine ⟨[false, true], _, _, rai_01 x0 x1 x2 x3 x4 x5 b l k x9 x10 x11 x12 x13 x14 d T v0 v1 v2 j, fun E u hu => by rw [V0, V1, V2]; exact hu, pickL_ok ?_ _⟩
          repeat' (first | exact cd_nil | refine cd_cons ?_ ?_)
          all_goals first | with_reducible rfl | with_reducible assumption | rfl | exact ag_in _ _ | (refine decide_eq_true ?_; simp only [beq_iff_eq, beq_eq_false_iff_ne, ne_eq, bne_iff_ne, bne_eq_false_iff_eq, decide_eq_true_eq, decide_eq_false_iff_not, Bool.not_eq_true', Bool.not_eq_false'] at *; omega) | (simp_all; done)

        | false =>
          have V0 : (if 0 ≤ j ∧ j ≤ k then aaz ⟨x0, x1⟩ ⟨x2, x3, x4, x5⟩ b l ⟨v0, v1, v2⟩ j else 0) = ((aimAz ⟨x0, x1⟩ (agV ⟨x2, x3, x4, x5⟩ (IntKind.i64.wrap (b + IntKind.i64.wrap (j * l)))) ⟨v0, v1, v2⟩)) := by
            rw [if_pos (by have h1 := of_decide_eq_false k0; have h2 := of_decide_eq_false k1; omega)]
            rfl
          have V1 : (if 0 ≤ j ∧ j ≤ k then aal ⟨x0, x1⟩ ⟨x2, x3, x4, x5⟩ b l ⟨v0, v1, v2⟩ j else 0) = ((aimAl ⟨x0, x1⟩ (agV ⟨x2, x3, x4, x5⟩ (IntKind.i64.wrap (b + IntKind.i64.wrap (j * l)))) ⟨v0, v1, v2⟩)) := by
            rw [if_pos (by have h1 := of_decide_eq_false k0; have h2 := of_decide_eq_false k1; omega)]
            rfl
          have V2 : (if 0 ≤ j ∧ j ≤ k then aae ⟨x0, x1⟩ ⟨v0, v1, v2⟩ else 4) = ((aimE ⟨x0, x1⟩ (agV ⟨x2, x3, x4, x5⟩ (IntKind.i64.wrap (b + IntKind.i64.wrap (j * l)))) ⟨v0, v1, v2⟩)) := by
            rw [if_pos (by have h1 := of_decide_eq_false k0; have h2 := of_decide_eq_false k1; omega)]
            rfl
          refine ⟨[false, false], _, _, rai_00 x0 x1 x2 x3 x4 x5 b l k x9 x10 x11 x12 x13 x14 d T v0 v1 v2 j, fun E u hu => by rw [V0, V1, V2]; exact hu, pickL_ok ?_ _⟩
          repeat' (first | exact cd_nil | refine cd_cons ?_ ?_)
          all_goals first | with_reducible rfl | with_reducible assumption | rfl | exact ag_in _ _ | (refine decide_eq_true ?_; simp only [beq_iff_eq, beq_eq_false_iff_ne, ne_eq, bne_iff_ne, bne_eq_false_iff_eq, decide_eq_true_eq, decide_eq_false_iff_not, Bool.not_eq_true', Bool.not_eq_false'] at *; omega) | (simp_all; done)

    · cases hg
noncomputable abbrev libJ3 : List (Nat × FnSp Tb) := [(56, factSp gNi), (58, factSp gAa)]
theorem libJ3_ok : LibOk Try.prog tbI (lib1 libJ3) := (lib1_cons gNi_ok Try.call56 (lib1_cons gAa_ok Try.call58 (lib1_nil _ _)))
set_option maxRecDepth 100000 in
theorem aim_1 (x0 : Int) (x1 : Int) (x2 : Int) (x3 : Int) (x4 : Int) (x5 : Int) (b : Int) (l : Int) (k : Int) (x9 : Int) (x10 : Int) (x11 : Int) (x12 : Int) (x13 : Int) (x14 : Int) (d : Int) (T : List (List Int)) (v0 : Int) (v1 : Int) (v2 : Int) (j : Int) : evR (ctxOf Try.prog tbI (fun _ => false) libJ3) Try.f33 [(.w (.agg [.int .i64 x0, .int .i64 x1, .int .i64 x2, .int .i64 x3, .int .i64 x4, .int .i64 x5, .int .i64 b, .int .i64 l, .int .i64 k, .int .i64 x9, .int .i64 x10, .int .i64 x11, .int .i64 x12, .int .i64 x13, .int .i64 x14, .int .i64 d, .fv (.tab [some .i64] T)])), (.w (.agg [.int .i64 v0, .int .i64 v1, .int .i64 v2])), (.w (.one (.int .i64 j)))] [true] = some (AV.tup [AW.agg [AC.int IntKind.i64 0, AC.int IntKind.i64 0], AW.one (AC.int IntKind.i64 (niE ⟨x0, x1⟩ ⟨x2, x3, x4, x5⟩ b l k ⟨x9, x10, x11⟩ ⟨x12, x13, x14⟩ d T))], (pickL [(i64B x4, true), (i64B x5, true), (decide (lenT T ≤ 9223372036854775807), true), (niE ⟨x0, x1⟩ ⟨x2, x3, x4, x5⟩ b l k ⟨x9, x10, x11⟩ ⟨x12, x13, x14⟩ d T != 0, true)] [0, 1, 2, 3])) := by kernel_rfl
set_option maxRecDepth 100000 in
theorem aim_01 (x0 : Int) (x1 : Int) (x2 : Int) (x3 : Int) (x4 : Int) (x5 : Int) (b : Int) (l : Int) (k : Int) (x9 : Int) (x10 : Int) (x11 : Int) (x12 : Int) (x13 : Int) (x14 : Int) (d : Int) (T : List (List Int)) (v0 : Int) (v1 : Int) (v2 : Int) (j : Int) : evR (ctxOf Try.prog tbI (fun _ => false) libJ3) Try.f33 [(.w (.agg [.int .i64 x0, .int .i64 x1, .int .i64 x2, .int .i64 x3, .int .i64 x4, .int .i64 x5, .int .i64 b, .int .i64 l, .int .i64 k, .int .i64 x9, .int .i64 x10, .int .i64 x11, .int .i64 x12, .int .i64 x13, .int .i64 x14, .int .i64 d, .fv (.tab [some .i64] T)])), (.w (.agg [.int .i64 v0, .int .i64 v1, .int .i64 v2])), (.w (.one (.int .i64 j)))] [false, true] = some (AV.tup [AW.agg [AC.int IntKind.i64 0, AC.int IntKind.i64 0], AW.one (AC.int IntKind.i64 4)], (pickL [(i64B x4, true), (i64B x5, true), (decide (lenT T ≤ 9223372036854775807), true), (niE ⟨x0, x1⟩ ⟨x2, x3, x4, x5⟩ b l k ⟨x9, x10, x11⟩ ⟨x12, x13, x14⟩ d T != 0, false), (decide (j < 0), true), (true, true)] [0, 1, 2, 3, 4, 4, 4, 4, 4, 5])) := by kernel_rfl
set_option maxRecDepth 100000 in
theorem aim_001 (x0 : Int) (x1 : Int) (x2 : Int) (x3 : Int) (x4 : Int) (x5 : Int) (b : Int) (l : Int) (k : Int) (x9 : Int) (x10 : Int) (x11 : Int) (x12 : Int) (x13 : Int) (x14 : Int) (d : Int) (T : List (List Int)) (v0 : Int) (v1 : Int) (v2 : Int) (j : Int) : evR (ctxOf Try.prog tbI (fun _ => false) libJ3) Try.f33 [(.w (.agg [.int .i64 x0, .int .i64 x1, .int .i64 x2, .int .i64 x3, .int .i64 x4, .int .i64 x5, .int .i64 b, .int .i64 l, .int .i64 k, .int .i64 x9, .int .i64 x10, .int .i64 x11, .int .i64 x12, .int .i64 x13, .int .i64 x14, .int .i64 d, .fv (.tab [some .i64] T)])), (.w (.agg [.int .i64 v0, .int .i64 v1, .int .i64 v2])), (.w (.one (.int .i64 j)))] [false, false, true] = some (AV.tup [AW.agg [AC.int IntKind.i64 0, AC.int IntKind.i64 0], AW.one (AC.int IntKind.i64 4)], (pickL [(i64B x4, true), (i64B x5, true), (decide (lenT T ≤ 9223372036854775807), true), (niE ⟨x0, x1⟩ ⟨x2, x3, x4, x5⟩ b l k ⟨x9, x10, x11⟩ ⟨x12, x13, x14⟩ d T != 0, false), (decide (j < 0), false), (decide (j > k), true)] [0, 1, 2, 3, 4, 4, 4, 4, 4, 5])) := by kernel_rfl
set_option maxRecDepth 100000 in
theorem aim_000 (x0 : Int) (x1 : Int) (x2 : Int) (x3 : Int) (x4 : Int) (x5 : Int) (b : Int) (l : Int) (k : Int) (x9 : Int) (x10 : Int) (x11 : Int) (x12 : Int) (x13 : Int) (x14 : Int) (d : Int) (T : List (List Int)) (v0 : Int) (v1 : Int) (v2 : Int) (j : Int) : evR (ctxOf Try.prog tbI (fun _ => false) libJ3) Try.f33 [(.w (.agg [.int .i64 x0, .int .i64 x1, .int .i64 x2, .int .i64 x3, .int .i64 x4, .int .i64 x5, .int .i64 b, .int .i64 l, .int .i64 k, .int .i64 x9, .int .i64 x10, .int .i64 x11, .int .i64 x12, .int .i64 x13, .int .i64 x14, .int .i64 d, .fv (.tab [some .i64] T)])), (.w (.agg [.int .i64 v0, .int .i64 v1, .int .i64 v2])), (.w (.one (.int .i64 j)))] [false, false, false] = some (AV.tup [AW.agg [AC.int IntKind.i64 (aaz ⟨x0, x1⟩ ⟨x2, x3, x4, x5⟩ b l ⟨v0, v1, v2⟩ j), AC.int IntKind.i64 (aal ⟨x0, x1⟩ ⟨x2, x3, x4, x5⟩ b l ⟨v0, v1, v2⟩ j)], AW.one (AC.int IntKind.i64 (aae ⟨x0, x1⟩ ⟨v0, v1, v2⟩))], (pickL [(i64B x4, true), (i64B x5, true), (decide (lenT T ≤ 9223372036854775807), true), (niE ⟨x0, x1⟩ ⟨x2, x3, x4, x5⟩ b l k ⟨x9, x10, x11⟩ ⟨x12, x13, x14⟩ d T != 0, false), (decide (j < 0), false), (decide (j > k), false)] [0, 1, 2, 3, 4, 4, 4, 4, 4, 5, 0, 1])) := by kernel_rfl
set_option maxHeartbeats 4000000 in
theorem gAi_ok : (factSp gAi).ok Try.prog tbI 33 :=
  factR_ok (ctxOf_ok libJ3_ok (eq_none _)) (by kernel_rfl) Try.func33 rfl lps_nil fun args v cd hg hc => by
    unfold gAi at hg
    split at hg
    · rename_i x0 x1 x2 x3 x4 x5 b l k x9 x10 x11 x12 x13 x14 d T v0 v1 v2 j
      cases hg
      refine ⟨rfl, rfl, rfl, ?_⟩
      have i4 := (ca3 hc).1
      have i5 := (ca3 hc).2.1
      have iT := (ca3 hc).2.2
      cases k0 : (niE ⟨x0, x1⟩ ⟨x2, x3, x4, x5⟩ b l k ⟨x9, x10, x11⟩ ⟨x12, x13, x14⟩ d T != 0) with
      | true =>
        have V0 : (if niE ⟨x0, x1⟩ ⟨x2, x3, x4, x5⟩ b l k ⟨x9, x10, x11⟩ ⟨x12, x13, x14⟩ d T = 0 then (if 0 ≤ j ∧ j ≤ k then aaz ⟨x0, x1⟩ ⟨x2, x3, x4, x5⟩ b l ⟨v0, v1, v2⟩ j else 0) else 0) = (0) := by
          rw [if_neg (by simpa using k0)]
        have V1 : (if niE ⟨x0, x1⟩ ⟨x2, x3, x4, x5⟩ b l k ⟨x9, x10, x11⟩ ⟨x12, x13, x14⟩ d T = 0 then (if 0 ≤ j ∧ j ≤ k then aal ⟨x0, x1⟩ ⟨x2, x3, x4, x5⟩ b l ⟨v0, v1, v2⟩ j else 0) else 0) = (0) := by
          rw [if_neg (by simpa using k0)]
        have V2 : (if niE ⟨x0, x1⟩ ⟨x2, x3, x4, x5⟩ b l k ⟨x9, x10, x11⟩ ⟨x12, x13, x14⟩ d T = 0 then (if 0 ≤ j ∧ j ≤ k then aae ⟨x0, x1⟩ ⟨v0, v1, v2⟩ else 4) else niE ⟨x0, x1⟩ ⟨x2, x3, x4, x5⟩ b l k ⟨x9, x10, x11⟩ ⟨x12, x13, x14⟩ d T) = ((niE ⟨x0, x1⟩ ⟨x2, x3, x4, x5⟩ b l k ⟨x9, x10, x11⟩ ⟨x12, x13, x14⟩ d T)) := by
          rw [if_neg (by simpa using k0)]
        refine ⟨[true], _, _, aim_1 x0 x1 x2 x3 x4 x5 b l k x9 x10 x11 x12 x13 x14 d T v0 v1 v2 j, fun E u hu => by rw [V0, V1, V2]; exact hu, pickL_ok ?_ _⟩
        repeat' (first | exact cd_nil | refine cd_cons ?_ ?_)
        all_goals first | with_reducible rfl | with_reducible assumption | rfl | exact ag_in _ _ | (refine decide_eq_true ?_; simp only [beq_iff_eq, beq_eq_false_iff_ne, ne_eq, bne_iff_ne, bne_eq_false_iff_eq, decide_eq_true_eq, decide_eq_false_iff_not, Bool.not_eq_true', Bool.not_eq_false'] at *; omega) | (simp_all; done)

      | false =>
        cases k1 : (decide (j < 0)) with
        | true =>
          have V0 : (if niE ⟨x0, x1⟩ ⟨x2, x3, x4, x5⟩ b l k ⟨x9, x10, x11⟩ ⟨x12, x13, x14⟩ d T = 0 then (if 0 ≤ j ∧ j ≤ k then aaz ⟨x0, x1⟩ ⟨x2, x3, x4, x5⟩ b l ⟨v0, v1, v2⟩ j else 0) else 0) = (0) := by
            rw [if_pos (by simpa using k0)]
            rw [if_neg (by have := of_decide_eq_true k1; omega)]
          have V1 : (if niE ⟨x0, x1⟩ ⟨x2, x3, x4, x5⟩ b l k ⟨x9, x10, x11⟩ ⟨x12, x13, x14⟩ d T = 0 then (if 0 ≤ j ∧ j ≤ k then aal ⟨x0, x1⟩ ⟨x2, x3, x4, x5⟩ b l ⟨v0, v1, v2⟩ j else 0) else 0) = (0) := by
            rw [if_pos (by simpa using k0)]
            rw [if_neg (by have := of_decide_eq_true k1; omega)]
          have V2 : (if niE ⟨x0, x1⟩ ⟨x2, x3, x4, x5⟩ b l k ⟨x9, x10, x11⟩ ⟨x12, x13, x14⟩ d T = 0 then (if 0 ≤ j ∧ j ≤ k then aae ⟨x0, x1⟩ ⟨v0, v1, v2⟩ else 4) else niE ⟨x0, x1⟩ ⟨x2, x3, x4, x5⟩ b l k ⟨x9, x10, x11⟩ ⟨x12, x13, x14⟩ d T) = (4) := by
            rw [if_pos (by simpa using k0)]
            rw [if_neg (by have := of_decide_eq_true k1; omega)]
          refine ⟨[false, true], _, _, aim_01 x0 x1 x2 x3 x4 x5 b l k x9 x10 x11 x12 x13 x14 d T v0 v1 v2 j, fun E u hu => by rw [V0, V1, V2]; exact hu, pickL_ok ?_ _⟩
          repeat' (first | exact cd_nil | refine cd_cons ?_ ?_)
          all_goals first | with_reducible rfl | with_reducible assumption | rfl | exact ag_in _ _ | (refine decide_eq_true ?_; simp only [beq_iff_eq, beq_eq_false_iff_ne, ne_eq, bne_iff_ne, bne_eq_false_iff_eq, decide_eq_true_eq, decide_eq_false_iff_not, Bool.not_eq_true', Bool.not_eq_false'] at *; omega) | (simp_all; done)

        | false =>
          cases k2 : (decide (j > k)) with
          | true =>
            have V0 : (if niE ⟨x0, x1⟩ ⟨x2, x3, x4, x5⟩ b l k ⟨x9, x10, x11⟩ ⟨x12, x13, x14⟩ d T = 0 then (if 0 ≤ j ∧ j ≤ k then aaz ⟨x0, x1⟩ ⟨x2, x3, x4, x5⟩ b l ⟨v0, v1, v2⟩ j else 0) else 0) = (0) := by
              rw [if_pos (by simpa using k0)]
              rw [if_neg (by have := of_decide_eq_true k2; omega)]
            have V1 : (if niE ⟨x0, x1⟩ ⟨x2, x3, x4, x5⟩ b l k ⟨x9, x10, x11⟩ ⟨x12, x13, x14⟩ d T = 0 then (if 0 ≤ j ∧ j ≤ k then aal ⟨x0, x1⟩ ⟨x2, x3, x4, x5⟩ b l ⟨v0, v1, v2⟩ j else 0) else 0) = (0) := by
              rw [if_pos (by simpa using k0)]
              rw [if_neg (by have := of_decide_eq_true k2; omega)]
            have V2 : (if niE ⟨x0, x1⟩ ⟨x2, x3, x4, x5⟩ b l k ⟨x9, x10, x11⟩ ⟨x12, x13, x14⟩ d T = 0 then (if 0 ≤ j ∧ j ≤ k then aae ⟨x0, x1⟩ ⟨v0, v1, v2⟩ else 4) else niE ⟨x0, x1⟩ ⟨x2, x3, x4, x5⟩ b l k ⟨x9, x10, x11⟩ ⟨x12, x13, x14⟩ d T) = (4) := by
              rw [if_pos (by simpa using k0)]
              rw [if_neg (by have := of_decide_eq_true k2; omega)]
            refine ⟨[false, false, true], _, _, aim_001 x0 x1 x2 x3 x4 x5 b l k x9 x10 x11 x12 x13 x14 d T v0 v1 v2 j, fun E u hu => by rw [V0, V1, V2]; exact hu, pickL_ok ?_ _⟩
            repeat' (first | exact cd_nil | refine cd_cons ?_ ?_)
            all_goals first | with_reducible rfl | with_reducible assumption | rfl | exact ag_in _ _ | (refine decide_eq_true ?_; simp only [beq_iff_eq, beq_eq_false_iff_ne, ne_eq, bne_iff_ne, bne_eq_false_iff_eq, decide_eq_true_eq, decide_eq_false_iff_not, Bool.not_eq_true', Bool.not_eq_false'] at *; omega) | (simp_all; done)

          | false =>
            have V0 : (if niE ⟨x0, x1⟩ ⟨x2, x3, x4, x5⟩ b l k ⟨x9, x10, x11⟩ ⟨x12, x13, x14⟩ d T = 0 then (if 0 ≤ j ∧ j ≤ k then aaz ⟨x0, x1⟩ ⟨x2, x3, x4, x5⟩ b l ⟨v0, v1, v2⟩ j else 0) else 0) = ((aaz ⟨x0, x1⟩ ⟨x2, x3, x4, x5⟩ b l ⟨v0, v1, v2⟩ j)) := by
              rw [if_pos (by simpa using k0)]
              rw [if_pos (by have h1 := of_decide_eq_false k1; have h2 := of_decide_eq_false k2; omega)]
            have V1 : (if niE ⟨x0, x1⟩ ⟨x2, x3, x4, x5⟩ b l k ⟨x9, x10, x11⟩ ⟨x12, x13, x14⟩ d T = 0 then (if 0 ≤ j ∧ j ≤ k then aal ⟨x0, x1⟩ ⟨x2, x3, x4, x5⟩ b l ⟨v0, v1, v2⟩ j else 0) else 0) = ((aal ⟨x0, x1⟩ ⟨x2, x3, x4, x5⟩ b l ⟨v0, v1, v2⟩ j)) := by
              rw [if_pos (by simpa using k0)]
              rw [if_pos (by have h1 := of_decide_eq_false k1; have h2 := of_decide_eq_false k2; omega)]
            have V2 : (if niE ⟨x0, x1⟩ ⟨x2, x3, x4, x5⟩ b l k ⟨x9, x10, x11⟩ ⟨x12, x13, x14⟩ d T = 0 then (if 0 ≤ j ∧ j ≤ k then aae ⟨x0, x1⟩ ⟨v0, v1, v2⟩ else 4) else niE ⟨x0, x1⟩ ⟨x2, x3, x4, x5⟩ b l k ⟨x9, x10, x11⟩ ⟨x12, x13, x14⟩ d T) = ((aae ⟨x0, x1⟩ ⟨v0, v1, v2⟩)) := by
              rw [if_pos (by simpa using k0)]
              rw [if_pos (by have h1 := of_decide_eq_false k1; have h2 := of_decide_eq_false k2; omega)]
            refine ⟨[false, false, false], _, _, aim_000 x0 x1 x2 x3 x4 x5 b l k x9 x10 x11 x12 x13 x14 d T v0 v1 v2 j, fun E u hu => by rw [V0, V1, V2]; exact hu, pickL_ok ?_ _⟩
            repeat' (first | exact cd_nil | refine cd_cons ?_ ?_)
            all_goals first | with_reducible rfl | with_reducible assumption | rfl | exact ag_in _ _ | (refine decide_eq_true ?_; simp only [beq_iff_eq, beq_eq_false_iff_ne, ne_eq, bne_iff_ne, bne_eq_false_iff_eq, decide_eq_true_eq, decide_eq_false_iff_not, Bool.not_eq_true', Bool.not_eq_false'] at *; omega) | (simp_all; done)

    · cases hg
noncomputable abbrev libJ4 : List (Nat × FnSp Tb) := [(15, sp0 (aBool true)), (30, factSp gNi), (31, factSp gSo), (32, factSp gSl)]
theorem libJ4_ok : LibOk Try.prog tbI (lib1 libJ4) := (lib1_cons (sp0_ok rfl axes_pl) Try.call15 (lib1_cons gNr_ok Try.call30 (lib1_cons gSo_ok Try.call31 (lib1_cons gSl_ok Try.call32 (lib1_nil _ _)))))
theorem len_of {W : World} {u : Value} {ks : List (Option IntKind)} {T : List (List Int)} (hu : tabHv (fun _ _ => False) W u ks T) : decide (lenT T ≤ 9223372036854775807) = true := by
  obtain ⟨p, cap, _, h1, h2, _⟩ := hu
  unfold lenT
  have : maxLen = 9223372036854775807 := by decide
  exact decide_eq_true (by omega)
set_option maxRecDepth 100000 in
theorem lsl_01 (x0 : Int) (x1 : Int) (x2 : Int) (x3 : Int) (x4 : Int) (x5 : Int) (b : Int) (l : Int) (k : Int) (x9 : Int) (x10 : Int) (x11 : Int) (x12 : Int) (x13 : Int) (x14 : Int) (d : Int) (T : List (List Int)) (st : Int) : evR (ctxOf Try.prog tbI (fun _ => false) libJ4) Try.f8 [(.w (.agg [.int .i64 x0, .int .i64 x1, .int .i64 x2, .int .i64 x3, .int .i64 x4, .int .i64 x5, .int .i64 b, .int .i64 l, .int .i64 k, .int .i64 x9, .int .i64 x10, .int .i64 x11, .int .i64 x12, .int .i64 x13, .int .i64 x14, .int .i64 d, .fv (.tab [some .i64] T)])), (.w (.one (.int .i64 st)))] [false, true] = some (AV.w (AW.one (AC.bool ((if niE ⟨x0, x1⟩ ⟨x2, x3, x4, x5⟩ b l k ⟨x9, x10, x11⟩ ⟨x12, x13, x14⟩ d T = 0 then clvS l st else 0) == clvS l st))), (pickL [(!true, false), (i64B x4, true), (i64B x5, true), (decide (lenT T ≤ 9223372036854775807), true), (niE ⟨x0, x1⟩ ⟨x2, x3, x4, x5⟩ b l k ⟨x9, x10, x11⟩ ⟨x12, x13, x14⟩ d T == 0, true), (decide ((60000 : Int) ≤ l) && decide (l ≤ 1800000), true)] [0, 1, 2, 3, 4, 5, 1, 2, 3])) := by kernel_rfl
set_option maxRecDepth 100000 in
theorem lsl_00 (x0 : Int) (x1 : Int) (x2 : Int) (x3 : Int) (x4 : Int) (x5 : Int) (b : Int) (l : Int) (k : Int) (x9 : Int) (x10 : Int) (x11 : Int) (x12 : Int) (x13 : Int) (x14 : Int) (d : Int) (T : List (List Int)) (st : Int) : evR (ctxOf Try.prog tbI (fun _ => false) libJ4) Try.f8 [(.w (.agg [.int .i64 x0, .int .i64 x1, .int .i64 x2, .int .i64 x3, .int .i64 x4, .int .i64 x5, .int .i64 b, .int .i64 l, .int .i64 k, .int .i64 x9, .int .i64 x10, .int .i64 x11, .int .i64 x12, .int .i64 x13, .int .i64 x14, .int .i64 d, .fv (.tab [some .i64] T)])), (.w (.one (.int .i64 st)))] [false, false] = some (AV.w (AW.one (AC.bool ((if niE ⟨x0, x1⟩ ⟨x2, x3, x4, x5⟩ b l k ⟨x9, x10, x11⟩ ⟨x12, x13, x14⟩ d T = 0 then clvS l st else 0) == 0))), (pickL [(!true, false), (i64B x4, true), (i64B x5, true), (decide (lenT T ≤ 9223372036854775807), true), (niE ⟨x0, x1⟩ ⟨x2, x3, x4, x5⟩ b l k ⟨x9, x10, x11⟩ ⟨x12, x13, x14⟩ d T == 0, false)] [0, 1, 2, 3, 4, 1, 2, 3])) := by kernel_rfl
set_option maxHeartbeats 4000000 in
theorem slewSlots_walk (W : World) (x0 : Int) (hx0 : okK (some .i64) x0) (x1 : Int) (hx1 : okK (some .i64) x1) (x2 : Int) (hx2 : okK (some .i64) x2) (x3 : Int) (hx3 : okK (some .i64) x3) (x4 : Int) (hx4 : okK (some .i64) x4) (x5 : Int) (hx5 : okK (some .i64) x5) (b : Int) (hb : okK (some .i64) b) (l : Int) (hl : okK (some .i64) l) (k : Int) (hk : okK (some .i64) k) (x9 : Int) (hx9 : okK (some .i64) x9) (x10 : Int) (hx10 : okK (some .i64) x10) (x11 : Int) (hx11 : okK (some .i64) x11) (x12 : Int) (hx12 : okK (some .i64) x12) (x13 : Int) (hx13 : okK (some .i64) x13) (x14 : Int) (hx14 : okK (some .i64) x14) (d : Int) (hd : okK (some .i64) d) (T : List (List Int)) (u : Value) (hu : tabHv (fun _ _ => False) W u [some .i64] T) (hT : okRows [some .i64] T) (st : Int) (hst : okK (some .i64) st) :
    Calls Try.prog 8 #[.agg #[.int .i64 x0, .int .i64 x1, .int .i64 x2, .int .i64 x3, .int .i64 x4, .int .i64 x5, .int .i64 b, .int .i64 l, .int .i64 k, .int .i64 x9, .int .i64 x10, .int .i64 x11, .int .i64 x12, .int .i64 x13, .int .i64 x14, .int .i64 d, u], .int .i64 st] W fun e w' => e = .returned (.bool true) ∧ Below W.heap.size W w' := by
  have iT := len_of hu
  have i4 : i64B x4 = true := i64B_iff.2 (okK_i64 hx4)
  have i5 : i64B x5 = true := i64B_iff.2 (okK_i64 hx5)
  cases k0 : (niE ⟨x0, x1⟩ ⟨x2, x3, x4, x5⟩ b l k ⟨x9, x10, x11⟩ ⟨x12, x13, x14⟩ d T == 0) with
  | true =>
    have hn := ni_in (by simpa using k0)
    have kl : (decide ((60000 : Int) ≤ l) && decide (l ≤ 1800000)) = true := by simp; omega
    have V : ((if niE ⟨x0, x1⟩ ⟨x2, x3, x4, x5⟩ b l k ⟨x9, x10, x11⟩ ⟨x12, x13, x14⟩ d T = 0 then clvS l st else 0) == clvS l st) = true := by rw [if_pos (by simpa using k0)]; exact beq_self_eq_true _
    refine law_facts (I := tbI) (h := fun q v => q = .tab [some .i64] T ∧ v = u) (v := .bool true) (ctxOf_ok libJ4_ok (eq_none _)) (by kernel_rfl) Try.func8 rfl lps_nil rfl (fun q v hq => by obtain ⟨rfl, rfl⟩ := hq; exact hu) (lsl_01 x0 x1 x2 x3 x4 x5 b l k x9 x10 x11 x12 x13 x14 d T st) rfl (.cons ⟨_, rfl, (.cons rfl (.cons rfl (.cons rfl (.cons rfl (.cons rfl (.cons rfl (.cons rfl (.cons rfl (.cons rfl (.cons rfl (.cons rfl (.cons rfl (.cons rfl (.cons rfl (.cons rfl (.cons rfl (.cons ⟨rfl, rfl⟩ .nil)))))))))))))))))⟩ (.cons rfl .nil)) (congrArg (fun b => some (Value.bool b)) V) (pickL_ok ?_ _)
    repeat' (first | exact cd_nil | refine cd_cons ?_ ?_)
    all_goals first | with_reducible rfl | with_reducible assumption | exact ag_in _ _ | (simp_all; done)

  | false =>
    have V : ((if niE ⟨x0, x1⟩ ⟨x2, x3, x4, x5⟩ b l k ⟨x9, x10, x11⟩ ⟨x12, x13, x14⟩ d T = 0 then clvS l st else 0) == 0) = true := by rw [if_neg (by simpa using k0)]; rfl
    refine law_facts (I := tbI) (h := fun q v => q = .tab [some .i64] T ∧ v = u) (v := .bool true) (ctxOf_ok libJ4_ok (eq_none _)) (by kernel_rfl) Try.func8 rfl lps_nil rfl (fun q v hq => by obtain ⟨rfl, rfl⟩ := hq; exact hu) (lsl_00 x0 x1 x2 x3 x4 x5 b l k x9 x10 x11 x12 x13 x14 d T st) rfl (.cons ⟨_, rfl, (.cons rfl (.cons rfl (.cons rfl (.cons rfl (.cons rfl (.cons rfl (.cons rfl (.cons rfl (.cons rfl (.cons rfl (.cons rfl (.cons rfl (.cons rfl (.cons rfl (.cons rfl (.cons rfl (.cons ⟨rfl, rfl⟩ .nil)))))))))))))))))⟩ (.cons rfl .nil)) (congrArg (fun b => some (Value.bool b)) V) (pickL_ok ?_ _)
    repeat' (first | exact cd_nil | refine cd_cons ?_ ?_)
    all_goals first | with_reducible rfl | with_reducible assumption | exact ag_in _ _ | (simp_all; done)

noncomputable abbrev libJ5 : List (Nat × FnSp Tb) := [(15, sp0 (aBool true)), (30, factSp gNi), (34, inRS), (33, factSp gAi), (36, agTS), (35, aiTS)]
theorem libJ5_ok : LibOk Try.prog tbI (lib1 libJ5) := (lib1_cons (sp0_ok rfl axes_pl) Try.call15 (lib1_cons gNr_ok Try.call30 (lib1_cons (sp3_ok fun x lo hi _ => ⟨_, rfl, inr2_pl x lo hi⟩) Try.call34 (lib1_cons gAi_ok Try.call33 (lib1_cons (sp2_ok fun r t hc => ⟨_, rfl, agf_pl r t (ca2 hc).1 (ca2 hc).2⟩) Try.call36 (lib1_cons (sp3_ok fun s t v hc => ⟨_, rfl, aimf_pl s t v (ca1 hc)⟩) Try.call35 (lib1_nil _ _)))))))
set_option maxRecDepth 100000 in
theorem lai_01111 (x0 : Int) (x1 : Int) (x2 : Int) (x3 : Int) (x4 : Int) (x5 : Int) (b : Int) (l : Int) (k : Int) (x9 : Int) (x10 : Int) (x11 : Int) (x12 : Int) (x13 : Int) (x14 : Int) (d : Int) (T : List (List Int)) (v0 : Int) (v1 : Int) (v2 : Int) (j : Int) : evR (ctxOf Try.prog tbI eqG libJ5) Try.f9 [(.w (.agg [.int .i64 x0, .int .i64 x1, .int .i64 x2, .int .i64 x3, .int .i64 x4, .int .i64 x5, .int .i64 b, .int .i64 l, .int .i64 k, .int .i64 x9, .int .i64 x10, .int .i64 x11, .int .i64 x12, .int .i64 x13, .int .i64 x14, .int .i64 d, .fv (.tab [some .i64] T)])), (.w (.agg [.int .i64 v0, .int .i64 v1, .int .i64 v2])), (.w (.one (.int .i64 j)))] [false, true, true, true, true] = some (AV.w (AW.one (AC.bool ((if niE ⟨x0, x1⟩ ⟨x2, x3, x4, x5⟩ b l k ⟨x9, x10, x11⟩ ⟨x12, x13, x14⟩ d T = 0 then if 0 ≤ j ∧ j ≤ k then aae ⟨x0, x1⟩ ⟨v0, v1, v2⟩ else 4 else niE ⟨x0, x1⟩ ⟨x2, x3, x4, x5⟩ b l k ⟨x9, x10, x11⟩ ⟨x12, x13, x14⟩ d T) == 4))), (pickL [(!true, false), (i64B x4, true), (i64B x5, true), (decide (lenT T ≤ 9223372036854775807), true), (niE ⟨x0, x1⟩ ⟨x2, x3, x4, x5⟩ b l k ⟨x9, x10, x11⟩ ⟨x12, x13, x14⟩ d T == 0, true), (!inR j 0 k, true), (4 != 0, true), ((if niE ⟨x0, x1⟩ ⟨x2, x3, x4, x5⟩ b l k ⟨x9, x10, x11⟩ ⟨x12, x13, x14⟩ d T = 0 then if 0 ≤ j ∧ j ≤ k then aaz ⟨x0, x1⟩ ⟨x2, x3, x4, x5⟩ b l ⟨v0, v1, v2⟩ j else 0 else 0) == 0 && ((if niE ⟨x0, x1⟩ ⟨x2, x3, x4, x5⟩ b l k ⟨x9, x10, x11⟩ ⟨x12, x13, x14⟩ d T = 0 then if 0 ≤ j ∧ j ≤ k then aal ⟨x0, x1⟩ ⟨x2, x3, x4, x5⟩ b l ⟨v0, v1, v2⟩ j else 0 else 0) == 0 && true), true)] [0, 1, 2, 3, 1, 2, 3, 4, 4, 4, 4, 4, 4, 5, 6, 7, 7, 7, 7])) := by kernel_rfl
set_option maxRecDepth 100000 in
theorem lai_01101 (x0 : Int) (x1 : Int) (x2 : Int) (x3 : Int) (x4 : Int) (x5 : Int) (b : Int) (l : Int) (k : Int) (x9 : Int) (x10 : Int) (x11 : Int) (x12 : Int) (x13 : Int) (x14 : Int) (d : Int) (T : List (List Int)) (v0 : Int) (v1 : Int) (v2 : Int) (j : Int) : evR (ctxOf Try.prog tbI eqG libJ5) Try.f9 [(.w (.agg [.int .i64 x0, .int .i64 x1, .int .i64 x2, .int .i64 x3, .int .i64 x4, .int .i64 x5, .int .i64 b, .int .i64 l, .int .i64 k, .int .i64 x9, .int .i64 x10, .int .i64 x11, .int .i64 x12, .int .i64 x13, .int .i64 x14, .int .i64 d, .fv (.tab [some .i64] T)])), (.w (.agg [.int .i64 v0, .int .i64 v1, .int .i64 v2])), (.w (.one (.int .i64 j)))] [false, true, true, false, true] = some (AV.w (AW.one (AC.bool ((if niE ⟨x0, x1⟩ ⟨x2, x3, x4, x5⟩ b l k ⟨x9, x10, x11⟩ ⟨x12, x13, x14⟩ d T = 0 then if 0 ≤ j ∧ j ≤ k then aae ⟨x0, x1⟩ ⟨v0, v1, v2⟩ else 4 else niE ⟨x0, x1⟩ ⟨x2, x3, x4, x5⟩ b l k ⟨x9, x10, x11⟩ ⟨x12, x13, x14⟩ d T) == aimE ⟨x0, x1⟩ (agV ⟨x2, x3, x4, x5⟩ (IntKind.i64.wrap (b + IntKind.i64.wrap (j * l)))) ⟨v0, v1, v2⟩))), (pickL [(!true, false), (i64B x4, true), (i64B x5, true), (decide (lenT T ≤ 9223372036854775807), true), (niE ⟨x0, x1⟩ ⟨x2, x3, x4, x5⟩ b l k ⟨x9, x10, x11⟩ ⟨x12, x13, x14⟩ d T == 0, true), (!inR j 0 k, true), (4 != 0, false), (i64B (agV ⟨x2, x3, x4, x5⟩ (IntKind.i64.wrap (b + IntKind.i64.wrap (j * l)))), true), ((if niE ⟨x0, x1⟩ ⟨x2, x3, x4, x5⟩ b l k ⟨x9, x10, x11⟩ ⟨x12, x13, x14⟩ d T = 0 then if 0 ≤ j ∧ j ≤ k then aaz ⟨x0, x1⟩ ⟨x2, x3, x4, x5⟩ b l ⟨v0, v1, v2⟩ j else 0 else 0) == aimAz ⟨x0, x1⟩ (agV ⟨x2, x3, x4, x5⟩ (IntKind.i64.wrap (b + IntKind.i64.wrap (j * l)))) ⟨v0, v1, v2⟩ && ((if niE ⟨x0, x1⟩ ⟨x2, x3, x4, x5⟩ b l k ⟨x9, x10, x11⟩ ⟨x12, x13, x14⟩ d T = 0 then if 0 ≤ j ∧ j ≤ k then aal ⟨x0, x1⟩ ⟨x2, x3, x4, x5⟩ b l ⟨v0, v1, v2⟩ j else 0 else 0) == aimAl ⟨x0, x1⟩ (agV ⟨x2, x3, x4, x5⟩ (IntKind.i64.wrap (b + IntKind.i64.wrap (j * l)))) ⟨v0, v1, v2⟩ && true), true)] [0, 1, 2, 3, 1, 2, 3, 4, 4, 4, 4, 4, 4, 5, 6, 1, 2, 7, 8, 8, 8, 8])) := by kernel_rfl
set_option maxRecDepth 100000 in
theorem lai_01011 (x0 : Int) (x1 : Int) (x2 : Int) (x3 : Int) (x4 : Int) (x5 : Int) (b : Int) (l : Int) (k : Int) (x9 : Int) (x10 : Int) (x11 : Int) (x12 : Int) (x13 : Int) (x14 : Int) (d : Int) (T : List (List Int)) (v0 : Int) (v1 : Int) (v2 : Int) (j : Int) : evR (ctxOf Try.prog tbI eqG libJ5) Try.f9 [(.w (.agg [.int .i64 x0, .int .i64 x1, .int .i64 x2, .int .i64 x3, .int .i64 x4, .int .i64 x5, .int .i64 b, .int .i64 l, .int .i64 k, .int .i64 x9, .int .i64 x10, .int .i64 x11, .int .i64 x12, .int .i64 x13, .int .i64 x14, .int .i64 d, .fv (.tab [some .i64] T)])), (.w (.agg [.int .i64 v0, .int .i64 v1, .int .i64 v2])), (.w (.one (.int .i64 j)))] [false, true, false, true, true] = some (AV.w (AW.one (AC.bool ((if niE ⟨x0, x1⟩ ⟨x2, x3, x4, x5⟩ b l k ⟨x9, x10, x11⟩ ⟨x12, x13, x14⟩ d T = 0 then if 0 ≤ j ∧ j ≤ k then aae ⟨x0, x1⟩ ⟨v0, v1, v2⟩ else 4 else niE ⟨x0, x1⟩ ⟨x2, x3, x4, x5⟩ b l k ⟨x9, x10, x11⟩ ⟨x12, x13, x14⟩ d T) == niE ⟨x0, x1⟩ ⟨x2, x3, x4, x5⟩ b l k ⟨x9, x10, x11⟩ ⟨x12, x13, x14⟩ d T))), (pickL [(!true, false), (i64B x4, true), (i64B x5, true), (decide (lenT T ≤ 9223372036854775807), true), (niE ⟨x0, x1⟩ ⟨x2, x3, x4, x5⟩ b l k ⟨x9, x10, x11⟩ ⟨x12, x13, x14⟩ d T == 0, true), (!inR j 0 k, false), (niE ⟨x0, x1⟩ ⟨x2, x3, x4, x5⟩ b l k ⟨x9, x10, x11⟩ ⟨x12, x13, x14⟩ d T != 0, true), ((if niE ⟨x0, x1⟩ ⟨x2, x3, x4, x5⟩ b l k ⟨x9, x10, x11⟩ ⟨x12, x13, x14⟩ d T = 0 then if 0 ≤ j ∧ j ≤ k then aaz ⟨x0, x1⟩ ⟨x2, x3, x4, x5⟩ b l ⟨v0, v1, v2⟩ j else 0 else 0) == 0 && ((if niE ⟨x0, x1⟩ ⟨x2, x3, x4, x5⟩ b l k ⟨x9, x10, x11⟩ ⟨x12, x13, x14⟩ d T = 0 then if 0 ≤ j ∧ j ≤ k then aal ⟨x0, x1⟩ ⟨x2, x3, x4, x5⟩ b l ⟨v0, v1, v2⟩ j else 0 else 0) == 0 && true), true)] [0, 1, 2, 3, 1, 2, 3, 4, 4, 4, 4, 4, 4, 5, 6, 7, 7, 7, 7])) := by kernel_rfl
set_option maxRecDepth 100000 in
theorem lai_01001 (x0 : Int) (x1 : Int) (x2 : Int) (x3 : Int) (x4 : Int) (x5 : Int) (b : Int) (l : Int) (k : Int) (x9 : Int) (x10 : Int) (x11 : Int) (x12 : Int) (x13 : Int) (x14 : Int) (d : Int) (T : List (List Int)) (v0 : Int) (v1 : Int) (v2 : Int) (j : Int) : evR (ctxOf Try.prog tbI eqG libJ5) Try.f9 [(.w (.agg [.int .i64 x0, .int .i64 x1, .int .i64 x2, .int .i64 x3, .int .i64 x4, .int .i64 x5, .int .i64 b, .int .i64 l, .int .i64 k, .int .i64 x9, .int .i64 x10, .int .i64 x11, .int .i64 x12, .int .i64 x13, .int .i64 x14, .int .i64 d, .fv (.tab [some .i64] T)])), (.w (.agg [.int .i64 v0, .int .i64 v1, .int .i64 v2])), (.w (.one (.int .i64 j)))] [false, true, false, false, true] = some (AV.w (AW.one (AC.bool ((if niE ⟨x0, x1⟩ ⟨x2, x3, x4, x5⟩ b l k ⟨x9, x10, x11⟩ ⟨x12, x13, x14⟩ d T = 0 then if 0 ≤ j ∧ j ≤ k then aae ⟨x0, x1⟩ ⟨v0, v1, v2⟩ else 4 else niE ⟨x0, x1⟩ ⟨x2, x3, x4, x5⟩ b l k ⟨x9, x10, x11⟩ ⟨x12, x13, x14⟩ d T) == aimE ⟨x0, x1⟩ (agV ⟨x2, x3, x4, x5⟩ (IntKind.i64.wrap (b + IntKind.i64.wrap (j * l)))) ⟨v0, v1, v2⟩))), (pickL [(!true, false), (i64B x4, true), (i64B x5, true), (decide (lenT T ≤ 9223372036854775807), true), (niE ⟨x0, x1⟩ ⟨x2, x3, x4, x5⟩ b l k ⟨x9, x10, x11⟩ ⟨x12, x13, x14⟩ d T == 0, true), (!inR j 0 k, false), (niE ⟨x0, x1⟩ ⟨x2, x3, x4, x5⟩ b l k ⟨x9, x10, x11⟩ ⟨x12, x13, x14⟩ d T != 0, false), (i64B (agV ⟨x2, x3, x4, x5⟩ (IntKind.i64.wrap (b + IntKind.i64.wrap (j * l)))), true), ((if niE ⟨x0, x1⟩ ⟨x2, x3, x4, x5⟩ b l k ⟨x9, x10, x11⟩ ⟨x12, x13, x14⟩ d T = 0 then if 0 ≤ j ∧ j ≤ k then aaz ⟨x0, x1⟩ ⟨x2, x3, x4, x5⟩ b l ⟨v0, v1, v2⟩ j else 0 else 0) == aimAz ⟨x0, x1⟩ (agV ⟨x2, x3, x4, x5⟩ (IntKind.i64.wrap (b + IntKind.i64.wrap (j * l)))) ⟨v0, v1, v2⟩ && ((if niE ⟨x0, x1⟩ ⟨x2, x3, x4, x5⟩ b l k ⟨x9, x10, x11⟩ ⟨x12, x13, x14⟩ d T = 0 then if 0 ≤ j ∧ j ≤ k then aal ⟨x0, x1⟩ ⟨x2, x3, x4, x5⟩ b l ⟨v0, v1, v2⟩ j else 0 else 0) == aimAl ⟨x0, x1⟩ (agV ⟨x2, x3, x4, x5⟩ (IntKind.i64.wrap (b + IntKind.i64.wrap (j * l)))) ⟨v0, v1, v2⟩ && true), true)] [0, 1, 2, 3, 1, 2, 3, 4, 4, 4, 4, 4, 4, 5, 6, 1, 2, 7, 8, 8, 8, 8])) := by kernel_rfl
set_option maxRecDepth 100000 in
theorem lai_0011 (x0 : Int) (x1 : Int) (x2 : Int) (x3 : Int) (x4 : Int) (x5 : Int) (b : Int) (l : Int) (k : Int) (x9 : Int) (x10 : Int) (x11 : Int) (x12 : Int) (x13 : Int) (x14 : Int) (d : Int) (T : List (List Int)) (v0 : Int) (v1 : Int) (v2 : Int) (j : Int) : evR (ctxOf Try.prog tbI eqG libJ5) Try.f9 [(.w (.agg [.int .i64 x0, .int .i64 x1, .int .i64 x2, .int .i64 x3, .int .i64 x4, .int .i64 x5, .int .i64 b, .int .i64 l, .int .i64 k, .int .i64 x9, .int .i64 x10, .int .i64 x11, .int .i64 x12, .int .i64 x13, .int .i64 x14, .int .i64 d, .fv (.tab [some .i64] T)])), (.w (.agg [.int .i64 v0, .int .i64 v1, .int .i64 v2])), (.w (.one (.int .i64 j)))] [false, false, true, true] = some (AV.w (AW.one (AC.bool ((if niE ⟨x0, x1⟩ ⟨x2, x3, x4, x5⟩ b l k ⟨x9, x10, x11⟩ ⟨x12, x13, x14⟩ d T = 0 then if 0 ≤ j ∧ j ≤ k then aae ⟨x0, x1⟩ ⟨v0, v1, v2⟩ else 4 else niE ⟨x0, x1⟩ ⟨x2, x3, x4, x5⟩ b l k ⟨x9, x10, x11⟩ ⟨x12, x13, x14⟩ d T) == niE ⟨x0, x1⟩ ⟨x2, x3, x4, x5⟩ b l k ⟨x9, x10, x11⟩ ⟨x12, x13, x14⟩ d T))), (pickL [(!true, false), (i64B x4, true), (i64B x5, true), (decide (lenT T ≤ 9223372036854775807), true), (niE ⟨x0, x1⟩ ⟨x2, x3, x4, x5⟩ b l k ⟨x9, x10, x11⟩ ⟨x12, x13, x14⟩ d T == 0, false), (false, false), (niE ⟨x0, x1⟩ ⟨x2, x3, x4, x5⟩ b l k ⟨x9, x10, x11⟩ ⟨x12, x13, x14⟩ d T != 0, true), ((if niE ⟨x0, x1⟩ ⟨x2, x3, x4, x5⟩ b l k ⟨x9, x10, x11⟩ ⟨x12, x13, x14⟩ d T = 0 then if 0 ≤ j ∧ j ≤ k then aaz ⟨x0, x1⟩ ⟨x2, x3, x4, x5⟩ b l ⟨v0, v1, v2⟩ j else 0 else 0) == 0 && ((if niE ⟨x0, x1⟩ ⟨x2, x3, x4, x5⟩ b l k ⟨x9, x10, x11⟩ ⟨x12, x13, x14⟩ d T = 0 then if 0 ≤ j ∧ j ≤ k then aal ⟨x0, x1⟩ ⟨x2, x3, x4, x5⟩ b l ⟨v0, v1, v2⟩ j else 0 else 0) == 0 && true), true)] [0, 1, 2, 3, 1, 2, 3, 4, 4, 4, 4, 4, 4, 5, 6, 7, 7, 7, 7])) := by kernel_rfl
set_option maxRecDepth 100000 in
theorem lai_0001 (x0 : Int) (x1 : Int) (x2 : Int) (x3 : Int) (x4 : Int) (x5 : Int) (b : Int) (l : Int) (k : Int) (x9 : Int) (x10 : Int) (x11 : Int) (x12 : Int) (x13 : Int) (x14 : Int) (d : Int) (T : List (List Int)) (v0 : Int) (v1 : Int) (v2 : Int) (j : Int) : evR (ctxOf Try.prog tbI eqG libJ5) Try.f9 [(.w (.agg [.int .i64 x0, .int .i64 x1, .int .i64 x2, .int .i64 x3, .int .i64 x4, .int .i64 x5, .int .i64 b, .int .i64 l, .int .i64 k, .int .i64 x9, .int .i64 x10, .int .i64 x11, .int .i64 x12, .int .i64 x13, .int .i64 x14, .int .i64 d, .fv (.tab [some .i64] T)])), (.w (.agg [.int .i64 v0, .int .i64 v1, .int .i64 v2])), (.w (.one (.int .i64 j)))] [false, false, false, true] = some (AV.w (AW.one (AC.bool ((if niE ⟨x0, x1⟩ ⟨x2, x3, x4, x5⟩ b l k ⟨x9, x10, x11⟩ ⟨x12, x13, x14⟩ d T = 0 then if 0 ≤ j ∧ j ≤ k then aae ⟨x0, x1⟩ ⟨v0, v1, v2⟩ else 4 else niE ⟨x0, x1⟩ ⟨x2, x3, x4, x5⟩ b l k ⟨x9, x10, x11⟩ ⟨x12, x13, x14⟩ d T) == aimE ⟨x0, x1⟩ (agV ⟨x2, x3, x4, x5⟩ (IntKind.i64.wrap (b + IntKind.i64.wrap (j * l)))) ⟨v0, v1, v2⟩))), (pickL [(!true, false), (i64B x4, true), (i64B x5, true), (decide (lenT T ≤ 9223372036854775807), true), (niE ⟨x0, x1⟩ ⟨x2, x3, x4, x5⟩ b l k ⟨x9, x10, x11⟩ ⟨x12, x13, x14⟩ d T == 0, false), (false, false), (niE ⟨x0, x1⟩ ⟨x2, x3, x4, x5⟩ b l k ⟨x9, x10, x11⟩ ⟨x12, x13, x14⟩ d T != 0, false), (i64B (agV ⟨x2, x3, x4, x5⟩ (IntKind.i64.wrap (b + IntKind.i64.wrap (j * l)))), true), ((if niE ⟨x0, x1⟩ ⟨x2, x3, x4, x5⟩ b l k ⟨x9, x10, x11⟩ ⟨x12, x13, x14⟩ d T = 0 then if 0 ≤ j ∧ j ≤ k then aaz ⟨x0, x1⟩ ⟨x2, x3, x4, x5⟩ b l ⟨v0, v1, v2⟩ j else 0 else 0) == aimAz ⟨x0, x1⟩ (agV ⟨x2, x3, x4, x5⟩ (IntKind.i64.wrap (b + IntKind.i64.wrap (j * l)))) ⟨v0, v1, v2⟩ && ((if niE ⟨x0, x1⟩ ⟨x2, x3, x4, x5⟩ b l k ⟨x9, x10, x11⟩ ⟨x12, x13, x14⟩ d T = 0 then if 0 ≤ j ∧ j ≤ k then aal ⟨x0, x1⟩ ⟨x2, x3, x4, x5⟩ b l ⟨v0, v1, v2⟩ j else 0 else 0) == aimAl ⟨x0, x1⟩ (agV ⟨x2, x3, x4, x5⟩ (IntKind.i64.wrap (b + IntKind.i64.wrap (j * l)))) ⟨v0, v1, v2⟩ && true), true)] [0, 1, 2, 3, 1, 2, 3, 4, 4, 4, 4, 4, 4, 5, 6, 1, 2, 7, 8, 8, 8, 8])) := by kernel_rfl
set_option maxHeartbeats 4000000 in
theorem slewAims_walk (W : World) (x0 : Int) (hx0 : okK (some .i64) x0) (x1 : Int) (hx1 : okK (some .i64) x1) (x2 : Int) (hx2 : okK (some .i64) x2) (x3 : Int) (hx3 : okK (some .i64) x3) (x4 : Int) (hx4 : okK (some .i64) x4) (x5 : Int) (hx5 : okK (some .i64) x5) (b : Int) (hb : okK (some .i64) b) (l : Int) (hl : okK (some .i64) l) (k : Int) (hk : okK (some .i64) k) (x9 : Int) (hx9 : okK (some .i64) x9) (x10 : Int) (hx10 : okK (some .i64) x10) (x11 : Int) (hx11 : okK (some .i64) x11) (x12 : Int) (hx12 : okK (some .i64) x12) (x13 : Int) (hx13 : okK (some .i64) x13) (x14 : Int) (hx14 : okK (some .i64) x14) (d : Int) (hd : okK (some .i64) d) (T : List (List Int)) (u : Value) (hu : tabHv (fun _ _ => False) W u [some .i64] T) (hT : okRows [some .i64] T) (v0 : Int) (hv0 : okK (some .i64) v0) (v1 : Int) (hv1 : okK (some .i64) v1) (v2 : Int) (hv2 : okK (some .i64) v2) (j : Int) (hj : okK (some .i64) j) :
    Calls Try.prog 9 #[.agg #[.int .i64 x0, .int .i64 x1, .int .i64 x2, .int .i64 x3, .int .i64 x4, .int .i64 x5, .int .i64 b, .int .i64 l, .int .i64 k, .int .i64 x9, .int .i64 x10, .int .i64 x11, .int .i64 x12, .int .i64 x13, .int .i64 x14, .int .i64 d, u], .agg #[.int .i64 v0, .int .i64 v1, .int .i64 v2], .int .i64 j] W fun e w' => e = .returned (.bool true) ∧ Below W.heap.size W w' := by
  have iT := len_of hu
  have i4 : i64B x4 = true := i64B_iff.2 (okK_i64 hx4)
  have i5 : i64B x5 = true := i64B_iff.2 (okK_i64 hx5)
  by_cases hn : niE ⟨x0, x1⟩ ⟨x2, x3, x4, x5⟩ b l k ⟨x9, x10, x11⟩ ⟨x12, x13, x14⟩ d T = 0
  · have b0 : (niE ⟨x0, x1⟩ ⟨x2, x3, x4, x5⟩ b l k ⟨x9, x10, x11⟩ ⟨x12, x13, x14⟩ d T == 0) = true := by rw [hn]; rfl
    have b1 : (niE ⟨x0, x1⟩ ⟨x2, x3, x4, x5⟩ b l k ⟨x9, x10, x11⟩ ⟨x12, x13, x14⟩ d T != 0) = false := by rw [hn]; rfl
    by_cases hj2 : 0 ≤ j ∧ j ≤ k
    · have bj : (!inR j 0 k) = false := by unfold AtPr.inR; simp [hj2]
      have c0 : ((if niE ⟨x0, x1⟩ ⟨x2, x3, x4, x5⟩ b l k ⟨x9, x10, x11⟩ ⟨x12, x13, x14⟩ d T = 0 then if 0 ≤ j ∧ j ≤ k then aaz ⟨x0, x1⟩ ⟨x2, x3, x4, x5⟩ b l ⟨v0, v1, v2⟩ j else 0 else 0) == aimAz ⟨x0, x1⟩ (agV ⟨x2, x3, x4, x5⟩ (IntKind.i64.wrap (b + IntKind.i64.wrap (j * l)))) ⟨v0, v1, v2⟩ && ((if niE ⟨x0, x1⟩ ⟨x2, x3, x4, x5⟩ b l k ⟨x9, x10, x11⟩ ⟨x12, x13, x14⟩ d T = 0 then if 0 ≤ j ∧ j ≤ k then aal ⟨x0, x1⟩ ⟨x2, x3, x4, x5⟩ b l ⟨v0, v1, v2⟩ j else 0 else 0) == aimAl ⟨x0, x1⟩ (agV ⟨x2, x3, x4, x5⟩ (IntKind.i64.wrap (b + IntKind.i64.wrap (j * l)))) ⟨v0, v1, v2⟩ && true)) = true := by first | (simp_all; done) | (simp_all [aaz, aal, tmK]; done) | (simp only [if_pos hn, if_neg hj2]; rfl)
      have V : ((if niE ⟨x0, x1⟩ ⟨x2, x3, x4, x5⟩ b l k ⟨x9, x10, x11⟩ ⟨x12, x13, x14⟩ d T = 0 then if 0 ≤ j ∧ j ≤ k then aae ⟨x0, x1⟩ ⟨v0, v1, v2⟩ else 4 else niE ⟨x0, x1⟩ ⟨x2, x3, x4, x5⟩ b l k ⟨x9, x10, x11⟩ ⟨x12, x13, x14⟩ d T) == aimE ⟨x0, x1⟩ (agV ⟨x2, x3, x4, x5⟩ (IntKind.i64.wrap (b + IntKind.i64.wrap (j * l)))) ⟨v0, v1, v2⟩) = true := by first | (simp_all; done) | (simp_all [aae, aimE]; done) | (simp only [if_pos hn, if_neg hj2]; rfl)
      refine law_facts (I := tbI) (h := fun q v => q = .tab [some .i64] T ∧ v = u) (v := .bool true) (ctxOf_ok libJ5_ok eqG_ok) (by kernel_rfl) Try.func9 rfl lps_nil rfl (fun q v hq => by obtain ⟨rfl, rfl⟩ := hq; exact hu) (lai_01001 x0 x1 x2 x3 x4 x5 b l k x9 x10 x11 x12 x13 x14 d T v0 v1 v2 j) rfl (.cons ⟨_, rfl, (.cons rfl (.cons rfl (.cons rfl (.cons rfl (.cons rfl (.cons rfl (.cons rfl (.cons rfl (.cons rfl (.cons rfl (.cons rfl (.cons rfl (.cons rfl (.cons rfl (.cons rfl (.cons rfl (.cons ⟨rfl, rfl⟩ .nil)))))))))))))))))⟩ (.cons ⟨_, rfl, (.cons rfl (.cons rfl (.cons rfl .nil)))⟩ (.cons rfl .nil))) (congrArg (fun b => some (Value.bool b)) V) (pickL_ok ?_ _)
      repeat' (first | exact cd_nil | refine cd_cons ?_ ?_)
      all_goals first | with_reducible rfl | with_reducible assumption | exact ag_in _ _ | (simp_all; done)

    · have bj : (!inR j 0 k) = true := by unfold AtPr.inR; simp; omega
      have c0 : ((if niE ⟨x0, x1⟩ ⟨x2, x3, x4, x5⟩ b l k ⟨x9, x10, x11⟩ ⟨x12, x13, x14⟩ d T = 0 then if 0 ≤ j ∧ j ≤ k then aaz ⟨x0, x1⟩ ⟨x2, x3, x4, x5⟩ b l ⟨v0, v1, v2⟩ j else 0 else 0) == 0 && ((if niE ⟨x0, x1⟩ ⟨x2, x3, x4, x5⟩ b l k ⟨x9, x10, x11⟩ ⟨x12, x13, x14⟩ d T = 0 then if 0 ≤ j ∧ j ≤ k then aal ⟨x0, x1⟩ ⟨x2, x3, x4, x5⟩ b l ⟨v0, v1, v2⟩ j else 0 else 0) == 0 && true)) = true := by first | (simp_all; done) | (simp_all [aaz, aal, tmK]; done) | (simp only [if_pos hn, if_neg hj2]; rfl)
      have V : ((if niE ⟨x0, x1⟩ ⟨x2, x3, x4, x5⟩ b l k ⟨x9, x10, x11⟩ ⟨x12, x13, x14⟩ d T = 0 then if 0 ≤ j ∧ j ≤ k then aae ⟨x0, x1⟩ ⟨v0, v1, v2⟩ else 4 else niE ⟨x0, x1⟩ ⟨x2, x3, x4, x5⟩ b l k ⟨x9, x10, x11⟩ ⟨x12, x13, x14⟩ d T) == 4) = true := by first | (simp_all; done) | (simp_all [aae, aimE]; done) | (simp only [if_pos hn, if_neg hj2]; rfl)
      refine law_facts (I := tbI) (h := fun q v => q = .tab [some .i64] T ∧ v = u) (v := .bool true) (ctxOf_ok libJ5_ok eqG_ok) (by kernel_rfl) Try.func9 rfl lps_nil rfl (fun q v hq => by obtain ⟨rfl, rfl⟩ := hq; exact hu) (lai_01111 x0 x1 x2 x3 x4 x5 b l k x9 x10 x11 x12 x13 x14 d T v0 v1 v2 j) rfl (.cons ⟨_, rfl, (.cons rfl (.cons rfl (.cons rfl (.cons rfl (.cons rfl (.cons rfl (.cons rfl (.cons rfl (.cons rfl (.cons rfl (.cons rfl (.cons rfl (.cons rfl (.cons rfl (.cons rfl (.cons rfl (.cons ⟨rfl, rfl⟩ .nil)))))))))))))))))⟩ (.cons ⟨_, rfl, (.cons rfl (.cons rfl (.cons rfl .nil)))⟩ (.cons rfl .nil))) (congrArg (fun b => some (Value.bool b)) V) (pickL_ok ?_ _)
      repeat' (first | exact cd_nil | refine cd_cons ?_ ?_)
      all_goals first | with_reducible rfl | with_reducible assumption | exact ag_in _ _ | (simp_all; done)

  · have b0 : (niE ⟨x0, x1⟩ ⟨x2, x3, x4, x5⟩ b l k ⟨x9, x10, x11⟩ ⟨x12, x13, x14⟩ d T == 0) = false := by simpa using hn
    have b1 : (niE ⟨x0, x1⟩ ⟨x2, x3, x4, x5⟩ b l k ⟨x9, x10, x11⟩ ⟨x12, x13, x14⟩ d T != 0) = true := by simpa using hn
    have c0 : ((if niE ⟨x0, x1⟩ ⟨x2, x3, x4, x5⟩ b l k ⟨x9, x10, x11⟩ ⟨x12, x13, x14⟩ d T = 0 then if 0 ≤ j ∧ j ≤ k then aaz ⟨x0, x1⟩ ⟨x2, x3, x4, x5⟩ b l ⟨v0, v1, v2⟩ j else 0 else 0) == 0 && ((if niE ⟨x0, x1⟩ ⟨x2, x3, x4, x5⟩ b l k ⟨x9, x10, x11⟩ ⟨x12, x13, x14⟩ d T = 0 then if 0 ≤ j ∧ j ≤ k then aal ⟨x0, x1⟩ ⟨x2, x3, x4, x5⟩ b l ⟨v0, v1, v2⟩ j else 0 else 0) == 0 && true)) = true := by first | (simp_all; done) | (simp_all [aaz, aal, tmK]; done) | (simp only [if_pos hn, if_neg hj2]; rfl)
    have V : ((if niE ⟨x0, x1⟩ ⟨x2, x3, x4, x5⟩ b l k ⟨x9, x10, x11⟩ ⟨x12, x13, x14⟩ d T = 0 then if 0 ≤ j ∧ j ≤ k then aae ⟨x0, x1⟩ ⟨v0, v1, v2⟩ else 4 else niE ⟨x0, x1⟩ ⟨x2, x3, x4, x5⟩ b l k ⟨x9, x10, x11⟩ ⟨x12, x13, x14⟩ d T) == niE ⟨x0, x1⟩ ⟨x2, x3, x4, x5⟩ b l k ⟨x9, x10, x11⟩ ⟨x12, x13, x14⟩ d T) = true := by first | (simp_all; done) | (simp_all [aae, aimE]; done) | (simp only [if_pos hn, if_neg hj2]; rfl)
    refine law_facts (I := tbI) (h := fun q v => q = .tab [some .i64] T ∧ v = u) (v := .bool true) (ctxOf_ok libJ5_ok eqG_ok) (by kernel_rfl) Try.func9 rfl lps_nil rfl (fun q v hq => by obtain ⟨rfl, rfl⟩ := hq; exact hu) (lai_0011 x0 x1 x2 x3 x4 x5 b l k x9 x10 x11 x12 x13 x14 d T v0 v1 v2 j) rfl (.cons ⟨_, rfl, (.cons rfl (.cons rfl (.cons rfl (.cons rfl (.cons rfl (.cons rfl (.cons rfl (.cons rfl (.cons rfl (.cons rfl (.cons rfl (.cons rfl (.cons rfl (.cons rfl (.cons rfl (.cons rfl (.cons ⟨rfl, rfl⟩ .nil)))))))))))))))))⟩ (.cons ⟨_, rfl, (.cons rfl (.cons rfl (.cons rfl .nil)))⟩ (.cons rfl .nil))) (congrArg (fun b => some (Value.bool b)) V) (pickL_ok ?_ _)
    repeat' (first | exact cd_nil | refine cd_cons ?_ ?_)
    all_goals first | with_reducible rfl | with_reducible assumption | exact ag_in _ _ | (simp_all; done)

end
end Go.Proofs.Ytiamhppdacfmmaa.AtSl

