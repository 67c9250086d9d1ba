/-
 Slots and aims of a night; the walks of SlewSlots and SlewAims.
 Conditions: those of each theorem.
-/
import Derived.Test.YtmhhdedekblbnaaGreatQQK
import Derived.Test.YtmhhdedekblbnaaGreatQGO
set_option maxRecDepth 100000
set_option linter.unusedVariables false
set_option linter.unusedSimpArgs false
namespace Go.Proofs.YtmhhdedekblbnaaGreat.AtSl
open Go.RowKit Ev Wd AtRt AtHz AtPr
open Go.Proofs.YtmhhdedekblbnaaGreat
variable {F : Type}
noncomputable section

theorem ni_in {s : Si} {r : Rt} {b l k : Int} {u m : V3} {d : Int} {T : List (List Int)} (h : niE s r b l k u m d T = 0) : (1 <= k /\ k <= 64) /\ (60000 <= l /\ l <= 1800000) /\ (-8796093022208 <= b /\ b <= 8796093022208) := by
 rw [niE_ar] at h
 split at h
 · assumption
 · omega
theorem ag_in (r : Rt) (t : Int) : i64B (agV r t) = true := by
 rw [i64B_iff]
 unfold agV
 split <;> omega
noncomputable abbrev libJ2 : List (Nat × FnSp Tb) := [(141, agTS), (140, aiTS)]
theorem libJ2_ok : LibOk Tryz.prog tbI (lib1 libJ2) := (lib1_cons (sp2_ok fun r t hc => ⟨_, rfl, agf_pl r t (ca2 hc).1 (ca2 hc).2⟩) Tryz.call141 (lib1_cons (sp3_ok fun s t v hc => ⟨_, rfl, aimf_pl s t v (ca1 hc)⟩) Tryz.call140 (lib1_nil _ _)))
theorem aat_ (x0 : Int) (x1 : Int) (x2 : Int) (x3 : Int) (x4 : Int) (x5 : Int) (b : Int) (l : Int) (k : Int) (x9 : Int) (x10 : Int) (x11 : Int) (x12 : Int) (x13 : Int) (x14 : Int) (d : Int) (T : List (List Int)) (v0 : Int) (v1 : Int) (v2 : Int) (j : Int) : evR (ctxOf Tryz.prog tbI (fun _ => false) libJ2) Tryz.f81 [(.w (.agg [.int .i64 x0, .int .i64 x1, .int .i64 x2, .int .i64 x3, .int .i64 x4, .int .i64 x5, .int .i64 b, .int .i64 l, .int .i64 k, .int .i64 x9, .int .i64 x10, .int .i64 x11, .int .i64 x12, .int .i64 x13, .int .i64 x14, .int .i64 d, .fv (.tab [some .i64] T)])), (.w (.agg [.int .i64 v0, .int .i64 v1, .int .i64 v2])), (.w (.one (.int .i64 j)))] [] = some (AV.tup [AW.agg [AC.int IntKind.i64 (aimAz ⟨x0, x1⟩ (agV ⟨x2, x3, x4, x5⟩ (IntKind.i64.wrap (b + IntKind.i64.wrap (j * l)))) ⟨v0, v1, v2⟩), AC.int IntKind.i64 (aimAl ⟨x0, x1⟩ (agV ⟨x2, x3, x4, x5⟩ (IntKind.i64.wrap (b + IntKind.i64.wrap (j * l)))) ⟨v0, v1, v2⟩)], AW.one (AC.int IntKind.i64 (aimE ⟨x0, x1⟩ (agV ⟨x2, x3, x4, x5⟩ (IntKind.i64.wrap (b + IntKind.i64.wrap (j * l)))) ⟨v0, v1, v2⟩))], (pickL [(i64B x4, true), (i64B x5, true), (i64B (agV ⟨x2, x3, x4, x5⟩ (IntKind.i64.wrap (b + IntKind.i64.wrap (j * l)))), true)] [0, 1, 2])) := by kernel_rfl
set_option maxHeartbeats 4000000 in
theorem gAa_ok : (factSp gAa).ok Tryz.prog tbI 81 :=
 factR_ok (ctxOf_ok libJ2_ok (eq_none _)) (by kernel_rfl) Tryz.func81 rfl lps_nil fun args v cd hg hc => by
   unfold gAa at hg
   split at hg
   · rename_i x0 x1 x2 x3 x4 x5 b l k x9 x10 x11 x12 x13 x14 d T v0 v1 v2 j
     cases hg
     refine ⟨rfl, rfl, rfl, ?_⟩
     have i4 := (ca2 hc).1
     have i5 := (ca2 hc).2
     have V0 : (aaz ⟨x0, x1⟩ ⟨x2, x3, x4, x5⟩ b l ⟨v0, v1, v2⟩ j) = ((aimAz ⟨x0, x1⟩ (agV ⟨x2, x3, x4, x5⟩ (IntKind.i64.wrap (b + IntKind.i64.wrap (j * l)))) ⟨v0, v1, v2⟩)) := by
       rfl
     have V1 : (aal ⟨x0, x1⟩ ⟨x2, x3, x4, x5⟩ b l ⟨v0, v1, v2⟩ j) = ((aimAl ⟨x0, x1⟩ (agV ⟨x2, x3, x4, x5⟩ (IntKind.i64.wrap (b + IntKind.i64.wrap (j * l)))) ⟨v0, v1, v2⟩)) := by
       rfl
     have V2 : (aae ⟨x0, x1⟩ ⟨v0, v1, v2⟩) = ((aimE ⟨x0, x1⟩ (agV ⟨x2, x3, x4, x5⟩ (IntKind.i64.wrap (b + IntKind.i64.wrap (j * l)))) ⟨v0, v1, v2⟩)) := by
       rfl
     refine ⟨[], _, _, aat_ x0 x1 x2 x3 x4 x5 b l k x9 x10 x11 x12 x13 x14 d T v0 v1 v2 j, fun E u hu => by rw [V0, V1, V2]; exact hu, pickL_ok ?_ _⟩
     repeat' (first | exact cd_nil | refine cd_cons ?_ ?_)
     all_goals first | with_reducible rfl | with_reducible assumption | rfl | exact ag_in _ _ | (refine decide_eq_true ?_; simp only [beq_iff_eq, beq_eq_false_iff_ne, ne_eq, bne_iff_ne, bne_eq_false_iff_eq, decide_eq_true_eq, decide_eq_false_iff_not, Bool.not_eq_true', Bool.not_eq_false'] at *; omega) | (simp_all; done)
   · cases hg
noncomputable abbrev libJ3 : List (Nat × FnSp Tb) := [(47, factSp gNi), (81, factSp gAa)]
theorem libJ3_ok : LibOk Tryz.prog tbI (lib1 libJ3) := (lib1_cons gNi_ok Tryz.call47 (lib1_cons gAa_ok Tryz.call81 (lib1_nil _ _)))
theorem aim_1 (x0 : Int) (x1 : Int) (x2 : Int) (x3 : Int) (x4 : Int) (x5 : Int) (b : Int) (l : Int) (k : Int) (x9 : Int) (x10 : Int) (x11 : Int) (x12 : Int) (x13 : Int) (x14 : Int) (d : Int) (T : List (List Int)) (v0 : Int) (v1 : Int) (v2 : Int) (j : Int) : evR (ctxOf Tryz.prog tbI (fun _ => false) libJ3) Tryz.f39 [(.w (.agg [.int .i64 x0, .int .i64 x1, .int .i64 x2, .int .i64 x3, .int .i64 x4, .int .i64 x5, .int .i64 b, .int .i64 l, .int .i64 k, .int .i64 x9, .int .i64 x10, .int .i64 x11, .int .i64 x12, .int .i64 x13, .int .i64 x14, .int .i64 d, .fv (.tab [some .i64] T)])), (.w (.agg [.int .i64 v0, .int .i64 v1, .int .i64 v2])), (.w (.one (.int .i64 j)))] [true] = some (AV.tup [AW.agg [AC.int IntKind.i64 0, AC.int IntKind.i64 0], AW.one (AC.int IntKind.i64 (niE ⟨x0, x1⟩ ⟨x2, x3, x4, x5⟩ b l k ⟨x9, x10, x11⟩ ⟨x12, x13, x14⟩ d T))], (pickL [(i64B x4, true), (i64B x5, true), (decide (lenT T <= 9223372036854775807), true), (niE ⟨x0, x1⟩ ⟨x2, x3, x4, x5⟩ b l k ⟨x9, x10, x11⟩ ⟨x12, x13, x14⟩ d T != 0, true)] [0, 1, 2, 3])) := by kernel_rfl
theorem aim_01 (x0 : Int) (x1 : Int) (x2 : Int) (x3 : Int) (x4 : Int) (x5 : Int) (b : Int) (l : Int) (k : Int) (x9 : Int) (x10 : Int) (x11 : Int) (x12 : Int) (x13 : Int) (x14 : Int) (d : Int) (T : List (List Int)) (v0 : Int) (v1 : Int) (v2 : Int) (j : Int) : evR (ctxOf Tryz.prog tbI (fun _ => false) libJ3) Tryz.f39 [(.w (.agg [.int .i64 x0, .int .i64 x1, .int .i64 x2, .int .i64 x3, .int .i64 x4, .int .i64 x5, .int .i64 b, .int .i64 l, .int .i64 k, .int .i64 x9, .int .i64 x10, .int .i64 x11, .int .i64 x12, .int .i64 x13, .int .i64 x14, .int .i64 d, .fv (.tab [some .i64] T)])), (.w (.agg [.int .i64 v0, .int .i64 v1, .int .i64 v2])), (.w (.one (.int .i64 j)))] [false, true] = some (AV.tup [AW.agg [AC.int IntKind.i64 0, AC.int IntKind.i64 0], AW.one (AC.int IntKind.i64 4)], (pickL [(i64B x4, true), (i64B x5, true), (decide (lenT T <= 9223372036854775807), true), (niE ⟨x0, x1⟩ ⟨x2, x3, x4, x5⟩ b l k ⟨x9, x10, x11⟩ ⟨x12, x13, x14⟩ d T != 0, false), (decide (j < 0), true), (true, true)] [0, 1, 2, 3, 4, 4, 4, 4, 4, 5])) := by kernel_rfl
theorem aim_001 (x0 : Int) (x1 : Int) (x2 : Int) (x3 : Int) (x4 : Int) (x5 : Int) (b : Int) (l : Int) (k : Int) (x9 : Int) (x10 : Int) (x11 : Int) (x12 : Int) (x13 : Int) (x14 : Int) (d : Int) (T : List (List Int)) (v0 : Int) (v1 : Int) (v2 : Int) (j : Int) : evR (ctxOf Tryz.prog tbI (fun _ => false) libJ3) Tryz.f39 [(.w (.agg [.int .i64 x0, .int .i64 x1, .int .i64 x2, .int .i64 x3, .int .i64 x4, .int .i64 x5, .int .i64 b, .int .i64 l, .int .i64 k, .int .i64 x9, .int .i64 x10, .int .i64 x11, .int .i64 x12, .int .i64 x13, .int .i64 x14, .int .i64 d, .fv (.tab [some .i64] T)])), (.w (.agg [.int .i64 v0, .int .i64 v1, .int .i64 v2])), (.w (.one (.int .i64 j)))] [false, false, true] = some (AV.tup [AW.agg [AC.int IntKind.i64 0, AC.int IntKind.i64 0], AW.one (AC.int IntKind.i64 4)], (pickL [(i64B x4, true), (i64B x5, true), (decide (lenT T <= 9223372036854775807), true), (niE ⟨x0, x1⟩ ⟨x2, x3, x4, x5⟩ b l k ⟨x9, x10, x11⟩ ⟨x12, x13, x14⟩ d T != 0, false), (decide (j < 0), false), (decide (j > k), true)] [0, 1, 2, 3, 4, 4, 4, 4, 4, 5])) := by kernel_rfl
theorem aim_000 (x0 : Int) (x1 : Int) (x2 : Int) (x3 : Int) (x4 : Int) (x5 : Int) (b : Int) (l : Int) (k : Int) (x9 : Int) (x10 : Int) (x11 : Int) (x12 : Int) (x13 : Int) (x14 : Int) (d : Int) (T : List (List Int)) (v0 : Int) (v1 : Int) (v2 : Int) (j : Int) : evR (ctxOf Tryz.prog tbI (fun _ => false) libJ3) Tryz.f39 [(.w (.agg [.int .i64 x0, .int .i64 x1, .int .i64 x2, .int .i64 x3, .int .i64 x4, .int .i64 x5, .int .i64 b, .int .i64 l, .int .i64 k, .int .i64 x9, .int .i64 x10, .int .i64 x11, .int .i64 x12, .int .i64 x13, .int .i64 x14, .int .i64 d, .fv (.tab [some .i64] T)])), (.w (.agg [.int .i64 v0, .int .i64 v1, .int .i64 v2])), (.w (.one (.int .i64 j)))] [false, false, false] = some (AV.tup [AW.agg [AC.int IntKind.i64 (aaz ⟨x0, x1⟩ ⟨x2, x3, x4, x5⟩ b l ⟨v0, v1, v2⟩ j), AC.int IntKind.i64 (aal ⟨x0, x1⟩ ⟨x2, x3, x4, x5⟩ b l ⟨v0, v1, v2⟩ j)], AW.one (AC.int IntKind.i64 (aae ⟨x0, x1⟩ ⟨v0, v1, v2⟩))], (pickL [(i64B x4, true), (i64B x5, true), (decide (lenT T <= 9223372036854775807), true), (niE ⟨x0, x1⟩ ⟨x2, x3, x4, x5⟩ b l k ⟨x9, x10, x11⟩ ⟨x12, x13, x14⟩ d T != 0, false), (decide (j < 0), false), (decide (j > k), false)] [0, 1, 2, 3, 4, 4, 4, 4, 4, 5, 0, 1])) := by kernel_rfl
set_option maxHeartbeats 4000000 in
theorem gAi_ok : (factSp gAi).ok Tryz.prog tbI 39 :=
 factR_ok (ctxOf_ok libJ3_ok (eq_none _)) (by kernel_rfl) Tryz.func39 rfl lps_nil fun args v cd hg hc => by
   unfold gAi at hg
   split at hg
   · rename_i x0 x1 x2 x3 x4 x5 b l k x9 x10 x11 x12 x13 x14 d T v0 v1 v2 j
     cases hg
     refine ⟨rfl, rfl, rfl, ?_⟩
     have i4 := (ca3 hc).1
     have i5 := (ca3 hc).2.1
     have iT := (ca3 hc).2.2
     cases k0 : (niE ⟨x0, x1⟩ ⟨x2, x3, x4, x5⟩ b l k ⟨x9, x10, x11⟩ ⟨x12, x13, x14⟩ d T != 0) with
     | true =>
       have V0 : (if niE ⟨x0, x1⟩ ⟨x2, x3, x4, x5⟩ b l k ⟨x9, x10, x11⟩ ⟨x12, x13, x14⟩ d T = 0 then (if 0 <= j /\ j <= k then aaz ⟨x0, x1⟩ ⟨x2, x3, x4, x5⟩ b l ⟨v0, v1, v2⟩ j else 0) else 0) = (0) := by
         rw [if_neg (by simpa using k0)]
       have V1 : (if niE ⟨x0, x1⟩ ⟨x2, x3, x4, x5⟩ b l k ⟨x9, x10, x11⟩ ⟨x12, x13, x14⟩ d T = 0 then (if 0 <= j /\ j <= k then aal ⟨x0, x1⟩ ⟨x2, x3, x4, x5⟩ b l ⟨v0, v1, v2⟩ j else 0) else 0) = (0) := by
         rw [if_neg (by simpa using k0)]
       have V2 : (if niE ⟨x0, x1⟩ ⟨x2, x3, x4, x5⟩ b l k ⟨x9, x10, x11⟩ ⟨x12, x13, x14⟩ d T = 0 then (if 0 <= j /\ j <= k then aae ⟨x0, x1⟩ ⟨v0, v1, v2⟩ else 4) else niE ⟨x0, x1⟩ ⟨x2, x3, x4, x5⟩ b l k ⟨x9, x10, x11⟩ ⟨x12, x13, x14⟩ d T) = ((niE ⟨x0, x1⟩ ⟨x2, x3, x4, x5⟩ b l k ⟨x9, x10, x11⟩ ⟨x12, x13, x14⟩ d T)) := by
         rw [if_neg (by simpa using k0)]
       refine ⟨[true], _, _, aim_1 x0 x1 x2 x3 x4 x5 b l k x9 x10 x11 x12 x13 x14 d T v0 v1 v2 j, fun E u hu => by rw [V0, V1, V2]; exact hu, pickL_ok ?_ _⟩
       repeat' (first | exact cd_nil | refine cd_cons ?_ ?_)
       all_goals first | with_reducible rfl | with_reducible assumption | rfl | exact ag_in _ _ | (refine decide_eq_true ?_; simp only [beq_iff_eq, beq_eq_false_iff_ne, ne_eq, bne_iff_ne, bne_eq_false_iff_eq, decide_eq_true_eq, decide_eq_false_iff_not, Bool.not_eq_true', Bool.not_eq_false'] at *; omega) | (simp_all; done)
     | false =>
       cases k1 : (decide (j < 0)) with
       | true =>
         have V0 : (if niE ⟨x0, x1⟩ ⟨x2, x3, x4, x5⟩ b l k ⟨x9, x10, x11⟩ ⟨x12, x13, x14⟩ d T = 0 then (if 0 <= j /\ j <= k then aaz ⟨x0, x1⟩ ⟨x2, x3, x4, x5⟩ b l ⟨v0, v1, v2⟩ j else 0) else 0) = (0) := by
           rw [if_pos (by simpa using k0)]
           rw [if_neg (by have := of_decide_eq_true k1; omega)]
         have V1 : (if niE ⟨x0, x1⟩ ⟨x2, x3, x4, x5⟩ b l k ⟨x9, x10, x11⟩ ⟨x12, x13, x14⟩ d T = 0 then (if 0 <= j /\ j <= k then aal ⟨x0, x1⟩ ⟨x2, x3, x4, x5⟩ b l ⟨v0, v1, v2⟩ j else 0) else 0) = (0) := by
           rw [if_pos (by simpa using k0)]
           rw [if_neg (by have := of_decide_eq_true k1; omega)]
         have V2 : (if niE ⟨x0, x1⟩ ⟨x2, x3, x4, x5⟩ b l k ⟨x9, x10, x11⟩ ⟨x12, x13, x14⟩ d T = 0 then (if 0 <= j /\ j <= k then aae ⟨x0, x1⟩ ⟨v0, v1, v2⟩ else 4) else niE ⟨x0, x1⟩ ⟨x2, x3, x4, x5⟩ b l k ⟨x9, x10, x11⟩ ⟨x12, x13, x14⟩ d T) = (4) := by
           rw [if_pos (by simpa using k0)]
           rw [if_neg (by have := of_decide_eq_true k1; omega)]
         refine ⟨[false, true], _, _, aim_01 x0 x1 x2 x3 x4 x5 b l k x9 x10 x11 x12 x13 x14 d T v0 v1 v2 j, fun E u hu => by rw [V0, V1, V2]; exact hu, pickL_ok ?_ _⟩
         repeat' (first | exact cd_nil | refine cd_cons ?_ ?_)
         all_goals first | with_reducible rfl | with_reducible assumption | rfl | exact ag_in _ _ | (refine decide_eq_true ?_; simp only [beq_iff_eq, beq_eq_false_iff_ne, ne_eq, bne_iff_ne, bne_eq_false_iff_eq, decide_eq_true_eq, decide_eq_false_iff_not, Bool.not_eq_true', Bool.not_eq_false'] at *; omega) | (simp_all; done)
       | false =>
         cases k2 : (decide (j > k)) with
         | true =>
           have V0 : (if niE ⟨x0, x1⟩ ⟨x2, x3, x4, x5⟩ b l k ⟨x9, x10, x11⟩ ⟨x12, x13, x14⟩ d T = 0 then (if 0 <= j /\ j <= k then aaz ⟨x0, x1⟩ ⟨x2, x3, x4, x5⟩ b l ⟨v0, v1, v2⟩ j else 0) else 0) = (0) := by
             rw [if_pos (by simpa using k0)]
             rw [if_neg (by have := of_decide_eq_true k2; omega)]
           have V1 : (if niE ⟨x0, x1⟩ ⟨x2, x3, x4, x5⟩ b l k ⟨x9, x10, x11⟩ ⟨x12, x13, x14⟩ d T = 0 then (if 0 <= j /\ j <= k then aal ⟨x0, x1⟩ ⟨x2, x3, x4, x5⟩ b l ⟨v0, v1, v2⟩ j else 0) else 0) = (0) := by
             rw [if_pos (by simpa using k0)]
             rw [if_neg (by have := of_decide_eq_true k2; omega)]
           have V2 : (if niE ⟨x0, x1⟩ ⟨x2, x3, x4, x5⟩ b l k ⟨x9, x10, x11⟩ ⟨x12, x13, x14⟩ d T = 0 then (if 0 <= j /\ j <= k then aae ⟨x0, x1⟩ ⟨v0, v1, v2⟩ else 4) else niE ⟨x0, x1⟩ ⟨x2, x3, x4, x5⟩ b l k ⟨x9, x10, x11⟩ ⟨x12, x13, x14⟩ d T) = (4) := by
             rw [if_pos (by simpa using k0)]
             rw [if_neg (by have := of_decide_eq_true k2; omega)]
           refine ⟨[false, false, true], _, _, aim_001 x0 x1 x2 x3 x4 x5 b l k x9 x10 x11 x12 x13 x14 d T v0 v1 v2 j, fun E u hu => by rw [V0, V1, V2]; exact hu, pickL_ok ?_ _⟩
           repeat' (first | exact cd_nil | refine cd_cons ?_ ?_)
           all_goals first | with_reducible rfl | with_reducible assumption | rfl | exact ag_in _ _ | (refine decide_eq_true ?_; simp only [beq_iff_eq, beq_eq_false_iff_ne, ne_eq, bne_iff_ne, bne_eq_false_iff_eq, decide_eq_true_eq, decide_eq_false_iff_not, Bool.not_eq_true', Bool.not_eq_false'] at *; omega) | (simp_all; done)
         | false =>
           have V0 : (if niE ⟨x0, x1⟩ ⟨x2, x3, x4, x5⟩ b l k ⟨x9, x10, x11⟩ ⟨x12, x13, x14⟩ d T = 0 then (if 0 <= j /\ j <= k then aaz ⟨x0, x1⟩ ⟨x2, x3, x4, x5⟩ b l ⟨v0, v1, v2⟩ j else 0) else 0) = ((aaz ⟨x0, x1⟩ ⟨x2, x3, x4, x5⟩ b l ⟨v0, v1, v2⟩ j)) := by
             rw [if_pos (by simpa using k0)]
             rw [if_pos (by have h1 := of_decide_eq_false k1; have h2 := of_decide_eq_false k2; omega)]
           have V1 : (if niE ⟨x0, x1⟩ ⟨x2, x3, x4, x5⟩ b l k ⟨x9, x10, x11⟩ ⟨x12, x13, x14⟩ d T = 0 then (if 0 <= j /\ j <= k then aal ⟨x0, x1⟩ ⟨x2, x3, x4, x5⟩ b l ⟨v0, v1, v2⟩ j else 0) else 0) = ((aal ⟨x0, x1⟩ ⟨x2, x3, x4, x5⟩ b l ⟨v0, v1, v2⟩ j)) := by
             rw [if_pos (by simpa using k0)]
             rw [if_pos (by have h1 := of_decide_eq_false k1; have h2 := of_decide_eq_false k2; omega)]
           have V2 : (if niE ⟨x0, x1⟩ ⟨x2, x3, x4, x5⟩ b l k ⟨x9, x10, x11⟩ ⟨x12, x13, x14⟩ d T = 0 then (if 0 <= j /\ j <= k then aae ⟨x0, x1⟩ ⟨v0, v1, v2⟩ else 4) else niE ⟨x0, x1⟩ ⟨x2, x3, x4, x5⟩ b l k ⟨x9, x10, x11⟩ ⟨x12, x13, x14⟩ d T) = ((aae ⟨x0, x1⟩ ⟨v0, v1, v2⟩)) := by
             rw [if_pos (by simpa using k0)]
             rw [if_pos (by have h1 := of_decide_eq_false k1; have h2 := of_decide_eq_false k2; omega)]
           refine ⟨[false, false, false], _, _, aim_000 x0 x1 x2 x3 x4 x5 b l k x9 x10 x11 x12 x13 x14 d T v0 v1 v2 j, fun E u hu => by rw [V0, V1, V2]; exact hu, pickL_ok ?_ _⟩
           repeat' (first | exact cd_nil | refine cd_cons ?_ ?_)
           all_goals first | with_reducible rfl | with_reducible assumption | rfl | exact ag_in _ _ | (refine decide_eq_true ?_; simp only [beq_iff_eq, beq_eq_false_iff_ne, ne_eq, bne_iff_ne, bne_eq_false_iff_eq, decide_eq_true_eq, decide_eq_false_iff_not, Bool.not_eq_true', Bool.not_eq_false'] at *; omega) | (simp_all; done)
   · cases hg
end
end Go.Proofs.YtmhhdedekblbnaaGreat.AtSl
