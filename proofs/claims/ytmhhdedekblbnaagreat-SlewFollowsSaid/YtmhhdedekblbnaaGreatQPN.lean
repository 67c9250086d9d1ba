/-
 Package prop: ranges, directions and rotations, and the loops over a night's clouds.
 Conditions: those of each theorem.
-/
import Derived.Test.YtmhhdedekblbnaaGreatQE1
import Derived.Test.YtmhhdedekblbnaaGreatQH1
import Derived.Test.YtmhhdedekblbnaaGreatQTB
set_option maxRecDepth 100000
set_option linter.unusedVariables false
set_option linter.unusedSimpArgs false
namespace Go.Proofs.YtmhhdedekblbnaaGreat.AtPr
open Go.RowKit Ev Wd AtRt AtHz
open Go.Proofs.YtmhhdedekblbnaaGreat
variable {F : Type}
noncomputable section

def dSi : Dec F Si where
 dec := fun x => match x with
   | .w (.agg [.int .i64 a, .int .i64 b]) => some ⟨a, b⟩
   | _ => none
 enc := siV
 ok := fun x a h => by
   split at h
   · cases h; rfl
   · cases h
def inR (x lo hi : Int) : Bool := decide (lo <= x) && decide (x <= hi)
def spE (r : Rt) : Int := if rtE r = 0 then (if r.d <= r.n /\ r.n <= 100 * r.d then 0 else 4) else rtE r
def gr4 (r : List Int) : Bool := inR (r.getD 0 0) 0 4
def clE (k : Int) (T : List (List Int)) : Int := if lenT T = k then (if T.all gr4 = true then 0 else 4) else 3
def niE (s : Si) (r : Rt) (b l k : Int) (u m : V3) (d : Int) (T : List (List Int)) : Int :=
 if (inR k 1 64 && (inR l 60000 1800000 && inR b (-8796093022208) 8796093022208)) = true then (if sE s = 0 then (if spE r = 0 then (if vE u = 0 /\ vE m = 0 then (if inR d (-1073741824) 0 = true then clE k T else 4) else 3) else spE r) else 4) else 4
def gCl : List (AV Tb) -> Option (AV Tb × List (Bool × Bool))
 | [.w (.agg [.int .i64 x0, .int .i64 x1, .int .i64 x2, .int .i64 x3, .int .i64 x4, .int .i64 x5, .int .i64 b, .int .i64 l, .int .i64 k, .int .i64 x9, .int .i64 x10, .int .i64 x11, .int .i64 x12, .int .i64 x13, .int .i64 x14, .int .i64 d, .fv (.tab [some .i64] T)])] => some (.w (.one (.int .i64 (clE k T))), [(decide (lenT T <= 9223372036854775807), true)])
 | _ => none
def gNi : List (AV Tb) -> Option (AV Tb × List (Bool × Bool))
 | [.w (.agg [.int .i64 x0, .int .i64 x1, .int .i64 x2, .int .i64 x3, .int .i64 x4, .int .i64 x5, .int .i64 b, .int .i64 l, .int .i64 k, .int .i64 x9, .int .i64 x10, .int .i64 x11, .int .i64 x12, .int .i64 x13, .int .i64 x14, .int .i64 d, .fv (.tab [some .i64] T)])] => some (.w (.one (.int .i64 (niE ⟨x0, x1⟩ ⟨x2, x3, x4, x5⟩ b l k ⟨x9, x10, x11⟩ ⟨x12, x13, x14⟩ d T))), [(i64B x4, true), (i64B x5, true), (decide (lenT T <= 9223372036854775807), true)])
 | _ => none
abbrev inRS : FnSp F := sp3 (dInt .i64) (dInt .i64) (dInt .i64) (fun x lo hi => aBool (inR x lo hi)) (fun _ _ _ => [])
abbrev siS : FnSp F := sp1 dSi (fun s => aInt .i64 (sE s)) (fun _ => [])
abbrev spS : FnSp F := sp1 dRt (fun r => aInt .i64 (spE r)) (fun r => [(i64B r.n, true), (i64B r.d, true)])
def rowT (T : List (List Int)) (i : Int) : List Int := T.getD i.toNat []
theorem cel_row (T : List (List Int)) (i : Int) (o : Nat) : cel T i o = (rowT T i).getD o 0 := rfl
theorem dropT {T : List (List Int)} {i : Nat} (h : i < T.length) : T.drop i = rowT T i :: T.drop (i + 1) := by
 rw [List.drop_eq_getElem_cons h]
 have e : T.getD i [] = T[i] := by simp [List.getD_eq_getElem?_getD, h]
 unfold rowT
 rw [Int.toNat_natCast, e]
theorem c1x {b : Bool} (h : ∀ p ∈ [(b, true)], p.1 = p.2) : b = true := h (b, true) (by simp)
theorem v64p {x : Int} (h1 : -9223372036854775808 <= x) (h2 : x <= 9223372036854775807) : IntKind.i64.wrap x = x := by rw [IntKind.wrap_i64]; omega
theorem c2p {a b : Bool} {l : List (Bool × Bool)} (h : ∀ p ∈ (a, true) :: (b, true) :: l, p.1 = p.2) : a = true /\ b = true := ⟨h (a, true) (by simp), h (b, true) (by simp)⟩
theorem c4p {a b c d : Bool} (h : ∀ p ∈ [(a, true), (b, true), (c, true), (d, true)], p.1 = p.2) : a = true /\ b = true /\ c = true /\ d = true := ⟨h (a, true) (by simp), h (b, true) (by simp), h (c, true) (by simp), h (d, true) (by simp)⟩
theorem inR_iff {x lo hi : Int} : inR x lo hi = true ↔ lo <= x /\ x <= hi := by unfold inR; simp
theorem cmp_by {n d c : Int} (h : chkQ n d = 0) (hc : chkQ c 1 = 0) : cmpQ n d c 1 = cmpI n (c * d) := by
 unfold cmpQ chk2Q
 rw [if_pos h, if_pos hc, Int.mul_one]
theorem rt_chk {r : Rt} (h : rtE r = 0) : chkQ r.n r.d = 0 := by
 unfold rtE at h
 by_cases h1 : (tmQ r.t && trB r.a) = true
 · rw [if_pos h1] at h
   by_cases h2 : chkQ r.n r.d = 0
   · exact h2
   · rw [if_neg h2] at h; exact absurd h h2
 · rw [if_neg h1] at h; omega
theorem cI_neg {a b : Int} : cmpI a b < 0 ↔ a < b := by unfold cmpI; split <;> (try split) <;> omega
theorem cI_pos {a b : Int} : cmpI a b > 0 ↔ b < a := by unfold cmpI; split <;> (try split) <;> omega
theorem sp_cmp {r : Rt} (h : rtE r = 0) : decide (cmpQ r.n r.d 1 1 < 0) = decide (r.n < r.d) /\ decide (cmpQ r.n r.d 100 1 > 0) = decide (100 * r.d < r.n) := by
 rw [cmp_by (rt_chk h) (by decide +kernel), cmp_by (rt_chk h) (by decide +kernel), Int.one_mul]
 refine ⟨decide_eq_decide.2 cI_neg, decide_eq_decide.2 cI_pos⟩
theorem sp_no {r : Rt} (h : rtE r ≠ 0) : spE r = rtE r := if_neg h
theorem sp_4 {r : Rt} (h : rtE r = 0) (h1 : r.n < r.d \/ 100 * r.d < r.n) : spE r = 4 := by
 unfold spE; rw [if_pos h, if_neg (by omega)]
theorem sp_0 {r : Rt} (h : rtE r = 0) (h1 : ¬ r.n < r.d) (h2 : ¬ 100 * r.d < r.n) : spE r = 0 := by
 unfold spE; rw [if_pos h, if_pos (by omega)]
theorem wi1_1 (x : Int) (lo : Int) (hi : Int) : evR (ctxOf Tryz.prog noFacts (fun _ => false) []) Tryz.f95 [(.w (.one (.int .i64 x))), (.w (.one (.int .i64 lo))), (.w (.one (.int .i64 hi)))] [true] = some (AV.w (AW.one (AC.bool (decide (x <= hi)))), (pickL [(decide (lo <= x), true)] [0, 0, 0, 0])) := by kernel_rfl
theorem wi1_0 (x : Int) (lo : Int) (hi : Int) : evR (ctxOf Tryz.prog noFacts (fun _ => false) []) Tryz.f95 [(.w (.one (.int .i64 x))), (.w (.one (.int .i64 lo))), (.w (.one (.int .i64 hi)))] [false] = some (AV.w (AW.one (AC.yes false)), (pickL [(decide (lo <= x), false)] [0, 0, 0, 0])) := by kernel_rfl
theorem wi1_pl (x : Int) (lo : Int) (hi : Int)  : Pl Tryz.prog 95 [.int .i64 x, .int .i64 lo, .int .i64 hi] (.bool (inR x lo hi)) := fun w => by
 cases k0 : (decide (lo <= x)) with
 | true =>
   have V : (inR x lo hi) = ((decide (x <= hi))) := by
     unfold inR
     rw [k0]
     rfl
   rw [V]
   refine evR_calls (I := noFacts) (v := .bool ((decide (x <= hi)))) (ctxOf_ok (lib1_nil _ _) (eq_none _)) (by kernel_rfl) Tryz.func95 rfl lps_nil (wi1_1 x lo hi) rfl (all2_R (.cons rfl (.cons rfl (.cons rfl .nil)))) rfl w (Nat.zero_le _) (pickL_ok ?_ _)
   repeat' (first | exact cd_nil | refine cd_cons ?_ ?_)
   all_goals first | rfl | with_reducible assumption
 | false =>
   have V : (inR x lo hi) = (false) := by
     unfold inR
     rw [k0]
     rfl
   rw [V]
   refine evR_calls (I := noFacts) (v := .bool (false)) (ctxOf_ok (lib1_nil _ _) (eq_none _)) (by kernel_rfl) Tryz.func95 rfl lps_nil (wi1_0 x lo hi) rfl (all2_R (.cons rfl (.cons rfl (.cons rfl .nil)))) rfl w (Nat.zero_le _) (pickL_ok ?_ _)
   repeat' (first | exact cd_nil | refine cd_cons ?_ ?_)
   all_goals first | rfl | with_reducible assumption
theorem wi2_1 (x : Int) (lo : Int) (hi : Int) : evR (ctxOf Tryz.prog noFacts (fun _ => false) []) Tryz.f98 [(.w (.one (.int .i64 x))), (.w (.one (.int .i64 lo))), (.w (.one (.int .i64 hi)))] [true] = some (AV.w (AW.one (AC.bool (decide (x <= hi)))), (pickL [(decide (lo <= x), true)] [0, 0, 0, 0])) := by kernel_rfl
theorem wi2_0 (x : Int) (lo : Int) (hi : Int) : evR (ctxOf Tryz.prog noFacts (fun _ => false) []) Tryz.f98 [(.w (.one (.int .i64 x))), (.w (.one (.int .i64 lo))), (.w (.one (.int .i64 hi)))] [false] = some (AV.w (AW.one (AC.yes false)), (pickL [(decide (lo <= x), false)] [0, 0, 0, 0])) := by kernel_rfl
theorem wi2_pl (x : Int) (lo : Int) (hi : Int)  : Pl Tryz.prog 98 [.int .i64 x, .int .i64 lo, .int .i64 hi] (.bool (inR x lo hi)) := fun w => by
 cases k0 : (decide (lo <= x)) with
 | true =>
   have V : (inR x lo hi) = ((decide (x <= hi))) := by
     unfold inR
     rw [k0]
     rfl
   rw [V]
   refine evR_calls (I := noFacts) (v := .bool ((decide (x <= hi)))) (ctxOf_ok (lib1_nil _ _) (eq_none _)) (by kernel_rfl) Tryz.func98 rfl lps_nil (wi2_1 x lo hi) rfl (all2_R (.cons rfl (.cons rfl (.cons rfl .nil)))) rfl w (Nat.zero_le _) (pickL_ok ?_ _)
   repeat' (first | exact cd_nil | refine cd_cons ?_ ?_)
   all_goals first | rfl | with_reducible assumption
 | false =>
   have V : (inR x lo hi) = (false) := by
     unfold inR
     rw [k0]
     rfl
   rw [V]
   refine evR_calls (I := noFacts) (v := .bool (false)) (ctxOf_ok (lib1_nil _ _) (eq_none _)) (by kernel_rfl) Tryz.func98 rfl lps_nil (wi2_0 x lo hi) rfl (all2_R (.cons rfl (.cons rfl (.cons rfl .nil)))) rfl w (Nat.zero_le _) (pickL_ok ?_ _)
   repeat' (first | exact cd_nil | refine cd_cons ?_ ?_)
   all_goals first | rfl | with_reducible assumption
theorem wi3_1 (x : Int) (lo : Int) (hi : Int) : evR (ctxOf Tryz.prog noFacts (fun _ => false) []) Tryz.f96 [(.w (.one (.int .i64 x))), (.w (.one (.int .i64 lo))), (.w (.one (.int .i64 hi)))] [true] = some (AV.w (AW.one (AC.bool (decide (x <= hi)))), (pickL [(decide (lo <= x), true)] [0, 0, 0, 0])) := by kernel_rfl
theorem wi3_0 (x : Int) (lo : Int) (hi : Int) : evR (ctxOf Tryz.prog noFacts (fun _ => false) []) Tryz.f96 [(.w (.one (.int .i64 x))), (.w (.one (.int .i64 lo))), (.w (.one (.int .i64 hi)))] [false] = some (AV.w (AW.one (AC.yes false)), (pickL [(decide (lo <= x), false)] [0, 0, 0, 0])) := by kernel_rfl
theorem wi3_pl (x : Int) (lo : Int) (hi : Int)  : Pl Tryz.prog 96 [.int .i64 x, .int .i64 lo, .int .i64 hi] (.bool (inR x lo hi)) := fun w => by
 cases k0 : (decide (lo <= x)) with
 | true =>
   have V : (inR x lo hi) = ((decide (x <= hi))) := by
     unfold inR
     rw [k0]
     rfl
   rw [V]
   refine evR_calls (I := noFacts) (v := .bool ((decide (x <= hi)))) (ctxOf_ok (lib1_nil _ _) (eq_none _)) (by kernel_rfl) Tryz.func96 rfl lps_nil (wi3_1 x lo hi) rfl (all2_R (.cons rfl (.cons rfl (.cons rfl .nil)))) rfl w (Nat.zero_le _) (pickL_ok ?_ _)
   repeat' (first | exact cd_nil | refine cd_cons ?_ ?_)
   all_goals first | rfl | with_reducible assumption
 | false =>
   have V : (inR x lo hi) = (false) := by
     unfold inR
     rw [k0]
     rfl
   rw [V]
   refine evR_calls (I := noFacts) (v := .bool (false)) (ctxOf_ok (lib1_nil _ _) (eq_none _)) (by kernel_rfl) Tryz.func96 rfl lps_nil (wi3_0 x lo hi) rfl (all2_R (.cons rfl (.cons rfl (.cons rfl .nil)))) rfl w (Nat.zero_le _) (pickL_ok ?_ _)
   repeat' (first | exact cd_nil | refine cd_cons ?_ ?_)
   all_goals first | rfl | with_reducible assumption
noncomputable abbrev libN0 : List (Nat × FnSp Empty) := [(53, rtS), (103, fcmS)]
theorem libN0_ok : LibOk Tryz.prog noFacts (lib1 libN0) := (lib1_cons (sp1_ok fun r hc => ⟨_, rfl, rte_pl r (c2p hc).1 (c2p hc).2⟩) Tryz.call53 (lib1_cons (sp2_ok fun p q hc => ⟨_, rfl, fcm_pl p.1 p.2 q.1 q.2 (c4p hc).1 (c4p hc).2.1 (c4p hc).2.2.1 (c4p hc).2.2.2⟩) Tryz.call103 (lib1_nil _ _)))
theorem csp_1 (r : Rt) : evR (ctxOf Tryz.prog noFacts (fun _ => false) libN0) Tryz.f97 [(rtA r)] [true] = some (AV.w (AW.one (AC.int IntKind.i64 (rtE r))), (pickL [(i64B r.n, true), (i64B r.d, true), (rtE r != 0, true)] [0, 1, 2])) := by kernel_rfl
theorem csp_01 (r : Rt) : evR (ctxOf Tryz.prog noFacts (fun _ => false) libN0) Tryz.f97 [(rtA r)] [false, true] = some (AV.w (AW.one (AC.int IntKind.i64 4)), (pickL [(i64B r.n, true), (i64B r.d, true), (rtE r != 0, false), (i64B 1, true), (decide (cmpQ r.n r.d 1 1 < 0), true), (true, true)] [0, 1, 2, 0, 1, 3, 3, 4, 4, 4, 4, 4, 4, 5])) := by kernel_rfl
theorem csp_001 (r : Rt) : evR (ctxOf Tryz.prog noFacts (fun _ => false) libN0) Tryz.f97 [(rtA r)] [false, false, true] = some (AV.w (AW.one (AC.int IntKind.i64 4)), (pickL [(i64B r.n, true), (i64B r.d, true), (rtE r != 0, false), (i64B 1, true), (decide (cmpQ r.n r.d 1 1 < 0), false), (i64B 100, true), (decide (cmpQ r.n r.d 100 1 > 0), true)] [0, 1, 2, 0, 1, 3, 3, 4, 4, 4, 4, 0, 1, 5, 3, 4, 4, 6])) := by kernel_rfl
theorem csp_000 (r : Rt) : evR (ctxOf Tryz.prog noFacts (fun _ => false) libN0) Tryz.f97 [(rtA r)] [false, false, false] = some (AV.w (AW.one (AC.int IntKind.i64 0)), (pickL [(i64B r.n, true), (i64B r.d, true), (rtE r != 0, false), (i64B 1, true), (decide (cmpQ r.n r.d 1 1 < 0), false), (i64B 100, true), (decide (cmpQ r.n r.d 100 1 > 0), false)] [0, 1, 2, 0, 1, 3, 3, 4, 4, 4, 4, 0, 1, 5, 3, 4, 4, 6])) := by kernel_rfl
theorem csp_pl (r : Rt) (hn : i64B r.n = true) (hd : i64B r.d = true) : Pl Tryz.prog 97 [rtV r] (.int .i64 (spE r)) := fun w => by
 cases k0 : (rtE r != 0) with
 | true =>
   have V : (spE r) = ((rtE r)) := by
     exact sp_no (by simpa using k0)
   rw [V]
   refine evR_calls (I := noFacts) (v := .int .i64 ((rtE r))) (ctxOf_ok libN0_ok (eq_none _)) (by kernel_rfl) Tryz.func97 rfl lps_nil (csp_1 r) rfl (all2_R (.cons rfl .nil)) rfl w (Nat.zero_le _) (pickL_ok ?_ _)
   repeat' (first | exact cd_nil | refine cd_cons ?_ ?_)
   all_goals first | rfl | with_reducible assumption
 | false =>
   cases k1 : (decide (cmpQ r.n r.d 1 1 < 0)) with
   | true =>
     have V : (spE r) = (4) := by
       have hr : rtE r = 0 := by simpa using k0
       have uk1 := k1
       rw [(sp_cmp hr).1] at uk1
       exact sp_4 hr (.inl (of_decide_eq_true uk1))
     rw [V]
     refine evR_calls (I := noFacts) (v := .int .i64 (4)) (ctxOf_ok libN0_ok (eq_none _)) (by kernel_rfl) Tryz.func97 rfl lps_nil (csp_01 r) rfl (all2_R (.cons rfl .nil)) rfl w (Nat.zero_le _) (pickL_ok ?_ _)
     repeat' (first | exact cd_nil | refine cd_cons ?_ ?_)
     all_goals first | rfl | with_reducible assumption
   | false =>
     cases k2 : (decide (cmpQ r.n r.d 100 1 > 0)) with
     | true =>
       have V : (spE r) = (4) := by
         have hr : rtE r = 0 := by simpa using k0
         have uk1 := k1
         rw [(sp_cmp hr).1] at uk1
         have uk2 := k2
         rw [(sp_cmp hr).2] at uk2
         exact sp_4 hr (.inr (of_decide_eq_true uk2))
       rw [V]
       refine evR_calls (I := noFacts) (v := .int .i64 (4)) (ctxOf_ok libN0_ok (eq_none _)) (by kernel_rfl) Tryz.func97 rfl lps_nil (csp_001 r) rfl (all2_R (.cons rfl .nil)) rfl w (Nat.zero_le _) (pickL_ok ?_ _)
       repeat' (first | exact cd_nil | refine cd_cons ?_ ?_)
       all_goals first | rfl | with_reducible assumption
     | false =>
       have V : (spE r) = (0) := by
         have hr : rtE r = 0 := by simpa using k0
         have uk1 := k1
         rw [(sp_cmp hr).1] at uk1
         have uk2 := k2
         rw [(sp_cmp hr).2] at uk2
         exact sp_0 hr (of_decide_eq_false uk1) (of_decide_eq_false uk2)
       rw [V]
       refine evR_calls (I := noFacts) (v := .int .i64 (0)) (ctxOf_ok libN0_ok (eq_none _)) (by kernel_rfl) Tryz.func97 rfl lps_nil (csp_000 r) rfl (all2_R (.cons rfl .nil)) rfl w (Nat.zero_le _) (pickL_ok ?_ _)
       repeat' (first | exact cd_nil | refine cd_cons ?_ ?_)
       all_goals first | rfl | with_reducible assumption
noncomputable abbrev libN1 : List (Nat × FnSp Tb) := [(95, inRS)]
theorem libN1_ok : LibOk Tryz.prog tbI (lib1 libN1) := (lib1_cons (sp3_ok fun x lo hi _ => ⟨_, rfl, wi1_pl x lo hi⟩) Tryz.call95 (lib1_nil _ _))
theorem cl_10 (T : List (List Int)) (n : Int) (i : Int) (rest : List (Nat × AV Tb)) : evView (ctxOf Tryz.prog tbI (fun _ => false) libN1) 22 (false :: [false, true, false, true, true]) (loopAt (bodyOf Tryz.f99) [false, true, false, true, true]) ([(12, (.w (.one (.fv (.tab [some .i64] T))))), (13, (.w (.one (.int .i64 n)))), (14, (.w (.one (.int .i64 i))))] ++ (ptrN 0 [] ++ rest)) [] 0 [12, 13, 14] [true, false] = some ((Ex.normal, [AV.w (AW.one (AC.fv (Tb.tab [some IntKind.i64] T))), AV.w (AW.one (AC.int IntKind.i64 n)), AV.w (AW.one (AC.int IntKind.i64 (IntKind.i64.wrap (i + 1))))], []), (pickL [(decide (i < n), true), (decide ((0 : Int) <= i), true), (decide (i < lenT T), true), (!inR (cel T i 0) 0 4, false)] [0, 1, 2, 1, 2, 3])) := by kernel_rfl
theorem cl_0 (T : List (List Int)) (n : Int) (i : Int) (rest : List (Nat × AV Tb)) : evView (ctxOf Tryz.prog tbI (fun _ => false) libN1) 22 (false :: [false, true, false, true, true]) (loopAt (bodyOf Tryz.f99) [false, true, false, true, true]) ([(12, (.w (.one (.fv (.tab [some .i64] T))))), (13, (.w (.one (.int .i64 n)))), (14, (.w (.one (.int .i64 i))))] ++ (ptrN 0 [] ++ rest)) [] 0 [12, 13, 14] [false] = some ((Ex.exit 0, [AV.w (AW.one (AC.fv (Tb.tab [some IntKind.i64] T))), AV.w (AW.one (AC.int IntKind.i64 n)), AV.w (AW.one (AC.int IntKind.i64 i))], []), (pickL [(decide (i < n), false)] [0])) := by kernel_rfl
theorem clr_11 (T : List (List Int)) (n : Int) (i : Int) (rest : List (Nat × AV Tb)) : evView (ctxOf Tryz.prog tbI (fun _ => false) libN1) 22 (false :: [false, true, false, true, true]) (loopAt (bodyOf Tryz.f99) [false, true, false, true, true]) ([(12, (.w (.one (.fv (.tab [some .i64] T))))), (13, (.w (.one (.int .i64 n)))), (14, (.w (.one (.int .i64 i))))] ++ (ptrN 0 [] ++ rest)) [] 0 [2] [true, true] = some ((Ex.ret, [AV.w (AW.one (AC.int IntKind.i64 4))], []), (pickL [(decide (i < n), true), (decide ((0 : Int) <= i), true), (decide (i < lenT T), true), (!inR (cel T i 0) 0 4, true)] [0, 1, 2, 1, 2, 3])) := by kernel_rfl
structure clT where
 T : List (List Int)
 n : Int
 i : Int
def clP (T : List (List Int)) (n : Int) (i : Int) : Prop := 0 <= i /\ i <= n /\ n = lenT T /\ n <= 9223372036854775807
instance (T : List (List Int)) (n : Int) (i : Int) : Decidable (clP T n i) := by unfold clP; infer_instance
def clTm (T : List (List Int)) (n : Int) (i : Int) : List (Nat × AV Tb) := [(12, (.w (.one (.fv (.tab [some .i64] T))))), (13, (.w (.one (.int .i64 n)))), (14, (.w (.one (.int .i64 i))))]
def clS : LpSt clT Tb where
 ps := []
 tm := fun t => clTm t.T t.n t.i
 hp := fun t => []
def clNx (T : List (List Int)) (n : Int) (i : Int) : Nxt clT Tb := if i < n then (if gr4 (rowT T i) = true then .go ⟨T, n, i + 1⟩ else .out .ret [(2, .w (.one (.int .i64 4)))] []) else .out (.exit 0) (clTm T n i) []
def clStep (t : clT) : Nxt clT Tb := if clP t.T t.n t.i then clNx t.T t.n t.i else .bad
theorem cl_go {T : List (List Int)} {n : Int} {i : Int} (h : clP T n i) : clStep ⟨T, n, i⟩ = clNx T n i := if_pos h
set_option maxHeartbeats 4000000 in
theorem cl_round (t : clT) (hb : (clStep t).isBad = false) (rest : List (Nat × AV Tb)) : ∃ fuel path r, evC (ctxOf Tryz.prog tbI (fun _ => false) libN1) fuel 22 (false :: [false, true, false, true, true]) (loopAt (bodyOf Tryz.f99) [false, true, false, true, true]) (clS.tm t ++ (ptrN 0 clS.ps ++ rest)) (numb 0 (clS.hp t)) 0 path = some r /\ (∀ p ∈ r.cd, p.1 = p.2) /\ Gives clS 0 r (clStep t) := by
 obtain ⟨T, n, i⟩ := t
 by_cases ok : clP T n i
 · rw [cl_go ok]
   clear hb
   unfold clNx
   obtain ⟨h1, h2, rfl, h4⟩ := ok
   have e0 : decide (0 <= i) = true := decide_eq_true h1
   have e1 : i < lenT T -> IntKind.i64.wrap (i + 1) = i + 1 := fun _ => v64p (by omega) (by omega)
   cases k0 : (decide (i < lenT T)) with
   | true =>
     cases k1 : (!inR (cel T i 0) 0 4) with
     | true =>
       have hE : ¬ gr4 (rowT T i) = true := by
         clear e1
         simp only [beq_iff_eq, beq_eq_false_iff_ne, ne_eq, bne_iff_ne, bne_eq_false_iff_eq, decide_eq_true_eq, decide_eq_false_iff_not, Bool.not_eq_true', Bool.not_eq_false'] at *
         simp only [cel_row] at *
         unfold gr4
         simp_all
       rw [if_pos (of_decide_eq_true k0), if_neg hE]
       have L := clr_11 T (lenT T) i rest
       refine round_out L rfl (pickL_ok ?_ _) rfl rfl rfl
       repeat' (first | exact cd_nil | refine cd_cons ?_ ?_)
       all_goals first | rfl | with_reducible assumption
     | false =>
       have hE : gr4 (rowT T i) = true := by
         clear e1
         simp only [beq_iff_eq, beq_eq_false_iff_ne, ne_eq, bne_iff_ne, bne_eq_false_iff_eq, decide_eq_true_eq, decide_eq_false_iff_not, Bool.not_eq_true', Bool.not_eq_false'] at *
         simp only [cel_row] at *
         unfold gr4
         simp_all
       rw [if_pos (of_decide_eq_true k0), if_pos hE]
       have L := cl_10 T (lenT T) i rest
       rw [e1 (of_decide_eq_true k0)] at L
       refine round_go L (pickL_ok ?_ _) rfl rfl rfl rfl
       repeat' (first | exact cd_nil | refine cd_cons ?_ ?_)
       all_goals first | rfl | with_reducible assumption
   | false =>
     rw [if_neg (of_decide_eq_false k0)]
     have L := cl_0 T (lenT T) i rest
     refine round_out L rfl (pickL_ok ?_ _) rfl rfl rfl
     repeat' (first | exact cd_nil | refine cd_cons ?_ ?_)
     all_goals first | rfl | with_reducible assumption
 · exfalso
   have : clStep ⟨T, n, i⟩ = .bad := if_neg ok
   rw [this] at hb; cases hb
theorem cl_runs {T : List (List Int)} (h : lenT T <= 9223372036854775807) : ∀ (j i : Nat), i + j = T.length -> ∃ c, runs clStep c ⟨T, lenT T, i⟩ = (if (T.drop i).all gr4 = true then some (.exit 0, clTm T (lenT T) (lenT T), []) else some (.ret, [(2, .w (.one (.int .i64 4)))], []))
 | 0, i, hi => by
   have e : (i : Int) = lenT T := by unfold lenT; omega
   refine ⟨1, ?_⟩
   rw [runs, cl_go ⟨by omega, by omega, rfl, h⟩]
   unfold clNx
   rw [if_neg (by omega), List.drop_eq_nil_of_le (by omega), e]
   rfl
 | j + 1, i, hi => by
   have hl : (i : Int) < lenT T := by unfold lenT; omega
   have d := dropT (T := T) (i := i) (by omega)
   by_cases g : gr4 (rowT T i) = true
   · obtain ⟨c, hc⟩ := cl_runs h j (i + 1) (by omega)
     refine ⟨c + 1, ?_⟩
     rw [runs, cl_go ⟨by omega, by omega, rfl, h⟩]
     unfold clNx
     rw [if_pos hl, if_pos g, d, List.all_cons, g, Bool.true_and]
     exact hc
   · refine ⟨1, ?_⟩
     rw [runs, cl_go ⟨by omega, by omega, rfl, h⟩]
     unfold clNx
     rw [if_pos hl, if_neg g, d, List.all_cons]
     simp only [g, Bool.false_and, Bool.false_eq_true, if_false]
def clD : LpDefR clT Tb where
 ts := [12, 13, 14]
 ps := []
 rs := []
 W := [2, 4, 12, 13, 14, 15, 16, 17, 18, 19, 20, 21]
 dec := fun vs tr ks => match vs, tr, ks with
   | [.w (.one (.fv (.tab [some .i64] T))), .w (.one (.int .i64 n)), .w (.one (.int .i64 i))], [], [] => some ⟨T, n, i⟩
   | _, _, _ => none
 fk := fun t => some (t.T.all gr4)
 spec := fun t β => match β with
   | true => some (.exit 0, clTm t.T t.n t.n, [], [], [(decide (t.i = 0) && decide (t.n = lenT t.T) && decide (t.n <= 9223372036854775807), true)])
   | false => some (.ret, [(2, .w (.one (.int .i64 4)))], [], [], [(decide (t.i = 0) && decide (t.n = lenT t.T) && decide (t.n <= 9223372036854775807), true)])
theorem clD_ok (x : Code) (hx : codeAt (bodyOf Tryz.f99) [false, true, false, true, true] = some (.loop x)) : LpOk Tryz.prog tbI 22 x (clD.sp (fun _ => false)) := by
 obtain rfl := loopAt_eq hx
 refine lpR_ok (c := ctxOf Tryz.prog tbI (fun _ => false) libN1) (ctxOf_ok libN1_ok (eq_none _)) (by kernel_rfl) (fun _ _ _ h => h) hx lps_nil (S := clS) (step := clStep) (fun _ h => by cases h) (by kernel_rfl) (by kernel_rfl) ?_ rfl (fun t e he => ?_) (fun t hb rest => cl_round t hb rest) ?_
 · intro vs tr ks s hv1 hv2 h hv3
   simp only [clD] at h
   split at h
   · cases h
     exact ⟨rfl, fun e he => .inl he⟩
   · cases h
 · simp only [clS, clTm, List.mem_cons, List.not_mem_nil, or_false] at he
   rcases he with rfl | rfl | rfl <;> rfl
 · intro s β ex outs rts wb cd h hfk hc
   obtain ⟨T, n, i⟩ := s
   have hβ := hfk _ rfl
   cases β with
   | true =>
     simp only [clD] at h hβ
     cases h
     have := c1x hc
     simp only [Bool.and_eq_true, decide_eq_true_eq] at this
     obtain ⟨⟨rfl, rfl⟩, h3⟩ := this
     obtain ⟨c, hc⟩ := cl_runs h3 T.length 0 (by omega)
     refine ⟨c, ?_⟩
     rw [List.drop_zero, if_pos hβ] at hc
     exact hc
   | false =>
     simp only [clD] at h hβ
     cases h
     have := c1x hc
     simp only [Bool.and_eq_true, decide_eq_true_eq] at this
     obtain ⟨⟨rfl, rfl⟩, h3⟩ := this
     obtain ⟨c, hc⟩ := cl_runs h3 T.length 0 (by omega)
     refine ⟨c, ?_⟩
     rw [List.drop_zero, if_neg (by rw [hβ]; simp)] at hc
     exact hc
def nfP (T : List (List Int)) (n : Int) (i : Int) : Prop := 0 <= i /\ i <= n /\ n = lenT T /\ n <= 9223372036854775807
instance (T : List (List Int)) (n : Int) (i : Int) : Decidable (nfP T n i) := by unfold nfP; infer_instance
end
end Go.Proofs.YtmhhdedekblbnaaGreat.AtPr
