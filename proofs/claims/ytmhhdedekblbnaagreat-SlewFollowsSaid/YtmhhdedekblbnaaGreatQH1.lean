/-
 Directions, sites: sphere.Check and Grow, horizon.CheckSite, and what the reference says of them, as functions.
 Conditions: those of each theorem.
-/
import Derived.Test.YtmhhdedekblbnaaGreatQNS
set_option maxRecDepth 100000
set_option linter.unusedVariables false
set_option linter.unusedSimpArgs false
namespace Go.Proofs.YtmhhdedekblbnaaGreat.AtHz
open Go.RowKit Ev Wd
open Go.Proofs.YtmhhdedekblbnaaGreat
variable {F : Type}
noncomputable section

structure V3 where
 x : Int
 y : Int
 z : Int
abbrev v3V (v : V3) : Value := .agg #[.int .i64 v.x, .int .i64 v.y, .int .i64 v.z]
abbrev v3A (v : V3) : AV F := .w (.agg [.int .i64 v.x, .int .i64 v.y, .int .i64 v.z])
def dV3 : Dec F V3 where
 dec := fun x => match x with
   | .w (.agg [.int .i64 x, .int .i64 y, .int .i64 z]) => some ⟨x, y, z⟩
   | _ => none
 enc := v3V
 ok := fun x a h => by
   split at h
   · cases h; rfl
   · cases h
structure Si where
 lat : Int
 lon : Int
abbrev siV (v : Si) : Value := .agg #[.int .i64 v.lat, .int .i64 v.lon]
abbrev siA (v : Si) : AV F := .w (.agg [.int .i64 v.lat, .int .i64 v.lon])
def inL (n l : Int) : Bool := decide (-l <= n) && decide (n <= l)
def inC (v : V3) : Bool := inL v.x 1048576 && (inL v.y 1048576 && inL v.z 1048576)
def zeC (v : V3) : Bool := v.x == 0 && (v.y == 0 && v.z == 0)
def inQ (a : Int) : Bool := inL a 1073741824
def vE (v : V3) : Int := if inC v = true then (if zeC v = true then 8 else 0) else 4
abbrev liB (l : Int) : Bool := decide (0 <= l) && decide (l <= 1152921504606846976)
abbrev inS : FnSp F := sp2 (dInt .i64) (dInt .i64) (fun n l => aBool (inL n l)) (fun _ l => [(liB l, true)])
abbrev vES : FnSp F := sp1 dV3 (fun v => aInt .i64 (vE v)) (fun _ => [])
theorem v64 {x : Int} (h1 : -9223372036854775808 <= x) (h2 : x <= 9223372036854775807) : IntKind.i64.wrap x = x := by rw [IntKind.wrap_i64]; omega
theorem c1' {a : Bool} (h : ∀ p ∈ [(a, true)], p.1 = p.2) : a = true := h (a, true) (by simp)
theorem inL_iff {n l : Int} : inL n l = true ↔ -l <= n /\ n <= l := by unfold inL; simp
theorem inC_iff {v : V3} : inC v = true ↔ (-1048576 <= v.x /\ v.x <= 1048576) /\ (-1048576 <= v.y /\ v.y <= 1048576) /\ -1048576 <= v.z /\ v.z <= 1048576 := by unfold inC; simp [inL_iff]
theorem zeC_iff {v : V3} : zeC v = true ↔ v.x = 0 /\ v.y = 0 /\ v.z = 0 := by unfold zeC; simp
theorem vE_iff {v : V3} : vE v = 0 ↔ ((-1048576 <= v.x /\ v.x <= 1048576) /\ (-1048576 <= v.y /\ v.y <= 1048576) /\ -1048576 <= v.z /\ v.z <= 1048576) /\ ¬ (v.x = 0 /\ v.y = 0 /\ v.z = 0) := by
 unfold vE
 by_cases h1 : inC v = true
 · rw [if_pos h1]
   by_cases h2 : zeC v = true
   · rw [if_pos h2]; rw [inC_iff] at h1; rw [zeC_iff] at h2; omega
   · rw [if_neg h2]; rw [inC_iff] at h1; rw [zeC_iff] at h2; exact ⟨fun _ => ⟨h1, h2⟩, fun _ => rfl⟩
 · rw [if_neg h1]; rw [inC_iff] at h1; omega
def sE (s : Si) : Int := if (inQ s.lat && (decide (0 <= s.lon) && decide (s.lon < 4294967296))) = true then 0 else 4
theorem sE_iff {s : Si} : sE s = 0 ↔ (-1073741824 <= s.lat /\ s.lat <= 1073741824) /\ 0 <= s.lon /\ s.lon < 4294967296 := by
 unfold sE
 by_cases h : (inQ s.lat && (decide (0 <= s.lon) && decide (s.lon < 4294967296))) = true
 · rw [if_pos h]; simp only [Bool.and_eq_true, decide_eq_true_eq, inQ, inL_iff] at h; omega
 · rw [if_neg h]; simp only [Bool.and_eq_true, decide_eq_true_eq, inQ, inL_iff] at h; omega
theorem sE_or (s : Si) : sE s = 0 \/ sE s = 4 := by unfold sE; split <;> simp
theorem sE_no {s : Si} (h : ¬ ((-1073741824 <= s.lat /\ s.lat <= 1073741824) /\ 0 <= s.lon /\ s.lon < 4294967296)) : sE s = 4 := (sE_or s).resolve_left (fun e => h (sE_iff.1 e))
theorem inr_1 (n : Int) (l : Int) : evR (ctxOf Tryz.prog noFacts (fun _ => false) []) Tryz.f113 [(.w (.one (.int .i64 n))), (.w (.one (.int .i64 l)))] [true] = some (AV.w (AW.one (AC.bool (decide (n <= l)))), (pickL [(decide (IntKind.i64.wrap (0 - l) <= n), true)] [0, 0, 0, 0])) := by kernel_rfl
theorem inr_0 (n : Int) (l : Int) : evR (ctxOf Tryz.prog noFacts (fun _ => false) []) Tryz.f113 [(.w (.one (.int .i64 n))), (.w (.one (.int .i64 l)))] [false] = some (AV.w (AW.one (AC.yes false)), (pickL [(decide (IntKind.i64.wrap (0 - l) <= n), false)] [0, 0, 0, 0])) := by kernel_rfl
theorem inr_pl (n : Int) (l : Int) (hl : liB l = true) : Pl Tryz.prog 113 [.int .i64 n, .int .i64 l] (.bool (inL n l)) := fun w => by
 simp only [liB, Bool.and_eq_true, decide_eq_true_eq] at hl
 have e : IntKind.i64.wrap (0 - l) = -l := by rw [v64 (by omega) (by omega)]; omega
 cases k0 : (decide (IntKind.i64.wrap (0 - l) <= n)) with
 | true =>
   have V : (inL n l) = ((decide (n <= l))) := by
     rw [e] at k0
     unfold inL
     rw [k0]
     rfl
   rw [V]
   refine evR_calls (I := noFacts) (v := (.bool ((decide (n <= l))))) (ctxOf_ok (lib1_nil _ _) (eq_none _)) (by kernel_rfl) Tryz.func113 rfl lps_nil (inr_1 n l) rfl (all2_R (.cons rfl (.cons rfl .nil))) rfl w (Nat.zero_le _) (pickL_ok ?_ _)
   repeat' (first | exact cd_nil | refine cd_cons ?_ ?_)
   all_goals first | rfl | with_reducible assumption
 | false =>
   have V : (inL n l) = (false) := by
     rw [e] at k0
     unfold inL
     rw [k0]
     rfl
   rw [V]
   refine evR_calls (I := noFacts) (v := (.bool (false))) (ctxOf_ok (lib1_nil _ _) (eq_none _)) (by kernel_rfl) Tryz.func113 rfl lps_nil (inr_0 n l) rfl (all2_R (.cons rfl (.cons rfl .nil))) rfl w (Nat.zero_le _) (pickL_ok ?_ _)
   repeat' (first | exact cd_nil | refine cd_cons ?_ ?_)
   all_goals first | rfl | with_reducible assumption
noncomputable abbrev libH1 : List (Nat × FnSp Empty) := [(113, inS)]
theorem libH1_ok : LibOk Tryz.prog noFacts (lib1 libH1) := lib1_cons (sp2_ok fun n l hc => ⟨_, rfl, inr_pl n l (c1' hc)⟩) Tryz.call113 (lib1_nil _ _)
theorem eqV_ok : EqOk Tryz.prog (tabOf Tryz.prog) (fun t => Nat.beq t 31) := eq_of fun t ht => by
 have := Nat.eq_of_beq_eq_true ht
 subst this
 exact ⟨by kernel_rfl, by kernel_rfl, by kernel_rfl⟩
theorem vch_1 (v : V3) : evR (ctxOf Tryz.prog noFacts (fun t => Nat.beq t 31) libH1) Tryz.f62 [(v3A v)] [true] = some (AV.w (AW.one (AC.int IntKind.i64 4)), (pickL [(liB 1048576, true), (!inL v.x 1048576, true), (true, true)] [0, 1, 1, 1, 1, 1, 2, 2, 2, 2, 2, 2])) := by kernel_rfl
theorem vch_01 (v : V3) : evR (ctxOf Tryz.prog noFacts (fun t => Nat.beq t 31) libH1) Tryz.f62 [(v3A v)] [false, true] = some (AV.w (AW.one (AC.int IntKind.i64 4)), (pickL [(liB 1048576, true), (!inL v.x 1048576, false), (!inL v.y 1048576, true), (true, true)] [0, 1, 1, 1, 0, 1, 1, 2, 2, 2, 2, 2, 3])) := by kernel_rfl
theorem vch_001 (v : V3) : evR (ctxOf Tryz.prog noFacts (fun t => Nat.beq t 31) libH1) Tryz.f62 [(v3A v)] [false, false, true] = some (AV.w (AW.one (AC.int IntKind.i64 4)), (pickL [(liB 1048576, true), (!inL v.x 1048576, false), (!inL v.y 1048576, false), (!inL v.z 1048576, true)] [0, 1, 1, 1, 0, 1, 1, 2, 2, 2, 0, 2, 2, 3])) := by kernel_rfl
theorem vch_0001 (v : V3) : evR (ctxOf Tryz.prog noFacts (fun t => Nat.beq t 31) libH1) Tryz.f62 [(v3A v)] [false, false, false, true] = some (AV.w (AW.one (AC.int IntKind.i64 8)), (pickL [(liB 1048576, true), (!inL v.x 1048576, false), (!inL v.y 1048576, false), (!inL v.z 1048576, false), (v.x == 0 && (v.y == 0 && (v.z == 0 && true)), true)] [0, 1, 1, 1, 0, 1, 1, 2, 2, 2, 0, 2, 2, 3, 4])) := by kernel_rfl
theorem vch_0000 (v : V3) : evR (ctxOf Tryz.prog noFacts (fun t => Nat.beq t 31) libH1) Tryz.f62 [(v3A v)] [false, false, false, false] = some (AV.w (AW.one (AC.int IntKind.i64 0)), (pickL [(liB 1048576, true), (!inL v.x 1048576, false), (!inL v.y 1048576, false), (!inL v.z 1048576, false), (v.x == 0 && (v.y == 0 && (v.z == 0 && true)), false)] [0, 1, 1, 1, 0, 1, 1, 2, 2, 2, 0, 2, 2, 3, 4])) := by kernel_rfl
theorem vch_pl (v : V3)  : Pl Tryz.prog 62 [v3V v] (.int .i64 (vE v)) := fun w => by
 cases k0 : (!inL v.x 1048576) with
 | true =>
   have V : (vE v) = (4) := by
     unfold vE inC zeC
     simp_all
   rw [V]
   refine evR_calls (I := noFacts) (v := (.int .i64 (4))) (ctxOf_ok libH1_ok eqV_ok) (by kernel_rfl) Tryz.func62 rfl lps_nil (vch_1 v) rfl (all2_R (.cons rfl .nil)) rfl w (Nat.zero_le _) (pickL_ok ?_ _)
   repeat' (first | exact cd_nil | refine cd_cons ?_ ?_)
   all_goals first | rfl | with_reducible assumption
 | false =>
   cases k1 : (!inL v.y 1048576) with
   | true =>
     have V : (vE v) = (4) := by
       unfold vE inC zeC
       simp_all
     rw [V]
     refine evR_calls (I := noFacts) (v := (.int .i64 (4))) (ctxOf_ok libH1_ok eqV_ok) (by kernel_rfl) Tryz.func62 rfl lps_nil (vch_01 v) rfl (all2_R (.cons rfl .nil)) rfl w (Nat.zero_le _) (pickL_ok ?_ _)
     repeat' (first | exact cd_nil | refine cd_cons ?_ ?_)
     all_goals first | rfl | with_reducible assumption
   | false =>
     cases k2 : (!inL v.z 1048576) with
     | true =>
       have V : (vE v) = (4) := by
         unfold vE inC zeC
         simp_all
       rw [V]
       refine evR_calls (I := noFacts) (v := (.int .i64 (4))) (ctxOf_ok libH1_ok eqV_ok) (by kernel_rfl) Tryz.func62 rfl lps_nil (vch_001 v) rfl (all2_R (.cons rfl .nil)) rfl w (Nat.zero_le _) (pickL_ok ?_ _)
       repeat' (first | exact cd_nil | refine cd_cons ?_ ?_)
       all_goals first | rfl | with_reducible assumption
     | false =>
       cases k3 : (v.x == 0 && (v.y == 0 && (v.z == 0 && true))) with
       | true =>
         have V : (vE v) = (8) := by
           unfold vE inC zeC
           simp_all
         rw [V]
         refine evR_calls (I := noFacts) (v := (.int .i64 (8))) (ctxOf_ok libH1_ok eqV_ok) (by kernel_rfl) Tryz.func62 rfl lps_nil (vch_0001 v) rfl (all2_R (.cons rfl .nil)) rfl w (Nat.zero_le _) (pickL_ok ?_ _)
         repeat' (first | exact cd_nil | refine cd_cons ?_ ?_)
         all_goals first | rfl | with_reducible assumption
       | false =>
         have V : (vE v) = (0) := by
           unfold vE inC zeC
           simp_all
         rw [V]
         refine evR_calls (I := noFacts) (v := (.int .i64 (0))) (ctxOf_ok libH1_ok eqV_ok) (by kernel_rfl) Tryz.func62 rfl lps_nil (vch_0000 v) rfl (all2_R (.cons rfl .nil)) rfl w (Nat.zero_le _) (pickL_ok ?_ _)
         repeat' (first | exact cd_nil | refine cd_cons ?_ ?_)
         all_goals first | rfl | with_reducible assumption
theorem inq_1 (a : Int) : evR (ctxOf Tryz.prog noFacts (fun _ => false) []) Tryz.f112 [(.w (.one (.int .i64 a)))] [true] = some (AV.w (AW.one (AC.bool (decide (a <= 1073741824)))), (pickL [(decide (-1073741824 <= a), true)] [0, 0, 0])) := by kernel_rfl
theorem inq_0 (a : Int) : evR (ctxOf Tryz.prog noFacts (fun _ => false) []) Tryz.f112 [(.w (.one (.int .i64 a)))] [false] = some (AV.w (AW.one (AC.yes false)), (pickL [(decide (-1073741824 <= a), false)] [0, 0, 0])) := by kernel_rfl
theorem inq_pl (a : Int)  : Pl Tryz.prog 112 [.int .i64 a] (.bool (inQ a)) := fun w => by
 cases k0 : (decide (-1073741824 <= a)) with
 | true =>
   have V : (inQ a) = ((decide (a <= 1073741824))) := by
     unfold inQ inL
     rw [k0]
     rfl
   rw [V]
   refine evR_calls (I := noFacts) (v := (.bool ((decide (a <= 1073741824))))) (ctxOf_ok (lib1_nil _ _) (eq_none _)) (by kernel_rfl) Tryz.func112 rfl lps_nil (inq_1 a) rfl (all2_R (.cons rfl .nil)) rfl w (Nat.zero_le _) (pickL_ok ?_ _)
   repeat' (first | exact cd_nil | refine cd_cons ?_ ?_)
   all_goals first | rfl | with_reducible assumption
 | false =>
   have V : (inQ a) = (false) := by
     unfold inQ inL
     rw [k0]
     rfl
   rw [V]
   refine evR_calls (I := noFacts) (v := (.bool (false))) (ctxOf_ok (lib1_nil _ _) (eq_none _)) (by kernel_rfl) Tryz.func112 rfl lps_nil (inq_0 a) rfl (all2_R (.cons rfl .nil)) rfl w (Nat.zero_le _) (pickL_ok ?_ _)
   repeat' (first | exact cd_nil | refine cd_cons ?_ ?_)
   all_goals first | rfl | with_reducible assumption
noncomputable abbrev libH4 : List (Nat × FnSp Empty) := [(112, sp1 (dInt .i64) (fun a => aBool (inQ a)) (fun _ => []))]
theorem libH4_ok : LibOk Tryz.prog noFacts (lib1 libH4) := lib1_cons (sp1_ok fun a _ => ⟨_, rfl, inq_pl a⟩) Tryz.call112 (lib1_nil _ _)
theorem site_1 (s : Si) : evR (ctxOf Tryz.prog noFacts (fun _ => false) libH4) Tryz.f61 [(siA s)] [true] = some (AV.w (AW.one (AC.int IntKind.i64 4)), (pickL [(!inQ s.lat, true), (true, true)] [0, 0, 0, 0, 1, 1, 1, 1, 1])) := by kernel_rfl
theorem site_01 (s : Si) : evR (ctxOf Tryz.prog noFacts (fun _ => false) libH4) Tryz.f61 [(siA s)] [false, true] = some (AV.w (AW.one (AC.int IntKind.i64 4)), (pickL [(!inQ s.lat, false), (decide (s.lon < 0), true), (true, true)] [0, 0, 0, 0, 1, 1, 1, 1, 2])) := by kernel_rfl
theorem site_001 (s : Si) : evR (ctxOf Tryz.prog noFacts (fun _ => false) libH4) Tryz.f61 [(siA s)] [false, false, true] = some (AV.w (AW.one (AC.int IntKind.i64 4)), (pickL [(!inQ s.lat, false), (decide (s.lon < 0), false), (decide (s.lon >= 4294967296), true)] [0, 0, 0, 0, 1, 1, 1, 1, 2])) := by kernel_rfl
theorem site_000 (s : Si) : evR (ctxOf Tryz.prog noFacts (fun _ => false) libH4) Tryz.f61 [(siA s)] [false, false, false] = some (AV.w (AW.one (AC.int IntKind.i64 0)), (pickL [(!inQ s.lat, false), (decide (s.lon < 0), false), (decide (s.lon >= 4294967296), false)] [0, 0, 0, 0, 1, 1, 1, 1, 2])) := by kernel_rfl
theorem site_pl (s : Si)  : Pl Tryz.prog 61 [siV s] (.int .i64 (sE s)) := fun w => by
 cases k0 : (!inQ s.lat) with
 | true =>
   have V : (sE s) = (4) := by
     simp only [beq_iff_eq, beq_eq_false_iff_ne, ne_eq, bne_iff_ne, bne_eq_false_iff_eq, decide_eq_true_eq, decide_eq_false_iff_not, Bool.not_eq_true', Bool.not_eq_false', inQ, inL_iff, gt_iff_lt, ge_iff_le, <- Bool.not_eq_true] at *
     exact sE_no (by omega)
   rw [V]
   refine evR_calls (I := noFacts) (v := (.int .i64 (4))) (ctxOf_ok libH4_ok (eq_none _)) (by kernel_rfl) Tryz.func61 rfl lps_nil (site_1 s) rfl (all2_R (.cons rfl .nil)) rfl w (Nat.zero_le _) (pickL_ok ?_ _)
   repeat' (first | exact cd_nil | refine cd_cons ?_ ?_)
   all_goals first | rfl | with_reducible assumption
 | false =>
   cases k1 : (decide (s.lon < 0)) with
   | true =>
     have V : (sE s) = (4) := by
       simp only [beq_iff_eq, beq_eq_false_iff_ne, ne_eq, bne_iff_ne, bne_eq_false_iff_eq, decide_eq_true_eq, decide_eq_false_iff_not, Bool.not_eq_true', Bool.not_eq_false', inQ, inL_iff, gt_iff_lt, ge_iff_le, <- Bool.not_eq_true] at *
       exact sE_no (by omega)
     rw [V]
     refine evR_calls (I := noFacts) (v := (.int .i64 (4))) (ctxOf_ok libH4_ok (eq_none _)) (by kernel_rfl) Tryz.func61 rfl lps_nil (site_01 s) rfl (all2_R (.cons rfl .nil)) rfl w (Nat.zero_le _) (pickL_ok ?_ _)
     repeat' (first | exact cd_nil | refine cd_cons ?_ ?_)
     all_goals first | rfl | with_reducible assumption
   | false =>
     cases k2 : (decide (s.lon >= 4294967296)) with
     | true =>
       have V : (sE s) = (4) := by
         simp only [beq_iff_eq, beq_eq_false_iff_ne, ne_eq, bne_iff_ne, bne_eq_false_iff_eq, decide_eq_true_eq, decide_eq_false_iff_not, Bool.not_eq_true', Bool.not_eq_false', inQ, inL_iff, gt_iff_lt, ge_iff_le, <- Bool.not_eq_true] at *
         exact sE_no (by omega)
       rw [V]
       refine evR_calls (I := noFacts) (v := (.int .i64 (4))) (ctxOf_ok libH4_ok (eq_none _)) (by kernel_rfl) Tryz.func61 rfl lps_nil (site_001 s) rfl (all2_R (.cons rfl .nil)) rfl w (Nat.zero_le _) (pickL_ok ?_ _)
       repeat' (first | exact cd_nil | refine cd_cons ?_ ?_)
       all_goals first | rfl | with_reducible assumption
     | false =>
       have V : (sE s) = (0) := by
         simp only [beq_iff_eq, beq_eq_false_iff_ne, ne_eq, bne_iff_ne, bne_eq_false_iff_eq, decide_eq_true_eq, decide_eq_false_iff_not, Bool.not_eq_true', Bool.not_eq_false', inQ, inL_iff, gt_iff_lt, ge_iff_le, <- Bool.not_eq_true] at *
         exact sE_iff.2 (by omega)
       rw [V]
       refine evR_calls (I := noFacts) (v := (.int .i64 (0))) (ctxOf_ok libH4_ok (eq_none _)) (by kernel_rfl) Tryz.func61 rfl lps_nil (site_000 s) rfl (all2_R (.cons rfl .nil)) rfl w (Nat.zero_le _) (pickL_ok ?_ _)
       repeat' (first | exact cd_nil | refine cd_cons ?_ ?_)
       all_goals first | rfl | with_reducible assumption
noncomputable abbrev libH2 : List (Nat × FnSp Empty) := [(62, vES)]
theorem libH2_ok : LibOk Tryz.prog noFacts (lib1 libH2) := lib1_cons (sp1_ok fun v _ => ⟨_, rfl, vch_pl v⟩) Tryz.call62 (lib1_nil _ _)
def gk : Nat -> V3 -> Int -> Int
 | 0, _, k => k
 | n + 1, v, k => if vE ⟨v.x * k * 2, v.y * k * 2, v.z * k * 2⟩ = 0 then gk n v (k * 2) else k
def grV (v : V3) : V3 := if vE v = 0 then ⟨v.x * gk 21 v 1, v.y * gk 21 v 1, v.z * gk 21 v 1⟩ else ⟨0, 0, 0⟩
theorem big_in {x y z k : Int} (hk : 0 <= k) (h : vE ⟨x * k, y * k, z * k⟩ = 0) : k <= 1048576 := by
 rw [vE_iff] at h
 obtain ⟨⟨h1, h2, h3⟩, h4⟩ := h
 simp only at h1 h2 h3 h4
 have key : ∀ x : Int, x ≠ 0 -> -1048576 <= x * k /\ x * k <= 1048576 -> k <= 1048576 := fun x hx hb => by
   rcases Int.lt_or_gt_of_ne hx with hn | hp
   · have := Int.mul_le_mul_of_nonneg_right (show x <= -1 by omega) hk; omega
   · have := Int.mul_le_mul_of_nonneg_right (show 1 <= x by omega) hk; omega
 by_cases a : x = 0
 · by_cases b : y = 0
   · refine key z (fun c => h4 ?_) h3
     rw [a, b, c]; simp
   · exact key y b h2
 · exact key x a h1
theorem gw_1 (x : Int) (y : Int) (z : Int) (a : Int) (b : Int) (c : Int) (rest : List (Nat × AV Empty)) : evView (ctxOf Tryz.prog noFacts (fun _ => false) libH2) 23 (false :: [false, true, true]) (loopAt (bodyOf Tryz.f64) [false, true, true]) ([] ++ (ptrN 0 [1, 2] ++ rest)) [⟨31, [.int .i64 x, .int .i64 y, .int .i64 z]⟩, ⟨31, [.int .i64 a, .int .i64 b, .int .i64 c]⟩] 2 [1, 2] [true] = some ((Ex.ret, [AV.w (AW.one (AC.ptr 0 0)), AV.w (AW.one (AC.ptr 1 0))], [{ ty := 31, cs := [AC.int IntKind.i64 x, AC.int IntKind.i64 y, AC.int IntKind.i64 z] }, { ty := 31, cs := [AC.int IntKind.i64 x, AC.int IntKind.i64 y, AC.int IntKind.i64 z] }]), (pickL [(vE { x := IntKind.i64.wrap (2 * x), y := IntKind.i64.wrap (2 * y), z := IntKind.i64.wrap (2 * z) } != 0, true)] [0])) := by kernel_rfl
theorem gw_0 (x : Int) (y : Int) (z : Int) (a : Int) (b : Int) (c : Int) (rest : List (Nat × AV Empty)) : evView (ctxOf Tryz.prog noFacts (fun _ => false) libH2) 23 (false :: [false, true, true]) (loopAt (bodyOf Tryz.f64) [false, true, true]) ([] ++ (ptrN 0 [1, 2] ++ rest)) [⟨31, [.int .i64 x, .int .i64 y, .int .i64 z]⟩, ⟨31, [.int .i64 a, .int .i64 b, .int .i64 c]⟩] 2 [1, 2] [false] = some ((Ex.normal, [AV.w (AW.one (AC.ptr 0 0)), AV.w (AW.one (AC.ptr 1 0))], [{ ty := 31, cs := [AC.int IntKind.i64 (IntKind.i64.wrap (2 * x)), AC.int IntKind.i64 (IntKind.i64.wrap (2 * y)), AC.int IntKind.i64 (IntKind.i64.wrap (2 * z))] }, { ty := 31, cs := [AC.int IntKind.i64 a, AC.int IntKind.i64 b, AC.int IntKind.i64 c] }]), (pickL [(vE { x := IntKind.i64.wrap (2 * x), y := IntKind.i64.wrap (2 * y), z := IntKind.i64.wrap (2 * z) } != 0, false)] [0])) := by kernel_rfl
structure gwT where
 x : Int
 y : Int
 z : Int
 a : Int
 b : Int
 c : Int
def gwP (x : Int) (y : Int) (z : Int) (a : Int) (b : Int) (c : Int) : Prop := vE ⟨x, y, z⟩ = 0
instance (x : Int) (y : Int) (z : Int) (a : Int) (b : Int) (c : Int) : Decidable (gwP x y z a b c) := by unfold gwP; infer_instance
def gwTm (x : Int) (y : Int) (z : Int) (a : Int) (b : Int) (c : Int) : List (Nat × AV Empty) := []
def gwS : LpSt gwT Empty where
 ps := [1, 2]
 tm := fun t => gwTm t.x t.y t.z t.a t.b t.c
 hp := fun t => [⟨31, [.int .i64 t.x, .int .i64 t.y, .int .i64 t.z]⟩, ⟨31, [.int .i64 t.a, .int .i64 t.b, .int .i64 t.c]⟩]
def gwNx (x : Int) (y : Int) (z : Int) (a : Int) (b : Int) (c : Int) : Nxt gwT Empty := if vE ⟨2 * x, 2 * y, 2 * z⟩ = 0 then .go ⟨2 * x, 2 * y, 2 * z, a, b, c⟩ else .out .ret [] [⟨31, [.int .i64 (x), .int .i64 (y), .int .i64 (z)]⟩, ⟨31, [.int .i64 (x), .int .i64 (y), .int .i64 (z)]⟩]
def gwStep (t : gwT) : Nxt gwT Empty := if gwP t.x t.y t.z t.a t.b t.c then gwNx t.x t.y t.z t.a t.b t.c else .bad
theorem gw_go {x y z a b c : Int} (h : gwP x y z a b c) : gwStep ⟨x, y, z, a, b, c⟩ = gwNx x y z a b c := if_pos h
set_option maxHeartbeats 4000000 in
theorem gw_round (t : gwT) (hb : (gwStep t).isBad = false) (rest : List (Nat × AV Empty)) : ∃ fuel path r, evC (ctxOf Tryz.prog noFacts (fun _ => false) libH2) fuel 23 (false :: [false, true, true]) (loopAt (bodyOf Tryz.f64) [false, true, true]) (gwS.tm t ++ (ptrN 0 gwS.ps ++ rest)) (numb 0 (gwS.hp t)) 2 path = some r /\ (∀ p ∈ r.cd, p.1 = p.2) /\ Gives gwS 2 r (gwStep t) := by
 obtain ⟨x, y, z, a, b, c⟩ := t
 by_cases ok : gwP x y z a b c
 · rw [gw_go ok]
   clear hb
   unfold gwNx
   have ok' : vE ⟨x, y, z⟩ = 0 := ok
   rw [vE_iff] at ok'
   simp only at ok'
   have e1 : IntKind.i64.wrap (2 * x) = 2 * x := v64 (by omega) (by omega)
   have e2 : IntKind.i64.wrap (2 * y) = 2 * y := v64 (by omega) (by omega)
   have e3 : IntKind.i64.wrap (2 * z) = 2 * z := v64 (by omega) (by omega)
   by_cases hk : vE ⟨2 * x, 2 * y, 2 * z⟩ = 0
   · have c1 : (vE ⟨2 * x, 2 * y, 2 * z⟩ != 0) = false := by rw [hk]; rfl
     rw [if_pos hk]
     have L := gw_0 x y z a b c rest
     rw [e1, e2, e3] at L
     refine round_go L (pickL_ok ?_ _) rfl rfl rfl rfl
     repeat' (first | exact cd_nil | refine cd_cons ?_ ?_)
     all_goals first | rfl | with_reducible assumption
   · have c1 : (vE ⟨2 * x, 2 * y, 2 * z⟩ != 0) = true := by simpa using hk
     rw [if_neg hk]
     have L := gw_1 x y z a b c rest
     rw [e1, e2, e3] at L
     refine round_out L rfl (pickL_ok ?_ _) rfl rfl rfl
     repeat' (first | exact cd_nil | refine cd_cons ?_ ?_)
     all_goals first | rfl | with_reducible assumption
 · exfalso
   have : gwStep ⟨x, y, z, a, b, c⟩ = .bad := if_neg ok
   rw [this] at hb; cases hb
theorem gw_runs {v : V3} {a b c : Int} : ∀ (n : Nat) (k : Int), 1 <= k -> 1048576 < 2 ^ n * k -> vE ⟨v.x * k, v.y * k, v.z * k⟩ = 0 -> ∃ m, runs gwStep m ⟨v.x * k, v.y * k, v.z * k, a, b, c⟩ = some (.ret, [], [⟨31, [.int .i64 (v.x * gk n v k), .int .i64 (v.y * gk n v k), .int .i64 (v.z * gk n v k)]⟩, ⟨31, [.int .i64 (v.x * gk n v k), .int .i64 (v.y * gk n v k), .int .i64 (v.z * gk n v k)]⟩])
 | 0, k, hk, hn, h => by
   have := big_in (by omega) h
   omega
 | n + 1, k, hk, hn, h => by
   have d : ∀ x : Int, 2 * (x * k) = x * k * 2 := fun x => Int.mul_comm _ _
   have d2 : ∀ x : Int, x * k * 2 = x * (k * 2) := fun x => Int.mul_assoc _ _ _
   by_cases g : vE ⟨v.x * k * 2, v.y * k * 2, v.z * k * 2⟩ = 0
   · have e : gk (n + 1) v k = gk n v (k * 2) := by rw [gk, if_pos g]
     have g' := g
     rw [d2, d2, d2] at g'
     obtain ⟨m, hm⟩ := gw_runs n (k * 2) (by omega) (by rw [Int.pow_succ] at hn; rw [Int.mul_comm k 2, <- Int.mul_assoc]; exact hn) g'
     refine ⟨m + 1, ?_⟩
     rw [runs, gw_go h]
     unfold gwNx
     rw [d, d, d, if_pos g, d2, d2, d2, e]
     exact hm
   · have e : gk (n + 1) v k = k := by rw [gk, if_neg g]
     refine ⟨1, ?_⟩
     rw [runs, gw_go h]
     unfold gwNx
     rw [d, d, d, if_neg g, e]
def gwD : LpDef gwT Empty where
 ts := []
 ps := [1, 2]
 W := [1, 2, 3, 8, 9, 10, 11, 12, 13, 14, 15, 16, 17, 18, 19, 20, 21, 22]
 dec := fun vs ks => match vs, ks with
   | [], [⟨31, [.int .i64 x, .int .i64 y, .int .i64 z]⟩, ⟨31, [.int .i64 a, .int .i64 b, .int .i64 c]⟩] => some ⟨x, y, z, a, b, c⟩
   | _, _ => none
 spec := fun t => some (.ret, [], [⟨31, [.int .i64 ((grV ⟨t.x, t.y, t.z⟩).x), .int .i64 ((grV ⟨t.x, t.y, t.z⟩).y), .int .i64 ((grV ⟨t.x, t.y, t.z⟩).z)]⟩, ⟨31, [.int .i64 ((grV ⟨t.x, t.y, t.z⟩).x), .int .i64 ((grV ⟨t.x, t.y, t.z⟩).y), .int .i64 ((grV ⟨t.x, t.y, t.z⟩).z)]⟩], [(decide (vE ⟨t.x, t.y, t.z⟩ = 0), true)])
theorem gwD_ok (x : Code) (hx : codeAt (bodyOf Tryz.f64) [false, true, true] = some (.loop x)) : LpOk Tryz.prog noFacts 23 x (gwD.sp (fun _ => true)) := by
 obtain rfl := loopAt_eq hx
 refine lp_ok (c := ctxOf Tryz.prog noFacts (fun _ => false) libH2) (ctxOf_ok libH2_ok (eq_none _)) (by kernel_rfl) hx lps_nil (S := gwS) (step := gwStep) (fun _ _ => rfl) (by kernel_rfl) (by kernel_rfl) ?_ rfl (fun t e he => ?_) (fun t hb rest => gw_round t hb rest) ?_
 · intro vs ks s hv1 h hv2
   simp only [gwD] at h
   split at h
   · cases h
     exact ⟨rfl, fun e he => he⟩
   · cases h
 · cases he
 · intro s ex outs wb cd h hc
   obtain ⟨x, y, z, a, b, c⟩ := s
   simp only [gwD] at h
   cases h
   have h := of_decide_eq_true (c1' hc)
   obtain ⟨m, hm⟩ := gw_runs (v := ⟨x, y, z⟩) (a := a) (b := b) (c := c) 21 1 (by omega) (by omega) (by simpa using h)
   refine ⟨m, ?_⟩
   simp only [Int.mul_one] at hm
   unfold grV
   rw [if_pos h]
   exact hm
def grP (x : Int) (y : Int) (z : Int) (a : Int) (b : Int) (c : Int) (k : Int) : Prop := 1 <= k /\ vE ⟨x * k, y * k, z * k⟩ = 0
instance (x : Int) (y : Int) (z : Int) (a : Int) (b : Int) (c : Int) (k : Int) : Decidable (grP x y z a b c k) := by unfold grP; infer_instance
end
end Go.Proofs.YtmhhdedekblbnaaGreat.AtHz
