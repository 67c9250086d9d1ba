/-
  The reference's Bounded at angles, for numbers.
  Conditions: those of each theorem.
-/
import Derived.Test.YtagbpehfieejcaaNX
import Derived.Test.YtagbpehfieejcaaT4B
set_option linter.unusedVariables false
set_option linter.unusedSimpArgs false
namespace Go.Proofs.Ytagbpehfieejcaa.AtHz
open Ev Go.RowKit Go.Shelf Zd Wd
open Go.Proofs.Ytagbpehfieejcaa
noncomputable section

def gBd : List (AV Nm) → Option (AV Nm × List (Bool × Bool))
  | [.w (.agg [.bool s, .fv (.num x)]), .w (.agg [.bool k, .fv (.num y)])] => some (bA (ofB x y), [(s == decide (x < 0), true), (k == decide (y < 0), true), (szB x, true), (szB y, true)])
  | [.w (.agg [.yes false, .lit (.slice none 0 0)]), .w (.agg [.bool k, .fv (.num y)])] => some (bA (ofB 0 y), [(k == decide (y < 0), true), (szB y, true)])
  | _ => none
noncomputable abbrev libR2 : List (Nat × FnSp Nm) := [(15, nfn nI), (58, nfn nCmp), (59, nfn nSmall)]
theorem eqB (x : Bool) : (x == x) = true := beq_self_eq_true x
theorem ofB_out {x y : Int} (h : ¬ (-1152921504606846976 ≤ x ∧ x ≤ y ∧ y ≤ 1152921504606846976)) : ofB x y = noneB := by
  unfold ofB normB
  cases k : knB ⟨x, y, false⟩ with
  | true => exact absurd (knB_iff.1 k).2 h
  | false => rfl
theorem ofB_in {x y : Int} (h1 : -1152921504606846976 ≤ x) (h2 : x ≤ y) (h3 : y ≤ 1152921504606846976) : ofB x y = ⟨x, y, false⟩ := by
  unfold ofB normB
  have k : knB ⟨x, y, false⟩ = true := knB_iff.2 ⟨rfl, h1, h2, h3⟩
  rw [k]; rfl
theorem cmp_gt (a b : Int) : decide (cmpI a b > 0) = decide (b < a) := by
  unfold cmpI
  by_cases h : a < b
  · rw [if_pos h, decide_eq_false (show ¬ b < a by omega)]; rfl
  · rw [if_neg h]
    by_cases g : b < a
    · rw [if_pos g, decide_eq_true g]; rfl
    · rw [if_neg g, decide_eq_false g]; rfl
theorem libR2_ok : LibOk Try.prog numI (lib1 libR2) := (lib1_cons nI_ok Try.call15 (lib1_cons nCmp_ok Try.call58 (lib1_cons nSmall_ok Try.call59 (lib1_nil _ _))))
theorem bd_R {E : Env Nm} {x y : Int} {b : Bool} {u : Value} (h : AV.R E (.w (.agg [.int .i64 x, .int .i64 y, .yes b])) u) : AV.R E (bA ⟨x, y, b⟩) u := by
  obtain ⟨vs, rfl, h⟩ := h
  cases h with
  | cons r1 h => cases h with
    | cons r2 h => cases h with
      | cons r3 h =>
        cases h
        exact ⟨_, rfl, .cons r1 (.cons r2 (.cons r3 .nil))⟩
theorem sm_id {a : Int} (h1 : -9223372036854775808 ≤ a) (h2 : a ≤ 9223372036854775807) : smV a = a := if_pos ⟨h1, h2⟩
theorem cmp_lt' (a b : Int) : decide (cmpI a b < 0) = decide (a < b) := by
  unfold cmpI
  by_cases h : a < b
  · rw [if_pos h, decide_eq_true h]; rfl
  · rw [if_neg h, decide_eq_false h]
    split <;> rfl
theorem i_lo : i64B (-1152921504606846976) = true := by decide
theorem i_hi : i64B 1152921504606846976 = true := by decide
set_option maxRecDepth 100000 in
theorem bdt_1 (s : Bool) (x : Int) (k : Bool) (y : Int) : evR (ctxOf Try.prog numI (fun _ => false) libR2) Try.f102 [(.w (.agg [.bool s, .fv (.num x)])), (.w (.agg [.bool k, .fv (.num y)]))] [true] = some (AV.w (AW.agg [AC.int IntKind.i64 0, AC.int IntKind.i64 0, AC.yes true]), (pickL [(i64B (-1152921504606846976), true), (s == decide (x < 0), true), (decide (-1152921504606846976 < 0) == decide (-1152921504606846976 < 0), true), (szB x, true), (szB (-1152921504606846976), true), (decide (cmpI x (-1152921504606846976) < 0), true), (true, true)] [0, 1, 2, 3, 4, 5, 5, 5, 5, 5, 6, 6, 6, 6, 6, 6])) := by kernel_rfl
set_option maxRecDepth 100000 in
theorem bdt_01 (s : Bool) (x : Int) (k : Bool) (y : Int) : evR (ctxOf Try.prog numI (fun _ => false) libR2) Try.f102 [(.w (.agg [.bool s, .fv (.num x)])), (.w (.agg [.bool k, .fv (.num y)]))] [false, true] = some (AV.w (AW.agg [AC.int IntKind.i64 0, AC.int IntKind.i64 0, AC.yes true]), (pickL [(i64B (-1152921504606846976), true), (s == decide (x < 0), true), (decide (-1152921504606846976 < 0) == decide (-1152921504606846976 < 0), true), (szB x, true), (szB (-1152921504606846976), true), (decide (cmpI x (-1152921504606846976) < 0), false), (i64B 1152921504606846976, true), (k == decide (y < 0), true), (decide (1152921504606846976 < 0) == decide (1152921504606846976 < 0), true), (szB y, true), (szB 1152921504606846976, true), (decide (cmpI y 1152921504606846976 > 0), true), (true, true)] [0, 1, 2, 3, 4, 5, 5, 6, 5, 7, 8, 9, 10, 5, 5, 11, 11, 11, 11, 11, 12])) := by kernel_rfl
set_option maxRecDepth 100000 in
theorem bdt_001 (s : Bool) (x : Int) (k : Bool) (y : Int) : evR (ctxOf Try.prog numI (fun _ => false) libR2) Try.f102 [(.w (.agg [.bool s, .fv (.num x)])), (.w (.agg [.bool k, .fv (.num y)]))] [false, false, true] = some (AV.w (AW.agg [AC.int IntKind.i64 0, AC.int IntKind.i64 0, AC.yes true]), (pickL [(i64B (-1152921504606846976), true), (s == decide (x < 0), true), (decide (-1152921504606846976 < 0) == decide (-1152921504606846976 < 0), true), (szB x, true), (szB (-1152921504606846976), true), (decide (cmpI x (-1152921504606846976) < 0), false), (i64B 1152921504606846976, true), (k == decide (y < 0), true), (decide (1152921504606846976 < 0) == decide (1152921504606846976 < 0), true), (szB y, true), (szB 1152921504606846976, true), (decide (cmpI y 1152921504606846976 > 0), false), (decide (cmpI x y > 0), true)] [0, 1, 2, 3, 4, 5, 5, 6, 5, 7, 8, 9, 10, 5, 5, 11, 11, 11, 1, 7, 3, 9, 11, 11, 12])) := by kernel_rfl
set_option maxRecDepth 100000 in
theorem bdt_000 (s : Bool) (x : Int) (k : Bool) (y : Int) : evR (ctxOf Try.prog numI (fun _ => false) libR2) Try.f102 [(.w (.agg [.bool s, .fv (.num x)])), (.w (.agg [.bool k, .fv (.num y)]))] [false, false, false] = some (AV.w (AW.agg [AC.int IntKind.i64 (smV x), AC.int IntKind.i64 (smV y), AC.yes false]), (pickL [(i64B (-1152921504606846976), true), (s == decide (x < 0), true), (decide (-1152921504606846976 < 0) == decide (-1152921504606846976 < 0), true), (szB x, true), (szB (-1152921504606846976), true), (decide (cmpI x (-1152921504606846976) < 0), false), (i64B 1152921504606846976, true), (k == decide (y < 0), true), (decide (1152921504606846976 < 0) == decide (1152921504606846976 < 0), true), (szB y, true), (szB 1152921504606846976, true), (decide (cmpI y 1152921504606846976 > 0), false), (decide (cmpI x y > 0), false)] [0, 1, 2, 3, 4, 5, 5, 6, 5, 7, 8, 9, 10, 5, 5, 11, 11, 11, 1, 7, 3, 9, 11, 11, 12, 1, 3, 7, 9])) := by kernel_rfl
set_option maxRecDepth 100000 in
theorem bdz_1 (k : Bool) (y : Int) : evR (ctxOf Try.prog numI (fun _ => false) libR2) Try.f102 [(.w (.agg [.yes false, .lit (.slice none 0 0)])), (.w (.agg [.bool k, .fv (.num y)]))] [true] = some (AV.w (AW.agg [AC.int IntKind.i64 0, AC.int IntKind.i64 0, AC.yes true]), (pickL [(i64B (-1152921504606846976), true), (decide (-1152921504606846976 < 0) == decide (-1152921504606846976 < 0), true), (szB 0, true), (szB (-1152921504606846976), true), (decide (cmpI 0 (-1152921504606846976) < 0), true), (true, true)] [0, 1, 2, 3, 4, 4, 4, 4, 4, 5, 5, 5, 5, 5, 5])) := by kernel_rfl
set_option maxRecDepth 100000 in
theorem bdz_01 (k : Bool) (y : Int) : evR (ctxOf Try.prog numI (fun _ => false) libR2) Try.f102 [(.w (.agg [.yes false, .lit (.slice none 0 0)])), (.w (.agg [.bool k, .fv (.num y)]))] [false, true] = some (AV.w (AW.agg [AC.int IntKind.i64 0, AC.int IntKind.i64 0, AC.yes true]), (pickL [(i64B (-1152921504606846976), true), (decide (-1152921504606846976 < 0) == decide (-1152921504606846976 < 0), true), (szB 0, true), (szB (-1152921504606846976), true), (decide (cmpI 0 (-1152921504606846976) < 0), false), (i64B 1152921504606846976, true), (k == decide (y < 0), true), (decide (1152921504606846976 < 0) == decide (1152921504606846976 < 0), true), (szB y, true), (szB 1152921504606846976, true), (decide (cmpI y 1152921504606846976 > 0), true), (true, true)] [0, 1, 2, 3, 4, 4, 5, 4, 6, 7, 8, 9, 4, 4, 10, 10, 10, 10, 10, 11])) := by kernel_rfl
set_option maxRecDepth 100000 in
theorem bdz_001 (k : Bool) (y : Int) : evR (ctxOf Try.prog numI (fun _ => false) libR2) Try.f102 [(.w (.agg [.yes false, .lit (.slice none 0 0)])), (.w (.agg [.bool k, .fv (.num y)]))] [false, false, true] = some (AV.w (AW.agg [AC.int IntKind.i64 0, AC.int IntKind.i64 0, AC.yes true]), (pickL [(i64B (-1152921504606846976), true), (decide (-1152921504606846976 < 0) == decide (-1152921504606846976 < 0), true), (szB 0, true), (szB (-1152921504606846976), true), (decide (cmpI 0 (-1152921504606846976) < 0), false), (i64B 1152921504606846976, true), (k == decide (y < 0), true), (decide (1152921504606846976 < 0) == decide (1152921504606846976 < 0), true), (szB y, true), (szB 1152921504606846976, true), (decide (cmpI y 1152921504606846976 > 0), false), (decide (cmpI 0 y > 0), true)] [0, 1, 2, 3, 4, 4, 5, 4, 6, 7, 8, 9, 4, 4, 10, 10, 10, 6, 2, 8, 10, 10, 11])) := by kernel_rfl
set_option maxRecDepth 100000 in
theorem bdz_000 (k : Bool) (y : Int) : evR (ctxOf Try.prog numI (fun _ => false) libR2) Try.f102 [(.w (.agg [.yes false, .lit (.slice none 0 0)])), (.w (.agg [.bool k, .fv (.num y)]))] [false, false, false] = some (AV.w (AW.agg [AC.int IntKind.i64 (smV 0), AC.int IntKind.i64 (smV y), AC.yes false]), (pickL [(i64B (-1152921504606846976), true), (decide (-1152921504606846976 < 0) == decide (-1152921504606846976 < 0), true), (szB 0, true), (szB (-1152921504606846976), true), (decide (cmpI 0 (-1152921504606846976) < 0), false), (i64B 1152921504606846976, true), (k == decide (y < 0), true), (decide (1152921504606846976 < 0) == decide (1152921504606846976 < 0), true), (szB y, true), (szB 1152921504606846976, true), (decide (cmpI y 1152921504606846976 > 0), false), (decide (cmpI 0 y > 0), false)] [0, 1, 2, 3, 4, 4, 5, 4, 6, 7, 8, 9, 4, 4, 10, 10, 10, 6, 2, 8, 10, 10, 11, 2, 6, 8])) := by kernel_rfl
theorem bdt_ok : (factSp gBd).ok Try.prog numI 102 :=
  factR_ok (ctxOf_ok libR2_ok (eq_none _)) (by kernel_rfl) Try.func102 rfl lps_nil fun args v cd hg hc => by
    unfold gBd at hg
    split at hg
    · rename_i s x k y
      cases hg
      have h1 : (s == decide (x < 0)) = true := hc (s == decide (x < 0), true) (by simp)
      have h2 : (k == decide (y < 0)) = true := hc (k == decide (y < 0), true) (by simp)
      have h3 : szB x = true := hc (szB x, true) (by simp)
      have h4 : szB y = true := hc (szB y, true) (by simp)
      by_cases g1 : x < -1152921504606846976
      · have c1 : decide (cmpI x (-1152921504606846976) < 0) = true := by rw [cmp_lt']; exact decide_eq_true g1
        refine ⟨rfl, rfl, rfl, [true], _, _, bdt_1 s x k y, fun E u hu => by rw [ofB_out (x := x) (y := y) (by omega)]; exact bd_R (x := 0) (y := 0) (b := true) hu, pickL_ok ?_ _⟩
        repeat' (first | exact cd_nil | refine cd_cons ?_ ?_)
        all_goals first | rfl | with_reducible assumption | exact eqB _ | exact i_lo | exact i_hi | exact (Dl.i64 i_lo).sz (by omega) | exact (Dl.i64 i_hi).sz (by omega)
      have c1 : decide (cmpI x (-1152921504606846976) < 0) = false := by rw [cmp_lt']; exact decide_eq_false g1
      by_cases g2 : 1152921504606846976 < y
      · have c2 : decide (cmpI y 1152921504606846976 > 0) = true := by rw [cmp_gt]; exact decide_eq_true g2
        refine ⟨rfl, rfl, rfl, [false, true], _, _, bdt_01 s x k y, fun E u hu => by rw [ofB_out (x := x) (y := y) (by omega)]; exact bd_R (x := 0) (y := 0) (b := true) hu, pickL_ok ?_ _⟩
        repeat' (first | exact cd_nil | refine cd_cons ?_ ?_)
        all_goals first | rfl | with_reducible assumption | exact eqB _ | exact i_lo | exact i_hi | exact (Dl.i64 i_lo).sz (by omega) | exact (Dl.i64 i_hi).sz (by omega)
      have c2 : decide (cmpI y 1152921504606846976 > 0) = false := by rw [cmp_gt]; exact decide_eq_false g2
      by_cases g3 : y < x
      · have c3 : decide (cmpI x y > 0) = true := by rw [cmp_gt]; exact decide_eq_true g3
        refine ⟨rfl, rfl, rfl, [false, false, true], _, _, bdt_001 s x k y, fun E u hu => by rw [ofB_out (x := x) (y := y) (by omega)]; exact bd_R (x := 0) (y := 0) (b := true) hu, pickL_ok ?_ _⟩
        repeat' (first | exact cd_nil | refine cd_cons ?_ ?_)
        all_goals first | rfl | with_reducible assumption | exact eqB _ | exact i_lo | exact i_hi | exact (Dl.i64 i_lo).sz (by omega) | exact (Dl.i64 i_hi).sz (by omega)
      have c3 : decide (cmpI x y > 0) = false := by rw [cmp_gt]; exact decide_eq_false g3
      refine ⟨rfl, rfl, rfl, [false, false, false], _, _, bdt_000 s x k y, fun E u hu => by rw [ofB_in (x := x) (y := y) (by omega) (by omega) (by omega)]; rw [sm_id (a := x) (by omega) (by omega), sm_id (a := y) (by omega) (by omega)] at hu; exact bd_R (x := x) (y := y) (b := false) hu, pickL_ok ?_ _⟩
      repeat' (first | exact cd_nil | refine cd_cons ?_ ?_)
      all_goals first | rfl | with_reducible assumption | exact eqB _ | exact i_lo | exact i_hi | exact (Dl.i64 i_lo).sz (by omega) | exact (Dl.i64 i_hi).sz (by omega)
    · rename_i k y
      cases hg
      have h2 : (k == decide (y < 0)) = true := hc (k == decide (y < 0), true) (by simp)
      have h4 : szB y = true := hc (szB y, true) (by simp)
      have h3 : szB 0 = true := (Dl.i64 (show i64B 0 = true by decide)).sz (by omega)
      have c1 : decide (cmpI 0 (-1152921504606846976) < 0) = false := by decide
      by_cases g2 : 1152921504606846976 < y
      · have c2 : decide (cmpI y 1152921504606846976 > 0) = true := by rw [cmp_gt]; exact decide_eq_true g2
        refine ⟨rfl, rfl, rfl, [false, true], _, _, bdz_01 k y, fun E u hu => by rw [ofB_out (x := 0) (y := y) (by omega)]; exact bd_R (x := 0) (y := 0) (b := true) hu, pickL_ok ?_ _⟩
        repeat' (first | exact cd_nil | refine cd_cons ?_ ?_)
        all_goals first | rfl | with_reducible assumption | exact eqB _ | exact i_lo | exact i_hi | exact (Dl.i64 i_lo).sz (by omega) | exact (Dl.i64 i_hi).sz (by omega)
      have c2 : decide (cmpI y 1152921504606846976 > 0) = false := by rw [cmp_gt]; exact decide_eq_false g2
      by_cases g3 : y < 0
      · have c3 : decide (cmpI 0 y > 0) = true := by rw [cmp_gt]; exact decide_eq_true g3
        refine ⟨rfl, rfl, rfl, [false, false, true], _, _, bdz_001 k y, fun E u hu => by rw [ofB_out (x := 0) (y := y) (by omega)]; exact bd_R (x := 0) (y := 0) (b := true) hu, pickL_ok ?_ _⟩
        repeat' (first | exact cd_nil | refine cd_cons ?_ ?_)
        all_goals first | rfl | with_reducible assumption | exact eqB _ | exact i_lo | exact i_hi | exact (Dl.i64 i_lo).sz (by omega) | exact (Dl.i64 i_hi).sz (by omega)
      have c3 : decide (cmpI 0 y > 0) = false := by rw [cmp_gt]; exact decide_eq_false g3
      refine ⟨rfl, rfl, rfl, [false, false, false], _, _, bdz_000 k y, fun E u hu => by rw [ofB_in (x := 0) (y := y) (by omega) (by omega) (by omega)]; rw [sm_id (a := 0) (by omega) (by omega), sm_id (a := y) (by omega) (by omega)] at hu; exact bd_R (x := 0) (y := y) (b := false) hu, pickL_ok ?_ _⟩
      repeat' (first | exact cd_nil | refine cd_cons ?_ ?_)
      all_goals first | rfl | with_reducible assumption | exact eqB _ | exact i_lo | exact i_hi | exact (Dl.i64 i_lo).sz (by omega) | exact (Dl.i64 i_hi).sz (by omega)
    · cases hg
/-! ### The fact -/
end
end Go.Proofs.Ytagbpehfieejcaa.AtHz

