/-
 Package num's functions for the evaluator: what they return, as far as their arguments are int64.
 Conditions: those of each theorem.
-/
import Derived.Test.YtmhhdedekblbnaaGreatProg
import Derived.Test.YtmhhdedekblbnaaGreatQEv2
import Derived.Test.YtmhhdedekblbnaaGreatQNumS
import Derived.Test.YtmhhdedekblbnaaGreatQNumG
set_option linter.unusedVariables false
set_option linter.unusedSimpArgs false
namespace Go.Proofs.YtmhhdedekblbnaaGreat
open Go.RowKit Ev Wd

def i64B (v : Int) : Bool := decide (-9223372036854775808 <= v) && decide (v <= 9223372036854775807)
theorem i64B_iff {v : Int} : i64B v = true ↔ -9223372036854775808 <= v /\ v <= 9223372036854775807 := by unfold i64B; simp
theorem cd3 {x y z : Bool} {l : List (Bool × Bool)} (h : ∀ p ∈ (x, true) :: (y, true) :: (z, true) :: l, p.1 = p.2) : x = true /\ y = true /\ z = true := ⟨h (x, true) (by simp), h (y, true) (by simp), h (z, true) (by simp)⟩
theorem cd2 {x y : Bool} {l : List (Bool × Bool)} (h : ∀ p ∈ (x, true) :: (y, true) :: l, p.1 = p.2) : x = true /\ y = true := ⟨h (x, true) (by simp), h (y, true) (by simp)⟩
theorem cd1 {x : Bool} {l : List (Bool × Bool)} (h : ∀ p ∈ (x, true) :: l, p.1 = p.2) : x = true := h (x, true) (by simp)
variable {F : Type}
abbrev num2 (a b : Int) : AV F := .tup [.one (.int .i64 a), .one (.int .i64 b)]
abbrev muldivS : FnSp F := sp3 (dInt .i64) (dInt .i64) (dInt .i64) (fun a b c => num2 (divV (a * b) c) (divE (a * b) c)) (fun a b c => [(i64B a, true), (i64B b, true), (i64B c, true)])
theorem muldivS_ok (I : Interp F) : muldivS.ok Tryz.prog I 160 := sp3_ok fun a b c hc => by
 obtain ⟨h1, h2, h3⟩ := cd3 hc
 rw [i64B_iff] at h1 h2 h3
 exact ⟨_, rfl, fun w => muldiv_any a b c h1.1 h1.2 h2.1 h2.2 h3.2 w⟩
abbrev muldivupS : FnSp F := sp3 (dInt .i64) (dInt .i64) (dInt .i64) (fun a b c => num2 (divV (a * b + (c - 1)) c) (divE (a * b + (c - 1)) c)) (fun a b c => [(i64B a, true), (i64B b, true), (i64B c, true)])
theorem muldivupS_ok (I : Interp F) : muldivupS.ok Tryz.prog I 161 := sp3_ok fun a b c hc => by
 obtain ⟨h1, h2, h3⟩ := cd3 hc
 rw [i64B_iff] at h1 h2 h3
 refine ⟨_, rfl, fun w => ?_⟩
 by_cases hlow : c < 1
 · have e1 : divV (a * b + (c - 1)) c = 0 := by unfold divV; rw [if_pos hlow]
   have e2 : divE (a * b + (c - 1)) c = 1 := by unfold divE; rw [if_pos hlow]
   rw [e1, e2]
   exact muldivup_low a b c hlow w
 · exact muldivup_ok a b c h1.1 h1.2 h2.1 h2.2 (by omega) h3.2 w
abbrev wideA (x : Int) : AV F := .w (.agg [.int .i64 (x / 18446744073709551616), .int .u64 (x % 18446744073709551616)])
abbrev productS : FnSp F := sp2 (dInt .i64) (dInt .i64) (fun a b => wideA (a * b)) (fun a b => [(i64B a, true), (i64B b, true)])
theorem productS_ok (I : Interp F) : productS.ok Tryz.prog I 155 := sp2_ok fun a b hc => by
 obtain ⟨h1, h2⟩ := cd2 hc
 rw [i64B_iff] at h1 h2
 exact ⟨_, rfl, fun w => prod_any a b h1.1 h1.2 h2.1 h2.2 w⟩
def dW : Dec F (Int × Int) where
 dec := fun x => match x with
   | .w (.agg [.int .i64 a, .int .u64 b]) => some (a, b)
   | _ => none
 enc := fun p => .agg #[.int .i64 p.1, .int .u64 p.2]
 ok := fun x a h => by
   split at h
   · cases h; rfl
   · cases h
def u64B (v : Int) : Bool := decide (0 <= v) && decide (v < 18446744073709551616)
theorem u64B_iff {v : Int} : u64B v = true ↔ 0 <= v /\ v < 18446744073709551616 := by unfold u64B; simp
theorem wide_eq {h l : Int} (hl : 0 <= l /\ l < 18446744073709551616) : wide (h * 18446744073709551616 + l) = .agg #[.int .i64 h, .int .u64 l] := by
 have e1 : (h * 18446744073709551616 + l) / 18446744073709551616 = h := by omega
 have e2 : (h * 18446744073709551616 + l) % 18446744073709551616 = l := by omega
 unfold wide
 rw [e1, e2]
abbrev wcmpS : FnSp F := sp2 dW dW (fun p q => aInt .i64 (cmpI (p.1 * 18446744073709551616 + p.2) (q.1 * 18446744073709551616 + q.2))) (fun p q => [(u64B p.2, true), (u64B q.2, true)])
theorem wcmpS_ok (I : Interp F) : wcmpS.ok Tryz.prog I 156 := sp2_ok fun p q hc => by
 obtain ⟨h1, h2⟩ := cd2 hc
 rw [u64B_iff] at h1 h2
 refine ⟨_, rfl, fun w => ?_⟩
 have := wcmp_any (p.1 * 18446744073709551616 + p.2) (q.1 * 18446744073709551616 + q.2) w
 rw [wide_eq h1, wide_eq h2] at this
 exact this
end Go.Proofs.YtmhhdedekblbnaaGreat
