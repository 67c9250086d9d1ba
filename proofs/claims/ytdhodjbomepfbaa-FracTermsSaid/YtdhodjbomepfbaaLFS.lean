/-
  The walk of spylaw1.FracSums: it returns true, for all numbers.
  Conditions: the numbers are int64.
-/
import Derived.Test.YtdhodjbomepfbaaNW
import Derived.Test.YtdhodjbomepfbaaFE
import Derived.Test.YtdhodjbomepfbaaF5
set_option linter.unusedVariables false
set_option linter.unusedSimpArgs false
namespace Go.Proofs.Ytdhodjbomepfbaa
open Go.RowKit Go.Shelf Ev Zd Wd

structure Frq where
  n : Int
  d : Int
abbrev frA {F : Type} (n d : Int) : AW F := .agg [.int .i64 n, .int .i64 d]
def dFr {F : Type} : Dec F Frq where
  dec := fun x => match x with
    | .w (.agg [.int .i64 a, .int .i64 b]) => some ⟨a, b⟩
    | _ => none
  enc := fun x => fr x.n x.d
  ok := fun x a h => by
    split at h
    · cases h; rfl
    · cases h
def okF (x : Frq) : List (Bool × Bool) := [(i64B x.n, true), (i64B x.d, true)]
def okF2 (x y : Frq) : List (Bool × Bool) := [(i64B x.n, true), (i64B x.d, true), (i64B y.n, true), (i64B y.d, true)]
def okI2 (x y : Int) : List (Bool × Bool) := [(i64B x, true), (i64B y, true)]
def nLow : List Ar → Option (List Rs × List (Bool × Bool)) := nTo2 (fun a b => [frA (lowA a b) (lowB a b), .one (.int .i64 (lowE a b))]) szN
abbrev r2 (a b e : Int) : AV Nm := .tup [frA a b, .one (.int .i64 e)]
theorem okF_i {x : Frq} (h : ∀ p ∈ okF x, p.1 = p.2) : (-9223372036854775808 ≤ x.n ∧ x.n ≤ 9223372036854775807) ∧ (-9223372036854775808 ≤ x.d ∧ x.d ≤ 9223372036854775807) := ⟨i64B_iff.1 (h _ (List.mem_cons_self)), i64B_iff.1 (h (i64B x.d, true) (by simp [okF]))⟩
theorem okF2_i {x y : Frq} (h : ∀ p ∈ okF2 x y, p.1 = p.2) : ((-9223372036854775808 ≤ x.n ∧ x.n ≤ 9223372036854775807) ∧ (-9223372036854775808 ≤ x.d ∧ x.d ≤ 9223372036854775807)) ∧ (-9223372036854775808 ≤ y.n ∧ y.n ≤ 9223372036854775807) ∧ (-9223372036854775808 ≤ y.d ∧ y.d ≤ 9223372036854775807) :=
  ⟨⟨i64B_iff.1 (h (i64B x.n, true) (by simp [okF2])), i64B_iff.1 (h (i64B x.d, true) (by simp [okF2]))⟩, i64B_iff.1 (h (i64B y.n, true) (by simp [okF2])), i64B_iff.1 (h (i64B y.d, true) (by simp [okF2]))⟩
theorem okI2_i {x y : Int} (h : ∀ p ∈ okI2 x y, p.1 = p.2) : (-9223372036854775808 ≤ x ∧ x ≤ 9223372036854775807) ∧ (-9223372036854775808 ≤ y ∧ y ≤ 9223372036854775807) := ⟨i64B_iff.1 (h (i64B x, true) (by simp [okI2])), i64B_iff.1 (h (i64B y, true) (by simp [okI2]))⟩
theorem nLow_ok : (nfn nLow).ok Try.prog numI 65 := nTo2_ok fun a b hc => n_tup2 rfl rfl fun va vb w ha hb => lowest_any va vb a b (szN_le hc).2.2 (by have := szN_le hc; omega) (by have := szN_le hc; omega) w ha hb
abbrev eqsF : TypeId → Bool := fun t => Nat.beq t 76
theorem eqsF_ok : EqOk Try.prog (tabOf Try.prog) eqsF := eq_of fun t ht => by
  have := Nat.eq_of_beq_eq_true ht
  subst this
  exact ⟨by kernel_rfl, by kernel_rfl, by kernel_rfl⟩
theorem fadd_ok {a b c e : Int} (h : chk2 a b c e = 0) : addA a b c e = lowA (a * e + c * b) (b * e) ∧ addB a b c e = lowB (a * e + c * b) (b * e) ∧ addE a b c e = lowE (a * e + c * b) (b * e) := ⟨if_pos h, if_pos h, if_pos h⟩
theorem fadd_no {a b c e : Int} (h : chk2 a b c e ≠ 0) : addA a b c e = 0 ∧ addB a b c e = 0 ∧ addE a b c e = chk2 a b c e := ⟨if_neg h, if_neg h, if_neg h⟩
theorem fmul_ok {a b c e : Int} (h : chk2 a b c e = 0) : mulA a b c e = lowA (a * c) (b * e) ∧ mulB a b c e = lowB (a * c) (b * e) ∧ mulE a b c e = lowE (a * c) (b * e) := ⟨if_pos h, if_pos h, if_pos h⟩
theorem fmul_no {a b c e : Int} (h : chk2 a b c e ≠ 0) : mulA a b c e = 0 ∧ mulB a b c e = 0 ∧ mulE a b c e = chk2 a b c e := ⟨if_neg h, if_neg h, if_neg h⟩
theorem div_no {a b c e : Int} (h : chk2 a b c e ≠ 0) : divfA a b c e = 0 ∧ divfB a b c e = 0 ∧ divfE a b c e = chk2 a b c e := ⟨if_neg h, if_neg h, if_neg h⟩
theorem div_zero {a b c e : Int} (h : chk2 a b c e = 0) (hc : c = 0) : divfA a b c e = 0 ∧ divfB a b c e = 0 ∧ divfE a b c e = 1 := by
  unfold divfA divfB divfE; rw [if_pos h, if_pos h, if_pos h, if_pos hc, if_pos hc, if_pos hc]; exact ⟨rfl, rfl, rfl⟩
theorem div_ok {a b c e : Int} (h : chk2 a b c e = 0) (hc : c ≠ 0) : divfA a b c e = lowA (a * e) (b * c) ∧ divfB a b c e = lowB (a * e) (b * c) ∧ divfE a b c e = lowE (a * e) (b * c) := by
  unfold divfA divfB divfE; rw [if_pos h, if_pos h, if_pos h, if_neg hc, if_neg hc, if_neg hc]; exact ⟨rfl, rfl, rfl⟩
theorem eq_self_b (x : Bool) : (x == x) = true := beq_self_eq_true x
theorem ne_self_i (x : Int) : (x != x) = false := by simp
theorem cmp_zero {c : Int} : cmpI c 0 = 0 ↔ c = 0 := by
  unfold cmpI
  split
  · omega
  · split <;> omega
end Go.Proofs.Ytdhodjbomepfbaa

