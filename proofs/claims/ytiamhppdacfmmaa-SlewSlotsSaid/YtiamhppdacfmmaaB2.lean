/-
  Package bound: what its products, quotients and roots return, for every argument.
  Conditions: the numbers that are no bounds are int64.
-/
import Derived.Test.YtiamhppdacfmmaaB1
import Derived.Test.YtiamhppdacfmmaaNS
set_option linter.unusedVariables false
set_option linter.unusedSimpArgs false
namespace Go.Proofs.Ytiamhppdacfmmaa
open Go.RowKit Ev Wd
variable {F : Type}

def quotB (x n d : Int) : Bd := bif divE (x * n) d == 0 && divE (x * n + (d - 1)) d == 0 then ofB (divV (x * n) d) (divV (x * n + (d - 1)) d) else noneB
def hull4 (a b c d : Bd) : Bd := hullB (hullB a b) (hullB c d)
def mulB (a b : Bd) (n : Int) : Bd := bif knB a && knB b then hull4 (quotB a.lo b.lo n) (quotB a.lo b.hi n) (quotB a.hi b.lo n) (quotB a.hi b.hi n) else noneB
def div4 (a b : Bd) (n : Int) : Bd := hull4 (quotB a.lo n b.lo) (quotB a.lo n b.hi) (quotB a.hi n b.lo) (quotB a.hi n b.hi)
def divB (a b : Bd) (n : Int) : Bd := bif !knB a || decide (n < 1) || hasB b 0 then noneB else bif decide (b.hi < 0) then div4 (negB a) (negB b) n else div4 a b n
def scaB (a : Bd) (n d : Int) : Bd := bif knB a && inB n then hullB (quotB a.lo n d) (quotB a.hi n d) else noneB
def rootUp (a b : Int) : Int := bif decide (isqI a b * isqI a b < a * b) then isqI a b + 1 else isqI a b
def rootB (a : Bd) (n : Int) : Bd := bif !knB a || decide (n < 1) || decide (a.hi < 0) then noneB else ofB (isqI (maxI a.lo 0) n) (rootUp a.hi n)
theorem kn64 {a : Bd} (h : knB a = true) : i64B a.lo = true ∧ i64B a.hi = true := by
  have := knB_iff.1 h
  rw [i64B_iff, i64B_iff]; omega
theorem normB_in (b : Bd) : -1152921504606846976 ≤ (normB b).lo ∧ (normB b).lo ≤ 1152921504606846976 ∧ -1152921504606846976 ≤ (normB b).hi ∧ (normB b).hi ≤ 1152921504606846976 := by
  unfold normB
  cases h : knB b with
  | false => simp only [cond_false]; decide
  | true => have := knB_iff.1 h; simp only [cond_true]; omega
theorem neg64 (a : Bd) : i64B (negB a).lo = true ∧ i64B (negB a).hi = true := by
  rw [i64B_iff, i64B_iff]
  unfold negB
  cases knB a with
  | false => simp only [cond_false]; decide
  | true => have := normB_in ⟨-a.hi, -a.lo, false⟩; simp only [cond_true, ofB]; omega

abbrev libB7 : List (Nat × FnSp Empty) := (88, muldivS) :: (84, sqrtmulS) :: (98, productS) :: (99, wcmpS) :: libB5

abbrev libB8 : List (Nat × FnSp Empty) := libB7

theorem libB7_ok : LibOk Try.prog noFacts (lib1 libB7) := (lib1_cons (muldivS_ok _) Try.call88 (lib1_cons (sqrtmulS_ok _) Try.call84 (lib1_cons (productS_ok _) Try.call98 (lib1_cons (wcmpS_ok _) Try.call99 (libB5_ok)))))

theorem isq_in {x n : Int} (hx : i64B x = true) (hn : i64B n = true) : 0 ≤ isqI x n ∧ isqI x n * isqI x n ≤ (x.toNat : Int) * n.toNat ∧ isqI x n ≤ 9223372036854775807 := by
  rw [i64B_iff] at hx hn
  unfold isqI
  have h1 : isq (x.toNat * n.toNat) * isq (x.toNat * n.toNat) ≤ x.toNat * n.toNat := (isq_spec _).1
  have h2 : x.toNat * n.toNat ≤ 9223372036854775807 * 9223372036854775807 := Nat.mul_le_mul (by omega) (by omega)
  generalize isq (x.toNat * n.toNat) = r at h1
  refine ⟨by omega, by exact_mod_cast h1, ?_⟩
  have h3 : r < 9223372036854775808 := by
    rcases Nat.lt_or_ge r 9223372036854775808 with h | h
    · exact h
    · have := Nat.mul_le_mul h h
      omega
  omega
theorem has64 {b : Bd} (h : hasB b 0 = false) : i64B b.lo = true ∧ i64B b.hi = true := by
  unfold hasB at h
  cases hk : knB b with
  | false => rw [hk] at h; cases h
  | true => exact kn64 hk
theorem cut128 (n : Int) : n / 18446744073709551616 * 18446744073709551616 + n % 18446744073709551616 = n := by omega
theorem cmpI_neg (a b : Int) : decide (cmpI a b < 0) = decide (a < b) := by
  unfold cmpI
  by_cases h : a < b
  · simp [h]
  · by_cases g : b < a <;> simp [h, g]
theorem u64_mod (n : Int) : u64B (n % 18446744073709551616) = true := by rw [u64B_iff]; omega
theorem rootUp_val {x n : Int} (hx : i64B x = true) (hn : i64B n = true) (h : isqI x n * isqI x n < x * n) : IntKind.i64.wrap (isqI x n + 1) = isqI x n + 1 := by
  obtain ⟨h0, h1, h2⟩ := isq_in hx hn
  rw [i64B_iff] at hx hn
  refine IntWalk.i64_in _ ⟨by omega, ?_⟩
  rcases Int.lt_or_le (isqI x n) 9223372036854775807 with h3 | h3
  · omega
  · exfalso
    have e : isqI x n = 9223372036854775807 := by omega
    rw [e] at h
    rcases Int.le_total x 0 with hx0 | hx0
    · rcases Int.le_total n 0 with hn0 | hn0
      · have := Int.toNat_of_nonpos hx0
        have z : isqI x n = 0 := by unfold isqI; rw [this, Nat.zero_mul]; rfl
        omega
      · have := Int.mul_nonpos_of_nonpos_of_nonneg hx0 hn0
        omega
    · rcases Int.le_total n 0 with hn0 | hn0
      · have := Int.mul_nonpos_of_nonneg_of_nonpos hx0 hn0
        omega
      · have := Int.mul_le_mul hx.2 hn.2 hn0 (by omega)
        omega
theorem libB8_ok : LibOk Try.prog noFacts (lib1 libB8) := (libB7_ok)

end Go.Proofs.Ytiamhppdacfmmaa

