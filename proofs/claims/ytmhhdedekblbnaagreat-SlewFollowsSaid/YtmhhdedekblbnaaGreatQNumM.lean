/-
 The plain arithmetic of numbers of two words (a signed high word, an unsigned low word): no program in sight.
 Conditions: those of each lemma.
-/
import Derived.WalkKit
namespace Go.Proofs.YtmhhdedekblbnaaGreat.Wd
open Go.RowKit

abbrev wide (n : Int) : Value := .agg #[.int .i64 (n / 18446744073709551616), .int .u64 (n % 18446744073709551616)]
def InW (n : Int) : Prop := -170141183460469231731687303715884105728 <= n /\ n < 170141183460469231731687303715884105728
def w128 (n : Int) : Int := (n + 170141183460469231731687303715884105728) % 340282366920938463463374607431768211456 - 170141183460469231731687303715884105728
theorem w128_id {n : Int} (h : InW n) : w128 n = n := by unfold w128; obtain ⟨_, _⟩ := h; omega
def cmpI (a b : Int) : Int := if a < b then -1 else if b < a then 1 else 0
theorem cmpI_lt {a b : Int} (h : a < b) : cmpI a b = -1 := by simp [cmpI, h]
theorem cmpI_gt {a b : Int} (h : b < a) : cmpI a b = 1 := by simp [cmpI, h, show ¬ a < b by omega]
theorem cmpI_eq {a b : Int} (h : a = b) : cmpI a b = 0 := by simp [cmpI, h]
theorem cmpI_hi {n m : Int} (h : ¬ n / 18446744073709551616 = m / 18446744073709551616) : cmpI (n / 18446744073709551616) (m / 18446744073709551616) = cmpI n m := by
 rcases Int.lt_or_le (n / 18446744073709551616) (m / 18446744073709551616) with g | g
 · rw [cmpI_lt g, cmpI_lt (by omega)]
 · rw [cmpI_gt (by omega), cmpI_gt (by omega)]
theorem cmpI_lo {n m : Int} (h : n / 18446744073709551616 = m / 18446744073709551616) : cmpI (n % 18446744073709551616) (m % 18446744073709551616) = cmpI n m := by
 rcases Int.lt_or_le (n % 18446744073709551616) (m % 18446744073709551616) with g | g
 · rw [cmpI_lt g, cmpI_lt (by omega)]
 · rcases Int.lt_or_eq_of_le g with g | g
   · rw [cmpI_gt g, cmpI_gt (by omega)]
   · rw [cmpI_eq g.symm, cmpI_eq (by omega)]

theorem mul_bd {a b : Int} (a1 : -9223372036854775808 <= a) (a2 : a <= 9223372036854775807) (b1 : -9223372036854775808 <= b) (b2 : b <= 9223372036854775807) :
   -85070591730234615865843651857942052864 <= a * b /\ a * b <= 85070591730234615865843651857942052864 := by
 have key : ∀ x y : Int, 0 <= x -> x <= 9223372036854775808 -> 0 <= y -> y <= 9223372036854775808 -> 0 <= x * y /\ x * y <= 85070591730234615865843651857942052864 := fun x y hx hx' hy hy' => by
   have h1 : x * y <= 9223372036854775808 * 9223372036854775808 := Int.mul_le_mul hx' hy' hy (by omega)
   exact ⟨Int.mul_nonneg hx hy, by omega⟩
 rcases Int.lt_or_le a 0 with ha | ha <;> rcases Int.lt_or_le b 0 with hb | hb
 · have := key (-a) (-b) (by omega) (by omega) (by omega) (by omega); rw [Int.neg_mul_neg] at this; omega
 · have := key (-a) b (by omega) (by omega) (by omega) (by omega); rw [Int.neg_mul] at this; omega
 · have := key a (-b) (by omega) (by omega) (by omega) (by omega); rw [Int.mul_neg] at this; omega
 · have := key a b (by omega) (by omega) (by omega) (by omega); omega
theorem mul_in {a b : Int} (a1 : -9223372036854775808 <= a) (a2 : a <= 9223372036854775807) (b1 : -9223372036854775808 <= b) (b2 : b <= 9223372036854775807) : InW (a * b) := by
 have := mul_bd a1 a2 b1 b2; unfold InW; omega

theorem prod_pp {a b : Int} {x y : Nat} (hx : a = x) (hy : b = y) (a2 : a <= 9223372036854775807) (b2 : b <= 9223372036854775807) :
   wrap64 ((x : Int) * y / 18446744073709551616) = a * b / 18446744073709551616 /\ (x : Int) * y % 18446744073709551616 = a * b % 18446744073709551616 := by
 have h := mul_bd (a := a) (b := b) (by omega) a2 (by omega) b2
 have e : a * b = ((x * y : Nat) : Int) := by rw [hx, hy, Int.natCast_mul]
 rw [<- Int.natCast_mul]
 generalize x * y = z at e ⊢
 generalize a * b = p at e h ⊢
 subst e
 unfold wrap64; omega
theorem prod_np {a b : Int} {x y : Nat} (hx : a = x - 18446744073709551616) (hy : b = y) (a0 : a < 0) (a1 : -9223372036854775808 <= a) (b2 : b <= 9223372036854775807) :
   wrap64 (wrap64 ((x : Int) * y / 18446744073709551616) - b) = a * b / 18446744073709551616 /\ (x : Int) * y % 18446744073709551616 = a * b % 18446744073709551616 := by
 have h := mul_bd (a := a) (b := b) a1 (by omega) (by omega) b2
 have e : a * b = ((x * y : Nat) : Int) - 18446744073709551616 * b := by rw [hx, Int.sub_mul, hy, Int.natCast_mul]
 rw [<- Int.natCast_mul]
 generalize x * y = z at e ⊢
 generalize a * b = p at e h ⊢
 clear hx hy
 unfold wrap64; omega
theorem prod_pn {a b : Int} {x y : Nat} (hx : a = x) (hy : b = y - 18446744073709551616) (b0 : b < 0) (b1 : -9223372036854775808 <= b) (a2 : a <= 9223372036854775807) :
   wrap64 (wrap64 ((x : Int) * y / 18446744073709551616) - a) = a * b / 18446744073709551616 /\ (x : Int) * y % 18446744073709551616 = a * b % 18446744073709551616 := by
 have := prod_np (a := b) (b := a) (x := y) (y := x) hy hx b0 b1 a2
 rwa [Int.mul_comm a b, Int.mul_comm (x : Int) y]
theorem prod_nn {a b : Int} {x y : Nat} (hx : a = x - 18446744073709551616) (hy : b = y - 18446744073709551616) (a0 : a < 0) (b0 : b < 0) (a1 : -9223372036854775808 <= a) (b1 : -9223372036854775808 <= b) :
   wrap64 (wrap64 (wrap64 ((x : Int) * y / 18446744073709551616) - b) - a) = a * b / 18446744073709551616 /\ (x : Int) * y % 18446744073709551616 = a * b % 18446744073709551616 := by
 have h := mul_bd (a := a) (b := b) a1 (by omega) b1 (by omega)
 have e : a * b = ((x * y : Nat) : Int) - 18446744073709551616 * (a + b + 18446744073709551616) := by
   have e1 : ((x * y : Nat) : Int) = (a + 18446744073709551616) * (b + 18446744073709551616) := by rw [Int.natCast_mul]; congr 1 <;> omega
   have e2 : (a + 18446744073709551616) * (b + 18446744073709551616) = a * b + a * 18446744073709551616 + (18446744073709551616 * b + 18446744073709551616 * 18446744073709551616) := by rw [Int.add_mul, Int.mul_add, Int.mul_add]
   rw [e1, e2]; omega
 rw [<- Int.natCast_mul]
 generalize x * y = z at e ⊢
 generalize a * b = p at e h ⊢
 clear hx hy
 unfold wrap64; omega

theorem plus_words {n m : Int} (hn : InW n) (hm : InW m) :
   wrap64 (wrap64 (n / 18446744073709551616 + m / 18446744073709551616) + (n % 18446744073709551616 + m % 18446744073709551616) / 18446744073709551616) = w128 (n + m) / 18446744073709551616
   /\ (n % 18446744073709551616 + m % 18446744073709551616) % 18446744073709551616 = w128 (n + m) % 18446744073709551616 := by
 obtain ⟨_, _⟩ := hn; obtain ⟨_, _⟩ := hm
 unfold w128 wrap64; omega

theorem flip_div (n d : Int) (hd : 1 <= d) : n / d = -(((-n - 1) / d)) - 1 := by
 have h1 := Int.mul_ediv_add_emod n d
 have h2 := Int.mul_ediv_add_emod (-n - 1) d
 have a1 := Int.emod_nonneg n (show d ≠ 0 by omega)
 have a2 := Int.emod_lt_of_pos n (show 0 < d by omega)
 have b1 := Int.emod_nonneg (-n - 1) (show d ≠ 0 by omega)
 have b2 := Int.emod_lt_of_pos (-n - 1) (show 0 < d by omega)
 have hs : d * (n / d + (-n - 1) / d + 1) = d - 1 - n % d - (-n - 1) % d := by rw [Int.mul_add, Int.mul_add]; omega
 generalize hk : n / d + (-n - 1) / d + 1 = k at hs
 have : k = 0 := by
   rcases Int.lt_or_le k 0 with h | h
   · have : d * k <= d * (-1) := Int.mul_le_mul_of_nonneg_left (by omega) (by omega)
     omega
   · rcases Int.lt_or_le 0 k with h' | h'
     · have : d * 1 <= d * k := Int.mul_le_mul_of_nonneg_left (by omega) (by omega)
       omega
     · omega
 omega
theorem mod_bd (n : Int) {d : Int} (hd : 1 <= d) : 0 <= n % d /\ n % d < d := ⟨Int.emod_nonneg _ (by omega), Int.emod_lt_of_pos _ (by omega)⟩
theorem div_fits {n d : Int} (hd : 1 <= d) : n / d < 18446744073709551616 ↔ n / 18446744073709551616 < d := by
 rw [Int.ediv_lt_iff_lt_mul (by omega), Int.ediv_lt_iff_lt_mul (by omega), Int.mul_comm]
theorem not_nat (h : Int) : (((18446744073709551615#64 ^^^ BitVec.ofInt 64 h).toNat : Nat) : Int) = 18446744073709551615 - h % 18446744073709551616 := by
 have e : (18446744073709551615#64 ^^^ BitVec.ofInt 64 h) = ~~~ BitVec.ofInt 64 h := by
   have : (18446744073709551615#64) = BitVec.allOnes 64 := by decide
   rw [this, BitVec.allOnes_xor]
 rw [e, BitVec.toNat_not]
 have h1 := (BitVec.ofInt 64 h).isLt
 have h2 : ((BitVec.ofInt 64 h).toNat : Int) = h % 18446744073709551616 := by
   rw [BitVec.toNat_ofInt]
   omega
 omega
theorem not_i64 (h : Int) (h1 : -9223372036854775808 <= h) (h2 : h <= 9223372036854775807) : bits .xor .i64 (-1) h = -h - 1 := by
 have e : bits .xor .i64 (-1) h = IntKind.i64.wrap (((18446744073709551615#64 ^^^ BitVec.ofInt 64 h).toNat : Nat) : Int) := rfl
 rw [e, not_nat, IntKind.wrap_i64]; omega
theorem not_u64 (h : Int) (h1 : 0 <= h) (h2 : h < 18446744073709551616) : bits .xor .u64 IntKind.u64.max h = 18446744073709551615 - h := by
 have e : bits .xor .u64 IntKind.u64.max h = IntKind.u64.wrap (((18446744073709551615#64 ^^^ BitVec.ofInt 64 h).toNat : Nat) : Int) := rfl
 rw [e, not_nat, IntKind.wrap_u64]; omega
end Go.Proofs.YtmhhdedekblbnaaGreat.Wd
