/-
 The plain arithmetic of a division of two words by one, digit by digit (Knuth): no program in sight.
 Conditions: those of each lemma.
-/
import Derived.WalkKit
import Derived.Lib.Mul64
import Derived.Lib.BitFns
namespace Go.Proofs.YtmhhdedekblbnaaGreat.Dv
open Go.RowKit

theorem start_ok {U yn1 yn0 Y un1 : Int} (hY : Y = yn1 * 4294967296 + yn0) (h0 : 0 <= yn0) (hy : 1 <= yn1) (hU : 0 <= U) (hu : un1 < 4294967296) :
   U * 4294967296 + un1 < (U / yn1 + 1) * Y := by
 have h1 : U < (U / yn1 + 1) * yn1 := Int.lt_ediv_add_one_mul_self U (by omega)
 have h2 : (U / yn1 + 1) * Y = ((U / yn1 + 1) * yn1) * 4294967296 + (U / yn1 + 1) * yn0 := by rw [hY, Int.mul_add, <- Int.mul_assoc]
 have h3 : 0 <= (U / yn1 + 1) * yn0 := Int.mul_nonneg (by have := Int.ediv_nonneg hU (show 0 <= yn1 by omega); omega) h0
 omega
theorem first_ok {U yn1 : Int} (hy : 1 <= yn1) (hU : 0 <= U) : U / yn1 * yn1 <= U /\ 0 <= U / yn1 * yn1 /\ U - U / yn1 * yn1 < yn1 /\ 0 <= U / yn1 := by
 have h1 := Int.ediv_mul_le U (show yn1 ≠ 0 by omega)
 have h2 := Int.lt_ediv_add_one_mul_self U (show 0 < yn1 by omega)
 have h3 := Int.ediv_nonneg hU (show 0 <= yn1 by omega)
 have h4 : 0 <= U / yn1 * yn1 := Int.mul_nonneg h3 (by omega)
 rw [Int.add_mul] at h2
 omega
theorem exit_ok {U yn1 yn0 Y un1 q r : Int} (hY : Y = yn1 * 4294967296 + yn0) (hU : U = q * yn1 + r) (h : q * yn0 <= 4294967296 * r + un1) :
   q * Y <= U * 4294967296 + un1 := by
 have h2 : q * Y = (q * yn1) * 4294967296 + q * yn0 := by rw [hY, Int.mul_add, <- Int.mul_assoc]
 omega
theorem small_ok {yn0 q : Int} (h0 : 0 <= yn0) (h1 : yn0 < 4294967296) (hq : 0 <= q) (hq1 : q < 4294967296) : 0 <= q * yn0 /\ q * yn0 <= 18446744073709551615 := by
 have a : q * yn0 <= 4294967295 * 4294967295 := Int.mul_le_mul (by omega) (by omega) h0 (by omega)
 have b := Int.mul_nonneg hq h0
 omega
theorem round_ok1 {U Y un1 q : Int} (hUY : U < Y) (hu : un1 < 4294967296) (hU : 0 <= U) (hq : 4294967296 <= q) : U * 4294967296 + un1 < q * Y := by
 have a : 4294967296 * Y <= q * Y := Int.mul_le_mul_of_nonneg_right hq (by omega)
 omega
theorem round_ok2 {U yn1 yn0 Y un1 q r : Int} (hY : Y = yn1 * 4294967296 + yn0) (hU : U = q * yn1 + r) (h : 4294967296 * r + un1 < q * yn0) :
   U * 4294967296 + un1 < q * Y := by
 have h2 : q * Y = (q * yn1) * 4294967296 + q * yn0 := by rw [hY, Int.mul_add, <- Int.mul_assoc]
 omega
theorem pos_ok {N Y q : Int} (hN : 0 <= N) (hY : 0 < Y) (h : N < q * Y) : 1 <= q := by
 rcases Int.lt_or_le q 1 with h1 | h1
 · have : q * Y <= 0 * Y := Int.mul_le_mul_of_nonneg_right (by omega) (by omega)
   omega
 · exact h1
theorem break_ok {U yn1 yn0 Y un1 q r : Int} (hY : Y = yn1 * 4294967296 + yn0) (h0 : 0 <= yn0) (h1 : yn0 < 4294967296) (hy : 1 <= yn1) (hUY : U < Y) (hu : 0 <= un1) (hq : 0 <= q) (hU : U = q * yn1 + r) (hr : 4294967296 <= r) :
   q * Y <= U * 4294967296 + un1 := by
 have hq' : q < 4294967296 := by
   rcases Int.lt_or_le q 4294967296 with h | h
   · exact h
   · have a : 4294967296 * yn1 <= q * yn1 := Int.mul_le_mul_of_nonneg_right h (by omega)
     omega
 have a : q * yn0 <= 4294967295 * 4294967295 := Int.mul_le_mul (by omega) (by omega) h0 (by omega)
 exact exit_ok hY hU (by omega)
theorem step_eq {U yn1 q r : Int} (hU : U = q * yn1 + r) : U = (q - 1) * yn1 + (r + yn1) := by rw [Int.sub_mul]; omega
theorem rest_ok {N Y q : Int} (h1 : q * Y <= N) (h2 : N < (q + 1) * Y) : 0 <= N - q * Y /\ N - q * Y < Y := by rw [Int.add_mul] at h2; omega
theorem digit_lt {N Y q U un1 : Int} (hN : N = U * 4294967296 + un1) (hUY : U < Y) (hu : un1 < 4294967296) (hY : 0 < Y) (h1 : q * Y <= N) : q < 4294967296 := by
 rcases Int.lt_or_le q 4294967296 with h | h
 · exact h
 · have a : 4294967296 * Y <= q * Y := Int.mul_le_mul_of_nonneg_right h (by omega)
   omega
theorem wrap_rest {U un1 X : Int} (h1 : 0 <= U * 4294967296 + un1 - X) (h2 : U * 4294967296 + un1 - X < 18446744073709551616) :
   IntKind.u64.wrap (IntKind.u64.wrap (IntKind.u64.wrap (U * 4294967296) + un1) - IntKind.u64.wrap X) = U * 4294967296 + un1 - X := by
 simp only [IntKind.wrap_u64]; omega

theorem end_ok {M y p Y N un0 q1 q0 U1 R : Int} (hy : 0 < y) (hp : 0 < p) (hY : y * p = Y) (hM : M * p = N * 4294967296 + un0) (hN : N = q1 * Y + U1) (hR : U1 * 4294967296 + un0 = q0 * Y + R) (h0 : 0 <= R) (h1 : R < Y) :
   q1 * 4294967296 + q0 = M / y /\ R / p = M % y := by
 have e : M * p = ((q1 * 4294967296 + q0) * y) * p + R := by
   have e1 : ((q1 * 4294967296 + q0) * y) * p = (q1 * Y) * 4294967296 + q0 * Y := by
     rw [Int.mul_assoc, hY, Int.add_mul, Int.mul_assoc, Int.mul_comm 4294967296 Y, <- Int.mul_assoc]
   omega
 have e2 : R = (M - (q1 * 4294967296 + q0) * y) * p := by rw [Int.sub_mul]; omega
 generalize (q1 * 4294967296 + q0) = Q at e2 ⊢
 have e3 : R / p = M - Q * y := by rw [e2]; exact Int.mul_ediv_cancel _ (by omega)
 have g0 : 0 <= M - Q * y := by rw [<- e3]; exact Int.ediv_nonneg h0 (by omega)
 have g1 : M - Q * y < y := by
   rcases Int.lt_or_le (M - Q * y) y with h | h
   · exact h
   · have := Int.mul_le_mul_of_nonneg_right h (show 0 <= p by omega)
     omega
 have hM' : M = (M - Q * y) + Q * y := by omega
 rw [e3]
 constructor
 · have : M / y = (M - Q * y + Q * y) / y := by rw [<- hM']
   rw [this, Int.add_mul_ediv_right _ _ (by omega), Int.ediv_eq_zero_of_lt g0 g1]; omega
 · have : M % y = (M - Q * y + Q * y) % y := by rw [<- hM']
   rw [this, Int.add_mul_emod_self_right, Int.emod_eq_of_lt g0 g1]

theorem shift_ok (hi lo y : Nat) (s : Nat) (hs : s <= 63) (hhi : hi < y) (hlo : lo < 18446744073709551616) (hy : y * 2 ^ s < 18446744073709551616) :
   bits .or .u64 (IntKind.u64.wrap ((hi : Int) * 2 ^ s)) ((lo : Int) / 2 ^ (64 - s)) = ((hi * 2 ^ s + lo / 2 ^ (64 - s) : Nat) : Int) /\
   hi * 2 ^ s + lo / 2 ^ (64 - s) < y * 2 ^ s /\
   IntKind.u64.wrap ((lo : Int) * 2 ^ s) = ((lo * 2 ^ s % 18446744073709551616 : Nat) : Int) /\
   (hi * 18446744073709551616 + lo) * 2 ^ s = (hi * 2 ^ s + lo / 2 ^ (64 - s)) * 18446744073709551616 + lo * 2 ^ s % 18446744073709551616 := by
 have hp : 2 ^ s * 2 ^ (64 - s) = 18446744073709551616 := by rw [<- Nat.pow_add, show s + (64 - s) = 64 by omega]
 have hps : 0 < 2 ^ s := Nat.two_pow_pos s
 have hpt : 0 < 2 ^ (64 - s) := Nat.two_pow_pos _
 have hl : lo / 2 ^ (64 - s) < 2 ^ s := by rw [Nat.div_lt_iff_lt_mul hpt, hp]; exact hlo
 have hh : hi * 2 ^ s + 2 ^ s <= y * 2 ^ s := by have := Nat.mul_le_mul_right (2 ^ s) (show hi + 1 <= y by omega); rw [Nat.add_mul, Nat.one_mul] at this; exact this
 have hd : lo * 2 ^ s / 18446744073709551616 = lo / 2 ^ (64 - s) := by rw [<- hp, Nat.mul_comm lo]; exact Nat.mul_div_mul_left _ _ hps
 have e1 : ((hi : Int) * 2 ^ s) = ((hi * 2 ^ s : Nat) : Int) := by simp
 have e2 : ((lo : Int) / 2 ^ (64 - s)) = ((lo / 2 ^ (64 - s) : Nat) : Int) := by simp
 have e3 : ((lo : Int) * 2 ^ s) = ((lo * 2 ^ s : Nat) : Int) := by simp
 refine ⟨?_, by omega, ?_, ?_⟩
 · rw [e1, e2, IntWalk.u64_in _ (by omega), bits_or_u64_nat _ _ (by omega) (by omega)]
   congr 1
   have := Nat.shiftLeft_add_eq_or_of_lt hl hi
   rw [Nat.shiftLeft_eq] at this
   exact this.symm
 · rw [e3, IntKind.wrap_u64]; omega
 · have := Nat.div_add_mod (lo * 2 ^ s) 18446744073709551616
   rw [hd] at this
   rw [Nat.add_mul, Nat.add_mul, Nat.mul_assoc, Nat.mul_comm 18446744073709551616 (2 ^ s), <- Nat.mul_assoc]
   omega
theorem mask_ok (a : Nat) (ha : a < 18446744073709551616) : bits .and .u64 (a : Int) 4294967295 = ((a % 4294967296 : Nat) : Int) := by
 have h := bits_and_u64_nat a 4294967295 ha (by omega)
 have e : a &&& 4294967295 = a % 4294967296 := Nat.and_two_pow_sub_one_eq_mod a 32
 rw [e] at h
 exact h
theorem bitLen_bd : ∀ (f x : Nat), x < 2 ^ f -> f <= 64 -> 0 < x -> 1 <= Lib.bitLen x /\ Lib.bitLen x <= f /\ 2 ^ (Lib.bitLen x - 1) <= x /\ x < 2 ^ Lib.bitLen x
 | 0, x, h, _, h0 => by simp at h; omega
 | f + 1, x, h, hf, h0 => by
   have h64 : 2 ^ (f + 1) <= 2 ^ 64 := Nat.pow_le_pow_right (by decide) hf
   have e := Lib.bitLen_half x (by omega) (by omega)
   by_cases h1 : x = 1
   · subst h1; refine ⟨?_, ?_, ?_, ?_⟩ <;> simp [e, show Lib.bitLen 0 = 0 from rfl]
   · have hlt : x / 2 < 2 ^ f := by rw [Nat.pow_succ] at h; omega
     obtain ⟨a, b, c, d⟩ := bitLen_bd f (x / 2) hlt (by omega) (by omega)
     rw [e]
     have e1 : 2 ^ (1 + Lib.bitLen (x / 2) - 1) = 2 * 2 ^ (Lib.bitLen (x / 2) - 1) := by
       rw [<- Nat.pow_succ']; congr 1; omega
     have e2 : 2 ^ (1 + Lib.bitLen (x / 2)) = 2 * 2 ^ (Lib.bitLen (x / 2)) := by rw [Nat.add_comm, Nat.pow_succ']
     rw [e1, e2]
     omega
theorem norm_ok (y : Nat) (h0 : 0 < y) (h : y < 18446744073709551616) : Lib.bitLen y <= 64 /\ 1 <= Lib.bitLen y /\ 9223372036854775808 <= y * 2 ^ (64 - Lib.bitLen y) /\ y * 2 ^ (64 - Lib.bitLen y) < 18446744073709551616 := by
 obtain ⟨a, b, c, d⟩ := bitLen_bd 64 y h (Nat.le_refl _) h0
 have hp : 0 < 2 ^ (64 - Lib.bitLen y) := Nat.two_pow_pos _
 have e1 : 2 ^ (Lib.bitLen y - 1) * 2 ^ (64 - Lib.bitLen y) = 9223372036854775808 := by rw [<- Nat.pow_add, show Lib.bitLen y - 1 + (64 - Lib.bitLen y) = 63 by omega]
 have e2 : 2 ^ Lib.bitLen y * 2 ^ (64 - Lib.bitLen y) = 18446744073709551616 := by rw [<- Nat.pow_add, show Lib.bitLen y + (64 - Lib.bitLen y) = 64 by omega]
 have c' := Nat.mul_le_mul_right (2 ^ (64 - Lib.bitLen y)) c
 have d' := Nat.mul_lt_mul_of_pos_right d hp
 omega
end Go.Proofs.YtmhhdedekblbnaaGreat.Dv
