/-
 The contracts of package num's Gcd, SqrtMul and Sqrt over this program: the greatest common divisor, the square roots rounded down.
 Conditions: the arguments are int64.
-/
import Derived.Test.YtmhhdedekblbnaaGreatQNum
import Derived.Deep.RegionHeld3
namespace Go.Proofs.YtmhhdedekblbnaaGreat
open Go.RowKit Go.Shelf Wd


def isq : Nat -> Nat
 | 0 => 0
 | n + 1 => if (isq n + 1) * (isq n + 1) <= n + 1 then isq n + 1 else isq n
theorem isq_spec (n : Nat) : isq n * isq n <= n /\ n < (isq n + 1) * (isq n + 1) := by
 induction n with
 | zero => decide
 | succ n ih =>
   unfold isq
   split
   · rename_i h
     refine ⟨h, ?_⟩
     have : (isq n + 1 + 1) * (isq n + 1 + 1) = (isq n + 1) * (isq n + 1) + 2 * (isq n + 1) + 1 := by
       rw [Nat.add_mul, Nat.mul_add, Nat.mul_one, Nat.one_mul]; omega
     omega
   · rename_i h
     exact ⟨by omega, by omega⟩
theorem isq_unique {n r : Nat} (h1 : r * r <= n) (h2 : n < (r + 1) * (r + 1)) : r = isq n := by
 obtain ⟨g1, g2⟩ := isq_spec n
 rcases Nat.lt_trichotomy r (isq n) with h | h | h
 · have := Nat.mul_le_mul (show r + 1 <= isq n by omega) (show r + 1 <= isq n by omega); omega
 · exact h
 · have := Nat.mul_le_mul (show isq n + 1 <= r by omega) (show isq n + 1 <= r by omega); omega
theorem newton_ge {N R r : Nat} (hR : 0 < R) (h : r * r <= N) : r <= (R + N / R) / 2 := by
 have key : 2 * r <= R + N / R := by
   rcases Nat.lt_or_ge R (2 * r) with hlt | hge
   · have h1 : (2 * r - R) * R <= r * r := by
       obtain ⟨d, hd⟩ : ∃ d, 2 * r = R + d := ⟨2 * r - R, by omega⟩
       rw [hd, Nat.add_sub_cancel_left]
       rcases Nat.le_total r R with hrR | hrR
       · obtain ⟨x, rfl⟩ : ∃ x, R = r + x := ⟨R - r, by omega⟩
         obtain rfl : d = r - x := by omega
         obtain ⟨y, rfl⟩ : ∃ y, r = x + y := ⟨r - x, by omega⟩
         rw [show x + y - x = y by omega]
         have e1 : y * (x + y + x) = x * y + y * y + x * y := by rw [Nat.mul_add, Nat.mul_add, Nat.mul_comm y x]
         have e2 : (x + y) * (x + y) = x * x + x * y + (x * y + y * y) := by rw [Nat.add_mul, Nat.mul_add, Nat.mul_add, Nat.mul_comm y x]
         omega
       · obtain ⟨x, rfl⟩ : ∃ x, r = R + x := ⟨r - R, by omega⟩
         obtain rfl : d = R + (x + x) := by omega
         have e1 : (R + (x + x)) * R = R * R + (x * R + x * R) := by rw [Nat.add_mul, Nat.add_mul]
         have e2 : (R + x) * (R + x) = R * R + x * R + (x * R + x * x) := by rw [Nat.add_mul, Nat.mul_add, Nat.mul_add, Nat.mul_comm R x]
         omega
     have h2 : 2 * r - R <= N / R := by rw [Nat.le_div_iff_mul_le hR]; omega
     omega
   · exact Nat.le_trans hge (Nat.le_add_right _ _)
 omega
theorem newton_stop {N R : Nat} (hR : 0 < R) (h : R <= (R + N / R) / 2) : R * R <= N := by
 have : R <= N / R := by omega
 rwa [Nat.le_div_iff_mul_le hR] at this
theorem newton_hi {N R : Nat} (hN : N < 85070591730234615865843651857942052865) (hR : 0 < R) (h : N < (R + 1) * (R + 1)) : N / 18446744073709551616 < R := by
 rcases Nat.lt_or_ge (N / 18446744073709551616) R with g | g
 · exact g
 · exfalso
   have h1 : R <= 4611686018427387904 := by omega
   have h2 : (R + 1) * (R + 1) = R * R + 2 * R + 1 := by rw [Nat.add_mul, Nat.mul_add, Nat.mul_one, Nat.one_mul]; omega
   have h3 : R * R <= 4611686018427387904 * R := Nat.mul_le_mul_right R h1
   have h4 : R * 18446744073709551616 <= N := by omega
   omega
theorem newton_start {N L : Nat} (h : N < 2 ^ L) : N < 2 ^ ((L + 1) / 2) * 2 ^ ((L + 1) / 2) := by
 rw [<- Nat.pow_add]
 exact Nat.lt_of_lt_of_le h (Nat.pow_le_pow_right (by decide) (by omega))
theorem isq_lt {N R : Nat} (h : N < R * R) : isq N < R := by
 rcases Nat.lt_or_ge (isq N) R with g | g
 · exact g
 · have := Nat.mul_le_mul g g; have := (isq_spec N).1; omega
theorem above {N R : Nat} (h : isq N <= R) : N < (R + 1) * (R + 1) := by
 have := Nat.mul_le_mul (show isq N + 1 <= R + 1 by omega) (show isq N + 1 <= R + 1 by omega)
 have := (isq_spec N).2
 omega

theorem newton_sum {N R : Nat} (hN : N <= 9223372036854775807 * 9223372036854775807) (hR : 0 < R) (h2 : R <= 9223372036854775808) (h : N < (R + 1) * (R + 1)) : R + N / R < 18446744073709551616 := by
 obtain ⟨D, hD⟩ : ∃ D, N / R = D := ⟨_, rfl⟩
 have h1 : D * R <= N := by rw [<- hD]; exact Nat.div_mul_le_self N R
 rw [hD]
 rcases Nat.lt_or_ge (R + D) 18446744073709551616 with g | g
 · exact g
 · exfalso
   have e1 : (R + 1) * (R + 1) = R * R + 2 * R + 1 := by rw [Nat.add_mul, Nat.mul_add, Nat.mul_one, Nat.one_mul]; omega
   have hD2 : D <= R + 2 := by
     rcases Nat.lt_or_ge (R + 2) D with k | k
     · have := Nat.mul_le_mul_right R (show R + 3 <= D by omega)
       rw [Nat.add_mul] at this
       omega
     · exact k
   rcases Nat.lt_or_ge R 9223372036854775808 with k | k
   · obtain rfl : R = 9223372036854775807 := by omega
     omega
   · obtain rfl : R = 9223372036854775808 := by omega
     omega


theorem size_any (a : Int) (a1 : -9223372036854775808 <= a) (a2 : a <= 9223372036854775807) (w : World) :
   Calls Tryz.prog 191 #[.int .i64 a] w fun e w' => e = .returned (.int .u64 (a.natAbs : Int)) /\ w = w' := by
 by_cases h : a < 0
 · have e : IntKind.u64.wrap (-IntKind.u64.wrap a) = (a.natAbs : Int) := by rw [IntKind.wrap_u64, IntKind.wrap_u64]; omega
   have hd : decide (a < 0) = true := by simpa using h
   go_enter Tryz.func191, Tryz.ntmps191
   go_wp2
   go_ret
   exact ⟨rfl, rfl⟩
 · have e : IntKind.u64.wrap a = (a.natAbs : Int) := by rw [IntKind.wrap_u64]; omega
   have hd : decide (a < 0) = false := by simpa using h
   go_enter Tryz.func191, Tryz.ntmps191
   go_wp2
   go_ret
   exact ⟨rfl, rfl⟩

def gcdV (a b : Int) : Int := if 9223372036854775807 < Nat.gcd a.natAbs b.natAbs then 0 else (Nat.gcd a.natAbs b.natAbs : Int)
set_option maxHeartbeats 1000000 in
theorem gcd_any (a b : Int) (a1 : -9223372036854775808 <= a) (a2 : a <= 9223372036854775807) (b1 : -9223372036854775808 <= b) (b2 : b <= 9223372036854775807) (w : World) :
   Calls Tryz.prog 153 #[.int .i64 a, .int .i64 b] w fun e w' => e = .returned (.int .i64 (gcdV a b)) /\ Below w.heap.size w w' := by
 obtain ⟨M, hM⟩ : ∃ M, a.natAbs = M := ⟨_, rfl⟩
 obtain ⟨N, hN⟩ : ∃ N, b.natAbs = N := ⟨_, rfl⟩
 have hM1 : M <= 9223372036854775808 := by omega
 have hN1 : N <= 9223372036854775808 := by omega
 obtain ⟨G, hG⟩ : ∃ G, Nat.gcd M N = G := ⟨_, rfl⟩
 have HV : Hid (gcdV a b = if 9223372036854775807 < G then 0 else (G : Int)) := by unfold Hid gcdV; rw [hM, hN, hG]
 have HG := Lib.hid hG
 clear hG
 go_enter Tryz.func153, Tryz.ntmps153
 go_wp2_with (first
   | (go_at_call 191; (with_reducible refine (size_any a a1 a2 _).mono ?_); rw [hM]; rintro e w1 ⟨rfl, rfl⟩)
   | (go_at_call 191; (with_reducible refine (size_any b b1 b2 _).mono ?_); rw [hN]; rintro e w1 ⟨rfl, rfl⟩))
 clear hM hN
 go_loopw [5, 6] (fun x y wr => ∃ m n : Nat, x = .int .u64 m /\ y = .int .u64 n /\ m <= 9223372036854775808 /\ n <= 9223372036854775808 /\ Hid (Nat.gcd m n = G) /\ Below w.heap.size w wr) (fun _ y _ => (intOf y).toNat)
 case atStart => exact ⟨M, N, rfl, rfl, hM1, hN1, HG, Below.refl _ _⟩
 case round =>
   obtain ⟨m, n, rfl, rfl, g1, g2, g3, g4⟩ := hrel
   rcases Nat.eq_zero_or_pos n with h | h
   · subst h
     have hm : m = G := by have := g3.out; simpa using this
     subst hm
     by_cases hb : 9223372036854775807 < m
     · have K : Hid (gcdV a b = 0) := by unfold Hid; rw [HV.out, if_pos hb]
       go_wp2
       go_ret
       exact ⟨by rw [K.out]; rfl, g4⟩
     · have K : Hid (gcdV a b = m) := by unfold Hid; rw [HV.out, if_neg hb]
       go_wp2
       go_ret
       exact ⟨by rw [K.out]; rfl, g4⟩
   · have K : Hid (Nat.gcd n (m % n) = G) := by unfold Hid; rw [<- g3.out, Nat.gcd_comm m n, Nat.gcd_rec n m, Nat.gcd_comm]
     have hlt := Nat.mod_lt m h
     have hne : ((n : Int) != 0) = true := by simp; omega
     have hne2 : ((n : Int) == 0) = false := by simp; omega
     go_wp2
     go_quiet (fail)
     go_wp2
     refine ⟨⟨n, m % n, rfl, by simp, by omega, by omega, K, Below.drewN g4 _⟩, ?_⟩
     simp [intOf]; omega

def bl (N : Nat) : Nat := if N / 18446744073709551616 = 0 then Lib.bitLen (N % 18446744073709551616) else 64 + Lib.bitLen (N / 18446744073709551616)
theorem bl_spec {N : Nat} (h0 : 0 < N) (h : N < 85070591730234615865843651857942052865) : N < 2 ^ bl N /\ bl N <= 126 \/ N = 85070591730234615865843651857942052864 := by
 unfold bl
 split
 · rename_i hz
   obtain ⟨a, b, c, d⟩ := Dv.bitLen_bd 64 (N % 18446744073709551616) (by omega) (by omega) (by omega)
   exact .inl ⟨by omega, by omega⟩
 · rename_i hz
   by_cases hN : N = 85070591730234615865843651857942052864
   · exact .inr hN
   · obtain ⟨a, b, c, d⟩ := Dv.bitLen_bd 62 (N / 18446744073709551616) (by omega) (by omega) (by omega)
     refine .inl ⟨?_, by omega⟩
     rw [Nat.pow_add]
     have : (N / 18446744073709551616 + 1) * 18446744073709551616 <= 2 ^ Lib.bitLen (N / 18446744073709551616) * 18446744073709551616 := Nat.mul_le_mul_right _ d
     rw [Nat.mul_comm (2 ^ 64)]
     have e : (2 : Nat) ^ 64 = 18446744073709551616 := by decide
     rw [e]
     omega
theorem bitLen_any (N : Nat) (hN : N < 340282366920938463463374607431768211456) (w : World) :
   Calls Tryz.prog 168 #[.int .u64 ((N : Int) / 18446744073709551616), .int .u64 ((N : Int) % 18446744073709551616)] w fun e w' => e = .returned (.int .i64 (bl N)) /\ w = w' := by
 by_cases hz : N / 18446744073709551616 = 0
 · have e : bl N = Lib.bitLen (N % 18446744073709551616) := by unfold bl; rw [if_pos hz]
   have E := Lib.hid e
   have e2 : ((N : Int) % 18446744073709551616).toNat = N % 18446744073709551616 := by omega
   have e1 : ((N : Int) / 18446744073709551616 != 0) = false := by simp; omega
   clear e
   go_enter Tryz.func168, Tryz.ntmps168
   go_wp2_with (go_at_call 139; (with_reducible refine (Tryz.bits_Len64 ((N : Int) % 18446744073709551616) _ (by omega) (by omega)).mono ?_); rw [e2]; rintro e w1 ⟨rfl, rfl⟩)
   go_ret
   exact ⟨by rw [E.out]; rfl, rfl⟩
 · have e : bl N = 64 + Lib.bitLen (N / 18446744073709551616) := by unfold bl; rw [if_neg hz]
   have E := Lib.hid e
   have e2 : ((N : Int) / 18446744073709551616).toNat = N / 18446744073709551616 := by omega
   have e1 : ((N : Int) / 18446744073709551616 != 0) = true := by simp; omega
   obtain ⟨_, hb, _, _⟩ := Dv.bitLen_bd 64 (N / 18446744073709551616) (by omega) (by omega) (by omega)
   clear e
   go_enter Tryz.func168, Tryz.ntmps168
   go_wp2_with (go_at_call 139; (with_reducible refine (Tryz.bits_Len64 ((N : Int) / 18446744073709551616) _ (by omega) (by omega)).mono ?_); rw [e2]; rintro e w1 ⟨rfl, rfl⟩)
   go_ret
   exact ⟨by rw [E.out]; simp; done, rfl⟩

theorem mul64_any (x y : Nat) (hx : x < 18446744073709551616) (hy : y < 18446744073709551616) (w : World) :
   Calls Tryz.prog 167 #[.int .u64 x, .int .u64 y] w fun e w' => e = .returned (.tuple #[.int .u64 ((x * y / 18446744073709551616 : Nat) : Int), .int .u64 ((x * y % 18446744073709551616 : Nat) : Int)]) /\ w = w' :=
 (Tryz.bits_Mul64 x y hx hy w).mono fun _ _ ⟨a, b⟩ => ⟨a, b.symm⟩

theorem sqrtmul_low (a b : Int) (h : a <= 0 \/ b <= 0) (w : World) :
   Calls Tryz.prog 121 #[.int .i64 a, .int .i64 b] w fun e w' => e = .returned (.int .i64 0) /\ w = w' := by
 by_cases ha : a <= 0
 · have hd : decide (a <= 0) = true := decide_eq_true ha
   go_enter Tryz.func121, Tryz.ntmps121
   go_wp2
   go_ret
   exact ⟨rfl, rfl⟩
 · have hd : decide (a <= 0) = false := decide_eq_false ha
   have hd2 : decide (b <= 0) = true := decide_eq_true (by omega)
   go_enter Tryz.func121, Tryz.ntmps121
   go_wp2
   go_ret
   exact ⟨rfl, rfl⟩

set_option maxHeartbeats 1000000 in
theorem sqrtmul_pos (a b : Nat) (a0 : 0 < a) (b0 : 0 < b) (a2 : a <= 9223372036854775807) (b2 : b <= 9223372036854775807) (w : World) :
   Calls Tryz.prog 121 #[.int .i64 a, .int .i64 b] w fun e w' => e = .returned (.int .i64 (isq (a * b))) /\ Below w.heap.size w w' := by
 obtain ⟨N, hN⟩ : ∃ N, a * b = N := ⟨_, rfl⟩
 have h1 : a * b <= 9223372036854775807 * 9223372036854775807 := Nat.mul_le_mul a2 b2
 have h2 : 0 < a * b := Nat.mul_pos a0 b0
 obtain ⟨r, hr⟩ : ∃ r, isq N = r := ⟨_, rfl⟩
 have hs := isq_spec N
 rw [hN] at h1 h2
 have hb := (bl_spec h2 (by omega)).resolve_right (by omega)
 obtain ⟨E, hE⟩ : ∃ E, 2 ^ ((bl N + 1) / 2) = E := ⟨_, rfl⟩
 have hst := newton_start hb.1
 rw [hE] at hst
 have hrE := isq_lt hst
 have hE2 : E <= 9223372036854775808 := by rw [<- hE]; exact Nat.le_trans (Nat.pow_le_pow_right (by decide) (show (bl N + 1) / 2 <= 63 by omega)) (by decide)
 have q1 : ((N / 18446744073709551616 : Nat) : Int) = (N : Int) / 18446744073709551616 := by omega
 have q2 : ((N % 18446744073709551616 : Nat) : Int) = (N : Int) % 18446744073709551616 := by omega
 rw [hr] at hs hrE
 have hr1 : 0 < r := by
   rcases Nat.eq_zero_or_pos r with h | h
   · subst h; omega
   · exact h
 have d1 : decide ((a : Int) <= 0) = false := decide_eq_false (by omega)
 have d2 : decide ((b : Int) <= 0) = false := decide_eq_false (by omega)
 obtain ⟨L, hL⟩ : ∃ L, bl N = L := ⟨_, rfl⟩
 rw [hL] at hb hE
 have hL2 := hb.2
 have hmin : min ((L + 1) / 2) 64 = (L + 1) / 2 := by omega
 have HL := Lib.hid hL
 have HS := Lib.hid hs
 have HE := Lib.hid hE
 have hw : IntKind.u64.wrap (2 ^ ((L + 1) / 2)) = (E : Int) := by
   have e : ((2 ^ ((L + 1) / 2) : Nat) : Int) = 2 ^ ((L + 1) / 2) := by rw [Int.natCast_pow]; rfl
   rw [<- e, hE, IntKind.wrap_u64]; omega
 clear hb hst hs hE hL
 go_enter Tryz.func121, Tryz.ntmps121
 go_wp2_with (first
   | (go_at_call 167; (with_reducible refine (mul64_any a b (by omega) (by omega) _).mono ?_); rw [hN, q1, q2]; rintro e w1 ⟨rfl, rfl⟩)
   | (go_at_call 168; (with_reducible refine (bitLen_any N (by omega) _).mono ?_); rw [HL.out]; rintro e w1 ⟨rfl, rfl⟩))
 go_loopw [7] (fun x wr => ∃ R : Nat, x = .int .u64 R /\ r <= R /\ 0 < R /\ R <= 9223372036854775808 /\ Below w.heap.size w wr) (fun x _ => (intOf x).toNat)
 case atStart => exact ⟨E, congrArg _ hw, by omega, by omega, hE2, Below.refl _ _⟩
 case round =>
   clear hw hmin
   obtain ⟨R, rfl, g1, g2, g3, g4⟩ := hrel
   have hup := above (N := N) (R := R) (by omega)
   have hhi := newton_hi (N := N) (by omega) g2 hup
   have hge := newton_ge (N := N) (r := r) g2 (by rw [<- hr]; exact (isq_spec N).1)
   have hsum := newton_sum (N := N) (R := R) h1 g2 g3 hup
   have k1 : (N : Int) / 18446744073709551616 * 18446744073709551616 + (N : Int) % 18446744073709551616 = N := by omega
   obtain ⟨D, hD⟩ : ∃ D, N / R = D := ⟨_, rfl⟩
   have k2 : (N : Int) / (R : Int) = (D : Int) := by rw [<- hD]; exact (Int.natCast_ediv N R).symm
   rw [hD] at hge hsum
   have HD := Lib.hid hD
   clear hD hup
   by_cases hlt : (R + D) / 2 < R
   · have t1 : decide ((R : Int) <= ((R : Int) + D) / 2) = false := decide_eq_false (by omega)
     go_wp2_with (go_at_call 169; (with_reducible refine (div64_any _ _ _ (by omega) (by omega) (by omega) (by omega) (by omega) _).mono ?_); rw [k1, k2]; rintro e w1 ⟨rfl, k, rfl⟩)
     go_roundw
     case rel => exact ⟨(R + D) / 2, by simp, hge, by omega, by omega, Below.drewN g4 _⟩
     case measure => simp [intOf]; omega
   · have hR : R = r := by
       have := newton_stop (N := N) g2 (by rw [HD.out]; omega)
       rw [<- hr]
       exact isq_unique this (above (by omega))
     have t1 : decide ((R : Int) <= ((R : Int) + D) / 2) = true := decide_eq_true (by omega)
     have hR2 : R < E := by omega
     have HR := Lib.hid hR
     have HRR := Lib.hid hr
     clear hR hr
     go_wp2_with (go_at_call 169; (with_reducible refine (div64_any _ _ _ (by omega) (by omega) (by omega) (by omega) (by omega) _).mono ?_); rw [k1, k2]; rintro e w1 ⟨rfl, k, rfl⟩)
     go_ret
     exact ⟨by rw [hN, HRR.out, <- HR.out]; rfl, Below.drewN g4 _⟩

theorem sqrtmul_any (a b : Int) (a1 : -9223372036854775808 <= a) (a2 : a <= 9223372036854775807) (b1 : -9223372036854775808 <= b) (b2 : b <= 9223372036854775807) (w : World) :
   Calls Tryz.prog 121 #[.int .i64 a, .int .i64 b] w fun e w' => e = .returned (.int .i64 (isq (a.toNat * b.toNat))) /\ Below w.heap.size w w' := by
 by_cases h : a <= 0 \/ b <= 0
 · have e : isq (a.toNat * b.toNat) = 0 := by
     rcases h with h | h
     · rw [show a.toNat = 0 by omega, Nat.zero_mul]; rfl
     · rw [show b.toNat = 0 by omega, Nat.mul_zero]; rfl
   rw [e]
   exact (sqrtmul_low a b h w).mono fun _ _ ⟨x, y⟩ => ⟨x, by rw [<- y]; exact Below.refl _ _⟩
 · obtain ⟨x, rfl⟩ := Int.eq_ofNat_of_zero_le (show 0 <= a by omega)
   obtain ⟨y, rfl⟩ := Int.eq_ofNat_of_zero_le (show 0 <= b by omega)
   exact sqrtmul_pos x y (by omega) (by omega) (by omega) (by omega) w

theorem sqrt_any (a : Int) (a1 : -9223372036854775808 <= a) (a2 : a <= 9223372036854775807) (w : World) :
   Calls Tryz.prog 178 #[.int .i64 a] w fun e w' => e = .returned (.int .i64 (isq a.toNat)) /\ Below w.heap.size w w' := by
 have E : Hid (isq (a.toNat * (1 : Int).toNat) = isq a.toNat) := by unfold Hid; simp
 go_enter Tryz.func178, Tryz.ntmps178
 go_wp2_with (go_at_call 121; (with_reducible refine (sqrtmul_any a 1 a1 a2 (by omega) (by omega) _).mono ?_); rw [E.out]; rintro e w1 ⟨rfl, hb1⟩)
 go_ret
 exact ⟨rfl, hb1⟩
end Go.Proofs.YtmhhdedekblbnaaGreat
