/-
  The contracts of package num's Gcd, SqrtMul and Sqrt over this program: the greatest common divisor, the square roots rounded down.
  Conditions: the arguments are int64.
-/
import Derived.Test.YtocheeocnbfbiaaDoorNum
import Derived.Deep.RegionHeld3
namespace Go.Proofs.YtocheeocnbfbiaaDoor
open Go.RowKit Go.Shelf Wd

/-! ### plain arithmetic -/
/-- The square root, rounded down. -/
def isq : Nat → Nat
  | 0 => 0
  | n + 1 => if (isq n + 1) * (isq n + 1) ≤ n + 1 then isq n + 1 else isq n
theorem isq_spec (n : Nat) : isq n * isq n ≤ n ∧ n < (isq n + 1) * (isq n + 1) := by
  induction n with
  | zero => decide
  | succ n ih =>
    unfold isq
    split
    · rename_i h
      refine ⟨h, ?_⟩
      have : (isq n + 1 + 1) * (isq n + 1 + 1) = (isq n + 1) * (isq n + 1) + 2 * (isq n + 1) + 1 := by
        rw [Nat.add_mul, Nat.mul_add, Nat.mul_one, Nat.one_mul]; omega
      omega
    · rename_i h
      exact ⟨by omega, by omega⟩
theorem isq_unique {n r : Nat} (h1 : r * r ≤ n) (h2 : n < (r + 1) * (r + 1)) : r = isq n := by
  obtain ⟨g1, g2⟩ := isq_spec n
  rcases Nat.lt_trichotomy r (isq n) with h | h | h
  · have := Nat.mul_le_mul (show r + 1 ≤ isq n by omega) (show r + 1 ≤ isq n by omega); omega
  · exact h
  · have := Nat.mul_le_mul (show isq n + 1 ≤ r by omega) (show isq n + 1 ≤ r by omega); omega
/-- A step of Newton's method from above does not go below the root. -/
theorem newton_ge {N R r : Nat} (hR : 0 < R) (h : r * r ≤ N) : r ≤ (R + N / R) / 2 := by
  have key : 2 * r ≤ R + N / R := by
    rcases Nat.lt_or_ge R (2 * r) with hlt | hge
    · have h1 : (2 * r - R) * R ≤ r * r := by
        obtain ⟨d, hd⟩ : ∃ d, 2 * r = R + d := ⟨2 * r - R, by omega⟩
        rw [hd, Nat.add_sub_cancel_left]
        rcases Nat.le_total r R with hrR | hrR
        · obtain ⟨x, rfl⟩ : ∃ x, R = r + x := ⟨R - r, by omega⟩
          obtain rfl : d = r - x := by omega
          obtain ⟨y, rfl⟩ : ∃ y, r = x + y := ⟨r - x, by omega⟩
          rw [show x + y - x = y by omega]
          have e1 : y * (x + y + x) = x * y + y * y + x * y := by rw [Nat.mul_add, Nat.mul_add, Nat.mul_comm y x]
          have e2 : (x + y) * (x + y) = x * x + x * y + (x * y + y * y) := by rw [Nat.add_mul, Nat.mul_add, Nat.mul_add, Nat.mul_comm y x]
          omega
        · obtain ⟨x, rfl⟩ : ∃ x, r = R + x := ⟨r - R, by omega⟩
          obtain rfl : d = R + (x + x) := by omega
          have e1 : (R + (x + x)) * R = R * R + (x * R + x * R) := by rw [Nat.add_mul, Nat.add_mul]
          have e2 : (R + x) * (R + x) = R * R + x * R + (x * R + x * x) := by rw [Nat.add_mul, Nat.mul_add, Nat.mul_add, Nat.mul_comm R x]
          omega
      have h2 : 2 * r - R ≤ N / R := by rw [Nat.le_div_iff_mul_le hR]; omega
      omega
    · exact Nat.le_trans hge (Nat.le_add_right _ _)
  omega
theorem newton_stop {N R : Nat} (hR : 0 < R) (h : R ≤ (R + N / R) / 2) : R * R ≤ N := by
  have : R ≤ N / R := by omega
  rwa [Nat.le_div_iff_mul_le hR] at this
theorem newton_hi {N R : Nat} (hN : N < 85070591730234615865843651857942052865) (hR : 0 < R) (h : N < (R + 1) * (R + 1)) : N / 18446744073709551616 < R := by
  rcases Nat.lt_or_ge (N / 18446744073709551616) R with g | g
  · exact g
  · exfalso
    have h1 : R ≤ 4611686018427387904 := by omega
    have h2 : (R + 1) * (R + 1) = R * R + 2 * R + 1 := by rw [Nat.add_mul, Nat.mul_add, Nat.mul_one, Nat.one_mul]; omega
    have h3 : R * R ≤ 4611686018427387904 * R := Nat.mul_le_mul_right R h1
    have h4 : R * 18446744073709551616 ≤ N := by omega
    omega
theorem newton_start {N L : Nat} (h : N < 2 ^ L) : N < 2 ^ ((L + 1) / 2) * 2 ^ ((L + 1) / 2) := by
  rw [← Nat.pow_add]
  exact Nat.lt_of_lt_of_le h (Nat.pow_le_pow_right (by decide) (by omega))
theorem isq_lt {N R : Nat} (h : N < R * R) : isq N < R := by
  rcases Nat.lt_or_ge (isq N) R with g | g
  · exact g
  · have := Nat.mul_le_mul g g; have := (isq_spec N).1; omega
theorem above {N R : Nat} (h : isq N ≤ R) : N < (R + 1) * (R + 1) := by
  have := Nat.mul_le_mul (show isq N + 1 ≤ R + 1 by omega) (show isq N + 1 ≤ R + 1 by omega)
  have := (isq_spec N).2
  omega

theorem newton_sum {N R : Nat} (hN : N ≤ 9223372036854775807 * 9223372036854775807) (hR : 0 < R) (h2 : R ≤ 9223372036854775808) (h : N < (R + 1) * (R + 1)) : R + N / R < 18446744073709551616 := by
  obtain ⟨D, hD⟩ : ∃ D, N / R = D := ⟨_, rfl⟩
  have h1 : D * R ≤ N := by rw [← hD]; exact Nat.div_mul_le_self N R
  rw [hD]
  rcases Nat.lt_or_ge (R + D) 18446744073709551616 with g | g
  · exact g
  · exfalso
    have e1 : (R + 1) * (R + 1) = R * R + 2 * R + 1 := by rw [Nat.add_mul, Nat.mul_add, Nat.mul_one, Nat.one_mul]; omega
    have hD2 : D ≤ R + 2 := by
      rcases Nat.lt_or_ge (R + 2) D with k | k
      · have := Nat.mul_le_mul_right R (show R + 3 ≤ D by omega)
        rw [Nat.add_mul] at this
        omega
      · exact k
    rcases Nat.lt_or_ge R 9223372036854775808 with k | k
    · obtain rfl : R = 9223372036854775807 := by omega
      omega
    · obtain rfl : R = 9223372036854775808 := by omega
      omega

/-! ### the contracts -/
theorem size_any (a : Int) (a1 : -9223372036854775808 ≤ a) (a2 : a ≤ 9223372036854775807) (w : World) :
    Calls Tryd.prog 46 #[.int .i64 a] w fun e w' => e = .returned (.int .u64 (a.natAbs : Int)) ∧ w = w' := by
  by_cases h : a < 0
  · have e : IntKind.u64.wrap (-IntKind.u64.wrap a) = (a.natAbs : Int) := by rw [IntKind.wrap_u64, IntKind.wrap_u64]; omega
    have hd : decide (a < 0) = true := by simpa using h
    go_enter Tryd.func46, Tryd.ntmps46
    go_wp2
    go_ret
    exact ⟨rfl, rfl⟩
  · have e : IntKind.u64.wrap a = (a.natAbs : Int) := by rw [IntKind.wrap_u64]; omega
    have hd : decide (a < 0) = false := by simpa using h
    go_enter Tryd.func46, Tryd.ntmps46
    go_wp2
    go_ret
    exact ⟨rfl, rfl⟩

/-- What Gcd returns. -/
def gcdV (a b : Int) : Int := if 9223372036854775807 < Nat.gcd a.natAbs b.natAbs then 0 else (Nat.gcd a.natAbs b.natAbs : Int)
theorem gcd_le {m n : Nat} (hm : m ≤ 9223372036854775808) (hn : n ≤ 9223372036854775808) : Nat.gcd m n ≤ 9223372036854775808 := by
  rcases Nat.eq_zero_or_pos n with h | h
  · subst h; simpa using hm
  · exact Nat.le_trans (Nat.gcd_le_right m h) hn

set_option maxHeartbeats 1000000 in
/-- num.Gcd. -/
theorem gcd_any (a b : Int) (a1 : -9223372036854775808 ≤ a) (a2 : a ≤ 9223372036854775807) (b1 : -9223372036854775808 ≤ b) (b2 : b ≤ 9223372036854775807) (w : World) :
    Calls Tryd.prog 19 #[.int .i64 a, .int .i64 b] w fun e w' => e = .returned (.int .i64 (gcdV a b)) ∧ Below w.heap.size w w' := by
  obtain ⟨M, hM⟩ : ∃ M, a.natAbs = M := ⟨_, rfl⟩
  obtain ⟨N, hN⟩ : ∃ N, b.natAbs = N := ⟨_, rfl⟩
  have hM1 : M ≤ 9223372036854775808 := by omega
  have hN1 : N ≤ 9223372036854775808 := by omega
  obtain ⟨G, hG⟩ : ∃ G, Nat.gcd M N = G := ⟨_, rfl⟩
  have HV : Hid (gcdV a b = if 9223372036854775807 < G then 0 else (G : Int)) := by unfold Hid gcdV; rw [hM, hN, hG]
  have HG := Lib.hid hG
  clear hG
  go_enter Tryd.func19, Tryd.ntmps19
  go_wp2_with (first
    | (go_at_call 46; (with_reducible refine (size_any a a1 a2 _).mono ?_); rw [hM]; rintro e w1 ⟨rfl, rfl⟩)
    | (go_at_call 46; (with_reducible refine (size_any b b1 b2 _).mono ?_); rw [hN]; rintro e w1 ⟨rfl, rfl⟩))
  clear hM hN
  go_loopw [5, 6] (fun x y wr => ∃ m n : Nat, x = .int .u64 m ∧ y = .int .u64 n ∧ m ≤ 9223372036854775808 ∧ n ≤ 9223372036854775808 ∧ Hid (Nat.gcd m n = G) ∧ Below w.heap.size w wr) (fun _ y _ => (intOf y).toNat)
  case atStart => exact ⟨M, N, rfl, rfl, hM1, hN1, HG, Below.refl _ _⟩
  case round =>
    obtain ⟨m, n, rfl, rfl, g1, g2, g3, g4⟩ := hrel
    rcases Nat.eq_zero_or_pos n with h | h
    · subst h
      have hm : m = G := by have := g3.out; simpa using this
      subst hm
      by_cases hb : 9223372036854775807 < m
      · have K : Hid (gcdV a b = 0) := by unfold Hid; rw [HV.out, if_pos hb]
        go_wp2
        go_ret
        exact ⟨by rw [K.out]; rfl, g4⟩
      · have K : Hid (gcdV a b = m) := by unfold Hid; rw [HV.out, if_neg hb]
        go_wp2
        go_ret
        exact ⟨by rw [K.out]; rfl, g4⟩
    · have K : Hid (Nat.gcd n (m % n) = G) := by unfold Hid; rw [← g3.out, Nat.gcd_comm m n, Nat.gcd_rec n m, Nat.gcd_comm]
      have hlt := Nat.mod_lt m h
      have hne : ((n : Int) != 0) = true := by simp; omega
      have hne2 : ((n : Int) == 0) = false := by simp; omega
      go_wp2
      go_quiet (fail)
      go_wp2
      refine ⟨⟨n, m % n, rfl, by simp, by omega, by omega, K, Below.drewN g4 _⟩, ?_⟩
      simp [intOf]; omega

/-- How many bits a number of two words has. -/
def bl (N : Nat) : Nat := if N / 18446744073709551616 = 0 then Lib.bitLen (N % 18446744073709551616) else 64 + Lib.bitLen (N / 18446744073709551616)
theorem bl_spec {N : Nat} (h0 : 0 < N) (h : N < 85070591730234615865843651857942052865) : N < 2 ^ bl N ∧ bl N ≤ 126 ∨ N = 85070591730234615865843651857942052864 := by
  unfold bl
  split
  · rename_i hz
    obtain ⟨a, b, c, d⟩ := Dv.bitLen_bd 64 (N % 18446744073709551616) (by omega) (by omega) (by omega)
    exact .inl ⟨by omega, by omega⟩
  · rename_i hz
    by_cases hN : N = 85070591730234615865843651857942052864
    · exact .inr hN
    · obtain ⟨a, b, c, d⟩ := Dv.bitLen_bd 62 (N / 18446744073709551616) (by omega) (by omega) (by omega)
      refine .inl ⟨?_, by omega⟩
      rw [Nat.pow_add]
      have : (N / 18446744073709551616 + 1) * 18446744073709551616 ≤ 2 ^ Lib.bitLen (N / 18446744073709551616) * 18446744073709551616 := Nat.mul_le_mul_right _ d
      rw [Nat.mul_comm (2 ^ 64)]
      have e : (2 : Nat) ^ 64 = 18446744073709551616 := by decide
      rw [e]
      omega
theorem mul64_any (x y : Nat) (hx : x < 18446744073709551616) (hy : y < 18446744073709551616) (w : World) :
    Calls Tryd.prog 64 #[.int .u64 x, .int .u64 y] w fun e w' => e = .returned (.tuple #[.int .u64 ((x * y / 18446744073709551616 : Nat) : Int), .int .u64 ((x * y % 18446744073709551616 : Nat) : Int)]) ∧ w = w' :=
  (Tryd.bits_Mul64 x y hx hy w).mono fun _ _ ⟨a, b⟩ => ⟨a, b.symm⟩

end Go.Proofs.YtocheeocnbfbiaaDoor

