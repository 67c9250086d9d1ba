/-
  The contracts of package num's Wide and of what it calls, over this program: each returns the number that its name says; of what was in memory nothing turns.
  Conditions: integer arguments lie in their kinds' ranges.
-/
import Derived.Test.YtiamhppdacfmmaaProg
import Derived.Test.YtiamhppdacfmmaaShelf
import Derived.Test.YtiamhppdacfmmaaDiv
import Derived.Test.YtiamhppdacfmmaaNumM
import Derived.WalkKit
import Derived.WalkSpells
import Derived.Handy
import Derived.BigQuiet
import Derived.Deep.QuietTactic
import Derived.RowKit3
import Derived.Lib.Hide
namespace Go.Proofs.Ytiamhppdacfmmaa
open Go.RowKit Go.Shelf Wd

theorem bcell {W w1 : World} (hb : Below W.heap.size W w1) : (∀ b o, b < W.heap.size → w1.cell? ⟨b, o, none⟩ = W.cell? ⟨b, o, none⟩) ∧ (∀ b o, b < W.heap.size → w1.frozen? ⟨b, o, none⟩ = W.frozen? ⟨b, o, none⟩) :=
  ⟨fun b o h => hb.cell (p := ⟨b, o, none⟩) h, fun b o h => hb.frozen (p := ⟨b, o, none⟩) h⟩
theorem Below.drewN {B : Nat} {a w : World} (h : Below B a w) (n : Nat) : Below B a (w.drewN n) := by
  induction n generalizing w with
  | zero => exact h
  | succ n ih => exact (ih h).drew

/-- Behind a call that makes memory. -/
theorem Below.after {B : Nat} {w0 W w1 : World} (hb : Below W.heap.size W w1) (h0 : Below B w0 W) (hB : B ≤ W.heap.size) :
    Below B w0 w1 ∧ W.heap.size ≤ w1.heap.size ∧ (∀ b o, b < W.heap.size → w1.cell? ⟨b, o, none⟩ = W.cell? ⟨b, o, none⟩) ∧ (∀ b o, b < W.heap.size → w1.frozen? ⟨b, o, none⟩ = W.frozen? ⟨b, o, none⟩) :=
  ⟨h0.trans (hb.mono hB), hb.size, (bcell hb).1, (bcell hb).2⟩

theorem Below.go {W w1 w2 : World} (h2 : Below w1.heap.size w1 w2) (h : Below W.heap.size W w1) : Below W.heap.size W w2 := h.trans (h2.mono h.size)

theorem cmp_i64 (a b : Int) (w : World) : Calls Try.prog 108 #[.int .i64 a, .int .i64 b] w fun e w' => e = .returned (.int .i64 (cmpI a b)) ∧ w = w' := by
  rcases Int.lt_or_le a b with h | h
  · go_enter Try.func108, Try.ntmps108
    go_wp2
    go_ret
    exact ⟨by rw [cmpI_lt h]; rfl, rfl⟩
  · by_cases h2 : b < a
    · go_enter Try.func108, Try.ntmps108
      go_wp2
      go_ret
      exact ⟨by rw [cmpI_gt h2]; rfl, rfl⟩
    · go_enter Try.func108, Try.ntmps108
      go_wp2
      go_ret
      exact ⟨by rw [cmpI_eq (by omega)]; rfl, rfl⟩

theorem cmp_u64 (a b : Int) (w : World) : Calls Try.prog 109 #[.int .u64 a, .int .u64 b] w fun e w' => e = .returned (.int .i64 (cmpI a b)) ∧ w = w' := by
  rcases Int.lt_or_le a b with h | h
  · go_enter Try.func109, Try.ntmps109
    go_wp2
    go_ret
    exact ⟨by rw [cmpI_lt h]; rfl, rfl⟩
  · by_cases h2 : b < a
    · go_enter Try.func109, Try.ntmps109
      go_wp2
      go_ret
      exact ⟨by rw [cmpI_gt h2]; rfl, rfl⟩
    · go_enter Try.func109, Try.ntmps109
      go_wp2
      go_ret
      exact ⟨by rw [cmpI_eq (by omega)]; rfl, rfl⟩

/-- num.Product. -/
theorem prod_any (a b : Int) (a1 : -9223372036854775808 ≤ a) (a2 : a ≤ 9223372036854775807) (b1 : -9223372036854775808 ≤ b) (b2 : b ≤ 9223372036854775807) (w : World) :
    Calls Try.prog 98 #[.int .i64 a, .int .i64 b] w fun e w' => e = .returned (wide (a * b)) ∧ Below w.heap.size w w' := by
  obtain ⟨x, hx⟩ : ∃ x : Nat, IntKind.u64.wrap a = (x : Int) := ⟨(IntKind.u64.wrap a).toNat, by rw [IntKind.wrap_u64]; omega⟩
  obtain ⟨y, hy⟩ : ∃ y : Nat, IntKind.u64.wrap b = (y : Int) := ⟨(IntKind.u64.wrap b).toNat, by rw [IntKind.wrap_u64]; omega⟩
  have hx' := hx
  have hy' := hy
  rw [IntKind.wrap_u64] at hx' hy'
  have hx1 : x < 18446744073709551616 := by omega
  have hy1 : y < 18446744073709551616 := by omega
  obtain ⟨H, hH⟩ : ∃ H, a * b / 18446744073709551616 = H := ⟨_, rfl⟩
  obtain ⟨L, hL⟩ : ∃ L, a * b % 18446744073709551616 = L := ⟨_, rfl⟩
  rcases Int.lt_or_le a 0 with ha | ha <;> rcases Int.lt_or_le b 0 with hb | hb
  · obtain ⟨p1, p2⟩ := prod_nn (x := x) (y := y) (a := a) (b := b) (by omega) (by omega) ha hb a1 b1
    rw [hH] at p1
    rw [hL] at p2
    have K1 := Lib.hid hH
    have K2 := Lib.hid hL
    clear hH hL hx' hy'
    go_enter Try.func98, Try.ntmps98
    go_wp2_with (go_at_call 92; refine (Try.bits_Mul64 x y hx1 hy1 _).mono ?_; rintro e w' ⟨rfl, rfl⟩)
    go_returns
    exact ⟨by rw [wide, K1.out, K2.out], by go_grown⟩
  · obtain ⟨p1, p2⟩ := prod_np (x := x) (y := y) (a := a) (b := b) (by omega) (by omega) ha a1 b2
    rw [hH] at p1
    rw [hL] at p2
    have K1 := Lib.hid hH
    have K2 := Lib.hid hL
    clear hH hL hx' hy'
    go_enter Try.func98, Try.ntmps98
    go_wp2_with (go_at_call 92; refine (Try.bits_Mul64 x y hx1 hy1 _).mono ?_; rintro e w' ⟨rfl, rfl⟩)
    go_returns
    exact ⟨by rw [wide, K1.out, K2.out], by go_grown⟩
  · obtain ⟨p1, p2⟩ := prod_pn (x := x) (y := y) (a := a) (b := b) (by omega) (by omega) hb b1 a2
    rw [hH] at p1
    rw [hL] at p2
    have K1 := Lib.hid hH
    have K2 := Lib.hid hL
    clear hH hL hx' hy'
    go_enter Try.func98, Try.ntmps98
    go_wp2_with (go_at_call 92; refine (Try.bits_Mul64 x y hx1 hy1 _).mono ?_; rintro e w' ⟨rfl, rfl⟩)
    go_returns
    exact ⟨by rw [wide, K1.out, K2.out], by go_grown⟩
  · obtain ⟨p1, p2⟩ := prod_pp (x := x) (y := y) (a := a) (b := b) (by omega) (by omega) a2 b2
    rw [hH] at p1
    rw [hL] at p2
    have K1 := Lib.hid hH
    have K2 := Lib.hid hL
    clear hH hL hx' hy'
    go_enter Try.func98, Try.ntmps98
    go_wp2_with (go_at_call 92; refine (Try.bits_Mul64 x y hx1 hy1 _).mono ?_; rintro e w' ⟨rfl, rfl⟩)
    go_returns
    exact ⟨by rw [wide, K1.out, K2.out], by go_grown⟩

/-- (num.Wide).flip: the complement. -/
theorem flip_any (n : Int) (hn : InW n) (w : World) :
    Calls Try.prog 110 #[wide n] w fun e w' => e = .returned (wide (-n - 1)) ∧ Below w.heap.size w w' := by
  obtain ⟨n1, n2⟩ := hn
  have s1 : IntKind.i64.signed = true := rfl
  have s2 : IntKind.u64.signed = false := rfl
  have p1 := not_i64 (n / 18446744073709551616) (by omega) (by omega)
  have p2 := not_u64 (n % 18446744073709551616) (by omega) (by omega)
  obtain ⟨H, hH⟩ : ∃ H, (-n - 1) / 18446744073709551616 = H := ⟨_, rfl⟩
  obtain ⟨L, hL⟩ : ∃ L, (-n - 1) % 18446744073709551616 = L := ⟨_, rfl⟩
  rw [show -(n / 18446744073709551616) - 1 = H by omega] at p1
  rw [show 18446744073709551615 - n % 18446744073709551616 = L by omega] at p2
  have K1 := Lib.hid hH
  have K2 := Lib.hid hL
  clear hH hL
  go_enter Try.func110, Try.ntmps110
  go_wp2
  go_returns
  exact ⟨by rw [wide, K1.out, K2.out], by go_grown⟩

theorem flip_in {n : Int} (hn : InW n) : InW (-n - 1) := by unfold InW at *; omega

/-- (num.Wide).Cmp. -/
theorem wcmp_any (n m : Int) (w : World) :
    Calls Try.prog 99 #[wide n, wide m] w fun e w' => e = .returned (.int .i64 (cmpI n m)) ∧ Below w.heap.size w w' := by
  by_cases h : n / 18446744073709551616 = m / 18446744073709551616
  · have K := Lib.hid (cmpI_lo h)
    have hb : (n / 18446744073709551616 == m / 18446744073709551616) = true := by simpa using h
    have hb2 : (n / 18446744073709551616 != m / 18446744073709551616) = false := by simpa using h
    clear h
    go_enter Try.func99, Try.ntmps99
    go_wp2_with (first
      | (go_at_call 109; refine (cmp_u64 _ _ _).mono ?_; rintro e w1 ⟨rfl, rfl⟩)
      | (go_at_call 108; refine (cmp_i64 _ _ _).mono ?_; rintro e w1 ⟨rfl, rfl⟩))
    go_ret
    exact ⟨by rw [← K.out]; rfl, by go_grown⟩
  · have K := Lib.hid (cmpI_hi h)
    have hb : (n / 18446744073709551616 == m / 18446744073709551616) = false := by simpa using h
    have hb2 : (n / 18446744073709551616 != m / 18446744073709551616) = true := by simpa using h
    clear h
    go_enter Try.func99, Try.ntmps99
    go_wp2_with (first
      | (go_at_call 109; refine (cmp_u64 _ _ _).mono ?_; rintro e w1 ⟨rfl, rfl⟩)
      | (go_at_call 108; refine (cmp_i64 _ _ _).mono ?_; rintro e w1 ⟨rfl, rfl⟩))
    go_ret
    exact ⟨by rw [← K.out]; rfl, by go_grown⟩

/-- What Div returns. -/
def divV (n d : Int) : Int := if d < 1 then 0 else if n / d < -9223372036854775808 ∨ 9223372036854775807 < n / d then 0 else n / d
def divE (n d : Int) : Int := if d < 1 then 1 else if n / d < -9223372036854775808 ∨ 9223372036854775807 < n / d then 2 else 0

theorem ret_div {a b c d : Int} (h1 : a = c) (h2 : b = d) : Ending.returned (.tuple #[.int .i64 a, .int .i64 b]) = .returned (.tuple #[.int .i64 c, .int .i64 d]) := by rw [h1, h2]
theorem wdiv_low (n d : Int) (d1 : d < 1) (w : World) :
    Calls Try.prog 100 #[wide n, .int .i64 d] w fun e w' => e = .returned (.tuple #[.int .i64 (divV n d), .int .i64 (divE n d)]) ∧ Below w.heap.size w w' := by
  go_enter Try.func100, Try.ntmps100
  go_wp2
  go_ret2
  exact ⟨ret_div (by simp [divV, d1]) (by simp [divE, d1]), by go_grown⟩
theorem wdiv_nonneg (n d : Int) (h0 : 0 ≤ n) (hn : InW n) (d1 : 1 ≤ d) (d2 : d ≤ 9223372036854775807) (w : World) :
    Calls Try.prog 100 #[wide n, .int .i64 d] w fun e w' => e = .returned (.tuple #[.int .i64 (divV n d), .int .i64 (divE n d)]) ∧ Below w.heap.size w w' := by
  have hfit := div_fits (n := n) d1
  have hnn : 0 ≤ n / d := Int.ediv_nonneg h0 (by omega)
  have hcut : n / 18446744073709551616 * 18446744073709551616 + n % 18446744073709551616 = n := by omega
  obtain ⟨n1, n2⟩ := hn
  by_cases hbig : d ≤ n / 18446744073709551616
  · have hv : divV n d = 0 := by unfold divV; rw [if_neg (by omega), if_pos (by omega)]
    have he : divE n d = 2 := by unfold divE; rw [if_neg (by omega), if_pos (by omega)]
    have HV := Lib.hid hv; have HE := Lib.hid he
    clear hv he hcut hfit
    go_enter Try.func100, Try.ntmps100
    go_wp2
    go_ret2
    exact ⟨ret_div HV.out.symm HE.out.symm, by go_grown⟩
  · have hlt : n / d < 18446744073709551616 := hfit.2 (by omega)
    by_cases hl : 9223372036854775807 < n / d
    · have hv : divV n d = 0 := by unfold divV; rw [if_neg (by omega), if_pos (by omega)]
      have he : divE n d = 2 := by unfold divE; rw [if_neg (by omega), if_pos (by omega)]
      have HV := Lib.hid hv; have HE := Lib.hid he
      clear hv he hfit
      go_enter Try.func100, Try.ntmps100
      go_wp2_with (go_at_call 94; refine (div64_any _ _ _ (by omega) (by omega) (by omega) (by omega) (by omega) _).mono ?_; rintro e w1 ⟨rfl, k, rfl⟩)
      go_ret2
      exact ⟨ret_div HV.out.symm HE.out.symm, Below.drewN (by go_grown) _⟩
    · have hv : divV n d = n / d := by unfold divV; rw [if_neg (by omega), if_neg (by omega)]
      have he : divE n d = 0 := by unfold divE; rw [if_neg (by omega), if_neg (by omega)]
      have HV := Lib.hid hv; have HE := Lib.hid he
      clear hv he hfit
      go_enter Try.func100, Try.ntmps100
      go_wp2_with (go_at_call 94; refine (div64_any _ _ _ (by omega) (by omega) (by omega) (by omega) (by omega) _).mono ?_; rintro e w1 ⟨rfl, k, rfl⟩)
      go_ret2
      exact ⟨ret_div HV.out.symm HE.out.symm, Below.drewN (by go_grown) _⟩
theorem wdiv_any (n d : Int) (hn : InW n) (d2 : d ≤ 9223372036854775807) (w : World) :
    Calls Try.prog 100 #[wide n, .int .i64 d] w fun e w' => e = .returned (.tuple #[.int .i64 (divV n d), .int .i64 (divE n d)]) ∧ Below w.heap.size w w' := by
  by_cases d1 : d < 1
  · exact wdiv_low n d d1 w
  rcases Int.lt_or_le n 0 with h | h
  · have K := flip_div n d (by omega)
    have hnn : 0 ≤ (-n - 1) / d := Int.ediv_nonneg (by omega) (by omega)
    have hi := flip_in hn
    by_cases hl : 9223372036854775807 < (-n - 1) / d
    · have hv : divV n d = 0 := by unfold divV; rw [if_neg (by omega), if_pos (by omega)]
      have he : divE n d = 2 := by unfold divE; rw [if_neg (by omega), if_pos (by omega)]
      have HV := Lib.hid hv; have HE := Lib.hid he
      have gv : divV (-n - 1) d = 0 := by unfold divV; rw [if_neg (by omega), if_pos (by omega)]
      have ge : divE (-n - 1) d = 2 := by unfold divE; rw [if_neg (by omega), if_pos (by omega)]
      clear hv he K
      obtain ⟨n1, n2⟩ := hn
      go_enter Try.func100, Try.ntmps100
      go_wp2_with (first
        | (go_at_call 110; refine (flip_any n ⟨n1, n2⟩ _).mono ?_; rintro e w1 ⟨rfl, hb1⟩
           obtain ⟨hB1, hs1, hc1, hf1⟩ := Below.after hb1 (B := w.heap.size) (w0 := w) (by go_grown) (by simp))
        | (go_at_call 100; refine (wdiv_nonneg (-n - 1) d (by omega) hi (by omega) d2 _).mono ?_; rw [gv, ge]; rintro e w2 ⟨rfl, hb2⟩
           obtain ⟨hB2, hs2, hc2, hf2⟩ := Below.after hb2 (B := w.heap.size) (w0 := w) hB1 hB1.size))
      go_ret2
      exact ⟨ret_div HV.out.symm HE.out.symm, hB2⟩
    · have hv : divV n d = n / d := by unfold divV; rw [if_neg (by omega), if_neg (by omega)]
      have he : divE n d = 0 := by unfold divE; rw [if_neg (by omega), if_neg (by omega)]
      rw [K] at hv
      have HV := Lib.hid hv; have HE := Lib.hid he
      have gv : divV (-n - 1) d = (-n - 1) / d := by unfold divV; rw [if_neg (by omega), if_neg (by omega)]
      have ge : divE (-n - 1) d = 0 := by unfold divE; rw [if_neg (by omega), if_neg (by omega)]
      have p1 := not_i64 ((-n - 1) / d) (by omega) (by omega)
      have s1 : IntKind.i64.signed = true := rfl
      clear hv he K
      obtain ⟨n1, n2⟩ := hn
      go_enter Try.func100, Try.ntmps100
      go_wp2_with (first
        | (go_at_call 110; refine (flip_any n ⟨n1, n2⟩ _).mono ?_; rintro e w1 ⟨rfl, hb1⟩
           obtain ⟨hB1, hs1, hc1, hf1⟩ := Below.after hb1 (B := w.heap.size) (w0 := w) (by go_grown) (by simp))
        | (go_at_call 100; refine (wdiv_nonneg (-n - 1) d (by omega) hi (by omega) d2 _).mono ?_; rw [gv, ge]; rintro e w2 ⟨rfl, hb2⟩
           obtain ⟨hB2, hs2, hc2, hf2⟩ := Below.after hb2 (B := w.heap.size) (w0 := w) hB1 hB1.size))
      go_ret2
      exact ⟨ret_div HV.out.symm HE.out.symm, hB2⟩
  · exact wdiv_nonneg n d h hn (by omega) d2 w

/-- num.MulDiv. -/
theorem muldiv_any (a b c : Int) (a1 : -9223372036854775808 ≤ a) (a2 : a ≤ 9223372036854775807) (b1 : -9223372036854775808 ≤ b) (b2 : b ≤ 9223372036854775807) (c2 : c ≤ 9223372036854775807) (w : World) :
    Calls Try.prog 88 #[.int .i64 a, .int .i64 b, .int .i64 c] w fun e w' => e = .returned (.tuple #[.int .i64 (divV (a * b) c), .int .i64 (divE (a * b) c)]) ∧ Below w.heap.size w w' := by
  have hi := mul_in a1 a2 b1 b2
  go_enter Try.func88, Try.ntmps88
  go_wp2_with (first
    | (go_at_call 98; refine (prod_any a b a1 a2 b1 b2 _).mono ?_; rintro e w1 ⟨rfl, hb1⟩
       obtain ⟨hB1, hs1, hc1, hf1⟩ := Below.after hb1 (B := w.heap.size) (w0 := w) (by go_grown) (by simp))
    | (go_at_call 100; refine (wdiv_any (a * b) c hi c2 _).mono ?_; rintro e w2 ⟨rfl, hb2⟩
       obtain ⟨hB2, hs2, hc2, hf2⟩ := Below.after hb2 (B := w.heap.size) (w0 := w) hB1 hB1.size))
  go_ret2
  exact ⟨rfl, hB2⟩

end Go.Proofs.Ytiamhppdacfmmaa

