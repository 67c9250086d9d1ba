/-
  The contracts of package num's Wide and of what it calls, over this program: each returns the number that its name says; of what was in memory nothing turns.
  Conditions: integer arguments lie in their kinds' ranges.
-/
import Derived.Test.YtbnlpcmnkcaemaaDoorProg
import Derived.Test.YtbnlpcmnkcaemaaDoorShelf
import Derived.Test.YtbnlpcmnkcaemaaDoorDiv
import Derived.Test.YtbnlpcmnkcaemaaDoorNumM
import Derived.WalkKit
import Derived.WalkSpells
import Derived.Handy
import Derived.BigQuiet
import Derived.Deep.QuietTactic
import Derived.RowKit3
import Derived.Lib.Hide
namespace Go.Proofs.YtbnlpcmnkcaemaaDoor
open Go.RowKit Go.Shelf Wd

theorem bcell {W w1 : World} (hb : Below W.heap.size W w1) : (∀ b o, b < W.heap.size → w1.cell? ⟨b, o, none⟩ = W.cell? ⟨b, o, none⟩) ∧ (∀ b o, b < W.heap.size → w1.frozen? ⟨b, o, none⟩ = W.frozen? ⟨b, o, none⟩) :=
  ⟨fun b o h => hb.cell (p := ⟨b, o, none⟩) h, fun b o h => hb.frozen (p := ⟨b, o, none⟩) h⟩
theorem Below.drewN {B : Nat} {a w : World} (h : Below B a w) (n : Nat) : Below B a (w.drewN n) := by
  induction n generalizing w with
  | zero => exact h
  | succ n ih => exact (ih h).drew

/-- Behind a call that makes memory. -/
theorem Below.after {B : Nat} {w0 W w1 : World} (hb : Below W.heap.size W w1) (h0 : Below B w0 W) (hB : B ≤ W.heap.size) :
    Below B w0 w1 ∧ W.heap.size ≤ w1.heap.size ∧ (∀ b o, b < W.heap.size → w1.cell? ⟨b, o, none⟩ = W.cell? ⟨b, o, none⟩) ∧ (∀ b o, b < W.heap.size → w1.frozen? ⟨b, o, none⟩ = W.frozen? ⟨b, o, none⟩) :=
  ⟨h0.trans (hb.mono hB), hb.size, (bcell hb).1, (bcell hb).2⟩

theorem Below.go {W w1 w2 : World} (h2 : Below w1.heap.size w1 w2) (h : Below W.heap.size W w1) : Below W.heap.size W w2 := h.trans (h2.mono h.size)

theorem cmp_i64 (a b : Int) (w : World) : Calls Tryd.prog 91 #[.int .i64 a, .int .i64 b] w fun e w' => e = .returned (.int .i64 (cmpI a b)) ∧ w = w' := by
  rcases Int.lt_or_le a b with h | h
  · go_enter Tryd.func91, Tryd.ntmps91
    go_wp2
    go_ret
    exact ⟨by rw [cmpI_lt h]; rfl, rfl⟩
  · by_cases h2 : b < a
    · go_enter Tryd.func91, Tryd.ntmps91
      go_wp2
      go_ret
      exact ⟨by rw [cmpI_gt h2]; rfl, rfl⟩
    · go_enter Tryd.func91, Tryd.ntmps91
      go_wp2
      go_ret
      exact ⟨by rw [cmpI_eq (by omega)]; rfl, rfl⟩

theorem cmp_u64 (a b : Int) (w : World) : Calls Tryd.prog 92 #[.int .u64 a, .int .u64 b] w fun e w' => e = .returned (.int .i64 (cmpI a b)) ∧ w = w' := by
  rcases Int.lt_or_le a b with h | h
  · go_enter Tryd.func92, Tryd.ntmps92
    go_wp2
    go_ret
    exact ⟨by rw [cmpI_lt h]; rfl, rfl⟩
  · by_cases h2 : b < a
    · go_enter Tryd.func92, Tryd.ntmps92
      go_wp2
      go_ret
      exact ⟨by rw [cmpI_gt h2]; rfl, rfl⟩
    · go_enter Tryd.func92, Tryd.ntmps92
      go_wp2
      go_ret
      exact ⟨by rw [cmpI_eq (by omega)]; rfl, rfl⟩

/-- num.Product. -/
theorem prod_any (a b : Int) (a1 : -9223372036854775808 ≤ a) (a2 : a ≤ 9223372036854775807) (b1 : -9223372036854775808 ≤ b) (b2 : b ≤ 9223372036854775807) (w : World) :
    Calls Tryd.prog 77 #[.int .i64 a, .int .i64 b] w fun e w' => e = .returned (wide (a * b)) ∧ Below w.heap.size w w' := by
  obtain ⟨x, hx⟩ : ∃ x : Nat, IntKind.u64.wrap a = (x : Int) := ⟨(IntKind.u64.wrap a).toNat, by rw [IntKind.wrap_u64]; omega⟩
  obtain ⟨y, hy⟩ : ∃ y : Nat, IntKind.u64.wrap b = (y : Int) := ⟨(IntKind.u64.wrap b).toNat, by rw [IntKind.wrap_u64]; omega⟩
  have hx' := hx
  have hy' := hy
  rw [IntKind.wrap_u64] at hx' hy'
  have hx1 : x < 18446744073709551616 := by omega
  have hy1 : y < 18446744073709551616 := by omega
  obtain ⟨H, hH⟩ : ∃ H, a * b / 18446744073709551616 = H := ⟨_, rfl⟩
  obtain ⟨L, hL⟩ : ∃ L, a * b % 18446744073709551616 = L := ⟨_, rfl⟩
  rcases Int.lt_or_le a 0 with ha | ha <;> rcases Int.lt_or_le b 0 with hb | hb
  · obtain ⟨p1, p2⟩ := prod_nn (x := x) (y := y) (a := a) (b := b) (by omega) (by omega) ha hb a1 b1
    rw [hH] at p1
    rw [hL] at p2
    have K1 := Lib.hid hH
    have K2 := Lib.hid hL
    clear hH hL hx' hy'
    go_enter Tryd.func77, Tryd.ntmps77
    go_wp2_with (go_at_call 90; refine (Tryd.bits_Mul64 x y hx1 hy1 _).mono ?_; rintro e w' ⟨rfl, rfl⟩)
    go_returns
    exact ⟨by rw [wide, K1.out, K2.out], by go_grown⟩
  · obtain ⟨p1, p2⟩ := prod_np (x := x) (y := y) (a := a) (b := b) (by omega) (by omega) ha a1 b2
    rw [hH] at p1
    rw [hL] at p2
    have K1 := Lib.hid hH
    have K2 := Lib.hid hL
    clear hH hL hx' hy'
    go_enter Tryd.func77, Tryd.ntmps77
    go_wp2_with (go_at_call 90; refine (Tryd.bits_Mul64 x y hx1 hy1 _).mono ?_; rintro e w' ⟨rfl, rfl⟩)
    go_returns
    exact ⟨by rw [wide, K1.out, K2.out], by go_grown⟩
  · obtain ⟨p1, p2⟩ := prod_pn (x := x) (y := y) (a := a) (b := b) (by omega) (by omega) hb b1 a2
    rw [hH] at p1
    rw [hL] at p2
    have K1 := Lib.hid hH
    have K2 := Lib.hid hL
    clear hH hL hx' hy'
    go_enter Tryd.func77, Tryd.ntmps77
    go_wp2_with (go_at_call 90; refine (Tryd.bits_Mul64 x y hx1 hy1 _).mono ?_; rintro e w' ⟨rfl, rfl⟩)
    go_returns
    exact ⟨by rw [wide, K1.out, K2.out], by go_grown⟩
  · obtain ⟨p1, p2⟩ := prod_pp (x := x) (y := y) (a := a) (b := b) (by omega) (by omega) a2 b2
    rw [hH] at p1
    rw [hL] at p2
    have K1 := Lib.hid hH
    have K2 := Lib.hid hL
    clear hH hL hx' hy'
    go_enter Tryd.func77, Tryd.ntmps77
    go_wp2_with (go_at_call 90; refine (Tryd.bits_Mul64 x y hx1 hy1 _).mono ?_; rintro e w' ⟨rfl, rfl⟩)
    go_returns
    exact ⟨by rw [wide, K1.out, K2.out], by go_grown⟩

theorem flip_in {n : Int} (hn : InW n) : InW (-n - 1) := by unfold InW at *; omega

/-- (num.Wide).Cmp. -/
theorem wcmp_any (n m : Int) (w : World) :
    Calls Tryd.prog 78 #[wide n, wide m] w fun e w' => e = .returned (.int .i64 (cmpI n m)) ∧ Below w.heap.size w w' := by
  by_cases h : n / 18446744073709551616 = m / 18446744073709551616
  · have K := Lib.hid (cmpI_lo h)
    have hb : (n / 18446744073709551616 == m / 18446744073709551616) = true := by simpa using h
    have hb2 : (n / 18446744073709551616 != m / 18446744073709551616) = false := by simpa using h
    clear h
    go_enter Tryd.func78, Tryd.ntmps78
    go_wp2_with (first
      | (go_at_call 92; refine (cmp_u64 _ _ _).mono ?_; rintro e w1 ⟨rfl, rfl⟩)
      | (go_at_call 91; refine (cmp_i64 _ _ _).mono ?_; rintro e w1 ⟨rfl, rfl⟩))
    go_ret
    exact ⟨by rw [← K.out]; rfl, by go_grown⟩
  · have K := Lib.hid (cmpI_hi h)
    have hb : (n / 18446744073709551616 == m / 18446744073709551616) = false := by simpa using h
    have hb2 : (n / 18446744073709551616 != m / 18446744073709551616) = true := by simpa using h
    clear h
    go_enter Tryd.func78, Tryd.ntmps78
    go_wp2_with (first
      | (go_at_call 92; refine (cmp_u64 _ _ _).mono ?_; rintro e w1 ⟨rfl, rfl⟩)
      | (go_at_call 91; refine (cmp_i64 _ _ _).mono ?_; rintro e w1 ⟨rfl, rfl⟩))
    go_ret
    exact ⟨by rw [← K.out]; rfl, by go_grown⟩

/-- What Div returns. -/
def divV (n d : Int) : Int := if d < 1 then 0 else if n / d < -9223372036854775808 ∨ 9223372036854775807 < n / d then 0 else n / d
def divE (n d : Int) : Int := if d < 1 then 1 else if n / d < -9223372036854775808 ∨ 9223372036854775807 < n / d then 2 else 0

theorem ret_div {a b c d : Int} (h1 : a = c) (h2 : b = d) : Ending.returned (.tuple #[.int .i64 a, .int .i64 b]) = .returned (.tuple #[.int .i64 c, .int .i64 d]) := by rw [h1, h2]
end Go.Proofs.YtbnlpcmnkcaemaaDoor

