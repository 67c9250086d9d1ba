/-
 math/bits.Div64 over this program: where the high word is less than the divisor, it returns the quotient and the remainder of the two-word number; it draws an order at most.
 Conditions: hi, lo, y are uint64 with hi < y. (Knuth's two digits: the plain arithmetic is in YtmhhdedekblbnaaGreatDivM.)
-/
import Derived.Test.YtmhhdedekblbnaaGreatProg
import Derived.Test.YtmhhdedekblbnaaGreatShelf
import Derived.WalkKit
import Derived.WalkSpells
import Derived.Handy
import Derived.BigQuiet
import Derived.Deep.QuietTactic
import Derived.RowKit3
import Derived.Lib.Hide
import Derived.Test.YtmhhdedekblbnaaGreatQDivM
namespace Go.Proofs.YtmhhdedekblbnaaGreat
open Go.RowKit Go.Shelf

set_option maxHeartbeats 1000000 in
theorem div64_zero (lo y : Int) (h1 : 0 <= lo) (h2 : lo < 18446744073709551616) (h3 : 1 <= y) (h4 : y < 18446744073709551616) (w : World) :
   Calls Tryz.prog 169 #[.int .u64 0, .int .u64 lo, .int .u64 y] w fun e w' => e = .returned (.tuple #[.int .u64 (lo / y), .int .u64 (lo % y)]) /\ ∃ n, w' = w.drewN n := by
 have e1 : (y == 0) = false := by simp; omega
 go_enter Tryz.func169, Tryz.ntmps169
 go_wp2
 go_quiet (fail)
 go_wp2
 go_ret2
 exact ⟨rfl, _, rfl⟩

theorem ret_u64_2 {a b c d : Int} (h1 : a = c) (h2 : b = d) : Ending.returned (.tuple #[.int .u64 a, .int .u64 b]) = .returned (.tuple #[.int .u64 c, .int .u64 d]) := by rw [h1, h2]

theorem Dv.ways {U yn1 yn0 Y un1 q r : Int} (hY1 : 9223372036854775808 <= Y) (hY2 : Y < 18446744073709551616) (ha1 : 2147483648 <= yn1) (hb1 : 0 <= yn0) (hb2 : yn0 < 4294967296) (hYY : Y = yn1 * 4294967296 + yn0)
   (hU1 : 0 <= U) (hU2 : U < Y) (hc1 : 0 <= un1) (hc2 : un1 < 4294967296) (g1 : 0 <= q) (g4 : U = q * yn1 + r) (g5 : U * 4294967296 + un1 < (q + 1) * Y) :
   ((4294967296 <= q \/ (q < 4294967296 /\ 4294967296 * r + un1 < q * yn0)) /\ 1 <= q /\
     ((r + yn1 < 4294967296 /\ U = (q - 1) * yn1 + (r + yn1) /\ U * 4294967296 + un1 < (q - 1 + 1) * Y)
      \/ (4294967296 <= r + yn1 /\ q - 1 < 4294967296 /\ 0 <= U * 4294967296 + un1 - (q - 1) * Y /\ U * 4294967296 + un1 - (q - 1) * Y < Y)))
   \/ (q < 4294967296 /\ q * yn0 <= 4294967296 * r + un1 /\ 0 <= U * 4294967296 + un1 - q * Y /\ U * 4294967296 + un1 - q * Y < Y) := by
 have hN : 0 <= U * 4294967296 + un1 := by omega
 by_cases hc : 4294967296 <= q \/ (q < 4294967296 /\ 4294967296 * r + un1 < q * yn0)
 · refine .inl ⟨hc, ?_⟩
   have hlt : U * 4294967296 + un1 < q * Y := by
     rcases hc with h | h
     · exact Dv.round_ok1 hU2 hc2 hU1 h
     · exact Dv.round_ok2 hYY g4 h.2
   have hp := Dv.pos_ok hN (by omega) hlt
   have he := Dv.step_eq g4
   refine ⟨hp, ?_⟩
   by_cases hb : r + yn1 < 4294967296
   · exact .inl ⟨hb, he, by rw [show q - 1 + 1 = q by omega]; exact hlt⟩
   · have hbk := Dv.break_ok hYY hb1 hb2 (by omega) hU2 hc1 (show 0 <= q - 1 by omega) he (by omega)
     obtain ⟨a, b⟩ := Dv.rest_ok hbk (by rw [show q - 1 + 1 = q by omega]; exact hlt)
     exact .inr ⟨by omega, Dv.digit_lt rfl hU2 hc2 (by omega) hbk, a, b⟩
 · have h2 : q * yn0 <= 4294967296 * r + un1 := by omega
   have h3 := Dv.exit_ok hYY g4 h2
   obtain ⟨a, b⟩ := Dv.rest_ok h3 g5
   exact .inr ⟨by omega, h2, a, b⟩

set_option maxHeartbeats 4000000 in
theorem div64_big (hi lo y : Int) (s : Nat) (hs : s <= 63) (hmin : min s 64 = s) (hlz : ∀ w, Calls Tryz.prog 200 #[.int .u64 y] w fun e w' => e = .returned (.int .i64 s) /\ w' = w)
  (Y : Int) (hY : y * 2 ^ s = Y) (hY1 : 9223372036854775808 <= Y) (hY2 : Y < 18446744073709551616)
  (yn1 : Int) (hyn1 : Y / 4294967296 = yn1) (ha1 : 2147483648 <= yn1) (ha2 : yn1 < 4294967296)
  (yn0 : Int) (hyn0 : bits .and .u64 Y 4294967295 = yn0) (hb1 : 0 <= yn0) (hb2 : yn0 < 4294967296) (hYY : Hid (Y = yn1 * 4294967296 + yn0))
  (U : Int) (hU : bits .or .u64 (IntKind.u64.wrap (hi * 2 ^ s)) (lo / 2 ^ (64 - s)) = U) (hU1 : 0 <= U) (hU2 : U < Y)
  (V : Int) (hV : IntKind.u64.wrap (lo * 2 ^ s) = V)
  (un1 : Int) (hun1 : V / 4294967296 = un1) (hc1 : 0 <= un1) (hc2 : un1 < 4294967296)
  (un0 : Int) (hun0 : bits .and .u64 V 4294967295 = un0) (hd1 : 0 <= un0) (hd2 : un0 < 4294967296)
  (Q R : Int) (HE : ∀ q1 T q0 S : Int, U * 4294967296 + un1 - q1 * Y = T -> T * 4294967296 + un0 - q0 * Y = S -> 0 <= S -> S < Y -> q1 * 4294967296 + q0 = Q /\ S / 2 ^ s = R)
  (h0 : 0 < hi) (h3 : hi < y) (w : World) :
   Calls Tryz.prog 169 #[.int .u64 hi, .int .u64 lo, .int .u64 y] w fun e w' => e = .returned (.tuple #[.int .u64 Q, .int .u64 R]) /\ w' = w := by
 have e1 : (y == 0) = false := by simp; omega
 have e2 : (hi == 0) = false := by simp; omega
 have HE' := Lib.hid HE; clear HE
 obtain ⟨f1, f2, f3, f4⟩ := Dv.first_ok (U := U) (yn1 := yn1) (by omega) hU1
 have f5 := Dv.start_ok hYY.out hb1 (by omega) hU1 hc2
 have f6 : U / yn1 <= U := Int.ediv_le_self _ hU1
 go_enter Tryz.func169, Tryz.ntmps169
 go_wp2_with (go_at_call 200; refine (hlz _).mono ?_; rintro e w' ⟨rfl, rfl⟩)
 clear hlz
 go_loop [15, 16] (fun a b => ∃ q r : Int, a = .int .u64 q /\ b = .int .u64 r /\ 0 <= q /\ q < 18446744073709551616 /\ 0 <= r /\ r < 4294967296 /\ U = q * yn1 + r /\ U * 4294967296 + un1 < (q + 1) * Y) (fun a _ => (intOf a).toNat)
 case atStart => exact ⟨_, _, rfl, rfl, by omega, by omega, by omega, by omega, by omega, f5⟩
 case round =>
   clear f1 f2 f3 f4 f5 f6
   obtain ⟨q, r, rfl, rfl, g1, g1', g2, g3, g4, g5⟩ := hrel
   have hway := Dv.ways hY1 hY2 ha1 hb1 hb2 hYY.out hU1 hU2 hc1 hc2 g1 g4 g5
   clear g4 g5
   rcases hway with ⟨hc | ⟨hc, hc'⟩, hp, ⟨hb, k1, k2⟩ | ⟨hb, k1, k2, k3⟩⟩ | ⟨hc, hc', k2, k3⟩
   · have K1 := Lib.hid k1
     have K2 := Lib.hid k2
     clear k1 k2
     go_wp2
     go_round
     case rel => exact ⟨q - 1, r + yn1, rfl, rfl, by omega, by omega, by omega, by omega, K1.out, K2.out⟩
     case measure => simp [intOf]; omega
   rotate_left
   · have hs := Dv.small_ok hb1 hb2 g1 hc
     have K1 := Lib.hid k1
     have K2 := Lib.hid k2
     clear k1 k2
     go_wp2
     go_round
     case rel => exact ⟨q - 1, r + yn1, rfl, rfl, by omega, by omega, by omega, by omega, K1.out, K2.out⟩
     case measure => simp [intOf]; omega
   · have hs := Dv.small_ok hb1 hb2 g1 hc
     have hw := Dv.wrap_rest k2 (by omega)
     obtain ⟨T, hT⟩ : ∃ T, U * 4294967296 + un1 - (q - 1) * Y = T := ⟨_, rfl⟩
     rw [hT] at hw k2 k3
     have HT := Lib.hid hT
     clear hT
     obtain ⟨f1, f2, f3, f4⟩ := Dv.first_ok (U := T) (yn1 := yn1) (by omega) k2
     have F5 := Lib.hid (Dv.start_ok hYY.out hb1 (show 1 <= yn1 by omega) k2 hd2)
     have f6 : T / yn1 <= T := Int.ediv_le_self _ k2
     go_wp2
     go_loop [18, 16] (fun a b => ∃ q r : Int, a = .int .u64 q /\ b = .int .u64 r /\ 0 <= q /\ q < 18446744073709551616 /\ 0 <= r /\ r < 4294967296 /\ T = q * yn1 + r /\ T * 4294967296 + un0 < (q + 1) * Y) (fun a _ => (intOf a).toNat)
     case atStart => exact ⟨_, _, rfl, rfl, by omega, by omega, by omega, by omega, by omega, F5.out⟩
     case round =>
       clear f1 f2 f3 f4 F5 f6 hw
       obtain ⟨q2, r2, rfl, rfl, m1, m1', m2, m3, m4, m6⟩ := hrel
       have hway2 := Dv.ways hY1 hY2 ha1 hb1 hb2 hYY.out k2 k3 hd1 hd2 m1 m4 m6
       clear m4 m6
       rcases hway2 with ⟨hd | ⟨hd, hd'⟩, hp2, ⟨hb2', l1, l2⟩ | ⟨hb2', l1, l2, l3⟩⟩ | ⟨hd, hd', l2, l3⟩
       · have K1 := Lib.hid l1
         have K2 := Lib.hid l2
         clear l1 l2
         go_wp2
         go_round
         case rel => exact ⟨q2 - 1, r2 + yn1, rfl, rfl, by omega, by omega, by omega, by omega, K1.out, K2.out⟩
         case measure => simp [intOf]; omega
       rotate_left
       · have hs2 := Dv.small_ok hb1 hb2 m1 hd
         have K1 := Lib.hid l1
         have K2 := Lib.hid l2
         clear l1 l2
         go_wp2
         go_round
         case rel => exact ⟨q2 - 1, r2 + yn1, rfl, rfl, by omega, by omega, by omega, by omega, K1.out, K2.out⟩
         case measure => simp [intOf]; omega
       · have hs2 := Dv.small_ok hb1 hb2 m1 hd
         have hw2 := Dv.wrap_rest l2 (by omega)
         obtain ⟨S, hS⟩ : ∃ S, T * 4294967296 + un0 - (q2 - 1) * Y = S := ⟨_, rfl⟩
         rw [hS] at hw2 l2 l3
         obtain ⟨r1, r2⟩ := HE'.out _ T _ S HT.out hS l2 l3
         have R1 := Lib.hid r1
         have R2 := Lib.hid r2
         clear r1 r2 hS
         go_wp2
         go_ret2
         exact ⟨ret_u64_2 R1.out R2.out, rfl⟩
       · have hs2 := Dv.small_ok hb1 hb2 m1 hd
         have hw2 := Dv.wrap_rest l2 (by omega)
         obtain ⟨S, hS⟩ : ∃ S, T * 4294967296 + un0 - q2 * Y = S := ⟨_, rfl⟩
         rw [hS] at hw2 l2 l3
         obtain ⟨r1, r2⟩ := HE'.out _ T _ S HT.out hS l2 l3
         have R1 := Lib.hid r1
         have R2 := Lib.hid r2
         clear r1 r2 hS
         go_wp2
         go_ret2
         exact ⟨ret_u64_2 R1.out R2.out, rfl⟩
       · have hw2 := Dv.wrap_rest l2 (by omega)
         obtain ⟨S, hS⟩ : ∃ S, T * 4294967296 + un0 - (q2 - 1) * Y = S := ⟨_, rfl⟩
         rw [hS] at hw2 l2 l3
         obtain ⟨r1, r2⟩ := HE'.out _ T _ S HT.out hS l2 l3
         have R1 := Lib.hid r1
         have R2 := Lib.hid r2
         clear r1 r2 hS
         go_wp2
         go_ret2
         exact ⟨ret_u64_2 R1.out R2.out, rfl⟩
   · have hs := Dv.small_ok hb1 hb2 g1 hc
     have hw := Dv.wrap_rest k2 (by omega)
     obtain ⟨T, hT⟩ : ∃ T, U * 4294967296 + un1 - q * Y = T := ⟨_, rfl⟩
     rw [hT] at hw k2 k3
     have HT := Lib.hid hT
     clear hT
     obtain ⟨f1, f2, f3, f4⟩ := Dv.first_ok (U := T) (yn1 := yn1) (by omega) k2
     have F5 := Lib.hid (Dv.start_ok hYY.out hb1 (show 1 <= yn1 by omega) k2 hd2)
     have f6 : T / yn1 <= T := Int.ediv_le_self _ k2
     go_wp2
     go_loop [18, 16] (fun a b => ∃ q r : Int, a = .int .u64 q /\ b = .int .u64 r /\ 0 <= q /\ q < 18446744073709551616 /\ 0 <= r /\ r < 4294967296 /\ T = q * yn1 + r /\ T * 4294967296 + un0 < (q + 1) * Y) (fun a _ => (intOf a).toNat)
     case atStart => exact ⟨_, _, rfl, rfl, by omega, by omega, by omega, by omega, by omega, F5.out⟩
     case round =>
       clear f1 f2 f3 f4 F5 f6 hw
       obtain ⟨q2, r2, rfl, rfl, m1, m1', m2, m3, m4, m6⟩ := hrel
       have hway2 := Dv.ways hY1 hY2 ha1 hb1 hb2 hYY.out k2 k3 hd1 hd2 m1 m4 m6
       clear m4 m6
       rcases hway2 with ⟨hd | ⟨hd, hd'⟩, hp2, ⟨hb2', l1, l2⟩ | ⟨hb2', l1, l2, l3⟩⟩ | ⟨hd, hd', l2, l3⟩
       · have K1 := Lib.hid l1
         have K2 := Lib.hid l2
         clear l1 l2
         go_wp2
         go_round
         case rel => exact ⟨q2 - 1, r2 + yn1, rfl, rfl, by omega, by omega, by omega, by omega, K1.out, K2.out⟩
         case measure => simp [intOf]; omega
       rotate_left
       · have hs2 := Dv.small_ok hb1 hb2 m1 hd
         have K1 := Lib.hid l1
         have K2 := Lib.hid l2
         clear l1 l2
         go_wp2
         go_round
         case rel => exact ⟨q2 - 1, r2 + yn1, rfl, rfl, by omega, by omega, by omega, by omega, K1.out, K2.out⟩
         case measure => simp [intOf]; omega
       · have hs2 := Dv.small_ok hb1 hb2 m1 hd
         have hw2 := Dv.wrap_rest l2 (by omega)
         obtain ⟨S, hS⟩ : ∃ S, T * 4294967296 + un0 - (q2 - 1) * Y = S := ⟨_, rfl⟩
         rw [hS] at hw2 l2 l3
         obtain ⟨r1, r2⟩ := HE'.out _ T _ S HT.out hS l2 l3
         have R1 := Lib.hid r1
         have R2 := Lib.hid r2
         clear r1 r2 hS
         go_wp2
         go_ret2
         exact ⟨ret_u64_2 R1.out R2.out, rfl⟩
       · have hs2 := Dv.small_ok hb1 hb2 m1 hd
         have hw2 := Dv.wrap_rest l2 (by omega)
         obtain ⟨S, hS⟩ : ∃ S, T * 4294967296 + un0 - q2 * Y = S := ⟨_, rfl⟩
         rw [hS] at hw2 l2 l3
         obtain ⟨r1, r2⟩ := HE'.out _ T _ S HT.out hS l2 l3
         have R1 := Lib.hid r1
         have R2 := Lib.hid r2
         clear r1 r2 hS
         go_wp2
         go_ret2
         exact ⟨ret_u64_2 R1.out R2.out, rfl⟩
       · have hw2 := Dv.wrap_rest l2 (by omega)
         obtain ⟨S, hS⟩ : ∃ S, T * 4294967296 + un0 - (q2 - 1) * Y = S := ⟨_, rfl⟩
         rw [hS] at hw2 l2 l3
         obtain ⟨r1, r2⟩ := HE'.out _ T _ S HT.out hS l2 l3
         have R1 := Lib.hid r1
         have R2 := Lib.hid r2
         clear r1 r2 hS
         go_wp2
         go_ret2
         exact ⟨ret_u64_2 R1.out R2.out, rfl⟩
   · have hw := Dv.wrap_rest k2 (by omega)
     obtain ⟨T, hT⟩ : ∃ T, U * 4294967296 + un1 - (q - 1) * Y = T := ⟨_, rfl⟩
     rw [hT] at hw k2 k3
     have HT := Lib.hid hT
     clear hT
     obtain ⟨f1, f2, f3, f4⟩ := Dv.first_ok (U := T) (yn1 := yn1) (by omega) k2
     have F5 := Lib.hid (Dv.start_ok hYY.out hb1 (show 1 <= yn1 by omega) k2 hd2)
     have f6 : T / yn1 <= T := Int.ediv_le_self _ k2
     go_wp2
     go_loop [18, 16] (fun a b => ∃ q r : Int, a = .int .u64 q /\ b = .int .u64 r /\ 0 <= q /\ q < 18446744073709551616 /\ 0 <= r /\ r < 4294967296 /\ T = q * yn1 + r /\ T * 4294967296 + un0 < (q + 1) * Y) (fun a _ => (intOf a).toNat)
     case atStart => exact ⟨_, _, rfl, rfl, by omega, by omega, by omega, by omega, by omega, F5.out⟩
     case round =>
       clear f1 f2 f3 f4 F5 f6 hw
       obtain ⟨q2, r2, rfl, rfl, m1, m1', m2, m3, m4, m6⟩ := hrel
       have hway2 := Dv.ways hY1 hY2 ha1 hb1 hb2 hYY.out k2 k3 hd1 hd2 m1 m4 m6
       clear m4 m6
       rcases hway2 with ⟨hd | ⟨hd, hd'⟩, hp2, ⟨hb2', l1, l2⟩ | ⟨hb2', l1, l2, l3⟩⟩ | ⟨hd, hd', l2, l3⟩
       · have K1 := Lib.hid l1
         have K2 := Lib.hid l2
         clear l1 l2
         go_wp2
         go_round
         case rel => exact ⟨q2 - 1, r2 + yn1, rfl, rfl, by omega, by omega, by omega, by omega, K1.out, K2.out⟩
         case measure => simp [intOf]; omega
       rotate_left
       · have hs2 := Dv.small_ok hb1 hb2 m1 hd
         have K1 := Lib.hid l1
         have K2 := Lib.hid l2
         clear l1 l2
         go_wp2
         go_round
         case rel => exact ⟨q2 - 1, r2 + yn1, rfl, rfl, by omega, by omega, by omega, by omega, K1.out, K2.out⟩
         case measure => simp [intOf]; omega
       · have hs2 := Dv.small_ok hb1 hb2 m1 hd
         have hw2 := Dv.wrap_rest l2 (by omega)
         obtain ⟨S, hS⟩ : ∃ S, T * 4294967296 + un0 - (q2 - 1) * Y = S := ⟨_, rfl⟩
         rw [hS] at hw2 l2 l3
         obtain ⟨r1, r2⟩ := HE'.out _ T _ S HT.out hS l2 l3
         have R1 := Lib.hid r1
         have R2 := Lib.hid r2
         clear r1 r2 hS
         go_wp2
         go_ret2
         exact ⟨ret_u64_2 R1.out R2.out, rfl⟩
       · have hs2 := Dv.small_ok hb1 hb2 m1 hd
         have hw2 := Dv.wrap_rest l2 (by omega)
         obtain ⟨S, hS⟩ : ∃ S, T * 4294967296 + un0 - q2 * Y = S := ⟨_, rfl⟩
         rw [hS] at hw2 l2 l3
         obtain ⟨r1, r2⟩ := HE'.out _ T _ S HT.out hS l2 l3
         have R1 := Lib.hid r1
         have R2 := Lib.hid r2
         clear r1 r2 hS
         go_wp2
         go_ret2
         exact ⟨ret_u64_2 R1.out R2.out, rfl⟩
       · have hw2 := Dv.wrap_rest l2 (by omega)
         obtain ⟨S, hS⟩ : ∃ S, T * 4294967296 + un0 - (q2 - 1) * Y = S := ⟨_, rfl⟩
         rw [hS] at hw2 l2 l3
         obtain ⟨r1, r2⟩ := HE'.out _ T _ S HT.out hS l2 l3
         have R1 := Lib.hid r1
         have R2 := Lib.hid r2
         clear r1 r2 hS
         go_wp2
         go_ret2
         exact ⟨ret_u64_2 R1.out R2.out, rfl⟩

theorem div64_any (hi lo y : Int) (h0 : 0 <= hi) (h1 : 0 <= lo) (h2 : lo < 18446744073709551616) (h3 : hi < y) (h4 : y < 18446744073709551616) (w : World) :
   Calls Tryz.prog 169 #[.int .u64 hi, .int .u64 lo, .int .u64 y] w fun e w' =>
     e = .returned (.tuple #[.int .u64 ((hi * 18446744073709551616 + lo) / y), .int .u64 ((hi * 18446744073709551616 + lo) % y)]) /\ ∃ n, w' = w.drewN n := by
 by_cases hz : hi = 0
 · subst hz
   simpa using div64_zero lo y h1 h2 (by omega) h4 w
 · obtain ⟨H, rfl⟩ := Int.eq_ofNat_of_zero_le h0
   obtain ⟨L, rfl⟩ := Int.eq_ofNat_of_zero_le h1
   obtain ⟨D, rfl⟩ := Int.eq_ofNat_of_zero_le (show 0 <= y by omega)
   obtain ⟨n1, n2, n3, n4⟩ := Dv.norm_ok D (by omega) (by omega)
   obtain ⟨s, hs⟩ : ∃ s, 64 - Lib.bitLen D = s := ⟨_, rfl⟩
   rw [hs] at n3 n4
   obtain ⟨s1, s2, s3, s4⟩ := Dv.shift_ok H L D s (by omega) (by omega) (by omega) n4
   have m1 := Dv.mask_ok (D * 2 ^ s) n4
   have m2 := Dv.mask_ok (L * 2 ^ s % 18446744073709551616) (by omega)
   have cY : (D : Int) * 2 ^ s = ((D * 2 ^ s : Nat) : Int) := by simp
   have hp : (0 : Int) < 2 ^ s := by have := Nat.two_pow_pos s; have e : ((2 ^ s : Nat) : Int) = 2 ^ s := by simp
                                     omega
   have hM : ((H : Int) * 18446744073709551616 + L) * 2 ^ s = (((H * 2 ^ s + L / 2 ^ (64 - s) : Nat) : Int) * 4294967296 + ((L * 2 ^ s % 18446744073709551616 : Nat) : Int) / 4294967296) * 4294967296 + ((L * 2 ^ s % 18446744073709551616 % 4294967296 : Nat) : Int) := by
     have e : ((((H * 18446744073709551616 + L) * 2 ^ s : Nat) : Int)) = ((H : Int) * 18446744073709551616 + L) * 2 ^ s := by simp
     rw [<- e, s4]
     omega
   refine (div64_big H L D s (by omega) (by omega) (fun w => ?_) ((D * 2 ^ s : Nat) : Int) cY (by omega) (by omega) _ rfl (by omega) (by omega) _ m1 (by omega) (by omega) (Lib.hid (by omega))
     _ s1 (by omega) (by omega) _ s3 _ rfl (by omega) (by omega) _ m2 (by omega) (by omega)
     (((H : Int) * 18446744073709551616 + L) / D) (((H : Int) * 18446744073709551616 + L) % D) ?_ (by omega) (by omega) w).mono ?_
   · refine (Tryz.bits_LeadingZeros64 D w (by omega) (by omega)).mono ?_
     rintro e w' ⟨rfl, rfl⟩
     have : (64 - (Lib.bitLen ((D : Int).toNat) : Int)) = (s : Int) := by simp only [Int.toNat_natCast]; omega
     rw [this]
     exact ⟨rfl, rfl⟩
   · intro q1 T q0 S e1 e2 g0 g1
     have hN := e1
     refine Dv.end_ok (N := ((H * 2 ^ s + L / 2 ^ (64 - s) : Nat) : Int) * 4294967296 + ((L * 2 ^ s % 18446744073709551616 : Nat) : Int) / 4294967296) (Y := ((D * 2 ^ s : Nat) : Int)) (U1 := T) (by omega) hp cY hM (by omega) (R := S) (q0 := q0) (by omega) g0 g1
   · rintro e w' ⟨rfl, rfl⟩
     exact ⟨rfl, 0, rfl⟩
end Go.Proofs.YtmhhdedekblbnaaGreat
