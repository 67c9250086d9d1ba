/-
 The contracts of package num's Wide and of what it calls, over this program: each returns the number that its name says; of what was in memory nothing turns.
 Conditions: integer arguments lie in their kinds' ranges.
-/
import Derived.Test.YtmhhdedekblbnaaGreatProg
import Derived.Test.YtmhhdedekblbnaaGreatShelf
import Derived.Test.YtmhhdedekblbnaaGreatQDiv
import Derived.Test.YtmhhdedekblbnaaGreatQNumM
import Derived.WalkKit
import Derived.WalkSpells
import Derived.Handy
import Derived.BigQuiet
import Derived.Deep.QuietTactic
import Derived.RowKit3
import Derived.Lib.Hide
namespace Go.Proofs.YtmhhdedekblbnaaGreat
open Go.RowKit Go.Shelf Wd

theorem bcell {W w1 : World} (hb : Below W.heap.size W w1) : (∀ b o, b < W.heap.size -> w1.cell? ⟨b, o, none⟩ = W.cell? ⟨b, o, none⟩) /\ (∀ b o, b < W.heap.size -> w1.frozen? ⟨b, o, none⟩ = W.frozen? ⟨b, o, none⟩) :=
 ⟨fun b o h => hb.cell (p := ⟨b, o, none⟩) h, fun b o h => hb.frozen (p := ⟨b, o, none⟩) h⟩
theorem Below.drewN {B : Nat} {a w : World} (h : Below B a w) (n : Nat) : Below B a (w.drewN n) := by
 induction n generalizing w with
 | zero => exact h
 | succ n ih => exact (ih h).drew

theorem Below.after {B : Nat} {w0 W w1 : World} (hb : Below W.heap.size W w1) (h0 : Below B w0 W) (hB : B <= W.heap.size) :
   Below B w0 w1 /\ W.heap.size <= w1.heap.size /\ (∀ b o, b < W.heap.size -> w1.cell? ⟨b, o, none⟩ = W.cell? ⟨b, o, none⟩) /\ (∀ b o, b < W.heap.size -> w1.frozen? ⟨b, o, none⟩ = W.frozen? ⟨b, o, none⟩) :=
 ⟨h0.trans (hb.mono hB), hb.size, (bcell hb).1, (bcell hb).2⟩

theorem add64_0 (x y : Int) (hx : 0 <= x) (hy : 0 <= y) (w : World) : (callFunc 223 #[.int .u64 x, .int .u64 y, .int .u64 0]).run Tryz.prog w =
   .ok (.value (.tuple #[.int .u64 ((x + y) % 18446744073709551616), .int .u64 ((x + y) / 18446744073709551616)])) w := by
 rw [run_callFunc_extern Tryz.func223 (by kernel_rfl) (by kernel_rfl) (by kernel_rfl) (e := add64Entry) (by kernel_rfl), run_add64 x y 0 hx hy (by omega) (by omega)]
 simp only [Result.andThen, Int.add_zero]

theorem cmp_i64 (a b : Int) (w : World) : Calls Tryz.prog 190 #[.int .i64 a, .int .i64 b] w fun e w' => e = .returned (.int .i64 (cmpI a b)) /\ w = w' := by
 rcases Int.lt_or_le a b with h | h
 · go_enter Tryz.func190, Tryz.ntmps190
   go_wp2
   go_ret
   exact ⟨by rw [cmpI_lt h]; rfl, rfl⟩
 · by_cases h2 : b < a
   · go_enter Tryz.func190, Tryz.ntmps190
     go_wp2
     go_ret
     exact ⟨by rw [cmpI_gt h2]; rfl, rfl⟩
   · go_enter Tryz.func190, Tryz.ntmps190
     go_wp2
     go_ret
     exact ⟨by rw [cmpI_eq (by omega)]; rfl, rfl⟩

theorem cmp_u64 (a b : Int) (w : World) : Calls Tryz.prog 192 #[.int .u64 a, .int .u64 b] w fun e w' => e = .returned (.int .i64 (cmpI a b)) /\ w = w' := by
 rcases Int.lt_or_le a b with h | h
 · go_enter Tryz.func192, Tryz.ntmps192
   go_wp2
   go_ret
   exact ⟨by rw [cmpI_lt h]; rfl, rfl⟩
 · by_cases h2 : b < a
   · go_enter Tryz.func192, Tryz.ntmps192
     go_wp2
     go_ret
     exact ⟨by rw [cmpI_gt h2]; rfl, rfl⟩
   · go_enter Tryz.func192, Tryz.ntmps192
     go_wp2
     go_ret
     exact ⟨by rw [cmpI_eq (by omega)]; rfl, rfl⟩

theorem prod_any (a b : Int) (a1 : -9223372036854775808 <= a) (a2 : a <= 9223372036854775807) (b1 : -9223372036854775808 <= b) (b2 : b <= 9223372036854775807) (w : World) :
   Calls Tryz.prog 155 #[.int .i64 a, .int .i64 b] w fun e w' => e = .returned (wide (a * b)) /\ Below w.heap.size w w' := by
 obtain ⟨x, hx⟩ : ∃ x : Nat, IntKind.u64.wrap a = (x : Int) := ⟨(IntKind.u64.wrap a).toNat, by rw [IntKind.wrap_u64]; omega⟩
 obtain ⟨y, hy⟩ : ∃ y : Nat, IntKind.u64.wrap b = (y : Int) := ⟨(IntKind.u64.wrap b).toNat, by rw [IntKind.wrap_u64]; omega⟩
 have hx' := hx
 have hy' := hy
 rw [IntKind.wrap_u64] at hx' hy'
 have hx1 : x < 18446744073709551616 := by omega
 have hy1 : y < 18446744073709551616 := by omega
 obtain ⟨H, hH⟩ : ∃ H, a * b / 18446744073709551616 = H := ⟨_, rfl⟩
 obtain ⟨L, hL⟩ : ∃ L, a * b % 18446744073709551616 = L := ⟨_, rfl⟩
 rcases Int.lt_or_le a 0 with ha | ha <;> rcases Int.lt_or_le b 0 with hb | hb
 · obtain ⟨p1, p2⟩ := prod_nn (x := x) (y := y) (a := a) (b := b) (by omega) (by omega) ha hb a1 b1
   rw [hH] at p1
   rw [hL] at p2
   have K1 := Lib.hid hH
   have K2 := Lib.hid hL
   clear hH hL hx' hy'
   go_enter Tryz.func155, Tryz.ntmps155
   go_wp2_with (go_at_call 167; refine (Tryz.bits_Mul64 x y hx1 hy1 _).mono ?_; rintro e w' ⟨rfl, rfl⟩)
   go_returns
   exact ⟨by rw [wide, K1.out, K2.out], by go_grown⟩
 · obtain ⟨p1, p2⟩ := prod_np (x := x) (y := y) (a := a) (b := b) (by omega) (by omega) ha a1 b2
   rw [hH] at p1
   rw [hL] at p2
   have K1 := Lib.hid hH
   have K2 := Lib.hid hL
   clear hH hL hx' hy'
   go_enter Tryz.func155, Tryz.ntmps155
   go_wp2_with (go_at_call 167; refine (Tryz.bits_Mul64 x y hx1 hy1 _).mono ?_; rintro e w' ⟨rfl, rfl⟩)
   go_returns
   exact ⟨by rw [wide, K1.out, K2.out], by go_grown⟩
 · obtain ⟨p1, p2⟩ := prod_pn (x := x) (y := y) (a := a) (b := b) (by omega) (by omega) hb b1 a2
   rw [hH] at p1
   rw [hL] at p2
   have K1 := Lib.hid hH
   have K2 := Lib.hid hL
   clear hH hL hx' hy'
   go_enter Tryz.func155, Tryz.ntmps155
   go_wp2_with (go_at_call 167; refine (Tryz.bits_Mul64 x y hx1 hy1 _).mono ?_; rintro e w' ⟨rfl, rfl⟩)
   go_returns
   exact ⟨by rw [wide, K1.out, K2.out], by go_grown⟩
 · obtain ⟨p1, p2⟩ := prod_pp (x := x) (y := y) (a := a) (b := b) (by omega) (by omega) a2 b2
   rw [hH] at p1
   rw [hL] at p2
   have K1 := Lib.hid hH
   have K2 := Lib.hid hL
   clear hH hL hx' hy'
   go_enter Tryz.func155, Tryz.ntmps155
   go_wp2_with (go_at_call 167; refine (Tryz.bits_Mul64 x y hx1 hy1 _).mono ?_; rintro e w' ⟨rfl, rfl⟩)
   go_returns
   exact ⟨by rw [wide, K1.out, K2.out], by go_grown⟩

theorem plus_any (n m : Int) (hn : InW n) (hm : InW m) (w : World) :
   Calls Tryz.prog 195 #[wide n, wide m] w fun e w' => e = .returned (wide (w128 (n + m))) /\ Below w.heap.size w w' := by
 obtain ⟨p1, p2⟩ := plus_words hn hm
 obtain ⟨H, hH⟩ : ∃ H, w128 (n + m) / 18446744073709551616 = H := ⟨_, rfl⟩
 obtain ⟨L, hL⟩ : ∃ L, w128 (n + m) % 18446744073709551616 = L := ⟨_, rfl⟩
 rw [hH] at p1
 rw [hL] at p2
 have K1 := Lib.hid hH
 have K2 := Lib.hid hL
 clear hH hL
 obtain ⟨n1, n2⟩ := hn
 obtain ⟨m1, m2⟩ := hm
 go_enter Tryz.func195, Tryz.ntmps195
 go_wp2_with (simp only [add64_0 (n % 18446744073709551616) (m % 18446744073709551616) (by omega) (by omega)])
 go_returns
 exact ⟨by rw [wide, K1.out, K2.out], by go_grown⟩

theorem plus_lit (n h l : Int) (hn : InW n) (h1 : -9223372036854775808 <= h) (h2 : h <= 9223372036854775807) (l1 : 0 <= l) (l2 : l < 18446744073709551616) (w : World) :
   Calls Tryz.prog 195 #[wide n, .agg #[.int .i64 h, .int .u64 l]] w fun e w' => e = .returned (wide (w128 (n + (h * 18446744073709551616 + l)))) /\ Below w.heap.size w w' := by
 have e1 : (h * 18446744073709551616 + l) / 18446744073709551616 = h := by omega
 have e2 : (h * 18446744073709551616 + l) % 18446744073709551616 = l := by omega
 have := plus_any n (h * 18446744073709551616 + l) hn (by unfold InW; omega) w
 rw [wide, wide, e1, e2] at this
 exact this

theorem flip_any (n : Int) (hn : InW n) (w : World) :
   Calls Tryz.prog 222 #[wide n] w fun e w' => e = .returned (wide (-n - 1)) /\ Below w.heap.size w w' := by
 obtain ⟨n1, n2⟩ := hn
 have s1 : IntKind.i64.signed = true := rfl
 have s2 : IntKind.u64.signed = false := rfl
 have p1 := not_i64 (n / 18446744073709551616) (by omega) (by omega)
 have p2 := not_u64 (n % 18446744073709551616) (by omega) (by omega)
 obtain ⟨H, hH⟩ : ∃ H, (-n - 1) / 18446744073709551616 = H := ⟨_, rfl⟩
 obtain ⟨L, hL⟩ : ∃ L, (-n - 1) % 18446744073709551616 = L := ⟨_, rfl⟩
 rw [show -(n / 18446744073709551616) - 1 = H by omega] at p1
 rw [show 18446744073709551615 - n % 18446744073709551616 = L by omega] at p2
 have K1 := Lib.hid hH
 have K2 := Lib.hid hL
 clear hH hL
 go_enter Tryz.func222, Tryz.ntmps222
 go_wp2
 go_returns
 exact ⟨by rw [wide, K1.out, K2.out], by go_grown⟩

theorem flip_in {n : Int} (hn : InW n) : InW (-n - 1) := by unfold InW at *; omega

theorem wcmp_any (n m : Int) (w : World) :
   Calls Tryz.prog 156 #[wide n, wide m] w fun e w' => e = .returned (.int .i64 (cmpI n m)) /\ Below w.heap.size w w' := by
 by_cases h : n / 18446744073709551616 = m / 18446744073709551616
 · have K := Lib.hid (cmpI_lo h)
   have hb : (n / 18446744073709551616 == m / 18446744073709551616) = true := by simpa using h
   have hb2 : (n / 18446744073709551616 != m / 18446744073709551616) = false := by simpa using h
   clear h
   go_enter Tryz.func156, Tryz.ntmps156
   go_wp2_with (first
     | (go_at_call 192; refine (cmp_u64 _ _ _).mono ?_; rintro e w1 ⟨rfl, rfl⟩)
     | (go_at_call 190; refine (cmp_i64 _ _ _).mono ?_; rintro e w1 ⟨rfl, rfl⟩))
   go_ret
   exact ⟨by rw [<- K.out]; rfl, by go_grown⟩
 · have K := Lib.hid (cmpI_hi h)
   have hb : (n / 18446744073709551616 == m / 18446744073709551616) = false := by simpa using h
   have hb2 : (n / 18446744073709551616 != m / 18446744073709551616) = true := by simpa using h
   clear h
   go_enter Tryz.func156, Tryz.ntmps156
   go_wp2_with (first
     | (go_at_call 192; refine (cmp_u64 _ _ _).mono ?_; rintro e w1 ⟨rfl, rfl⟩)
     | (go_at_call 190; refine (cmp_i64 _ _ _).mono ?_; rintro e w1 ⟨rfl, rfl⟩))
   go_ret
   exact ⟨by rw [<- K.out]; rfl, by go_grown⟩

def divV (n d : Int) : Int := if d < 1 then 0 else if n / d < -9223372036854775808 \/ 9223372036854775807 < n / d then 0 else n / d
def divE (n d : Int) : Int := if d < 1 then 1 else if n / d < -9223372036854775808 \/ 9223372036854775807 < n / d then 2 else 0

theorem ret_div {a b c d : Int} (h1 : a = c) (h2 : b = d) : Ending.returned (.tuple #[.int .i64 a, .int .i64 b]) = .returned (.tuple #[.int .i64 c, .int .i64 d]) := by rw [h1, h2]
theorem wdiv_low (n d : Int) (d1 : d < 1) (w : World) :
   Calls Tryz.prog 194 #[wide n, .int .i64 d] w fun e w' => e = .returned (.tuple #[.int .i64 (divV n d), .int .i64 (divE n d)]) /\ Below w.heap.size w w' := by
 go_enter Tryz.func194, Tryz.ntmps194
 go_wp2
 go_ret2
 exact ⟨ret_div (by simp [divV, d1]) (by simp [divE, d1]), by go_grown⟩
theorem wdiv_nonneg (n d : Int) (h0 : 0 <= n) (hn : InW n) (d1 : 1 <= d) (d2 : d <= 9223372036854775807) (w : World) :
   Calls Tryz.prog 194 #[wide n, .int .i64 d] w fun e w' => e = .returned (.tuple #[.int .i64 (divV n d), .int .i64 (divE n d)]) /\ Below w.heap.size w w' := by
 have hfit := div_fits (n := n) d1
 have hnn : 0 <= n / d := Int.ediv_nonneg h0 (by omega)
 have hcut : n / 18446744073709551616 * 18446744073709551616 + n % 18446744073709551616 = n := by omega
 obtain ⟨n1, n2⟩ := hn
 by_cases hbig : d <= n / 18446744073709551616
 · have hv : divV n d = 0 := by unfold divV; rw [if_neg (by omega), if_pos (by omega)]
   have he : divE n d = 2 := by unfold divE; rw [if_neg (by omega), if_pos (by omega)]
   have HV := Lib.hid hv; have HE := Lib.hid he
   clear hv he hcut hfit
   go_enter Tryz.func194, Tryz.ntmps194
   go_wp2
   go_ret2
   exact ⟨ret_div HV.out.symm HE.out.symm, by go_grown⟩
 · have hlt : n / d < 18446744073709551616 := hfit.2 (by omega)
   by_cases hl : 9223372036854775807 < n / d
   · have hv : divV n d = 0 := by unfold divV; rw [if_neg (by omega), if_pos (by omega)]
     have he : divE n d = 2 := by unfold divE; rw [if_neg (by omega), if_pos (by omega)]
     have HV := Lib.hid hv; have HE := Lib.hid he
     clear hv he hfit
     go_enter Tryz.func194, Tryz.ntmps194
     go_wp2_with (go_at_call 169; refine (div64_any _ _ _ (by omega) (by omega) (by omega) (by omega) (by omega) _).mono ?_; rintro e w1 ⟨rfl, k, rfl⟩)
     go_ret2
     exact ⟨ret_div HV.out.symm HE.out.symm, Below.drewN (by go_grown) _⟩
   · have hv : divV n d = n / d := by unfold divV; rw [if_neg (by omega), if_neg (by omega)]
     have he : divE n d = 0 := by unfold divE; rw [if_neg (by omega), if_neg (by omega)]
     have HV := Lib.hid hv; have HE := Lib.hid he
     clear hv he hfit
     go_enter Tryz.func194, Tryz.ntmps194
     go_wp2_with (go_at_call 169; refine (div64_any _ _ _ (by omega) (by omega) (by omega) (by omega) (by omega) _).mono ?_; rintro e w1 ⟨rfl, k, rfl⟩)
     go_ret2
     exact ⟨ret_div HV.out.symm HE.out.symm, Below.drewN (by go_grown) _⟩
theorem wdiv_any (n d : Int) (hn : InW n) (d2 : d <= 9223372036854775807) (w : World) :
   Calls Tryz.prog 194 #[wide n, .int .i64 d] w fun e w' => e = .returned (.tuple #[.int .i64 (divV n d), .int .i64 (divE n d)]) /\ Below w.heap.size w w' := by
 by_cases d1 : d < 1
 · exact wdiv_low n d d1 w
 rcases Int.lt_or_le n 0 with h | h
 · have K := flip_div n d (by omega)
   have hnn : 0 <= (-n - 1) / d := Int.ediv_nonneg (by omega) (by omega)
   have hi := flip_in hn
   by_cases hl : 9223372036854775807 < (-n - 1) / d
   · have hv : divV n d = 0 := by unfold divV; rw [if_neg (by omega), if_pos (by omega)]
     have he : divE n d = 2 := by unfold divE; rw [if_neg (by omega), if_pos (by omega)]
     have HV := Lib.hid hv; have HE := Lib.hid he
     have gv : divV (-n - 1) d = 0 := by unfold divV; rw [if_neg (by omega), if_pos (by omega)]
     have ge : divE (-n - 1) d = 2 := by unfold divE; rw [if_neg (by omega), if_pos (by omega)]
     clear hv he K
     obtain ⟨n1, n2⟩ := hn
     go_enter Tryz.func194, Tryz.ntmps194
     go_wp2_with (first
       | (go_at_call 222; refine (flip_any n ⟨n1, n2⟩ _).mono ?_; rintro e w1 ⟨rfl, hb1⟩
          obtain ⟨hB1, hs1, hc1, hf1⟩ := Below.after hb1 (B := w.heap.size) (w0 := w) (by go_grown) (by simp))
       | (go_at_call 194; refine (wdiv_nonneg (-n - 1) d (by omega) hi (by omega) d2 _).mono ?_; rw [gv, ge]; rintro e w2 ⟨rfl, hb2⟩
          obtain ⟨hB2, hs2, hc2, hf2⟩ := Below.after hb2 (B := w.heap.size) (w0 := w) hB1 hB1.size))
     go_ret2
     exact ⟨ret_div HV.out.symm HE.out.symm, hB2⟩
   · have hv : divV n d = n / d := by unfold divV; rw [if_neg (by omega), if_neg (by omega)]
     have he : divE n d = 0 := by unfold divE; rw [if_neg (by omega), if_neg (by omega)]
     rw [K] at hv
     have HV := Lib.hid hv; have HE := Lib.hid he
     have gv : divV (-n - 1) d = (-n - 1) / d := by unfold divV; rw [if_neg (by omega), if_neg (by omega)]
     have ge : divE (-n - 1) d = 0 := by unfold divE; rw [if_neg (by omega), if_neg (by omega)]
     have p1 := not_i64 ((-n - 1) / d) (by omega) (by omega)
     have s1 : IntKind.i64.signed = true := rfl
     clear hv he K
     obtain ⟨n1, n2⟩ := hn
     go_enter Tryz.func194, Tryz.ntmps194
     go_wp2_with (first
       | (go_at_call 222; refine (flip_any n ⟨n1, n2⟩ _).mono ?_; rintro e w1 ⟨rfl, hb1⟩
          obtain ⟨hB1, hs1, hc1, hf1⟩ := Below.after hb1 (B := w.heap.size) (w0 := w) (by go_grown) (by simp))
       | (go_at_call 194; refine (wdiv_nonneg (-n - 1) d (by omega) hi (by omega) d2 _).mono ?_; rw [gv, ge]; rintro e w2 ⟨rfl, hb2⟩
          obtain ⟨hB2, hs2, hc2, hf2⟩ := Below.after hb2 (B := w.heap.size) (w0 := w) hB1 hB1.size))
     go_ret2
     exact ⟨ret_div HV.out.symm HE.out.symm, hB2⟩
 · exact wdiv_nonneg n d h hn (by omega) d2 w

theorem muldiv_any (a b c : Int) (a1 : -9223372036854775808 <= a) (a2 : a <= 9223372036854775807) (b1 : -9223372036854775808 <= b) (b2 : b <= 9223372036854775807) (c2 : c <= 9223372036854775807) (w : World) :
   Calls Tryz.prog 160 #[.int .i64 a, .int .i64 b, .int .i64 c] w fun e w' => e = .returned (.tuple #[.int .i64 (divV (a * b) c), .int .i64 (divE (a * b) c)]) /\ Below w.heap.size w w' := by
 have hi := mul_in a1 a2 b1 b2
 go_enter Tryz.func160, Tryz.ntmps160
 go_wp2_with (first
   | (go_at_call 155; refine (prod_any a b a1 a2 b1 b2 _).mono ?_; rintro e w1 ⟨rfl, hb1⟩
      obtain ⟨hB1, hs1, hc1, hf1⟩ := Below.after hb1 (B := w.heap.size) (w0 := w) (by go_grown) (by simp))
   | (go_at_call 194; refine (wdiv_any (a * b) c hi c2 _).mono ?_; rintro e w2 ⟨rfl, hb2⟩
      obtain ⟨hB2, hs2, hc2, hf2⟩ := Below.after hb2 (B := w.heap.size) (w0 := w) hB1 hB1.size))
 go_ret2
 exact ⟨rfl, hB2⟩

theorem muldivup_low (a b c : Int) (h : c < 1) (w : World) :
   Calls Tryz.prog 161 #[.int .i64 a, .int .i64 b, .int .i64 c] w fun e w' => e = .returned (.tuple #[.int .i64 0, .int .i64 1]) /\ Below w.heap.size w w' := by
 go_enter Tryz.func161, Tryz.ntmps161
 go_wp2
 go_ret2
 exact ⟨rfl, by go_grown⟩
theorem muldivup_ok (a b c : Int) (a1 : -9223372036854775808 <= a) (a2 : a <= 9223372036854775807) (b1 : -9223372036854775808 <= b) (b2 : b <= 9223372036854775807) (c1 : 1 <= c) (c2 : c <= 9223372036854775807) (w : World) :
   Calls Tryz.prog 161 #[.int .i64 a, .int .i64 b, .int .i64 c] w fun e w' => e = .returned (.tuple #[.int .i64 (divV (a * b + (c - 1)) c), .int .i64 (divE (a * b + (c - 1)) c)]) /\ Below w.heap.size w w' := by
 have hi := mul_in a1 a2 b1 b2
 have hb := mul_bd a1 a2 b1 b2
 have E := Lib.hid (w128_id (n := a * b + (0 * 18446744073709551616 + (c - 1))) (by unfold InW; omega))
 have E2 : Hid (a * b + (0 * 18446744073709551616 + (c - 1)) = a * b + (c - 1)) := by unfold Hid; omega
 go_enter Tryz.func161, Tryz.ntmps161
 go_wp2_with (first
   | (go_at_call 155; refine (prod_any a b a1 a2 b1 b2 _).mono ?_; rintro e w1 ⟨rfl, hb1⟩
      obtain ⟨hB1, hs1, hc1, hf1⟩ := Below.after hb1 (B := w.heap.size) (w0 := w) (by go_grown) (by simp))
   | (go_at_call 195; refine (plus_lit (a * b) 0 (c - 1) hi (by omega) (by omega) (by omega) (by omega) _).mono ?_; rw [E.out, E2.out]; rintro e w2 ⟨rfl, hb2⟩
      obtain ⟨hB2, hs2, hc2, hf2⟩ := Below.after hb2 (B := w.heap.size) (w0 := w) hB1 hB1.size)
   | (go_at_call 194; refine (wdiv_any (a * b + (c - 1)) c (by unfold InW; omega) c2 _).mono ?_; rintro e w3 ⟨rfl, hb3⟩
      obtain ⟨hB3, hs3, hc3, hf3⟩ := Below.after hb3 (B := w.heap.size) (w0 := w) hB2 hB2.size))
 go_ret2
 exact ⟨rfl, hB3⟩
end Go.Proofs.YtmhhdedekblbnaaGreat
