/-
  The walk of the law NumQuotients.
  Conditions: those of each theorem; arguments are 64-bit numbers.
-/
import Derived.Test.YtalonppmoimmjaaW2
import Derived.Test.YtalonppmoimmjaaZN
set_option linter.unusedSimpArgs false
set_option linter.unusedVariables false
namespace Go.Proofs.Ytalonppmoimmjaa
open Go.RowKit Go.Shelf Zd Wd


theorem round_any (va vb : Value) (a b : Int) (hb1 : 1 ≤ b) (hla : (digs a.natAbs).length ≤ 100000) (hlb : (digs b.natAbs).length ≤ 100000) (w : World) (hA : IsZ w va a) (hB : IsZ w vb b) :
    Calls Try.prog 37 #[va, vb] w fun e w' => ∃ u, e = .returned u ∧ IsZ w' u (rdV a b) ∧ Below w.heap.size w w' := by
  rcases (show a < 0 ∨ 0 ≤ a by omega) with h | h
  · have e : rdV a b = -(((a.natAbs : Int) * 2 + b) / (b * 2)) := by
      unfold rdV
      rw [if_neg (by omega), if_pos h, show 2 * -a + b = (a.natAbs : Int) * 2 + b by omega]
    rw [e]
    exact round_neg va vb a b h hb1 hla hlb w hA hB
  · have e : rdV a b = ((a.natAbs : Int) * 2 + b) / (b * 2) := by
      unfold rdV
      rw [if_neg (by omega), if_neg (by omega), show 2 * a + b = (a.natAbs : Int) * 2 + b by omega]
    rw [e]
    exact round_pos va vb a b h hb1 hla hlb w hA hB
theorem quot_bounds {a b : Int} (a1 : -9223372036854775808 ≤ a) (a2 : a ≤ 9223372036854775807) (hb : 1 ≤ b) : (-9223372036854775808 ≤ a / b ∧ a / b ≤ 9223372036854775807) ∧ (-9223372036854775808 ≤ -(-a / b) ∧ -(-a / b) ≤ 9223372036854775807) ∧ (-9223372036854775808 ≤ rdV a b ∧ rdV a b ≤ 9223372036854775807) := by
  have lo : ∀ (c d : Int), 1 ≤ d → -9223372036854775808 ≤ c → c ≤ 9223372036854775808 → -9223372036854775808 ≤ c / d ∧ c / d ≤ 9223372036854775808 := by
    intro c d hd h1 h2
    refine ⟨Int.le_ediv_of_mul_le (by omega) ?_, Int.ediv_le_of_le_mul (by omega) ?_⟩
    · have := Int.mul_le_mul_of_nonneg_left hd (show (0 : Int) ≤ 9223372036854775808 by decide)
      omega
    · have := Int.mul_le_mul_of_nonneg_left hd (show (0 : Int) ≤ 9223372036854775808 by decide)
      omega
  have hi : ∀ (c d : Int), 1 ≤ d → c ≤ 9223372036854775807 → c / d ≤ 9223372036854775807 := by
    intro c d hd h2
    refine Int.ediv_le_of_le_mul (by omega) ?_
    have := Int.mul_le_mul_of_nonneg_left hd (show (0 : Int) ≤ 9223372036854775807 by decide)
    omega
  have l1 := lo a b hb a1 (by omega)
  have l2 := lo (-a) b hb (by omega) (by omega)
  have l3 := hi a b hb a2
  have l4 : -9223372036854775807 ≤ -a / b := by
    refine Int.le_ediv_of_mul_le (by omega) ?_
    have := Int.mul_le_mul_of_nonneg_left hb (show (0 : Int) ≤ 9223372036854775807 by decide)
    omega
  refine ⟨⟨l1.1, l3⟩, ⟨by omega, by omega⟩, ?_⟩
  obtain ⟨s1, s2, s3⟩ := rdm a b hb
  obtain ⟨t1, t2, t3, t4, t5⟩ := tdm (a := a) (b := b) hb
  have tb := tdb (b := b) hb a1 a2
  rcases (show b - a.tmod b ≤ a.tmod b ∨ b + a.tmod b ≤ -a.tmod b ∨ (a.tmod b < b - a.tmod b ∧ -a.tmod b < b + a.tmod b) by omega) with h | h | h
  · have := t3 (by omega); rw [s1 h]; omega
  · have := t1 (by omega); rw [s2 h]; omega
  · rw [s3 h.1 h.2]; exact tb

set_option maxRecDepth 100000 in
set_option maxHeartbeats 4000000 in
theorem numQuotients_law (a : Int) (a1 : -9223372036854775808 ≤ a) (a2 : a ≤ 9223372036854775807) (b : Int) (b1 : -9223372036854775808 ≤ b) (b2 : b ≤ 9223372036854775807) (w : World) :
    Calls Try.prog 5 #[.int .i64 a, .int .i64 b] w fun e w' => e = .returned (.bool true) ∧ Below w.heap.size w w' := by
  by_cases hlow : b < 1
  · have EF := Lib.hid (show fdV a b = 0 from if_pos hlow)
    have EC := Lib.hid (show cdV a b = 0 from if_pos hlow)
    have ER := Lib.hid (show rdV a b = 0 from if_pos hlow)
    have EM := Lib.hid (show mdV a b = 0 from if_pos hlow)
    go_enter Try.func5, Try.ntmps5
    go_wp2_with fail
    go_at_call 29; refine (floordiv_any a b a1 a2 b1 b2 _).mono ?_
    rw [EF.out]
    rintro e W0 ⟨rfl, rfl⟩
    go_wp2_with fail
    go_at_call 30; refine (ceildiv_any a b a1 a2 b1 b2 _).mono ?_
    rw [EC.out]
    rintro e W0 ⟨rfl, rfl⟩
    go_wp2_with fail
    go_at_call 31; refine (rounddiv_any a b a1 a2 b1 b2 _).mono ?_
    rw [ER.out]
    rintro e W0 ⟨rfl, h0⟩
    go_wp2_with fail
    go_at_call 32; refine (mod_any a b b1 b2 _).mono ?_
    rw [EM.out]
    rintro e W0 ⟨rfl, rfl⟩
    go_wp2_with fail
    go_at_call 19; refine (nums_any _).mono ?_
    rintro e W1 ⟨rfl, hb⟩
    replace h0 := bel_go h0 h0.size hb
    clear hb
    go_wp2
    go_ret
    exact ⟨rfl, h0⟩
  · have EF := Lib.hid (show fdV a b = a / b from if_neg hlow)
    have EC := Lib.hid (show cdV a b = -(-a / b) from if_neg hlow)
    have EM := Lib.hid (show mdV a b = a % b from if_neg hlow)
    have ER := Lib.hid (show rdV a b = rdV a b from rfl)
    have hb1 : 1 ≤ b := by omega
    have hb0 : b ≠ 0 := by omega
    obtain ⟨⟨q1, q2⟩, ⟨k1, k2⟩, ⟨r1, r2⟩⟩ := quot_bounds a1 a2 hb1
    have m1 : -9223372036854775808 ≤ a % b := by have := Int.emod_nonneg a hb0; omega
    have m2 : a % b ≤ 9223372036854775807 := by have := Int.emod_lt_of_pos a (show 0 < b by omega); omega
    have hla1 : (digs a.natAbs).length ≤ 100000 := by have := dlen64 a1 a2; omega
    have hlb1 : (digs b.natAbs).length ≤ 100000 := by have := dlen64 b1 b2; omega
    have hla : (digs a.natAbs).length ≤ 400000 := by omega
    have hlb : (digs b.natAbs).length ≤ 400000 := by omega
    go_enter Try.func5, Try.ntmps5
    go_wp2_with fail
    go_at_call 29; refine (floordiv_any a b a1 a2 b1 b2 _).mono ?_
    rw [EF.out]
    rintro e W0 ⟨rfl, rfl⟩
    go_wp2_with fail
    go_at_call 30; refine (ceildiv_any a b a1 a2 b1 b2 _).mono ?_
    rw [EC.out]
    rintro e W0 ⟨rfl, rfl⟩
    go_wp2_with fail
    go_at_call 31; refine (rounddiv_any a b a1 a2 b1 b2 _).mono ?_
    rintro e W0 ⟨rfl, h0⟩
    go_wp2_with fail
    go_at_call 32; refine (mod_any a b b1 b2 _).mono ?_
    rw [EM.out]
    rintro e W0 ⟨rfl, rfl⟩
    go_wp2_with fail
    go_at_call 25; refine (i_any a a1 a2 _).mono ?_
    rintro e Wx ⟨u, rfl, hx, hb⟩
    obtain ⟨gx, px, nx, cx, rfl⟩ := hx.shape
    replace h0 := bel_go h0 h0.size hb
    clear hb
    go_wp2_with fail
    go_at_call 25; refine (i_any b b1 b2 _).mono ?_
    rintro e Wy ⟨u, rfl, hy, hb⟩
    obtain ⟨gy, py, ny, cy, rfl⟩ := hy.shape
    replace hx := hx.go hb
    replace h0 := bel_go h0 h0.size hb
    clear hb
    go_wp2_with fail
    obtain ⟨WP, hWP, hal, bx, by'⟩ := boot2 Wy (.bool gx) (.slice px nx cx) (.bool gy) (.slice py ny cy)
    rw [← hWP]
    clear hWP
    replace hx := hx.go hal
    replace hy := hy.go hal
    replace h0 := bel_go h0 h0.size hal
    clear hal
    generalize Wy.heap.size = BP at bx by' ⊢
    go_at_call 33; refine (zsplit_any _ _ a b hb0 hla hlb _ hx hy).mono ?_
    rintro e WS ⟨u, v, rfl, hu, hv, hb⟩
    obtain ⟨gu, pu, nu, cu, rfl⟩ := hu.shape
    obtain ⟨gv, pv, nv, cv, rfl⟩ := hv.shape
    replace hx := hx.go hb
    replace hy := hy.go hb
    replace bx := bx.go hb
    replace by' := by'.go hb
    replace h0 := bel_go h0 h0.size hb
    clear hb
    go_wp2_with fail
    obtain ⟨WQ, hWQ, hal, bu, bv⟩ := boot2 WS (.bool gu) (.slice pu nu cu) (.bool gv) (.slice pv nv cv)
    rw [← hWQ]
    clear hWQ
    replace hx := hx.go hal
    replace hy := hy.go hal
    replace hu := hu.go hal
    replace hv := hv.go hal
    replace bx := bx.go hal
    replace by' := by'.go hal
    replace h0 := bel_go h0 h0.size hal
    clear hal
    generalize WS.heap.size = BQ at bu bv ⊢
    go_at_call 19; refine (nums_any _).mono ?_
    rintro e W1 ⟨rfl, hb⟩
    replace hx := hx.go hb
    replace hy := hy.go hb
    replace hu := hu.go hb
    replace hv := hv.go hb
    replace bx := bx.go hb
    replace by' := by'.go hb
    replace bu := bu.go hb
    replace bv := bv.go hb
    replace h0 := bel_go h0 h0.size hb
    clear hb
    have c1 := bx.c0
    have c2 := bx.c1
    have c3 := by'.c0
    have c4 := by'.c1
    have c5 := bu.c0
    have c6 := bu.c1
    have c7 := bv.c0
    have c8 := bv.c1
    go_wp2_with fail
    go_at_call 34; refine (isQ_any _ _ q1 q2 _ hu).mono ?_
    rintro e W2 ⟨rfl, hb⟩
    replace hx := hx.go hb
    replace hy := hy.go hb
    replace hu := hu.go hb
    replace hv := hv.go hb
    replace bx := bx.go hb
    replace by' := by'.go hb
    replace bu := bu.go hb
    replace bv := bv.go hb
    replace h0 := bel_go h0 h0.size hb
    clear hb
    clear c1 c2 c3 c4 c5 c6 c7 c8
    have c1 := bx.c0
    have c2 := bx.c1
    have c3 := by'.c0
    have c4 := by'.c1
    have c5 := bu.c0
    have c6 := bu.c1
    have c7 := bv.c0
    have c8 := bv.c1
    go_wp2_with fail
    go_at_call 36; refine (zceil_any _ _ a b hb0 hla hlb _ hx hy).mono ?_
    rintro e W3 ⟨u, rfl, hc, hb⟩
    obtain ⟨gc, pc, nc, cc, rfl⟩ := hc.shape
    replace hx := hx.go hb
    replace hy := hy.go hb
    replace hu := hu.go hb
    replace hv := hv.go hb
    replace bx := bx.go hb
    replace by' := by'.go hb
    replace bu := bu.go hb
    replace bv := bv.go hb
    replace h0 := bel_go h0 h0.size hb
    clear hb
    clear c1 c2 c3 c4 c5 c6 c7 c8
    have c1 := bx.c0
    have c2 := bx.c1
    have c3 := by'.c0
    have c4 := by'.c1
    have c5 := bu.c0
    have c6 := bu.c1
    have c7 := bv.c0
    have c8 := bv.c1
    go_wp2_with fail
    go_at_call 34; refine (isQ_any _ _ k1 k2 _ hc).mono ?_
    rintro e W4 ⟨rfl, hb⟩
    replace hx := hx.go hb
    replace hy := hy.go hb
    replace hu := hu.go hb
    replace hv := hv.go hb
    replace bx := bx.go hb
    replace by' := by'.go hb
    replace bu := bu.go hb
    replace bv := bv.go hb
    replace h0 := bel_go h0 h0.size hb
    clear hb
    clear c1 c2 c3 c4 c5 c6 c7 c8
    have c1 := bx.c0
    have c2 := bx.c1
    have c3 := by'.c0
    have c4 := by'.c1
    have c5 := bu.c0
    have c6 := bu.c1
    have c7 := bv.c0
    have c8 := bv.c1
    go_wp2_with fail
    have hrd := round_any _ _ a b hb1 hla1 hlb1 _ hx hy
    go_at_call 37; refine hrd.mono ?_
    clear hrd
    rintro e W5 ⟨u, rfl, hr, hb⟩
    obtain ⟨gr, pr, nr, cr, rfl⟩ := hr.shape
    replace hx := hx.go hb
    replace hy := hy.go hb
    replace hu := hu.go hb
    replace hv := hv.go hb
    replace bx := bx.go hb
    replace by' := by'.go hb
    replace bu := bu.go hb
    replace bv := bv.go hb
    replace h0 := bel_go h0 h0.size hb
    clear hb
    clear c1 c2 c3 c4 c5 c6 c7 c8
    have c1 := bx.c0
    have c2 := bx.c1
    have c3 := by'.c0
    have c4 := by'.c1
    have c5 := bu.c0
    have c6 := bu.c1
    have c7 := bv.c0
    have c8 := bv.c1
    go_wp2_with fail
    go_at_call 34; refine (isQ_any _ _ r1 r2 _ hr).mono ?_
    rintro e W6 ⟨rfl, hb⟩
    replace hx := hx.go hb
    replace hy := hy.go hb
    replace hu := hu.go hb
    replace hv := hv.go hb
    replace bx := bx.go hb
    replace by' := by'.go hb
    replace bu := bu.go hb
    replace bv := bv.go hb
    replace h0 := bel_go h0 h0.size hb
    clear hb
    clear c1 c2 c3 c4 c5 c6 c7 c8
    have c1 := bx.c0
    have c2 := bx.c1
    have c3 := by'.c0
    have c4 := by'.c1
    have c5 := bu.c0
    have c6 := bu.c1
    have c7 := bv.c0
    have c8 := bv.c1
    go_wp2_with fail
    go_at_call 34; refine (isQ_any _ _ m1 m2 _ hv).mono ?_
    rintro e W7 ⟨rfl, hb⟩
    replace hx := hx.go hb
    replace hy := hy.go hb
    replace hu := hu.go hb
    replace hv := hv.go hb
    replace bx := bx.go hb
    replace by' := by'.go hb
    replace bu := bu.go hb
    replace bv := bv.go hb
    replace h0 := bel_go h0 h0.size hb
    clear hb
    clear c1 c2 c3 c4 c5 c6 c7 c8
    go_wp2
    go_ret
    exact ⟨rfl, h0⟩
end Go.Proofs.Ytalonppmoimmjaa
