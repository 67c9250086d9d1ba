/-
  The walk of the law NumMulDivs.
  Conditions: those of each theorem; arguments are 64-bit numbers.
-/
import Derived.Test.YtalonppmoimmjaaW1
import Derived.Test.YtalonppmoimmjaaZQ
set_option linter.unusedSimpArgs false
set_option linter.unusedVariables false
namespace Go.Proofs.Ytalonppmoimmjaa
open Go.RowKit Go.Shelf Zd Wd


theorem boot2 (w : World) (x1 y1 x2 y2 : Value) : ∃ W, W = (w.alloc (.cells #[x1, y1] 27)).alloc (.cells #[x2, y2] 27) ∧ Below w.heap.size w W ∧ Bx W w.heap.size 27 x1 y1 ∧ Bx W (w.heap.size + 1) 27 x2 y2 := by
  have e1 : (w.alloc (.cells #[x1, y1] 27)).heap.size = w.heap.size + 1 := by simp
  have h1 := Bx.new w 27 x1 y1
  have h2 := Bx.new (w.alloc (.cells #[x1, y1] 27)) 27 x2 y2
  rw [e1] at h2
  exact ⟨_, rfl, by go_grown, h1.alloc _, h2⟩

set_option maxRecDepth 100000 in
set_option maxHeartbeats 2000000 in
theorem numMulDivs_law (a : Int) (a1 : -9223372036854775808 ≤ a) (a2 : a ≤ 9223372036854775807) (b : Int) (b1 : -9223372036854775808 ≤ b) (b2 : b ≤ 9223372036854775807) (c : Int) (c1 : -9223372036854775808 ≤ c) (c2 : c ≤ 9223372036854775807) (w : World) :
    Calls Try.prog 6 #[.int .i64 a, .int .i64 b, .int .i64 c] w fun e w' => e = .returned (.bool true) ∧ Below w.heap.size w w' := by
  have la := dlen64 a1 a2
  have lb := dlen64 b1 b2
  have sp : (digs (a * b).natAbs).length ≤ 100000 := Nat.le_trans (dlen_mulI la lb) (by omega)
  have sp2 : (digs a.natAbs).length + (digs b.natAbs).length ≤ 1999999 := by omega
  go_enter Try.func6, Try.ntmps6
  go_wp2_with fail
  go_at_call 25; refine (i_any a a1 a2 _).mono ?_
  rintro e Wx ⟨u, rfl, hx, hb⟩
  obtain ⟨gx, px, nx, cx, rfl⟩ := hx.shape
  have h0 := hb
  clear hb
  go_wp2_with fail
  go_at_call 25; refine (i_any b b1 b2 _).mono ?_
  rintro e Wy ⟨u, rfl, hy, hb⟩
  obtain ⟨gy, py, ny, cy, rfl⟩ := hy.shape
  replace hx := hx.go hb
  replace h0 := bel_go h0 h0.size hb
  clear hb
  go_wp2_with fail
  go_at_call 28; refine (ztimes_any _ _ a b sp2 _ hx hy).mono ?_
  rintro e Wz ⟨u, rfl, hz, hb⟩
  obtain ⟨gz, pz, nz, cz, rfl⟩ := hz.shape
  replace h0 := bel_go h0 h0.size hb
  clear hb
  go_wp2_with fail
  obtain ⟨WP, hWP, hal, bz⟩ := boot1 Wz (.bool gz) (.slice pz nz cz)
  rw [← hWP]
  clear hWP hx hy
  replace hz := hz.go hal
  replace h0 := bel_go h0 h0.size hal
  clear hal
  generalize Wz.heap.size = BP at bz ⊢
  go_at_call 38; refine (quot_down _ (a * b) c sp c2 _ hz).mono ?_
  rintro e W1 ⟨rfl, hb⟩
  replace hz := hz.go hb
  replace bz := bz.go hb
  replace h0 := bel_go h0 h0.size hb
  clear hb
  have c0 := bz.c0
  have d0 := bz.c1
  go_wp2_with fail
  go_at_call 38; refine (quot_up _ (a * b) c sp c2 _ hz).mono ?_
  rintro e W2 ⟨rfl, hb⟩
  replace hz := hz.go hb
  replace bz := bz.go hb
  replace h0 := bel_go h0 h0.size hb
  clear hb
  clear c0 d0
  go_wp2_with fail
  go_at_call 39; refine (muldiv_any a b c a1 a2 b1 b2 c2 _).mono ?_
  rintro e W3 ⟨rfl, hb⟩
  replace h0 := bel_go h0 h0.size hb
  clear hb
  go_wp2_with fail
  have hup : Calls Try.prog 40 #[.int .i64 a, .int .i64 b, .int .i64 c] W3 fun e w' => e = .returned (.tuple #[.int .i64 (divV (a * b + (c - 1)) c), .int .i64 (divE (a * b + (c - 1)) c)]) ∧ Below W3.heap.size W3 w' := by
    by_cases h : c < 1
    · have e1 : divV (a * b + (c - 1)) c = 0 := if_pos h
      have e2 : divE (a * b + (c - 1)) c = 1 := if_pos h
      rw [e1, e2]; exact muldivup_low a b c h W3
    · exact muldivup_ok a b c a1 a2 b1 b2 (by omega) c2 W3
  go_at_call 40; refine hup.mono ?_
  rintro e W4 ⟨rfl, hb⟩
  clear hup
  replace h0 := bel_go h0 h0.size hb
  clear hb
  go_wp2_with fail
  go_at_call 19; refine (nums_any _).mono ?_
  rintro e W5 ⟨rfl, hb⟩
  replace h0 := bel_go h0 h0.size hb
  clear hb
  go_wp2
  go_ret
  exact ⟨rfl, h0⟩
end Go.Proofs.Ytalonppmoimmjaa
