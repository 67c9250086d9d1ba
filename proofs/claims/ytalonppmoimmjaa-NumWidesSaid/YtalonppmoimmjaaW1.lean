/-
  The walks of the laws NumSums, NumQuotients and NumMulDivs.
  Conditions: those of each theorem; arguments are 64-bit numbers.
-/
import Derived.Test.YtalonppmoimmjaaZG
import Derived.Test.YtalonppmoimmjaaNumS
set_option linter.unusedSimpArgs false
set_option linter.unusedVariables false
namespace Go.Proofs.Ytalonppmoimmjaa
open Go.RowKit Go.Shelf Zd Wd

theorem dlen64 {z : Int} (h1 : -9223372036854775808 ≤ z) (h2 : z ≤ 9223372036854775807) : (digs z.natAbs).length ≤ 4 := digs_len (by omega)
theorem sm_le {z : Int} {k : Nat} (h : (digs z.natAbs).length ≤ k) (hk : k ≤ 1000000) : Sm z := by unfold Sm; omega
theorem dlen_mulI {a b : Int} {j k : Nat} (ha : (digs a.natAbs).length ≤ j) (hb : (digs b.natAbs).length ≤ k) : (digs (a * b).natAbs).length ≤ j + k := by
  rw [Int.natAbs_mul]; have := dlen_mul a.natAbs b.natAbs; omega
theorem dlen_addI {a b : Int} {k : Nat} (ha : (digs a.natAbs).length ≤ k) (hb : (digs b.natAbs).length ≤ k) : (digs (a + b).natAbs).length ≤ k + 1 := by
  have h1 := len_le ha
  have h2 := len_le hb
  refine digs_len ?_
  rw [Nat.pow_succ]
  omega
theorem dlen_divI {a b : Int} {k : Nat} (ha : (digs a.natAbs).length ≤ k) : (digs (a / b).natAbs).length ≤ k + 1 := by
  have h1 := len_le ha
  have h2 := Int.natAbs_ediv_le_natAbs a b
  refine digs_len ?_
  rw [Nat.pow_succ]
  omega
theorem dlen_negI {a : Int} {k : Nat} (ha : (digs a.natAbs).length ≤ k) : (digs (-a).natAbs).length ≤ k := by rw [Int.natAbs_neg]; exact ha

/-- spylaw1.nums. -/
theorem nums_any (w : World) : Calls Try.prog 19 #[] w fun e w' => e = .returned (.bool true) ∧ Below w.heap.size w w' := by
  have e1 : divV (4611686018427387904 * 6) 8 = 3458764513820540928 := by decide +kernel
  have e2 : divE (4611686018427387904 * 6) 8 = 0 := by decide +kernel
  have e3 : rdV (-5) 2 = -3 := by decide +kernel
  have e4 : cdV (-5) 2 = -2 := by decide +kernel
  have E1 := Lib.hid e1
  have E2 := Lib.hid e2
  have E3 := Lib.hid e3
  have E4 := Lib.hid e4
  clear e1 e2 e3 e4
  go_enter Try.func19, Try.ntmps19
  go_wp2_with fail
  go_at_call 39; refine (muldiv_any 4611686018427387904 6 8 (by omega) (by omega) (by omega) (by omega) (by omega) _).mono ?_
  rw [E1.out, E2.out]
  rintro e W1 ⟨rfl, hb⟩
  go_wp2_with fail
  go_at_call 31; refine (rounddiv_any (-5) 2 (by omega) (by omega) (by omega) (by omega) _).mono ?_
  rw [E3.out]
  rintro e W2 ⟨rfl, hb2⟩
  go_wp2_with fail
  go_at_call 30; refine (ceildiv_any (-5) 2 (by omega) (by omega) (by omega) (by omega) _).mono ?_
  rw [E4.out]
  rintro e W3 ⟨rfl, rfl⟩
  go_wp2
  go_ret
  exact ⟨rfl, bel_go hb hb.size hb2⟩

/-- What NumSums asks of each result. -/
theorem isS_any (v : Value) (z : Int) (hs : Sm z) (w : World) (hv : IsZ w v z) :
    Calls Try.prog 20 #[v, .int .i64 (fit64 z), .bool (fits64 z)] w fun e w' => e = .returned (.bool true) ∧ Below w.heap.size w w' := by
  obtain ⟨g, p, n, c, rfl⟩ := hv.shape
  obtain ⟨x, hx⟩ : ∃ x, fit64 z = x := ⟨_, rfl⟩
  obtain ⟨y, hy⟩ : ∃ y, fits64 z = y := ⟨_, rfl⟩
  have HX := Lib.hid hx
  have HY := Lib.hid hy
  rw [hx, hy]
  clear hx hy
  obtain ⟨W, hW, h0, b1⟩ := boot1 w (.bool g) (.slice p n c)
  have HW := Lib.hid hW
  clear hW
  replace hv := hv.go h0
  rw [HW.out] at hv
  go_enter Try.func20, Try.ntmps20
  go_wp2_with fail
  go_at_call 21; refine (fits_any _ z hs _ hv).mono ?_
  rw [show smV z = x from HX.out, show smB z = y from HY.out, ← HW.out]
  rintro e W1 ⟨rfl, hb⟩
  cases y
  all_goals
    go_wp2
    go_ret
    exact ⟨rfl, bel_go h0 h0.size hb⟩

set_option maxRecDepth 100000 in
set_option maxHeartbeats 2000000 in
theorem numSums_law (a : Int) (a1 : -9223372036854775808 ≤ a) (a2 : a ≤ 9223372036854775807) (b : Int) (b1 : -9223372036854775808 ≤ b) (b2 : b ≤ 9223372036854775807) (w : World) :
    Calls Try.prog 4 #[.int .i64 a, .int .i64 b] w fun e w' => e = .returned (.bool true) ∧ Below w.heap.size w w' := by
  have la := dlen64 a1 a2
  have lb := dlen64 b1 b2
  have sa := sm_le la (by omega)
  have sb := sm_le lb (by omega)
  have ss := sm_le (dlen_addI la lb) (by omega)
  have sd : Sm (a - b) := by rw [Int.sub_eq_add_neg]; exact sm_le (dlen_addI la (dlen_negI lb)) (by omega)
  have sp := sm_le (dlen_mulI la lb) (by omega)
  have sp2 : (digs a.natAbs).length + (digs b.natAbs).length ≤ 1999999 := by omega
  go_enter Try.func4, Try.ntmps4
  go_wp2_with fail
  go_at_call 22; refine (add_any a b a1 a2 b1 b2 _).mono ?_
  rintro e W0 ⟨rfl, rfl⟩
  go_wp2_with fail
  go_at_call 23; refine (sub_any a b a1 a2 b1 b2 _).mono ?_
  rintro e W0 ⟨rfl, rfl⟩
  go_wp2_with fail
  go_at_call 24; refine (mul_any a b a1 a2 b1 b2 _).mono ?_
  rintro e W0 ⟨rfl, h0⟩
  go_wp2_with fail
  go_at_call 19; refine (nums_any _).mono ?_
  rintro e W1 ⟨rfl, hb⟩
  replace h0 := bel_go h0 h0.size hb
  clear hb
  go_wp2_with fail
  go_at_call 25; refine (i_any a a1 a2 _).mono ?_
  rintro e Wx ⟨u, rfl, hx, hb⟩
  obtain ⟨gx, px, nx, cx, rfl⟩ := hx.shape
  replace h0 := bel_go h0 h0.size hb
  clear hb
  go_wp2_with fail
  go_at_call 25; refine (i_any b b1 b2 _).mono ?_
  rintro e Wy ⟨u, rfl, hy, hb⟩
  obtain ⟨gy, py, ny, cy, rfl⟩ := hy.shape
  replace hx := hx.go hb
  replace h0 := bel_go h0 h0.size hb
  clear hb
  go_wp2_with fail
  go_at_call 26; refine (zplus_any _ _ a b sa sb _ hx hy).mono ?_
  rintro e Wz ⟨u, rfl, hz, hb⟩
  obtain ⟨gz, pz, nz, cz, rfl⟩ := hz.shape
  replace h0 := bel_go h0 h0.size hb
  clear hb
  go_wp2_with fail
  go_at_call 20; refine (isS_any _ _ ss _ hz).mono ?_
  rintro e W3 ⟨rfl, hb⟩
  replace h0 := bel_go h0 h0.size hb
  clear hb
  clear hx hy hz
  go_wp2_with fail
  go_at_call 25; refine (i_any a a1 a2 _).mono ?_
  rintro e Wx ⟨u, rfl, hx, hb⟩
  obtain ⟨gx, px, nx, cx, rfl⟩ := hx.shape
  replace h0 := bel_go h0 h0.size hb
  clear hb
  go_wp2_with fail
  go_at_call 25; refine (i_any b b1 b2 _).mono ?_
  rintro e Wy ⟨u, rfl, hy, hb⟩
  obtain ⟨gy, py, ny, cy, rfl⟩ := hy.shape
  replace hx := hx.go hb
  replace h0 := bel_go h0 h0.size hb
  clear hb
  go_wp2_with fail
  go_at_call 27; refine (zless_any _ _ a b sa sb _ hx hy).mono ?_
  rintro e Wz ⟨u, rfl, hz, hb⟩
  obtain ⟨gz, pz, nz, cz, rfl⟩ := hz.shape
  replace h0 := bel_go h0 h0.size hb
  clear hb
  go_wp2_with fail
  go_at_call 20; refine (isS_any _ _ sd _ hz).mono ?_
  rintro e W3 ⟨rfl, hb⟩
  replace h0 := bel_go h0 h0.size hb
  clear hb
  clear hx hy hz
  go_wp2_with fail
  go_at_call 25; refine (i_any a a1 a2 _).mono ?_
  rintro e Wx ⟨u, rfl, hx, hb⟩
  obtain ⟨gx, px, nx, cx, rfl⟩ := hx.shape
  replace h0 := bel_go h0 h0.size hb
  clear hb
  go_wp2_with fail
  go_at_call 25; refine (i_any b b1 b2 _).mono ?_
  rintro e Wy ⟨u, rfl, hy, hb⟩
  obtain ⟨gy, py, ny, cy, rfl⟩ := hy.shape
  replace hx := hx.go hb
  replace h0 := bel_go h0 h0.size hb
  clear hb
  go_wp2_with fail
  go_at_call 28; refine (ztimes_any _ _ a b sp2 _ hx hy).mono ?_
  rintro e Wz ⟨u, rfl, hz, hb⟩
  obtain ⟨gz, pz, nz, cz, rfl⟩ := hz.shape
  replace h0 := bel_go h0 h0.size hb
  clear hb
  go_wp2_with fail
  go_at_call 20; refine (isS_any _ _ sp _ hz).mono ?_
  rintro e W3 ⟨rfl, hb⟩
  replace h0 := bel_go h0 h0.size hb
  clear hb
  clear hx hy hz
  go_wp2
  go_ret
  exact ⟨rfl, h0⟩
end Go.Proofs.Ytalonppmoimmjaa
