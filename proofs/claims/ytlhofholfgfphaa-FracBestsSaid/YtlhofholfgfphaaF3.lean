/-
  The contract of frac.Mul.
  Conditions: the arguments are int64.
-/
import Derived.Test.YtlhofholfgfphaaF2
set_option linter.unusedVariables false
set_option linter.unusedSimpArgs false
namespace Go.Proofs.Ytlhofholfgfphaa
open Go.RowKit Go.Shelf Wd

theorem fit_in {z : Int} (h1 : -9223372036854775808 ≤ z) (h2 : z ≤ 9223372036854775807) : fit64 z = z ∧ fits64 z = true := ⟨if_pos ⟨h1, h2⟩, decide_eq_true ⟨h1, h2⟩⟩
theorem fit_bd (z : Int) : -9223372036854775808 ≤ fit64 z ∧ fit64 z ≤ 9223372036854775807 := by unfold fit64; split <;> omega
theorem fits_iff {z : Int} : fits64 z = true ↔ (-9223372036854775808 ≤ z ∧ z ≤ 9223372036854775807) := by unfold fits64; exact decide_eq_true_iff
/-- A quotient without remainder by a positive divisor. -/
theorem quot_parts {n g : Int} (hg : 0 < g) (h : g ∣ n) : n.tdiv g = n / g ∧ ((0 ≤ n → 0 ≤ n / g) ∧ (0 < n → 0 < n / g) ∧ n / g ≤ n.natAbs ∧ -(n.natAbs : Int) ≤ n / g) := by
  obtain ⟨p, rfl⟩ := h
  rw [Int.mul_ediv_cancel_left _ (by omega), tdiv_exact hg]
  refine ⟨rfl, ?_⟩
  rw [Int.natAbs_mul]
  have h1 : p.natAbs ≤ g.natAbs * p.natAbs := by
    have : 1 * p.natAbs ≤ g.natAbs * p.natAbs := Nat.mul_le_mul_right _ (by omega)
    omega
  generalize g.natAbs * p.natAbs = k at h1
  have hs : (0 ≤ g * p → 0 ≤ p) ∧ (0 < g * p → 0 < p) := by
    constructor
    · intro h; exact Int.le_of_mul_le_mul_left (a := g) (by omega) hg
    · intro h; exact Int.lt_of_mul_lt_mul_left (a := g) (by omega) (by omega)
  exact ⟨hs.1, hs.2, by omega, by omega⟩
theorem gcdV_pos {n d : Int} (h1 : 1 ≤ d) (h2 : d ≤ 9223372036854775807) : gcdV n d = Int.gcd n d := by
  have h3 : Int.gcd n d ≤ d.natAbs := Int.gcd_le_natAbs_right _ (by omega)
  unfold gcdV
  rw [if_neg (by unfold Int.gcd at h3; omega)]; rfl
/-- What the multiplication of valid numbers reckons. -/
theorem mul_parts (a b c d : Int) (h1 : Fv a b) (h2 : Fv c d) : ∃ l r x y z t : Int, 0 < l ∧ l ≤ 9223372036854775807 ∧ 0 < r ∧ r ≤ 9223372036854775807 ∧ gcdV a d = l ∧ gcdV c b = r ∧
    a.tdiv l = x ∧ c.tdiv r = y ∧ b.tdiv r = z ∧ d.tdiv l = t ∧ (-1152921504606846976 ≤ x ∧ x ≤ 1152921504606846976) ∧ (-1152921504606846976 ≤ y ∧ y ≤ 1152921504606846976) ∧ (1 ≤ z ∧ z ≤ 1152921504606846976) ∧ (1 ≤ t ∧ t ≤ 1152921504606846976) ∧
    lowA (a * c) (b * d) = limA (x * y) (z * t) ∧ lowB (a * c) (b * d) = limB (x * y) (z * t) ∧ lowE (a * c) (b * d) = limE (x * y) (z * t) := by
  obtain ⟨l0, r0, e1, e2⟩ := mul_red h1 h2
  have k1 := h1.bd
  have k2 := h2.bd
  have gl : Int.gcd a d ≤ d.natAbs := Int.gcd_le_natAbs_right _ (by omega)
  have gr : Int.gcd c b ≤ b.natAbs := Int.gcd_le_natAbs_right _ (by omega)
  obtain ⟨u1, u2⟩ := quot_parts l0 (Int.gcd_dvd_left a d)
  obtain ⟨u3, u4⟩ := quot_parts l0 (Int.gcd_dvd_right a d)
  obtain ⟨u5, u6⟩ := quot_parts r0 (Int.gcd_dvd_left c b)
  obtain ⟨u7, u8⟩ := quot_parts r0 (Int.gcd_dvd_right c b)
  refine ⟨Int.gcd a d, Int.gcd c b, _, _, _, _, l0, by omega, r0, by omega, gcdV_pos (by omega) (by omega), gcdV_pos (by omega) (by omega), u1, u5, u7, u3, by omega, by omega, by omega, by omega, ?_⟩
  unfold lowA lowB lowE
  rw [e1, e2]
  exact ⟨rfl, rfl, rfl⟩
theorem lim_big {n d : Int} (h : fits64 n = false ∨ fits64 d = false) : limA n d = 0 ∧ limB n d = 0 ∧ limE n d = 2 := by
  refine lim_no fun k => ?_
  rcases h with h | h
  · have := fits_iff.2 (show -9223372036854775808 ≤ n ∧ n ≤ 9223372036854775807 by omega)
    rw [this] at h; cases h
  · have := fits_iff.2 (show -9223372036854775808 ≤ d ∧ d ≤ 9223372036854775807 by omega)
    rw [this] at h; cases h

set_option maxRecDepth 100000 in
set_option maxHeartbeats 4000000 in
theorem mulf_any (a b c d : Int) (a1 : -9223372036854775808 ≤ a) (a2 : a ≤ 9223372036854775807) (b1 : -9223372036854775808 ≤ b) (b2 : b ≤ 9223372036854775807) (c1 : -9223372036854775808 ≤ c) (c2 : c ≤ 9223372036854775807) (d1 : -9223372036854775808 ≤ d) (d2 : d ≤ 9223372036854775807) (w : World) : Calls Try.prog 77 #[fr a b, fr c d] w fun e w' => e = .returned (.tuple #[fr (mulA a b c d) (mulB a b c d), .int .i64 (mulE a b c d)]) ∧ Below w.heap.size w w' := by
  by_cases h : chk2 a b c d = 0
  · rw [show mulA a b c d = lowA (a * c) (b * d) from if_pos h, show mulB a b c d = lowB (a * c) (b * d) from if_pos h, show mulE a b c d = lowE (a * c) (b * d) from if_pos h]
    have HC := Lib.hid h
    obtain ⟨v1, v2⟩ := chk2_zero.1 h
    obtain ⟨l, r, x, y, z, t, l0, l2, r0, r2, hl, hr, hx, hy, hz, ht, bx, by_, bz, bt, e1, e2, e3⟩ := mul_parts a b c d v1 v2
    rw [e1, e2, e3]
    have HL := Lib.hid hl
    have HR := Lib.hid hr
    have wx : IntKind.i64.wrap x = x := by rw [IntKind.wrap_i64]; omega
    have wy : IntKind.i64.wrap y = y := by rw [IntKind.wrap_i64]; omega
    have wz : IntKind.i64.wrap z = z := by rw [IntKind.wrap_i64]; omega
    have wt : IntKind.i64.wrap t = t := by rw [IntKind.wrap_i64]; omega
    have l3 : ¬ l = 0 := by omega
    have r3 : ¬ r = 0 := by omega
    obtain ⟨X, hX⟩ : ∃ X, x * y = X := ⟨_, rfl⟩
    obtain ⟨Y, hY⟩ : ∃ Y, z * t = Y := ⟨_, rfl⟩
    obtain ⟨X', hX'⟩ : ∃ X', fit64 X = X' := ⟨_, rfl⟩
    obtain ⟨Y', hY'⟩ : ∃ Y', fit64 Y = Y' := ⟨_, rfl⟩
    obtain ⟨fx, hfx⟩ : ∃ f, fits64 X = f := ⟨_, rfl⟩
    obtain ⟨fy, hfy⟩ : ∃ f, fits64 Y = f := ⟨_, rfl⟩
    rw [hX, hY]
    have HF : Hid (fit64 (x * y) = X' ∧ fits64 (x * y) = fx) := by unfold Hid; rw [hX]; exact ⟨hX', hfx⟩
    have HG : Hid (fit64 (z * t) = Y' ∧ fits64 (z * t) = fy) := by unfold Hid; rw [hY]; exact ⟨hY', hfy⟩
    obtain ⟨A, hA⟩ : ∃ A, limA X Y = A := ⟨_, rfl⟩
    obtain ⟨B, hB⟩ : ∃ B, limB X Y = B := ⟨_, rfl⟩
    obtain ⟨E, hE⟩ : ∃ E, limE X Y = E := ⟨_, rfl⟩
    have HA : Hid (limA X Y = A ∧ limB X Y = B ∧ limE X Y = E) := ⟨hA, hB, hE⟩
    rw [hA, hB, hE]
    have HX := Lib.hid hX'
    have HY := Lib.hid hY'
    have HFX := Lib.hid hfx
    have HFY := Lib.hid hfy
    clear h hl hr e1 e2 e3 v1 v2 hX hY hX' hY' hfx hfy hA hB hE
    obtain ⟨W, hW, h0, xa, xb, xr⟩ := fbox3 w (.int .i64 a) (.int .i64 b) (.int .i64 c) (.int .i64 d) (.int .i64 0) (.int .i64 0)
    have HW := Lib.hid hW
    clear hW
    go_enter Try.func77, Try.ntmps77
    go_wp2_with fail
    rw [← HW.out]
    clear HW
    have c_xa := xa.c0
    have d_xa := xa.c1
    have p_xa := xa.f0
    have q_xa := xa.f1
    have c_xb := xb.c0
    have d_xb := xb.c1
    have p_xb := xb.f0
    have q_xb := xb.f1
    have c_xr := xr.c0
    have d_xr := xr.c1
    have p_xr := xr.f0
    have q_xr := xr.f1
    go_wp2_with fail
    clear c_xa d_xa p_xa q_xa c_xb d_xb p_xb q_xb c_xr d_xr p_xr q_xr
    go_at_call 110; (with_reducible refine (checkBoth_any a b c d a1 a2 b1 b2 c1 c2 d1 d2 _).mono ?_)
    rintro e W1 ⟨rfl, hb⟩
    replace xa := xa.go hb
    replace xb := xb.go hb
    replace xr := xr.go hb
    replace h0 := bel_go h0 h0.size hb
    clear hb
    rw [HC.out]
    go_wp2_with fail
    refine wp_region_held_drew (S := fun W' => Bx W' (w.heap.size) 87 (.int .i64 a) (.int .i64 b) ∧ Bx W' (w.heap.size + 1) 87 (.int .i64 c) (.int .i64 d)) (by kernel_rfl) (⟨xa.drew, xb.drew⟩) (fun _ => ?_)
    replace xa := xa.drew
    replace xb := xb.drew
    replace xr := xr.drew
    replace h0 := Below.drew h0
    generalize W1.drew = W1 at xa xb xr h0 ⊢
    refine wpAnyH_take (i := 0) (v := ?_) rfl (by kernel_rfl) (by kernel_rfl) (by kernel_rfl) (fun _ _ _ h => h) (Or.inl ⟨by kernel_rfl, ?_⟩) (⟨xa, xb⟩) ?_
    rotate_left
    focus (intro W' hSw; obtain ⟨hx0, hx1⟩ := hSw; have hc0 := hx0.c0; have hc1 := hx0.c1; have hc2 := hx1.c0; have hc3 := hx1.c1; clear hx0 hx1; go_simp; (try with_reducible rfl))
    (try simp only [Act.put, List.setIfInBounds_toArray, List.set_cons_zero, List.set_cons_succ, List.getElem_toArray, List.getElem_cons_zero, List.getElem_cons_succ])
    refine wpAnyH_take (i := 1) (v := ?_) rfl (by kernel_rfl) (by kernel_rfl) (by kernel_rfl) (fun _ _ _ h => h) (Or.inl ⟨by kernel_rfl, ?_⟩) (⟨xa, xb⟩) ?_
    rotate_left
    focus (intro W' hSw; obtain ⟨hx0, hx1⟩ := hSw; have hc0 := hx0.c0; have hc1 := hx0.c1; have hc2 := hx1.c0; have hc3 := hx1.c1; clear hx0 hx1; go_simp; (try with_reducible rfl))
    (try simp only [Act.put, List.setIfInBounds_toArray, List.set_cons_zero, List.set_cons_succ, List.getElem_toArray, List.getElem_cons_zero, List.getElem_cons_succ])
    refine wpAnyH_take (i := 2) (v := ?_) rfl (by kernel_rfl) (by kernel_rfl) (by kernel_rfl) (fun _ _ _ h => h) (Or.inl ⟨by kernel_rfl, ?_⟩) (⟨xa, xb⟩) ?_
    rotate_left
    focus (intro W' hSw; obtain ⟨hx0, hx1⟩ := hSw; have hc0 := hx0.c0; have hc1 := hx0.c1; have hc2 := hx1.c0; have hc3 := hx1.c1; clear hx0 hx1; go_simp; (try with_reducible rfl))
    (try simp only [Act.put, List.setIfInBounds_toArray, List.set_cons_zero, List.set_cons_succ, List.getElem_toArray, List.getElem_cons_zero, List.getElem_cons_succ])
    refine wpAnyH_take (i := 3) (v := ?_) rfl (by kernel_rfl) (by kernel_rfl) (by kernel_rfl) (fun _ _ _ h => h) (Or.inl ⟨by kernel_rfl, ?_⟩) (⟨xa, xb⟩) ?_
    rotate_left
    focus (intro W' hSw; obtain ⟨hx0, hx1⟩ := hSw; have hc0 := hx0.c0; have hc1 := hx0.c1; have hc2 := hx1.c0; have hc3 := hx1.c1; clear hx0 hx1; go_simp; (try with_reducible rfl))
    (try simp only [Act.put, List.setIfInBounds_toArray, List.set_cons_zero, List.set_cons_succ, List.getElem_toArray, List.getElem_cons_zero, List.getElem_cons_succ])
    refine wpAnyH_take (i := 5) (v := ?_) rfl (by kernel_rfl) (by kernel_rfl) (by kernel_rfl) (fun _ _ _ h => h) (Or.inl ⟨by kernel_rfl, ?_⟩) (⟨xa, xb⟩) ?_
    rotate_left
    focus (intro W' hSw; obtain ⟨hx0, hx1⟩ := hSw; have hc0 := hx0.c0; have hc1 := hx0.c1; have hc2 := hx1.c0; have hc3 := hx1.c1; clear hx0 hx1; go_simp; (try with_reducible rfl))
    (try simp only [Act.put, List.setIfInBounds_toArray, List.set_cons_zero, List.set_cons_succ, List.getElem_toArray, List.getElem_cons_zero, List.getElem_cons_succ])
    refine wpAnyH_take (i := 6) (v := ?_) rfl (by kernel_rfl) (by kernel_rfl) (by kernel_rfl) (fun _ _ _ h => h) (Or.inl ⟨by kernel_rfl, ?_⟩) (⟨xa, xb⟩) ?_
    rotate_left
    focus (intro W' hSw; obtain ⟨hx0, hx1⟩ := hSw; have hc0 := hx0.c0; have hc1 := hx0.c1; have hc2 := hx1.c0; have hc3 := hx1.c1; clear hx0 hx1; go_simp; (try with_reducible rfl))
    (try simp only [Act.put, List.setIfInBounds_toArray, List.set_cons_zero, List.set_cons_succ, List.getElem_toArray, List.getElem_cons_zero, List.getElem_cons_succ])
    refine wpAnyH_take (i := 7) (v := ?_) rfl (by kernel_rfl) (by kernel_rfl) (by kernel_rfl) (fun _ _ _ h => h) (Or.inl ⟨by kernel_rfl, ?_⟩) (⟨xa, xb⟩) ?_
    rotate_left
    focus (intro W' hSw; obtain ⟨hx0, hx1⟩ := hSw; have hc0 := hx0.c0; have hc1 := hx0.c1; have hc2 := hx1.c0; have hc3 := hx1.c1; clear hx0 hx1; go_simp; (try with_reducible rfl))
    (try simp only [Act.put, List.setIfInBounds_toArray, List.set_cons_zero, List.set_cons_succ, List.getElem_toArray, List.getElem_cons_zero, List.getElem_cons_succ])
    refine wpAnyH_take (i := 8) (v := ?_) rfl (by kernel_rfl) (by kernel_rfl) (by kernel_rfl) (fun _ _ _ h => h) (Or.inl ⟨by kernel_rfl, ?_⟩) (⟨xa, xb⟩) ?_
    rotate_left
    focus (intro W' hSw; obtain ⟨hx0, hx1⟩ := hSw; have hc0 := hx0.c0; have hc1 := hx0.c1; have hc2 := hx1.c0; have hc3 := hx1.c1; clear hx0 hx1; go_simp; (try with_reducible rfl))
    (try simp only [Act.put, List.setIfInBounds_toArray, List.set_cons_zero, List.set_cons_succ, List.getElem_toArray, List.getElem_cons_zero, List.getElem_cons_succ])
    refine wpAnyH_ready (rs := [4]) (by kernel_rfl) (by simp) ?_
    refine AllReadyH.cons rfl (fun K hK => ?_) (AllReadyH.nil)
    go_simp
    go_at_call 106; (with_reducible refine (gcd_any a d a1 a2 d1 d2 _).mono ?_)
    rw [HL.out]
    rintro e W2 ⟨rfl, hb⟩
    replace xa := xa.go hb
    replace xb := xb.go hb
    replace xr := xr.go hb
    replace h0 := bel_go h0 h0.size hb
    clear hb
    refine hK.out _ _ (⟨xa, xb⟩) (fun _ => ?_)
    clear hK K
    (try simp only [Act.put, List.setIfInBounds_toArray, List.set_cons_zero, List.set_cons_succ, List.getElem_toArray, List.getElem_cons_zero, List.getElem_cons_succ])
    refine wpAnyH_ready (rs := [9]) (by kernel_rfl) (by simp) ?_
    refine AllReadyH.cons rfl (fun K hK => ?_) (AllReadyH.nil)
    go_simp
    go_at_call 106; (with_reducible refine (gcd_any c b c1 c2 b1 b2 _).mono ?_)
    rw [HR.out]
    rintro e W3 ⟨rfl, hb⟩
    replace xa := xa.go hb
    replace xb := xb.go hb
    replace xr := xr.go hb
    replace h0 := bel_go h0 h0.size hb
    clear hb
    refine hK.out _ _ (⟨xa, xb⟩) (fun _ => ?_)
    clear hK K
    (try simp only [Act.put, List.setIfInBounds_toArray, List.set_cons_zero, List.set_cons_succ, List.getElem_toArray, List.getElem_cons_zero, List.getElem_cons_succ])
    refine wpAnyH_take (i := 10) (v := ?_) rfl (by kernel_rfl) (by kernel_rfl) (by kernel_rfl) (fun _ _ _ h => h) (Or.inl ⟨by kernel_rfl, ?_⟩) (⟨xa, xb⟩) ?_
    rotate_left
    focus (intro W' hSw; obtain ⟨hx0, hx1⟩ := hSw; have hc0 := hx0.c0; have hc1 := hx0.c1; have hc2 := hx1.c0; have hc3 := hx1.c1; clear hx0 hx1; go_simp; (try with_reducible rfl))
    (try simp only [Act.put, List.setIfInBounds_toArray, List.set_cons_zero, List.set_cons_succ, List.getElem_toArray, List.getElem_cons_zero, List.getElem_cons_succ])
    refine wpAnyH_take (i := 11) (v := ?_) rfl (by kernel_rfl) (by kernel_rfl) (by kernel_rfl) (fun _ _ _ h => h) (Or.inl ⟨by kernel_rfl, ?_⟩) (⟨xa, xb⟩) ?_
    rotate_left
    focus (intro W' hSw; obtain ⟨hx0, hx1⟩ := hSw; have hc0 := hx0.c0; have hc1 := hx0.c1; have hc2 := hx1.c0; have hc3 := hx1.c1; clear hx0 hx1; go_simp; (try with_reducible rfl))
    (try simp only [Act.put, List.setIfInBounds_toArray, List.set_cons_zero, List.set_cons_succ, List.getElem_toArray, List.getElem_cons_zero, List.getElem_cons_succ])
    refine wpAnyH_done (by kernel_rfl) ?_ _
    refine then_code (by assumption) ?_
    go_light
    go_wp2_with fail
    refine wp_region_held_drew (S := fun W' => Bx W' (w.heap.size) 87 (.int .i64 a) (.int .i64 b) ∧ Bx W' (w.heap.size + 1) 87 (.int .i64 c) (.int .i64 d)) (by kernel_rfl) (⟨xa.drew, xb.drew⟩) (fun _ => ?_)
    replace xa := xa.drew
    replace xb := xb.drew
    replace xr := xr.drew
    replace h0 := Below.drew h0
    generalize W3.drew = W3 at xa xb xr h0 ⊢
    refine wpAnyH_take (i := 0) (v := ?_) rfl (by kernel_rfl) (by kernel_rfl) (by kernel_rfl) (fun _ _ _ h => h) (Or.inl ⟨by kernel_rfl, ?_⟩) (⟨xa, xb⟩) ?_
    rotate_left
    focus (intro W' hSw; obtain ⟨hx0, hx1⟩ := hSw; have hc0 := hx0.c0; have hc1 := hx0.c1; have hc2 := hx1.c0; have hc3 := hx1.c1; clear hx0 hx1; go_simp; (try with_reducible rfl))
    (try simp only [Act.put, List.setIfInBounds_toArray, List.set_cons_zero, List.set_cons_succ, List.getElem_toArray, List.getElem_cons_zero, List.getElem_cons_succ])
    refine wpAnyH_take (i := 1) (v := ?_) rfl (by kernel_rfl) (by kernel_rfl) (by kernel_rfl) (fun _ _ _ h => h) (Or.inl ⟨by kernel_rfl, ?_⟩) (⟨xa, xb⟩) ?_
    rotate_left
    focus (intro W' hSw; obtain ⟨hx0, hx1⟩ := hSw; have hc0 := hx0.c0; have hc1 := hx0.c1; have hc2 := hx1.c0; have hc3 := hx1.c1; clear hx0 hx1; go_simp; (try with_reducible rfl))
    (try simp only [Act.put, List.setIfInBounds_toArray, List.set_cons_zero, List.set_cons_succ, List.getElem_toArray, List.getElem_cons_zero, List.getElem_cons_succ])
    refine wpAnyH_take (i := 2) (v := ?_) rfl (by kernel_rfl) (by kernel_rfl) (by kernel_rfl) (fun _ _ _ h => h) (Or.inl ⟨by kernel_rfl, ?_⟩) (⟨xa, xb⟩) ?_
    rotate_left
    focus (intro W' hSw; obtain ⟨hx0, hx1⟩ := hSw; have hc0 := hx0.c0; have hc1 := hx0.c1; have hc2 := hx1.c0; have hc3 := hx1.c1; clear hx0 hx1; go_simp; (try with_reducible rfl))
    (try simp only [Act.put, List.setIfInBounds_toArray, List.set_cons_zero, List.set_cons_succ, List.getElem_toArray, List.getElem_cons_zero, List.getElem_cons_succ])
    refine wpAnyH_take (i := 3) (v := ?_) rfl (by kernel_rfl) (by kernel_rfl) (by kernel_rfl) (fun _ _ _ h => h) (Or.inl ⟨by kernel_rfl, ?_⟩) (⟨xa, xb⟩) ?_
    rotate_left
    focus (intro W' hSw; obtain ⟨hx0, hx1⟩ := hSw; have hc0 := hx0.c0; have hc1 := hx0.c1; have hc2 := hx1.c0; have hc3 := hx1.c1; clear hx0 hx1; go_simp; (try with_reducible rfl))
    (try simp only [Act.put, List.setIfInBounds_toArray, List.set_cons_zero, List.set_cons_succ, List.getElem_toArray, List.getElem_cons_zero, List.getElem_cons_succ])
    refine wpAnyH_take (i := 4) (v := ?_) rfl (by kernel_rfl) (by kernel_rfl) (by kernel_rfl) (fun _ _ _ h => h) (Or.inl ⟨by kernel_rfl, ?_⟩) (⟨xa, xb⟩) ?_
    rotate_left
    focus (intro W' hSw; obtain ⟨hx0, hx1⟩ := hSw; have hc0 := hx0.c0; have hc1 := hx0.c1; have hc2 := hx1.c0; have hc3 := hx1.c1; clear hx0 hx1; go_simp; (try with_reducible rfl))
    (try simp only [Act.put, List.setIfInBounds_toArray, List.set_cons_zero, List.set_cons_succ, List.getElem_toArray, List.getElem_cons_zero, List.getElem_cons_succ])
    refine wpAnyH_take (i := 5) (v := ?_) rfl (by kernel_rfl) (by kernel_rfl) (by kernel_rfl) (fun _ _ _ h => h) (Or.inl ⟨by kernel_rfl, ?_⟩) (⟨xa, xb⟩) ?_
    rotate_left
    focus (intro W' hSw; obtain ⟨hx0, hx1⟩ := hSw; have hc0 := hx0.c0; have hc1 := hx0.c1; have hc2 := hx1.c0; have hc3 := hx1.c1; clear hx0 hx1; go_simp; (try with_reducible rfl))
    (try simp only [Act.put, List.setIfInBounds_toArray, List.set_cons_zero, List.set_cons_succ, List.getElem_toArray, List.getElem_cons_zero, List.getElem_cons_succ])
    refine wpAnyH_take (i := 6) (v := ?_) rfl (by kernel_rfl) (by kernel_rfl) (by kernel_rfl) (fun _ _ _ h => h) (Or.inl ⟨by kernel_rfl, ?_⟩) (⟨xa, xb⟩) ?_
    rotate_left
    focus (intro W' hSw; obtain ⟨hx0, hx1⟩ := hSw; have hc0 := hx0.c0; have hc1 := hx0.c1; have hc2 := hx1.c0; have hc3 := hx1.c1; clear hx0 hx1; go_simp; (try with_reducible rfl))
    (try simp only [Act.put, List.setIfInBounds_toArray, List.set_cons_zero, List.set_cons_succ, List.getElem_toArray, List.getElem_cons_zero, List.getElem_cons_succ])
    refine wpAnyH_take (i := 7) (v := ?_) rfl (by kernel_rfl) (by kernel_rfl) (by kernel_rfl) (fun _ _ _ h => h) (Or.inl ⟨by kernel_rfl, ?_⟩) (⟨xa, xb⟩) ?_
    rotate_left
    focus (intro W' hSw; obtain ⟨hx0, hx1⟩ := hSw; have hc0 := hx0.c0; have hc1 := hx0.c1; have hc2 := hx1.c0; have hc3 := hx1.c1; clear hx0 hx1; go_simp; (try with_reducible rfl))
    (try simp only [Act.put, List.setIfInBounds_toArray, List.set_cons_zero, List.set_cons_succ, List.getElem_toArray, List.getElem_cons_zero, List.getElem_cons_succ])
    refine wpAnyH_ready (rs := [8]) (by kernel_rfl) (by simp) ?_
    refine AllReadyH.cons rfl (fun K hK => ?_) (AllReadyH.nil)
    go_simp
    go_at_call 115; (with_reducible refine (mul_any x y (by omega) (by omega) (by omega) (by omega) _).mono ?_)
    rw [HF.out.1, HF.out.2]
    rintro e W4 ⟨rfl, hb⟩
    replace xa := xa.go hb
    replace xb := xb.go hb
    replace xr := xr.go hb
    replace h0 := bel_go h0 h0.size hb
    clear hb
    refine hK.out _ _ (⟨xa, xb⟩) (fun _ => ?_)
    clear hK K
    (try simp only [Act.put, List.setIfInBounds_toArray, List.set_cons_zero, List.set_cons_succ, List.getElem_toArray, List.getElem_cons_zero, List.getElem_cons_succ])
    refine wpAnyH_take (i := 9) (v := ?_) rfl (by kernel_rfl) (by kernel_rfl) (by kernel_rfl) (fun _ _ _ h => h) (Or.inl ⟨by kernel_rfl, ?_⟩) (⟨xa, xb⟩) ?_
    rotate_left
    focus (intro W' hSw; obtain ⟨hx0, hx1⟩ := hSw; have hc0 := hx0.c0; have hc1 := hx0.c1; have hc2 := hx1.c0; have hc3 := hx1.c1; clear hx0 hx1; go_simp; (try with_reducible rfl))
    (try simp only [Act.put, List.setIfInBounds_toArray, List.set_cons_zero, List.set_cons_succ, List.getElem_toArray, List.getElem_cons_zero, List.getElem_cons_succ])
    refine wpAnyH_take (i := 10) (v := ?_) rfl (by kernel_rfl) (by kernel_rfl) (by kernel_rfl) (fun _ _ _ h => h) (Or.inl ⟨by kernel_rfl, ?_⟩) (⟨xa, xb⟩) ?_
    rotate_left
    focus (intro W' hSw; obtain ⟨hx0, hx1⟩ := hSw; have hc0 := hx0.c0; have hc1 := hx0.c1; have hc2 := hx1.c0; have hc3 := hx1.c1; clear hx0 hx1; go_simp; (try with_reducible rfl))
    (try simp only [Act.put, List.setIfInBounds_toArray, List.set_cons_zero, List.set_cons_succ, List.getElem_toArray, List.getElem_cons_zero, List.getElem_cons_succ])
    refine wpAnyH_take (i := 11) (v := ?_) rfl (by kernel_rfl) (by kernel_rfl) (by kernel_rfl) (fun _ _ _ h => h) (Or.inl ⟨by kernel_rfl, ?_⟩) (⟨xa, xb⟩) ?_
    rotate_left
    focus (intro W' hSw; obtain ⟨hx0, hx1⟩ := hSw; have hc0 := hx0.c0; have hc1 := hx0.c1; have hc2 := hx1.c0; have hc3 := hx1.c1; clear hx0 hx1; go_simp; (try with_reducible rfl))
    (try simp only [Act.put, List.setIfInBounds_toArray, List.set_cons_zero, List.set_cons_succ, List.getElem_toArray, List.getElem_cons_zero, List.getElem_cons_succ])
    refine wpAnyH_take (i := 12) (v := ?_) rfl (by kernel_rfl) (by kernel_rfl) (by kernel_rfl) (fun _ _ _ h => h) (Or.inl ⟨by kernel_rfl, ?_⟩) (⟨xa, xb⟩) ?_
    rotate_left
    focus (intro W' hSw; obtain ⟨hx0, hx1⟩ := hSw; have hc0 := hx0.c0; have hc1 := hx0.c1; have hc2 := hx1.c0; have hc3 := hx1.c1; clear hx0 hx1; go_simp; (try with_reducible rfl))
    (try simp only [Act.put, List.setIfInBounds_toArray, List.set_cons_zero, List.set_cons_succ, List.getElem_toArray, List.getElem_cons_zero, List.getElem_cons_succ])
    refine wpAnyH_take (i := 13) (v := ?_) rfl (by kernel_rfl) (by kernel_rfl) (by kernel_rfl) (fun _ _ _ h => h) (Or.inl ⟨by kernel_rfl, ?_⟩) (⟨xa, xb⟩) ?_
    rotate_left
    focus (intro W' hSw; obtain ⟨hx0, hx1⟩ := hSw; have hc0 := hx0.c0; have hc1 := hx0.c1; have hc2 := hx1.c0; have hc3 := hx1.c1; clear hx0 hx1; go_simp; (try with_reducible rfl))
    (try simp only [Act.put, List.setIfInBounds_toArray, List.set_cons_zero, List.set_cons_succ, List.getElem_toArray, List.getElem_cons_zero, List.getElem_cons_succ])
    refine wpAnyH_done (by kernel_rfl) ?_ _
    refine then_code (by assumption) ?_
    go_light
    go_wp2_with fail
    refine wp_region_held_drew (S := fun W' => Bx W' (w.heap.size) 87 (.int .i64 a) (.int .i64 b) ∧ Bx W' (w.heap.size + 1) 87 (.int .i64 c) (.int .i64 d)) (by kernel_rfl) (⟨xa.drew, xb.drew⟩) (fun _ => ?_)
    replace xa := xa.drew
    replace xb := xb.drew
    replace xr := xr.drew
    replace h0 := Below.drew h0
    generalize W4.drew = W4 at xa xb xr h0 ⊢
    refine wpAnyH_take (i := 0) (v := ?_) rfl (by kernel_rfl) (by kernel_rfl) (by kernel_rfl) (fun _ _ _ h => h) (Or.inl ⟨by kernel_rfl, ?_⟩) (⟨xa, xb⟩) ?_
    rotate_left
    focus (intro W' hSw; obtain ⟨hx0, hx1⟩ := hSw; have hc0 := hx0.c0; have hc1 := hx0.c1; have hc2 := hx1.c0; have hc3 := hx1.c1; clear hx0 hx1; go_simp; (try with_reducible rfl))
    (try simp only [Act.put, List.setIfInBounds_toArray, List.set_cons_zero, List.set_cons_succ, List.getElem_toArray, List.getElem_cons_zero, List.getElem_cons_succ])
    refine wpAnyH_take (i := 1) (v := ?_) rfl (by kernel_rfl) (by kernel_rfl) (by kernel_rfl) (fun _ _ _ h => h) (Or.inl ⟨by kernel_rfl, ?_⟩) (⟨xa, xb⟩) ?_
    rotate_left
    focus (intro W' hSw; obtain ⟨hx0, hx1⟩ := hSw; have hc0 := hx0.c0; have hc1 := hx0.c1; have hc2 := hx1.c0; have hc3 := hx1.c1; clear hx0 hx1; go_simp; (try with_reducible rfl))
    (try simp only [Act.put, List.setIfInBounds_toArray, List.set_cons_zero, List.set_cons_succ, List.getElem_toArray, List.getElem_cons_zero, List.getElem_cons_succ])
    refine wpAnyH_take (i := 2) (v := ?_) rfl (by kernel_rfl) (by kernel_rfl) (by kernel_rfl) (fun _ _ _ h => h) (Or.inl ⟨by kernel_rfl, ?_⟩) (⟨xa, xb⟩) ?_
    rotate_left
    focus (intro W' hSw; obtain ⟨hx0, hx1⟩ := hSw; have hc0 := hx0.c0; have hc1 := hx0.c1; have hc2 := hx1.c0; have hc3 := hx1.c1; clear hx0 hx1; go_simp; (try with_reducible rfl))
    (try simp only [Act.put, List.setIfInBounds_toArray, List.set_cons_zero, List.set_cons_succ, List.getElem_toArray, List.getElem_cons_zero, List.getElem_cons_succ])
    refine wpAnyH_take (i := 3) (v := ?_) rfl (by kernel_rfl) (by kernel_rfl) (by kernel_rfl) (fun _ _ _ h => h) (Or.inl ⟨by kernel_rfl, ?_⟩) (⟨xa, xb⟩) ?_
    rotate_left
    focus (intro W' hSw; obtain ⟨hx0, hx1⟩ := hSw; have hc0 := hx0.c0; have hc1 := hx0.c1; have hc2 := hx1.c0; have hc3 := hx1.c1; clear hx0 hx1; go_simp; (try with_reducible rfl))
    (try simp only [Act.put, List.setIfInBounds_toArray, List.set_cons_zero, List.set_cons_succ, List.getElem_toArray, List.getElem_cons_zero, List.getElem_cons_succ])
    refine wpAnyH_take (i := 4) (v := ?_) rfl (by kernel_rfl) (by kernel_rfl) (by kernel_rfl) (fun _ _ _ h => h) (Or.inl ⟨by kernel_rfl, ?_⟩) (⟨xa, xb⟩) ?_
    rotate_left
    focus (intro W' hSw; obtain ⟨hx0, hx1⟩ := hSw; have hc0 := hx0.c0; have hc1 := hx0.c1; have hc2 := hx1.c0; have hc3 := hx1.c1; clear hx0 hx1; go_simp; (try with_reducible rfl))
    (try simp only [Act.put, List.setIfInBounds_toArray, List.set_cons_zero, List.set_cons_succ, List.getElem_toArray, List.getElem_cons_zero, List.getElem_cons_succ])
    refine wpAnyH_take (i := 5) (v := ?_) rfl (by kernel_rfl) (by kernel_rfl) (by kernel_rfl) (fun _ _ _ h => h) (Or.inl ⟨by kernel_rfl, ?_⟩) (⟨xa, xb⟩) ?_
    rotate_left
    focus (intro W' hSw; obtain ⟨hx0, hx1⟩ := hSw; have hc0 := hx0.c0; have hc1 := hx0.c1; have hc2 := hx1.c0; have hc3 := hx1.c1; clear hx0 hx1; go_simp; (try with_reducible rfl))
    (try simp only [Act.put, List.setIfInBounds_toArray, List.set_cons_zero, List.set_cons_succ, List.getElem_toArray, List.getElem_cons_zero, List.getElem_cons_succ])
    refine wpAnyH_take (i := 6) (v := ?_) rfl (by kernel_rfl) (by kernel_rfl) (by kernel_rfl) (fun _ _ _ h => h) (Or.inl ⟨by kernel_rfl, ?_⟩) (⟨xa, xb⟩) ?_
    rotate_left
    focus (intro W' hSw; obtain ⟨hx0, hx1⟩ := hSw; have hc0 := hx0.c0; have hc1 := hx0.c1; have hc2 := hx1.c0; have hc3 := hx1.c1; clear hx0 hx1; go_simp; (try with_reducible rfl))
    (try simp only [Act.put, List.setIfInBounds_toArray, List.set_cons_zero, List.set_cons_succ, List.getElem_toArray, List.getElem_cons_zero, List.getElem_cons_succ])
    refine wpAnyH_take (i := 7) (v := ?_) rfl (by kernel_rfl) (by kernel_rfl) (by kernel_rfl) (fun _ _ _ h => h) (Or.inl ⟨by kernel_rfl, ?_⟩) (⟨xa, xb⟩) ?_
    rotate_left
    focus (intro W' hSw; obtain ⟨hx0, hx1⟩ := hSw; have hc0 := hx0.c0; have hc1 := hx0.c1; have hc2 := hx1.c0; have hc3 := hx1.c1; clear hx0 hx1; go_simp; (try with_reducible rfl))
    (try simp only [Act.put, List.setIfInBounds_toArray, List.set_cons_zero, List.set_cons_succ, List.getElem_toArray, List.getElem_cons_zero, List.getElem_cons_succ])
    refine wpAnyH_ready (rs := [8]) (by kernel_rfl) (by simp) ?_
    refine AllReadyH.cons rfl (fun K hK => ?_) (AllReadyH.nil)
    go_simp
    go_at_call 115; (with_reducible refine (mul_any z t (by omega) (by omega) (by omega) (by omega) _).mono ?_)
    rw [HG.out.1, HG.out.2]
    rintro e W5 ⟨rfl, hb⟩
    replace xa := xa.go hb
    replace xb := xb.go hb
    replace xr := xr.go hb
    replace h0 := bel_go h0 h0.size hb
    clear hb
    refine hK.out _ _ (⟨xa, xb⟩) (fun _ => ?_)
    clear hK K
    (try simp only [Act.put, List.setIfInBounds_toArray, List.set_cons_zero, List.set_cons_succ, List.getElem_toArray, List.getElem_cons_zero, List.getElem_cons_succ])
    refine wpAnyH_take (i := 9) (v := ?_) rfl (by kernel_rfl) (by kernel_rfl) (by kernel_rfl) (fun _ _ _ h => h) (Or.inl ⟨by kernel_rfl, ?_⟩) (⟨xa, xb⟩) ?_
    rotate_left
    focus (intro W' hSw; obtain ⟨hx0, hx1⟩ := hSw; have hc0 := hx0.c0; have hc1 := hx0.c1; have hc2 := hx1.c0; have hc3 := hx1.c1; clear hx0 hx1; go_simp; (try with_reducible rfl))
    (try simp only [Act.put, List.setIfInBounds_toArray, List.set_cons_zero, List.set_cons_succ, List.getElem_toArray, List.getElem_cons_zero, List.getElem_cons_succ])
    refine wpAnyH_take (i := 10) (v := ?_) rfl (by kernel_rfl) (by kernel_rfl) (by kernel_rfl) (fun _ _ _ h => h) (Or.inl ⟨by kernel_rfl, ?_⟩) (⟨xa, xb⟩) ?_
    rotate_left
    focus (intro W' hSw; obtain ⟨hx0, hx1⟩ := hSw; have hc0 := hx0.c0; have hc1 := hx0.c1; have hc2 := hx1.c0; have hc3 := hx1.c1; clear hx0 hx1; go_simp; (try with_reducible rfl))
    (try simp only [Act.put, List.setIfInBounds_toArray, List.set_cons_zero, List.set_cons_succ, List.getElem_toArray, List.getElem_cons_zero, List.getElem_cons_succ])
    refine wpAnyH_take (i := 11) (v := ?_) rfl (by kernel_rfl) (by kernel_rfl) (by kernel_rfl) (fun _ _ _ h => h) (Or.inl ⟨by kernel_rfl, ?_⟩) (⟨xa, xb⟩) ?_
    rotate_left
    focus (intro W' hSw; obtain ⟨hx0, hx1⟩ := hSw; have hc0 := hx0.c0; have hc1 := hx0.c1; have hc2 := hx1.c0; have hc3 := hx1.c1; clear hx0 hx1; go_simp; (try with_reducible rfl))
    (try simp only [Act.put, List.setIfInBounds_toArray, List.set_cons_zero, List.set_cons_succ, List.getElem_toArray, List.getElem_cons_zero, List.getElem_cons_succ])
    refine wpAnyH_take (i := 12) (v := ?_) rfl (by kernel_rfl) (by kernel_rfl) (by kernel_rfl) (fun _ _ _ h => h) (Or.inl ⟨by kernel_rfl, ?_⟩) (⟨xa, xb⟩) ?_
    rotate_left
    focus (intro W' hSw; obtain ⟨hx0, hx1⟩ := hSw; have hc0 := hx0.c0; have hc1 := hx0.c1; have hc2 := hx1.c0; have hc3 := hx1.c1; clear hx0 hx1; go_simp; (try with_reducible rfl))
    (try simp only [Act.put, List.setIfInBounds_toArray, List.set_cons_zero, List.set_cons_succ, List.getElem_toArray, List.getElem_cons_zero, List.getElem_cons_succ])
    refine wpAnyH_take (i := 13) (v := ?_) rfl (by kernel_rfl) (by kernel_rfl) (by kernel_rfl) (fun _ _ _ h => h) (Or.inl ⟨by kernel_rfl, ?_⟩) (⟨xa, xb⟩) ?_
    rotate_left
    focus (intro W' hSw; obtain ⟨hx0, hx1⟩ := hSw; have hc0 := hx0.c0; have hc1 := hx0.c1; have hc2 := hx1.c0; have hc3 := hx1.c1; clear hx0 hx1; go_simp; (try with_reducible rfl))
    (try simp only [Act.put, List.setIfInBounds_toArray, List.set_cons_zero, List.set_cons_succ, List.getElem_toArray, List.getElem_cons_zero, List.getElem_cons_succ])
    refine wpAnyH_done (by kernel_rfl) ?_ _
    refine then_code (by assumption) ?_
    go_light
    cases fx with
    | false =>
      obtain ⟨g1, g2, g3⟩ := lim_big (n := X) (d := Y) (.inl HFX.out)
      obtain rfl : A = 0 := by rw [← HA.out.1, g1]
      obtain rfl : B = 0 := by rw [← HA.out.2.1, g2]
      obtain rfl : E = 2 := by rw [← HA.out.2.2, g3]
      clear g1 g2 g3
      have c_xr := xr.c0
      have d_xr := xr.c1
      have p_xr := xr.f0
      have q_xr := xr.f1
      go_wp2_with fail
      clear c_xr d_xr p_xr q_xr
      have hP := put2 W5 (w.heap.size + 1 + 1) (.int .i64 0) (.int .i64 0)
      have hN := xr.stored (.int .i64 0) (.int .i64 0)
      generalize (W5.setCell _ _).setCell _ _ = WZ at hP hN ⊢
      replace h0 := bel_put h0 (by omega) hP
      clear hP xr
      have xr := hN
      clear hN
      have e0 := xr.c0
      have e1 := xr.c1
      exact bodyPost_ret (v := .tuple #[fr (0) (0), .int .i64 (2)]) (by simp [results, Try.results77, go_sem, e0, e1]) rfl ⟨rfl, h0⟩
    | true =>
      cases fy with
      | false =>
        obtain ⟨g1, g2, g3⟩ := lim_big (n := X) (d := Y) (.inr HFY.out)
        obtain rfl : A = 0 := by rw [← HA.out.1, g1]
        obtain rfl : B = 0 := by rw [← HA.out.2.1, g2]
        obtain rfl : E = 2 := by rw [← HA.out.2.2, g3]
        clear g1 g2 g3
        have c_xr := xr.c0
        have d_xr := xr.c1
        have p_xr := xr.f0
        have q_xr := xr.f1
        go_wp2_with fail
        clear c_xr d_xr p_xr q_xr
        have hP := put2 W5 (w.heap.size + 1 + 1) (.int .i64 0) (.int .i64 0)
        have hN := xr.stored (.int .i64 0) (.int .i64 0)
        generalize (W5.setCell _ _).setCell _ _ = WZ at hP hN ⊢
        replace h0 := bel_put h0 (by omega) hP
        clear hP xr
        have xr := hN
        clear hN
        have e0 := xr.c0
        have e1 := xr.c1
        exact bodyPost_ret (v := .tuple #[fr (0) (0), .int .i64 (2)]) (by simp [results, Try.results77, go_sem, e0, e1]) rfl ⟨rfl, h0⟩
      | true =>
        obtain rfl : X = X' := by rw [← HX.out, (fit_in (fits_iff.1 HFX.out).1 (fits_iff.1 HFX.out).2).1]
        obtain rfl : Y = Y' := by rw [← HY.out, (fit_in (fits_iff.1 HFY.out).1 (fits_iff.1 HFY.out).2).1]
        go_wp2_with fail
        go_at_call 107; (with_reducible refine (limited_any X Y _).mono ?_)
        rintro e W6 ⟨rfl, hb⟩
        replace xr := xr.go hb
        replace h0 := bel_go h0 h0.size hb
        clear hb
        rw [HA.out.1, HA.out.2.1, HA.out.2.2]
        have c_xr := xr.c0
        have d_xr := xr.c1
        have p_xr := xr.f0
        have q_xr := xr.f1
        go_wp2_with fail
        clear c_xr d_xr p_xr q_xr
        have hP := put2 W6 (w.heap.size + 1 + 1) (.int .i64 (A)) (.int .i64 (B))
        have hN := xr.stored (.int .i64 (A)) (.int .i64 (B))
        generalize (W6.setCell _ _).setCell _ _ = W7 at hP hN ⊢
        replace h0 := bel_put h0 (by omega) hP
        clear hP xr
        have xr := hN
        clear hN
        have e0 := xr.c0
        have e1 := xr.c1
        exact bodyPost_ret (v := .tuple #[fr (A) (B), .int .i64 (E)]) (by simp [results, Try.results77, go_sem, e0, e1]) rfl ⟨rfl, h0⟩
  · rw [show mulA a b c d = 0 from if_neg h, show mulB a b c d = 0 from if_neg h, show mulE a b c d = chk2 a b c d from if_neg h]
    generalize hk_ : chk2 a b c d = k at h
    have HK := Lib.hid hk_
    clear hk_
    have hk : (k != 0) = true := by simpa using h
    obtain ⟨W, hW, h0, xa, xb, xr⟩ := fbox3 w (.int .i64 a) (.int .i64 b) (.int .i64 c) (.int .i64 d) (.int .i64 0) (.int .i64 0)
    have HW := Lib.hid hW
    clear hW
    go_enter Try.func77, Try.ntmps77
    go_wp2_with fail
    rw [← HW.out]
    clear HW
    have c_xa := xa.c0
    have d_xa := xa.c1
    have p_xa := xa.f0
    have q_xa := xa.f1
    have c_xb := xb.c0
    have d_xb := xb.c1
    have p_xb := xb.f0
    have q_xb := xb.f1
    have c_xr := xr.c0
    have d_xr := xr.c1
    have p_xr := xr.f0
    have q_xr := xr.f1
    go_wp2_with fail
    clear c_xa d_xa p_xa q_xa c_xb d_xb p_xb q_xb c_xr d_xr p_xr q_xr
    go_at_call 110; (with_reducible refine (checkBoth_any a b c d a1 a2 b1 b2 c1 c2 d1 d2 _).mono ?_)
    rintro e W1 ⟨rfl, hb⟩
    replace xa := xa.go hb
    replace xb := xb.go hb
    replace xr := xr.go hb
    replace h0 := bel_go h0 h0.size hb
    clear hb
    rw [HK.out]
    have c_xr := xr.c0
    have d_xr := xr.c1
    have p_xr := xr.f0
    have q_xr := xr.f1
    go_wp2_with fail
    clear c_xr d_xr p_xr q_xr
    have hP := put2 W1 (w.heap.size + 1 + 1) (.int .i64 0) (.int .i64 0)
    have hN := xr.stored (.int .i64 0) (.int .i64 0)
    generalize (W1.setCell _ _).setCell _ _ = WZ at hP hN ⊢
    replace h0 := bel_put h0 (by omega) hP
    clear hP xr
    have xr := hN
    clear hN
    have e0 := xr.c0
    have e1 := xr.c1
    exact bodyPost_ret (v := .tuple #[fr (0) (0), .int .i64 (k)]) (by simp [results, Try.results77, go_sem, e0, e1]) rfl ⟨rfl, h0⟩
end Go.Proofs.Ytlhofholfgfphaa

