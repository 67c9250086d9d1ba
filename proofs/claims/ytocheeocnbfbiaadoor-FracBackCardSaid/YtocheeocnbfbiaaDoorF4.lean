/-
  The contract of frac.Add.
  Conditions: the arguments are int64.
-/
import Derived.Test.YtocheeocnbfbiaaDoorF3
set_option linter.unusedVariables false
set_option linter.unusedSimpArgs false
namespace Go.Proofs.YtocheeocnbfbiaaDoor
open Go.RowKit Go.Shelf Wd

theorem abs_mul_le {x y k l : Int} (h1 : -k ≤ x ∧ x ≤ k) (h2 : -l ≤ y ∧ y ≤ l) : -(k * l) ≤ x * y ∧ x * y ≤ k * l := by
  have e : (x * y).natAbs ≤ k.natAbs * l.natAbs := by
    rw [Int.natAbs_mul]
    exact Nat.mul_le_mul (by omega) (by omega)
  have e2 : ((k.natAbs * l.natAbs : Nat) : Int) = k * l := by
    rw [Int.natCast_mul, Int.natAbs_of_nonneg (by omega), Int.natAbs_of_nonneg (by omega)]
  generalize k * l = K at *
  generalize k.natAbs * l.natAbs = K2 at *
  generalize x * y = Z at *
  omega
/-- What the addition of valid numbers reckons. -/
theorem add_parts (a b c d : Int) (h1 : Fv a b) (h2 : Fv c d) : ∃ g x y S h t : Int, 0 < g ∧ g ≤ 1152921504606846976 ∧ gcdV b d = g ∧ b.tdiv g = x ∧ d.tdiv g = y ∧ (1 ≤ x ∧ x ≤ 1152921504606846976) ∧ (1 ≤ y ∧ y ≤ 1152921504606846976) ∧
    InW (a * y) ∧ InW (c * x) ∧ InW S ∧ w128 (a * y + c * x) = S ∧ (0 ≤ S % g ∧ S % g ≤ 1152921504606846976) ∧ gcdV (S % g) g = h ∧ 0 < h ∧ h ≤ 1152921504606846976 ∧ d.tdiv h = t ∧ (1 ≤ t ∧ t ≤ 1152921504606846976) ∧
    lowA (a * d + c * b) (b * d) = limA (S / h) (x * t) ∧ lowB (a * d + c * b) (b * d) = limB (S / h) (x * t) ∧ lowE (a * d + c * b) (b * d) = limE (S / h) (x * t) := by
  obtain ⟨g0, h0, e1, e2⟩ := add_red h1 h2
  have k1 := h1.bd
  have k2 := h2.bd
  have gl : Int.gcd b d ≤ d.natAbs := Int.gcd_le_natAbs_right _ (by omega)
  obtain ⟨u1, u2⟩ := quot_parts g0 (Int.gcd_dvd_left b d)
  obtain ⟨u3, u4⟩ := quot_parts g0 (Int.gcd_dvd_right b d)
  have hdd : (Int.gcd (a * (d / Int.gcd b d) + c * (b / Int.gcd b d)) (Int.gcd b d) : Int) ∣ d := Int.dvd_trans (Int.gcd_dvd_right _ _) (Int.gcd_dvd_right b d)
  obtain ⟨u5, u6⟩ := quot_parts h0 hdd
  have hb := Int.gcd_le_natAbs_right (a * (d / Int.gcd b d) + c * (b / Int.gcd b d)) (b := (Int.gcd b d : Int)) (by omega)
  have hgc := gcdV_pos (n := (a * (d / Int.gcd b d) + c * (b / Int.gcd b d)) % Int.gcd b d) (d := (Int.gcd b d : Int)) (by omega) (by omega)
  rw [gcd_emod_left] at hgc
  have hm := mod_bd (a * (d / Int.gcd b d) + c * (b / Int.gcd b d)) (d := (Int.gcd b d : Int)) (by omega)
  have m1 := abs_mul_le (x := a) (y := d / Int.gcd b d) (k := 1152921504606846976) (l := 1152921504606846976) (by omega) (by omega)
  have m2 := abs_mul_le (x := c) (y := b / Int.gcd b d) (k := 1152921504606846976) (l := 1152921504606846976) (by omega) (by omega)
  have hl : lowA (a * d + c * b) (b * d) = limA (redN (a * d + c * b) (b * d)) (redD (a * d + c * b) (b * d)) ∧ lowB (a * d + c * b) (b * d) = limB (redN (a * d + c * b) (b * d)) (redD (a * d + c * b) (b * d)) ∧ lowE (a * d + c * b) (b * d) = limE (redN (a * d + c * b) (b * d)) (redD (a * d + c * b) (b * d)) := ⟨rfl, rfl, rfl⟩
  rw [e1, e2] at hl
  have eg := gcdV_pos (n := b) (d := d) (by omega) (by omega)
  have e60 : (1152921504606846976 : Int) * 1152921504606846976 = 1329227995784915872903807060280344576 := by decide
  rw [e60] at m1 m2
  have w1 : InW (a * (d / Int.gcd b d)) := by unfold InW; omega
  have w2 : InW (c * (b / Int.gcd b d)) := by unfold InW; omega
  have w3 : InW (a * (d / Int.gcd b d) + c * (b / Int.gcd b d)) := by unfold InW; omega
  exact ⟨Int.gcd b d, _, _, _, _, _, g0, by omega, eg, u1, u3, by omega, by omega, w1, w2, w3, w128_id w3, by omega, hgc, h0, by omega, u5, by omega, hl.1, hl.2.1, hl.2.2⟩

set_option maxRecDepth 100000 in
set_option maxHeartbeats 4000000 in
theorem addf_any (a b c d : Int) (a1 : -9223372036854775808 ≤ a) (a2 : a ≤ 9223372036854775807) (b1 : -9223372036854775808 ≤ b) (b2 : b ≤ 9223372036854775807) (c1 : -9223372036854775808 ≤ c) (c2 : c ≤ 9223372036854775807) (d1 : -9223372036854775808 ≤ d) (d2 : d ≤ 9223372036854775807) (w : World) : Calls Tryd.prog 21 #[fr a b, fr c d] w fun e w' => e = .returned (.tuple #[fr (addA a b c d) (addB a b c d), .int .i64 (addE a b c d)]) ∧ Below w.heap.size w w' := by
  by_cases h : chk2 a b c d = 0
  · rw [show addA a b c d = lowA (a * d + c * b) (b * d) from if_pos h, show addB a b c d = lowB (a * d + c * b) (b * d) from if_pos h, show addE a b c d = lowE (a * d + c * b) (b * d) from if_pos h]
    have HC := Lib.hid h
    obtain ⟨v1, v2⟩ := chk2_zero.1 h
    obtain ⟨g, x, y, S, hh, t, g0, g2, hg, hx, hy, bx, by_, i1, i2, i3, hS, bm, hhg, hh0, hh2, ht, bt, e1, e2, e3⟩ := add_parts a b c d v1 v2
    rw [e1, e2, e3]
    have HGG := Lib.hid hg
    have HH := Lib.hid hhg
    have wx : IntKind.i64.wrap x = x := by rw [IntKind.wrap_i64]; omega
    have wy : IntKind.i64.wrap y = y := by rw [IntKind.wrap_i64]; omega
    have wt : IntKind.i64.wrap t = t := by rw [IntKind.wrap_i64]; omega
    have l3 : ¬ g = 0 := by omega
    have r3 : ¬ hh = 0 := by omega
    obtain ⟨p1h, hp1h⟩ : ∃ v, a * y / 18446744073709551616 = v := ⟨_, rfl⟩
    obtain ⟨p1l, hp1l⟩ : ∃ v, a * y % 18446744073709551616 = v := ⟨_, rfl⟩
    obtain ⟨p2h, hp2h⟩ : ∃ v, c * x / 18446744073709551616 = v := ⟨_, rfl⟩
    obtain ⟨p2l, hp2l⟩ : ∃ v, c * x % 18446744073709551616 = v := ⟨_, rfl⟩
    obtain ⟨sh, hsh⟩ : ∃ v, S / 18446744073709551616 = v := ⟨_, rfl⟩
    obtain ⟨sl, hsl⟩ : ∃ v, S % 18446744073709551616 = v := ⟨_, rfl⟩
    have HP1 : Hid (∀ w : World, Calls Tryd.prog 49 #[.int .i64 a, .int .i64 y] w fun e w' => e = .returned (.agg #[.int .i64 p1h, .int .u64 p1l]) ∧ Below w.heap.size w w') := by
      intro w
      have := prod_any a y a1 a2 (by omega) (by omega) w
      rw [wide, hp1h, hp1l] at this
      exact this
    have HP2 : Hid (∀ w : World, Calls Tryd.prog 49 #[.int .i64 c, .int .i64 x] w fun e w' => e = .returned (.agg #[.int .i64 p2h, .int .u64 p2l]) ∧ Below w.heap.size w w') := by
      intro w
      have := prod_any c x c1 c2 (by omega) (by omega) w
      rw [wide, hp2h, hp2l] at this
      exact this
    have HPL : Hid (∀ w : World, Calls Tryd.prog 50 #[.agg #[.int .i64 p1h, .int .u64 p1l], .agg #[.int .i64 p2h, .int .u64 p2l]] w fun e w' => e = .returned (.agg #[.int .i64 sh, .int .u64 sl]) ∧ Below w.heap.size w w') := by
      intro w
      have := plus_any (a * y) (c * x) i1 i2 w
      rw [hS, wide, wide, wide, hp1h, hp1l, hp2h, hp2l, hsh, hsl] at this
      exact this
    have HMD : Hid (∀ w : World, Calls Tryd.prog 51 #[.agg #[.int .i64 sh, .int .u64 sl], .int .i64 g] w fun e w' => e = .returned (.int .i64 (S % g)) ∧ Below w.heap.size w w') := by
      intro w
      have := wmod_any S g i3 (by omega) (by omega) w
      rw [wide, hsh, hsl] at this
      exact this
    obtain ⟨X, hX⟩ : ∃ X, S / hh = X := ⟨_, rfl⟩
    obtain ⟨Y, hY⟩ : ∃ Y, x * t = Y := ⟨_, rfl⟩
    obtain ⟨X', hX'⟩ : ∃ X', divV S hh = X' := ⟨_, rfl⟩
    obtain ⟨E', hE'⟩ : ∃ E', divE S hh = E' := ⟨_, rfl⟩
    obtain ⟨Y', hY'⟩ : ∃ Y', fit64 Y = Y' := ⟨_, rfl⟩
    obtain ⟨fx, hfx⟩ : ∃ f, fits64 X = f := ⟨_, rfl⟩
    obtain ⟨fy, hfy⟩ : ∃ f, fits64 Y = f := ⟨_, rfl⟩
    have HDV : Hid (∀ w : World, Calls Tryd.prog 52 #[.agg #[.int .i64 sh, .int .u64 sl], .int .i64 hh] w fun e w' => e = .returned (.tuple #[.int .i64 X', .int .i64 E']) ∧ Below w.heap.size w w') := by
      intro w
      have := wdiv_any S hh i3 (by omega) w
      rw [wide, hsh, hsl, hX', hE'] at this
      exact this
    have HX : Hid ((fits64 X = true → X' = X ∧ E' = 0) ∧ (fits64 X = false → X' = 0 ∧ E' = 2)) := by
      have hn : ¬ hh < 1 := by omega
      unfold Hid
      rw [← hX', ← hE', ← hX]
      unfold divV divE
      rw [if_neg hn, if_neg hn]
      constructor
      · intro h
        have := fits_iff.1 h
        rw [if_neg (by omega), if_neg (by omega)]
        exact ⟨rfl, rfl⟩
      · intro h
        have : ¬ (-9223372036854775808 ≤ S / hh ∧ S / hh ≤ 9223372036854775807) := fun k => by rw [fits_iff.2 k] at h; cases h
        rw [if_pos (by omega), if_pos (by omega)]
        exact ⟨rfl, rfl⟩
    rw [hX, hY]
    have HF : Hid (fit64 (x * t) = Y' ∧ fits64 (x * t) = fy) := by unfold Hid; rw [hY]; exact ⟨hY', hfy⟩
    obtain ⟨A, hA⟩ : ∃ A, limA X Y = A := ⟨_, rfl⟩
    obtain ⟨B, hB⟩ : ∃ B, limB X Y = B := ⟨_, rfl⟩
    obtain ⟨E, hE⟩ : ∃ E, limE X Y = E := ⟨_, rfl⟩
    have HA : Hid (limA X Y = A ∧ limB X Y = B ∧ limE X Y = E) := ⟨hA, hB, hE⟩
    rw [hA, hB, hE]
    have HY := Lib.hid hY'
    have HFX := Lib.hid hfx
    have HFY := Lib.hid hfy
    clear h hg hhg e1 e2 e3 v1 v2 hX hY hX' hY' hfx hfy hA hB hE hp1h hp1l hp2h hp2l hsh hsl hS i1 i2 i3 hE'
    obtain ⟨W, hW, h0, xa, xb, xr⟩ := fbox3 w (.int .i64 a) (.int .i64 b) (.int .i64 c) (.int .i64 d) (.int .i64 0) (.int .i64 0)
    have HW := Lib.hid hW
    clear hW
    go_enter Tryd.func21, Tryd.ntmps21
    go_wp2_with fail
    rw [← HW.out]
    clear HW
    have c_xa := xa.c0
    have d_xa := xa.c1
    have p_xa := xa.f0
    have q_xa := xa.f1
    have c_xb := xb.c0
    have d_xb := xb.c1
    have p_xb := xb.f0
    have q_xb := xb.f1
    have c_xr := xr.c0
    have d_xr := xr.c1
    have p_xr := xr.f0
    have q_xr := xr.f1
    go_wp2_with fail
    clear c_xa d_xa p_xa q_xa c_xb d_xb p_xb q_xb c_xr d_xr p_xr q_xr
    go_at_call 48; (with_reducible refine (checkBoth_any a b c d a1 a2 b1 b2 c1 c2 d1 d2 _).mono ?_)
    rintro e W1 ⟨rfl, hb⟩
    replace xa := xa.go hb
    replace xb := xb.go hb
    replace xr := xr.go hb
    replace h0 := bel_go h0 h0.size hb
    clear hb
    rw [HC.out]
    have c_xa := xa.c0
    have d_xa := xa.c1
    have p_xa := xa.f0
    have q_xa := xa.f1
    have c_xb := xb.c0
    have d_xb := xb.c1
    have p_xb := xb.f0
    have q_xb := xb.f1
    have c_xr := xr.c0
    have d_xr := xr.c1
    have p_xr := xr.f0
    have q_xr := xr.f1
    go_wp2_with fail
    clear c_xa d_xa p_xa q_xa c_xb d_xb p_xb q_xb c_xr d_xr p_xr q_xr
    go_at_call 19; (with_reducible refine (gcd_any b d b1 b2 d1 d2 _).mono ?_)
    rintro e W2 ⟨rfl, hb⟩
    replace xa := xa.go hb
    replace xb := xb.go hb
    replace xr := xr.go hb
    replace h0 := bel_go h0 h0.size hb
    clear hb
    rw [HGG.out]
    go_upto_region 5 with fail
    go_cut [8] from 9 (fun s8 wc => ∃ Bs : Nat, s8 = .pointer (some ⟨Bs, 0, none⟩) ∧ Bx wc Bs 87 (.int .i64 sh) (.int .u64 sl) ∧ Bx wc w.heap.size 23 (.int .i64 a) (.int .i64 b) ∧ Bx wc (w.heap.size + 1) 23 (.int .i64 c) (.int .i64 d) ∧ Bx wc (w.heap.size + 1 + 1) 23 (.int .i64 0) (.int .i64 0) ∧ Below w.heap.size w wc)
    case first =>
      go_wp2_with fail
      refine wp_region_last (S := fun W' => Bx W' (w.heap.size) 23 (.int .i64 a) (.int .i64 b) ∧ Bx W' (w.heap.size + 1) 23 (.int .i64 c) (.int .i64 d)) (m := 16) (by kernel_rfl) (by kernel_rfl) (by kernel_rfl) (⟨xa.drew, xb.drew⟩) (fun _ => ?_)
      replace xa := xa.drew
      replace xb := xb.drew
      replace xr := xr.drew
      replace h0 := Below.drew h0
      generalize W2.drew = W2 at xa xb xr h0 ⊢
      refine wpAnyH_take (i := 0) (v := ?_) rfl (by kernel_rfl) (by kernel_rfl) (by kernel_rfl) (fun _ _ _ h => h) (Or.inl ⟨by kernel_rfl, ?_⟩) (⟨xa, xb⟩) ?_
      rotate_left
      focus (intro W' hSw; obtain ⟨hx0, hx1⟩ := hSw; have hc0 := hx0.c0; have hc1 := hx0.c1; have hc2 := hx1.c0; have hc3 := hx1.c1; clear hx0 hx1; go_simp; (try with_reducible rfl))
      (try simp only [Act.put, List.setIfInBounds_toArray, List.set_cons_zero, List.set_cons_succ, List.getElem_toArray, List.getElem_cons_zero, List.getElem_cons_succ])
      refine wpAnyH_take (i := 1) (v := ?_) rfl (by kernel_rfl) (by kernel_rfl) (by kernel_rfl) (fun _ _ _ h => h) (Or.inl ⟨by kernel_rfl, ?_⟩) (⟨xa, xb⟩) ?_
      rotate_left
      focus (intro W' hSw; obtain ⟨hx0, hx1⟩ := hSw; have hc0 := hx0.c0; have hc1 := hx0.c1; have hc2 := hx1.c0; have hc3 := hx1.c1; clear hx0 hx1; go_simp; (try with_reducible rfl))
      (try simp only [Act.put, List.setIfInBounds_toArray, List.set_cons_zero, List.set_cons_succ, List.getElem_toArray, List.getElem_cons_zero, List.getElem_cons_succ])
      refine wpAnyH_take (i := 2) (v := ?_) rfl (by kernel_rfl) (by kernel_rfl) (by kernel_rfl) (fun _ _ _ h => h) (Or.inl ⟨by kernel_rfl, ?_⟩) (⟨xa, xb⟩) ?_
      rotate_left
      focus (intro W' hSw; obtain ⟨hx0, hx1⟩ := hSw; have hc0 := hx0.c0; have hc1 := hx0.c1; have hc2 := hx1.c0; have hc3 := hx1.c1; clear hx0 hx1; go_simp; (try with_reducible rfl))
      (try simp only [Act.put, List.setIfInBounds_toArray, List.set_cons_zero, List.set_cons_succ, List.getElem_toArray, List.getElem_cons_zero, List.getElem_cons_succ])
      refine wpAnyH_take (i := 3) (v := ?_) rfl (by kernel_rfl) (by kernel_rfl) (by kernel_rfl) (fun _ _ _ h => h) (Or.inl ⟨by kernel_rfl, ?_⟩) (⟨xa, xb⟩) ?_
      rotate_left
      focus (intro W' hSw; obtain ⟨hx0, hx1⟩ := hSw; have hc0 := hx0.c0; have hc1 := hx0.c1; have hc2 := hx1.c0; have hc3 := hx1.c1; clear hx0 hx1; go_simp; (try with_reducible rfl))
      (try simp only [Act.put, List.setIfInBounds_toArray, List.set_cons_zero, List.set_cons_succ, List.getElem_toArray, List.getElem_cons_zero, List.getElem_cons_succ])
      refine wpAnyH_take (i := 4) (v := ?_) rfl (by kernel_rfl) (by kernel_rfl) (by kernel_rfl) (fun _ _ _ h => h) (Or.inl ⟨by kernel_rfl, ?_⟩) (⟨xa, xb⟩) ?_
      rotate_left
      focus (intro W' hSw; obtain ⟨hx0, hx1⟩ := hSw; have hc0 := hx0.c0; have hc1 := hx0.c1; have hc2 := hx1.c0; have hc3 := hx1.c1; clear hx0 hx1; go_simp; (try with_reducible rfl))
      (try simp only [Act.put, List.setIfInBounds_toArray, List.set_cons_zero, List.set_cons_succ, List.getElem_toArray, List.getElem_cons_zero, List.getElem_cons_succ])
      refine wpAnyH_take (i := 5) (v := ?_) rfl (by kernel_rfl) (by kernel_rfl) (by kernel_rfl) (fun _ _ _ h => h) (Or.inl ⟨by kernel_rfl, ?_⟩) (⟨xa, xb⟩) ?_
      rotate_left
      focus (intro W' hSw; obtain ⟨hx0, hx1⟩ := hSw; have hc0 := hx0.c0; have hc1 := hx0.c1; have hc2 := hx1.c0; have hc3 := hx1.c1; clear hx0 hx1; go_simp; (try with_reducible rfl))
      (try simp only [Act.put, List.setIfInBounds_toArray, List.set_cons_zero, List.set_cons_succ, List.getElem_toArray, List.getElem_cons_zero, List.getElem_cons_succ])
      refine wpAnyH_take (i := 7) (v := ?_) rfl (by kernel_rfl) (by kernel_rfl) (by kernel_rfl) (fun _ _ _ h => h) (Or.inl ⟨by kernel_rfl, ?_⟩) (⟨xa, xb⟩) ?_
      rotate_left
      focus (intro W' hSw; obtain ⟨hx0, hx1⟩ := hSw; have hc0 := hx0.c0; have hc1 := hx0.c1; have hc2 := hx1.c0; have hc3 := hx1.c1; clear hx0 hx1; go_simp; (try with_reducible rfl))
      (try simp only [Act.put, List.setIfInBounds_toArray, List.set_cons_zero, List.set_cons_succ, List.getElem_toArray, List.getElem_cons_zero, List.getElem_cons_succ])
      refine wpAnyH_take (i := 8) (v := ?_) rfl (by kernel_rfl) (by kernel_rfl) (by kernel_rfl) (fun _ _ _ h => h) (Or.inl ⟨by kernel_rfl, ?_⟩) (⟨xa, xb⟩) ?_
      rotate_left
      focus (intro W' hSw; obtain ⟨hx0, hx1⟩ := hSw; have hc0 := hx0.c0; have hc1 := hx0.c1; have hc2 := hx1.c0; have hc3 := hx1.c1; clear hx0 hx1; go_simp; (try with_reducible rfl))
      (try simp only [Act.put, List.setIfInBounds_toArray, List.set_cons_zero, List.set_cons_succ, List.getElem_toArray, List.getElem_cons_zero, List.getElem_cons_succ])
      refine wpAnyH_take (i := 9) (v := ?_) rfl (by kernel_rfl) (by kernel_rfl) (by kernel_rfl) (fun _ _ _ h => h) (Or.inl ⟨by kernel_rfl, ?_⟩) (⟨xa, xb⟩) ?_
      rotate_left
      focus (intro W' hSw; obtain ⟨hx0, hx1⟩ := hSw; have hc0 := hx0.c0; have hc1 := hx0.c1; have hc2 := hx1.c0; have hc3 := hx1.c1; clear hx0 hx1; go_simp; (try with_reducible rfl))
      (try simp only [Act.put, List.setIfInBounds_toArray, List.set_cons_zero, List.set_cons_succ, List.getElem_toArray, List.getElem_cons_zero, List.getElem_cons_succ])
      refine wpAnyH_take (i := 10) (v := ?_) rfl (by kernel_rfl) (by kernel_rfl) (by kernel_rfl) (fun _ _ _ h => h) (Or.inl ⟨by kernel_rfl, ?_⟩) (⟨xa, xb⟩) ?_
      rotate_left
      focus (intro W' hSw; obtain ⟨hx0, hx1⟩ := hSw; have hc0 := hx0.c0; have hc1 := hx0.c1; have hc2 := hx1.c0; have hc3 := hx1.c1; clear hx0 hx1; go_simp; (try with_reducible rfl))
      (try simp only [Act.put, List.setIfInBounds_toArray, List.set_cons_zero, List.set_cons_succ, List.getElem_toArray, List.getElem_cons_zero, List.getElem_cons_succ])
      refine wpAnyH_take (i := 11) (v := ?_) rfl (by kernel_rfl) (by kernel_rfl) (by kernel_rfl) (fun _ _ _ h => h) (Or.inl ⟨by kernel_rfl, ?_⟩) (⟨xa, xb⟩) ?_
      rotate_left
      focus (intro W' hSw; obtain ⟨hx0, hx1⟩ := hSw; have hc0 := hx0.c0; have hc1 := hx0.c1; have hc2 := hx1.c0; have hc3 := hx1.c1; clear hx0 hx1; go_simp; (try with_reducible rfl))
      (try simp only [Act.put, List.setIfInBounds_toArray, List.set_cons_zero, List.set_cons_succ, List.getElem_toArray, List.getElem_cons_zero, List.getElem_cons_succ])
      refine wpAnyH_take (i := 12) (v := ?_) rfl (by kernel_rfl) (by kernel_rfl) (by kernel_rfl) (fun _ _ _ h => h) (Or.inl ⟨by kernel_rfl, ?_⟩) (⟨xa, xb⟩) ?_
      rotate_left
      focus (intro W' hSw; obtain ⟨hx0, hx1⟩ := hSw; have hc0 := hx0.c0; have hc1 := hx0.c1; have hc2 := hx1.c0; have hc3 := hx1.c1; clear hx0 hx1; go_simp; (try with_reducible rfl))
      (try simp only [Act.put, List.setIfInBounds_toArray, List.set_cons_zero, List.set_cons_succ, List.getElem_toArray, List.getElem_cons_zero, List.getElem_cons_succ])
      refine wpAnyH_ready (rs := [6, 15]) (by kernel_rfl) (by simp) ?_
      refine AllReadyH.cons rfl (fun K hK => ?_) (AllReadyH.cons rfl (fun K hK => ?_) (AllReadyH.nil))
      · go_simp
        go_at_call 49; (with_reducible refine (HP1.out _).mono ?_)

        rintro e Wp ⟨rfl, hb⟩
        replace xa := xa.go hb
        replace xb := xb.go hb
        replace xr := xr.go hb
        replace h0 := bel_go h0 h0.size hb
        clear hb
        refine hK.out _ _ (⟨xa, xb⟩) (fun _ => ?_)
        clear hK K
        (try simp only [Act.put, List.setIfInBounds_toArray, List.set_cons_zero, List.set_cons_succ, List.getElem_toArray, List.getElem_cons_zero, List.getElem_cons_succ])
        refine wpAnyH_ready (rs := [13, 15]) (by kernel_rfl) (by simp) ?_
        refine AllReadyH.cons rfl (fun K hK => ?_) (AllReadyH.cons rfl (fun K hK => ?_) (AllReadyH.nil))
        · go_simp
          go_at_call 49; (with_reducible refine (HP2.out _).mono ?_)

          rintro e Wq ⟨rfl, hb⟩
          replace xa := xa.go hb
          replace xb := xb.go hb
          replace xr := xr.go hb
          replace h0 := bel_go h0 h0.size hb
          clear hb
          refine hK.out _ _ (⟨xa, xb⟩) (fun _ => ?_)
          clear hK K
          (try simp only [Act.put, List.setIfInBounds_toArray, List.set_cons_zero, List.set_cons_succ, List.getElem_toArray, List.getElem_cons_zero, List.getElem_cons_succ])
          refine wpAnyH_ready (rs := [14, 15]) (by kernel_rfl) (by simp) ?_
          refine AllReadyH.cons rfl (fun K hK => ?_) (AllReadyH.cons rfl (fun K hK => ?_) (AllReadyH.nil))
          · go_simp
            go_at_call 50; (with_reducible refine (HPL.out _).mono ?_)

            rintro e Wr ⟨rfl, hb⟩
            replace xa := xa.go hb
            replace xb := xb.go hb
            replace xr := xr.go hb
            replace h0 := bel_go h0 h0.size hb
            clear hb
            refine hK.out _ _ (⟨xa, xb⟩) (fun _ => ?_)
            clear hK K
            (try simp only [Act.put, List.setIfInBounds_toArray, List.set_cons_zero, List.set_cons_succ, List.getElem_toArray, List.getElem_cons_zero, List.getElem_cons_succ])
            refine wpAnyH_ready (rs := [15]) (by kernel_rfl) (by simp) ?_
            refine AllReadyH.cons rfl (fun K hK => ?_) (AllReadyH.nil)
            go_simp
            have hal : Below Wr.heap.size Wr (Wr.alloc (.cells #[.int .i64 0, .int .u64 0] 87)) := (Below.refl _ _).alloc (Nat.le_refl _) _
            have xs := Bx.new Wr 87 (.int .i64 0) (.int .u64 0)
            have sl_xs := Lib.hid (show w.heap.size ≤ Wr.heap.size from h0.size)
            have l_xs_xa := Lib.hid xa.lt
            have l_xs_xb := Lib.hid xb.lt
            have l_xs_xr := Lib.hid xr.lt
            replace xa := xa.go hal
            replace xb := xb.go hal
            replace xr := xr.go hal
            replace h0 := bel_go h0 h0.size hal
            clear hal
            generalize Wr.heap.size = Bxs at xs sl_xs l_xs_xa l_xs_xb l_xs_xr ⊢
            generalize Wr.alloc (.cells #[.int .i64 0, .int .u64 0] 87) = Vxs at xa xb xr xs h0 ⊢
            refine hK.out _ _ (⟨xa, xb⟩) (fun _ => ?_)
            clear hK K
            (try simp only [Act.put, List.setIfInBounds_toArray, List.set_cons_zero, List.set_cons_succ, List.getElem_toArray, List.getElem_cons_zero, List.getElem_cons_succ])
            refine wpAnyH_done (by kernel_rfl) ?_ _
            refine still1_step rfl (fun K hK => ?_)
            have hq0 := xs.c0
            have hq1 := xs.c1
            have hr0 := xs.f0
            have hr1 := xs.f1
            go_simp
            clear hq0 hq1 hr0 hr1
            have hP := put2 Vxs (Bxs) (.int .i64 sh) (.int .u64 sl)
            have hN := xs.stored (.int .i64 sh) (.int .u64 sl)
            generalize (Vxs.setCell ⟨Bxs, 0, none⟩ (.int .i64 sh)).setCell ⟨Bxs, 1, none⟩ (.int .u64 sl) = W3 at hP hN ⊢
            replace h0 := bel_put h0 (by have := sl_xs.out; omega) hP
            replace xa := xa.put hP (by have := l_xs_xa.out; omega)
            replace xb := xb.put hP (by have := l_xs_xb.out; omega)
            replace xr := xr.put hP (by have := l_xs_xr.out; omega)
            clear hP xs
            have xs := hN
            clear hN
            refine hK.out _ _ ?_
            clear hK K
            (try simp only [Act.put, List.setIfInBounds_toArray, List.set_cons_zero, List.set_cons_succ, List.getElem_toArray, List.getElem_cons_zero, List.getElem_cons_succ])
            go_wp2_with fail
            go_meet
            case rel => exact ⟨_, rfl, xs, xa, xb, xr, h0⟩
          · go_simp
            have hal : Below Wq.heap.size Wq (Wq.alloc (.cells #[.int .i64 0, .int .u64 0] 87)) := (Below.refl _ _).alloc (Nat.le_refl _) _
            have xs := Bx.new Wq 87 (.int .i64 0) (.int .u64 0)
            have sl_xs := Lib.hid (show w.heap.size ≤ Wq.heap.size from h0.size)
            have l_xs_xa := Lib.hid xa.lt
            have l_xs_xb := Lib.hid xb.lt
            have l_xs_xr := Lib.hid xr.lt
            replace xa := xa.go hal
            replace xb := xb.go hal
            replace xr := xr.go hal
            replace h0 := bel_go h0 h0.size hal
            clear hal
            generalize Wq.heap.size = Bxs at xs sl_xs l_xs_xa l_xs_xb l_xs_xr ⊢
            generalize Wq.alloc (.cells #[.int .i64 0, .int .u64 0] 87) = Vxs at xa xb xr xs h0 ⊢
            refine hK.out _ _ (⟨xa, xb⟩) (fun _ => ?_)
            clear hK K
            (try simp only [Act.put, List.setIfInBounds_toArray, List.set_cons_zero, List.set_cons_succ, List.getElem_toArray, List.getElem_cons_zero, List.getElem_cons_succ])
            refine wpAnyH_ready (rs := [14]) (by kernel_rfl) (by simp) ?_
            refine AllReadyH.cons rfl (fun K hK => ?_) (AllReadyH.nil)
            go_simp
            go_at_call 50; (with_reducible refine (HPL.out _).mono ?_)

            rintro e Wr ⟨rfl, hb⟩
            replace xa := xa.go hb
            replace xb := xb.go hb
            replace xr := xr.go hb
            replace xs := xs.go hb
            replace h0 := bel_go h0 h0.size hb
            clear hb
            refine hK.out _ _ (⟨xa, xb⟩) (fun _ => ?_)
            clear hK K
            (try simp only [Act.put, List.setIfInBounds_toArray, List.set_cons_zero, List.set_cons_succ, List.getElem_toArray, List.getElem_cons_zero, List.getElem_cons_succ])
            refine wpAnyH_done (by kernel_rfl) ?_ _
            refine still1_step rfl (fun K hK => ?_)
            have hq0 := xs.c0
            have hq1 := xs.c1
            have hr0 := xs.f0
            have hr1 := xs.f1
            go_simp
            clear hq0 hq1 hr0 hr1
            have hP := put2 Wr (Bxs) (.int .i64 sh) (.int .u64 sl)
            have hN := xs.stored (.int .i64 sh) (.int .u64 sl)
            generalize (Wr.setCell ⟨Bxs, 0, none⟩ (.int .i64 sh)).setCell ⟨Bxs, 1, none⟩ (.int .u64 sl) = W3 at hP hN ⊢
            replace h0 := bel_put h0 (by have := sl_xs.out; omega) hP
            replace xa := xa.put hP (by have := l_xs_xa.out; omega)
            replace xb := xb.put hP (by have := l_xs_xb.out; omega)
            replace xr := xr.put hP (by have := l_xs_xr.out; omega)
            clear hP xs
            have xs := hN
            clear hN
            refine hK.out _ _ ?_
            clear hK K
            (try simp only [Act.put, List.setIfInBounds_toArray, List.set_cons_zero, List.set_cons_succ, List.getElem_toArray, List.getElem_cons_zero, List.getElem_cons_succ])
            go_wp2_with fail
            go_meet
            case rel => exact ⟨_, rfl, xs, xa, xb, xr, h0⟩
        · go_simp
          have hal : Below Wp.heap.size Wp (Wp.alloc (.cells #[.int .i64 0, .int .u64 0] 87)) := (Below.refl _ _).alloc (Nat.le_refl _) _
          have xs := Bx.new Wp 87 (.int .i64 0) (.int .u64 0)
          have sl_xs := Lib.hid (show w.heap.size ≤ Wp.heap.size from h0.size)
          have l_xs_xa := Lib.hid xa.lt
          have l_xs_xb := Lib.hid xb.lt
          have l_xs_xr := Lib.hid xr.lt
          replace xa := xa.go hal
          replace xb := xb.go hal
          replace xr := xr.go hal
          replace h0 := bel_go h0 h0.size hal
          clear hal
          generalize Wp.heap.size = Bxs at xs sl_xs l_xs_xa l_xs_xb l_xs_xr ⊢
          generalize Wp.alloc (.cells #[.int .i64 0, .int .u64 0] 87) = Vxs at xa xb xr xs h0 ⊢
          refine hK.out _ _ (⟨xa, xb⟩) (fun _ => ?_)
          clear hK K
          (try simp only [Act.put, List.setIfInBounds_toArray, List.set_cons_zero, List.set_cons_succ, List.getElem_toArray, List.getElem_cons_zero, List.getElem_cons_succ])
          refine wpAnyH_ready (rs := [13]) (by kernel_rfl) (by simp) ?_
          refine AllReadyH.cons rfl (fun K hK => ?_) (AllReadyH.nil)
          go_simp
          go_at_call 49; (with_reducible refine (HP2.out _).mono ?_)

          rintro e Wq ⟨rfl, hb⟩
          replace xa := xa.go hb
          replace xb := xb.go hb
          replace xr := xr.go hb
          replace xs := xs.go hb
          replace h0 := bel_go h0 h0.size hb
          clear hb
          refine hK.out _ _ (⟨xa, xb⟩) (fun _ => ?_)
          clear hK K
          (try simp only [Act.put, List.setIfInBounds_toArray, List.set_cons_zero, List.set_cons_succ, List.getElem_toArray, List.getElem_cons_zero, List.getElem_cons_succ])
          refine wpAnyH_ready (rs := [14]) (by kernel_rfl) (by simp) ?_
          refine AllReadyH.cons rfl (fun K hK => ?_) (AllReadyH.nil)
          go_simp
          go_at_call 50; (with_reducible refine (HPL.out _).mono ?_)

          rintro e Wr ⟨rfl, hb⟩
          replace xa := xa.go hb
          replace xb := xb.go hb
          replace xr := xr.go hb
          replace xs := xs.go hb
          replace h0 := bel_go h0 h0.size hb
          clear hb
          refine hK.out _ _ (⟨xa, xb⟩) (fun _ => ?_)
          clear hK K
          (try simp only [Act.put, List.setIfInBounds_toArray, List.set_cons_zero, List.set_cons_succ, List.getElem_toArray, List.getElem_cons_zero, List.getElem_cons_succ])
          refine wpAnyH_done (by kernel_rfl) ?_ _
          refine still1_step rfl (fun K hK => ?_)
          have hq0 := xs.c0
          have hq1 := xs.c1
          have hr0 := xs.f0
          have hr1 := xs.f1
          go_simp
          clear hq0 hq1 hr0 hr1
          have hP := put2 Wr (Bxs) (.int .i64 sh) (.int .u64 sl)
          have hN := xs.stored (.int .i64 sh) (.int .u64 sl)
          generalize (Wr.setCell ⟨Bxs, 0, none⟩ (.int .i64 sh)).setCell ⟨Bxs, 1, none⟩ (.int .u64 sl) = W3 at hP hN ⊢
          replace h0 := bel_put h0 (by have := sl_xs.out; omega) hP
          replace xa := xa.put hP (by have := l_xs_xa.out; omega)
          replace xb := xb.put hP (by have := l_xs_xb.out; omega)
          replace xr := xr.put hP (by have := l_xs_xr.out; omega)
          clear hP xs
          have xs := hN
          clear hN
          refine hK.out _ _ ?_
          clear hK K
          (try simp only [Act.put, List.setIfInBounds_toArray, List.set_cons_zero, List.set_cons_succ, List.getElem_toArray, List.getElem_cons_zero, List.getElem_cons_succ])
          go_wp2_with fail
          go_meet
          case rel => exact ⟨_, rfl, xs, xa, xb, xr, h0⟩
      · go_simp
        have hal : Below W2.heap.size W2 (W2.alloc (.cells #[.int .i64 0, .int .u64 0] 87)) := (Below.refl _ _).alloc (Nat.le_refl _) _
        have xs := Bx.new W2 87 (.int .i64 0) (.int .u64 0)
        have sl_xs := Lib.hid (show w.heap.size ≤ W2.heap.size from h0.size)
        have l_xs_xa := Lib.hid xa.lt
        have l_xs_xb := Lib.hid xb.lt
        have l_xs_xr := Lib.hid xr.lt
        replace xa := xa.go hal
        replace xb := xb.go hal
        replace xr := xr.go hal
        replace h0 := bel_go h0 h0.size hal
        clear hal
        generalize W2.heap.size = Bxs at xs sl_xs l_xs_xa l_xs_xb l_xs_xr ⊢
        generalize W2.alloc (.cells #[.int .i64 0, .int .u64 0] 87) = Vxs at xa xb xr xs h0 ⊢
        refine hK.out _ _ (⟨xa, xb⟩) (fun _ => ?_)
        clear hK K
        (try simp only [Act.put, List.setIfInBounds_toArray, List.set_cons_zero, List.set_cons_succ, List.getElem_toArray, List.getElem_cons_zero, List.getElem_cons_succ])
        refine wpAnyH_ready (rs := [6]) (by kernel_rfl) (by simp) ?_
        refine AllReadyH.cons rfl (fun K hK => ?_) (AllReadyH.nil)
        go_simp
        go_at_call 49; (with_reducible refine (HP1.out _).mono ?_)

        rintro e Wp ⟨rfl, hb⟩
        replace xa := xa.go hb
        replace xb := xb.go hb
        replace xr := xr.go hb
        replace xs := xs.go hb
        replace h0 := bel_go h0 h0.size hb
        clear hb
        refine hK.out _ _ (⟨xa, xb⟩) (fun _ => ?_)
        clear hK K
        (try simp only [Act.put, List.setIfInBounds_toArray, List.set_cons_zero, List.set_cons_succ, List.getElem_toArray, List.getElem_cons_zero, List.getElem_cons_succ])
        refine wpAnyH_ready (rs := [13]) (by kernel_rfl) (by simp) ?_
        refine AllReadyH.cons rfl (fun K hK => ?_) (AllReadyH.nil)
        go_simp
        go_at_call 49; (with_reducible refine (HP2.out _).mono ?_)

        rintro e Wq ⟨rfl, hb⟩
        replace xa := xa.go hb
        replace xb := xb.go hb
        replace xr := xr.go hb
        replace xs := xs.go hb
        replace h0 := bel_go h0 h0.size hb
        clear hb
        refine hK.out _ _ (⟨xa, xb⟩) (fun _ => ?_)
        clear hK K
        (try simp only [Act.put, List.setIfInBounds_toArray, List.set_cons_zero, List.set_cons_succ, List.getElem_toArray, List.getElem_cons_zero, List.getElem_cons_succ])
        refine wpAnyH_ready (rs := [14]) (by kernel_rfl) (by simp) ?_
        refine AllReadyH.cons rfl (fun K hK => ?_) (AllReadyH.nil)
        go_simp
        go_at_call 50; (with_reducible refine (HPL.out _).mono ?_)

        rintro e Wr ⟨rfl, hb⟩
        replace xa := xa.go hb
        replace xb := xb.go hb
        replace xr := xr.go hb
        replace xs := xs.go hb
        replace h0 := bel_go h0 h0.size hb
        clear hb
        refine hK.out _ _ (⟨xa, xb⟩) (fun _ => ?_)
        clear hK K
        (try simp only [Act.put, List.setIfInBounds_toArray, List.set_cons_zero, List.set_cons_succ, List.getElem_toArray, List.getElem_cons_zero, List.getElem_cons_succ])
        refine wpAnyH_done (by kernel_rfl) ?_ _
        refine still1_step rfl (fun K hK => ?_)
        have hq0 := xs.c0
        have hq1 := xs.c1
        have hr0 := xs.f0
        have hr1 := xs.f1
        go_simp
        clear hq0 hq1 hr0 hr1
        have hP := put2 Wr (Bxs) (.int .i64 sh) (.int .u64 sl)
        have hN := xs.stored (.int .i64 sh) (.int .u64 sl)
        generalize (Wr.setCell ⟨Bxs, 0, none⟩ (.int .i64 sh)).setCell ⟨Bxs, 1, none⟩ (.int .u64 sl) = W3 at hP hN ⊢
        replace h0 := bel_put h0 (by have := sl_xs.out; omega) hP
        replace xa := xa.put hP (by have := l_xs_xa.out; omega)
        replace xb := xb.put hP (by have := l_xs_xb.out; omega)
        replace xr := xr.put hP (by have := l_xs_xr.out; omega)
        clear hP xs
        have xs := hN
        clear hN
        refine hK.out _ _ ?_
        clear hK K
        (try simp only [Act.put, List.setIfInBounds_toArray, List.set_cons_zero, List.set_cons_succ, List.getElem_toArray, List.getElem_cons_zero, List.getElem_cons_succ])
        go_wp2_with fail
        go_meet
        case rel => exact ⟨_, rfl, xs, xa, xb, xr, h0⟩
    case rest =>
      clear xa xb xr h0
      obtain ⟨Bs, rfl, xs, xa, xb, xr, h0⟩ := hcut
      have c_xa := xa.c0
      have d_xa := xa.c1
      have p_xa := xa.f0
      have q_xa := xa.f1
      have c_xb := xb.c0
      have d_xb := xb.c1
      have p_xb := xb.f0
      have q_xb := xb.f1
      have c_xr := xr.c0
      have d_xr := xr.c1
      have p_xr := xr.f0
      have q_xr := xr.f1
      have c_xs := xs.c0
      have d_xs := xs.c1
      have p_xs := xs.f0
      have q_xs := xs.f1
      go_wp2_with fail
      clear c_xa d_xa p_xa q_xa c_xb d_xb p_xb q_xb c_xr d_xr p_xr q_xr c_xs d_xs p_xs q_xs
      go_at_call 51; (with_reducible refine (HMD.out _).mono ?_)
      rintro e W4 ⟨rfl, hb⟩
      replace xa := xa.go hb
      replace xb := xb.go hb
      replace xr := xr.go hb
      replace xs := xs.go hb
      replace h0 := bel_go h0 h0.size hb
      clear hb
      have c_xa := xa.c0
      have d_xa := xa.c1
      have p_xa := xa.f0
      have q_xa := xa.f1
      have c_xb := xb.c0
      have d_xb := xb.c1
      have p_xb := xb.f0
      have q_xb := xb.f1
      have c_xr := xr.c0
      have d_xr := xr.c1
      have p_xr := xr.f0
      have q_xr := xr.f1
      have c_xs := xs.c0
      have d_xs := xs.c1
      have p_xs := xs.f0
      have q_xs := xs.f1
      go_wp2_with fail
      clear c_xa d_xa p_xa q_xa c_xb d_xb p_xb q_xb c_xr d_xr p_xr q_xr c_xs d_xs p_xs q_xs
      go_at_call 19; (with_reducible refine (gcd_any (S % g) g (by omega) (by omega) (by omega) (by omega) _).mono ?_)
      rintro e W5 ⟨rfl, hb⟩
      replace xa := xa.go hb
      replace xb := xb.go hb
      replace xr := xr.go hb
      replace xs := xs.go hb
      replace h0 := bel_go h0 h0.size hb
      clear hb
      rw [HH.out]
      have c_xa := xa.c0
      have d_xa := xa.c1
      have p_xa := xa.f0
      have q_xa := xa.f1
      have c_xb := xb.c0
      have d_xb := xb.c1
      have p_xb := xb.f0
      have q_xb := xb.f1
      have c_xr := xr.c0
      have d_xr := xr.c1
      have p_xr := xr.f0
      have q_xr := xr.f1
      have c_xs := xs.c0
      have d_xs := xs.c1
      have p_xs := xs.f0
      have q_xs := xs.f1
      go_wp2_with fail
      clear c_xa d_xa p_xa q_xa c_xb d_xb p_xb q_xb c_xr d_xr p_xr q_xr c_xs d_xs p_xs q_xs
      go_at_call 52; (with_reducible refine (HDV.out _).mono ?_)
      rintro e W6 ⟨rfl, hb⟩
      replace xa := xa.go hb
      replace xb := xb.go hb
      replace xr := xr.go hb
      replace xs := xs.go hb
      replace h0 := bel_go h0 h0.size hb
      clear hb
      go_wp2_with fail
      refine wp_region_held_drew (S := fun W' => Bx W' (w.heap.size) 23 (.int .i64 a) (.int .i64 b) ∧ Bx W' (w.heap.size + 1) 23 (.int .i64 c) (.int .i64 d)) (by kernel_rfl) (⟨xa.drew, xb.drew⟩) (fun _ => ?_)
      replace xa := xa.drew
      replace xb := xb.drew
      replace xr := xr.drew
      replace xs := xs.drew
      replace h0 := Below.drew h0
      generalize W6.drew = W6 at xa xb xr xs h0 ⊢
      refine wpAnyH_take (i := 0) (v := ?_) rfl (by kernel_rfl) (by kernel_rfl) (by kernel_rfl) (fun _ _ _ h => h) (Or.inl ⟨by kernel_rfl, ?_⟩) (⟨xa, xb⟩) ?_
      rotate_left
      focus (intro W' hSw; obtain ⟨hx0, hx1⟩ := hSw; have hc0 := hx0.c0; have hc1 := hx0.c1; have hc2 := hx1.c0; have hc3 := hx1.c1; clear hx0 hx1; go_simp; (try with_reducible rfl))
      (try simp only [Act.put, List.setIfInBounds_toArray, List.set_cons_zero, List.set_cons_succ, List.getElem_toArray, List.getElem_cons_zero, List.getElem_cons_succ])
      refine wpAnyH_take (i := 1) (v := ?_) rfl (by kernel_rfl) (by kernel_rfl) (by kernel_rfl) (fun _ _ _ h => h) (Or.inl ⟨by kernel_rfl, ?_⟩) (⟨xa, xb⟩) ?_
      rotate_left
      focus (intro W' hSw; obtain ⟨hx0, hx1⟩ := hSw; have hc0 := hx0.c0; have hc1 := hx0.c1; have hc2 := hx1.c0; have hc3 := hx1.c1; clear hx0 hx1; go_simp; (try with_reducible rfl))
      (try simp only [Act.put, List.setIfInBounds_toArray, List.set_cons_zero, List.set_cons_succ, List.getElem_toArray, List.getElem_cons_zero, List.getElem_cons_succ])
      refine wpAnyH_take (i := 2) (v := ?_) rfl (by kernel_rfl) (by kernel_rfl) (by kernel_rfl) (fun _ _ _ h => h) (Or.inl ⟨by kernel_rfl, ?_⟩) (⟨xa, xb⟩) ?_
      rotate_left
      focus (intro W' hSw; obtain ⟨hx0, hx1⟩ := hSw; have hc0 := hx0.c0; have hc1 := hx0.c1; have hc2 := hx1.c0; have hc3 := hx1.c1; clear hx0 hx1; go_simp; (try with_reducible rfl))
      (try simp only [Act.put, List.setIfInBounds_toArray, List.set_cons_zero, List.set_cons_succ, List.getElem_toArray, List.getElem_cons_zero, List.getElem_cons_succ])
      refine wpAnyH_take (i := 3) (v := ?_) rfl (by kernel_rfl) (by kernel_rfl) (by kernel_rfl) (fun _ _ _ h => h) (Or.inl ⟨by kernel_rfl, ?_⟩) (⟨xa, xb⟩) ?_
      rotate_left
      focus (intro W' hSw; obtain ⟨hx0, hx1⟩ := hSw; have hc0 := hx0.c0; have hc1 := hx0.c1; have hc2 := hx1.c0; have hc3 := hx1.c1; clear hx0 hx1; go_simp; (try with_reducible rfl))
      (try simp only [Act.put, List.setIfInBounds_toArray, List.set_cons_zero, List.set_cons_succ, List.getElem_toArray, List.getElem_cons_zero, List.getElem_cons_succ])
      refine wpAnyH_take (i := 4) (v := ?_) rfl (by kernel_rfl) (by kernel_rfl) (by kernel_rfl) (fun _ _ _ h => h) (Or.inl ⟨by kernel_rfl, ?_⟩) (⟨xa, xb⟩) ?_
      rotate_left
      focus (intro W' hSw; obtain ⟨hx0, hx1⟩ := hSw; have hc0 := hx0.c0; have hc1 := hx0.c1; have hc2 := hx1.c0; have hc3 := hx1.c1; clear hx0 hx1; go_simp; (try with_reducible rfl))
      (try simp only [Act.put, List.setIfInBounds_toArray, List.set_cons_zero, List.set_cons_succ, List.getElem_toArray, List.getElem_cons_zero, List.getElem_cons_succ])
      refine wpAnyH_take (i := 5) (v := ?_) rfl (by kernel_rfl) (by kernel_rfl) (by kernel_rfl) (fun _ _ _ h => h) (Or.inl ⟨by kernel_rfl, ?_⟩) (⟨xa, xb⟩) ?_
      rotate_left
      focus (intro W' hSw; obtain ⟨hx0, hx1⟩ := hSw; have hc0 := hx0.c0; have hc1 := hx0.c1; have hc2 := hx1.c0; have hc3 := hx1.c1; clear hx0 hx1; go_simp; (try with_reducible rfl))
      (try simp only [Act.put, List.setIfInBounds_toArray, List.set_cons_zero, List.set_cons_succ, List.getElem_toArray, List.getElem_cons_zero, List.getElem_cons_succ])
      refine wpAnyH_take (i := 6) (v := ?_) rfl (by kernel_rfl) (by kernel_rfl) (by kernel_rfl) (fun _ _ _ h => h) (Or.inl ⟨by kernel_rfl, ?_⟩) (⟨xa, xb⟩) ?_
      rotate_left
      focus (intro W' hSw; obtain ⟨hx0, hx1⟩ := hSw; have hc0 := hx0.c0; have hc1 := hx0.c1; have hc2 := hx1.c0; have hc3 := hx1.c1; clear hx0 hx1; go_simp; (try with_reducible rfl))
      (try simp only [Act.put, List.setIfInBounds_toArray, List.set_cons_zero, List.set_cons_succ, List.getElem_toArray, List.getElem_cons_zero, List.getElem_cons_succ])
      refine wpAnyH_take (i := 7) (v := ?_) rfl (by kernel_rfl) (by kernel_rfl) (by kernel_rfl) (fun _ _ _ h => h) (Or.inl ⟨by kernel_rfl, ?_⟩) (⟨xa, xb⟩) ?_
      rotate_left
      focus (intro W' hSw; obtain ⟨hx0, hx1⟩ := hSw; have hc0 := hx0.c0; have hc1 := hx0.c1; have hc2 := hx1.c0; have hc3 := hx1.c1; clear hx0 hx1; go_simp; (try with_reducible rfl))
      (try simp only [Act.put, List.setIfInBounds_toArray, List.set_cons_zero, List.set_cons_succ, List.getElem_toArray, List.getElem_cons_zero, List.getElem_cons_succ])
      refine wpAnyH_ready (rs := [8]) (by kernel_rfl) (by simp) ?_
      refine AllReadyH.cons rfl (fun K hK => ?_) (AllReadyH.nil)
      go_simp
      go_at_call 31; (with_reducible refine (mul_any x t (by omega) (by omega) (by omega) (by omega) _).mono ?_)
      rw [HF.out.1, HF.out.2]
      rintro e W7 ⟨rfl, hb⟩
      replace xa := xa.go hb
      replace xb := xb.go hb
      replace xr := xr.go hb
      replace xs := xs.go hb
      replace h0 := bel_go h0 h0.size hb
      clear hb
      refine hK.out _ _ (⟨xa, xb⟩) (fun _ => ?_)
      clear hK K
      (try simp only [Act.put, List.setIfInBounds_toArray, List.set_cons_zero, List.set_cons_succ, List.getElem_toArray, List.getElem_cons_zero, List.getElem_cons_succ])
      refine wpAnyH_take (i := 9) (v := ?_) rfl (by kernel_rfl) (by kernel_rfl) (by kernel_rfl) (fun _ _ _ h => h) (Or.inl ⟨by kernel_rfl, ?_⟩) (⟨xa, xb⟩) ?_
      rotate_left
      focus (intro W' hSw; obtain ⟨hx0, hx1⟩ := hSw; have hc0 := hx0.c0; have hc1 := hx0.c1; have hc2 := hx1.c0; have hc3 := hx1.c1; clear hx0 hx1; go_simp; (try with_reducible rfl))
      (try simp only [Act.put, List.setIfInBounds_toArray, List.set_cons_zero, List.set_cons_succ, List.getElem_toArray, List.getElem_cons_zero, List.getElem_cons_succ])
      refine wpAnyH_take (i := 10) (v := ?_) rfl (by kernel_rfl) (by kernel_rfl) (by kernel_rfl) (fun _ _ _ h => h) (Or.inl ⟨by kernel_rfl, ?_⟩) (⟨xa, xb⟩) ?_
      rotate_left
      focus (intro W' hSw; obtain ⟨hx0, hx1⟩ := hSw; have hc0 := hx0.c0; have hc1 := hx0.c1; have hc2 := hx1.c0; have hc3 := hx1.c1; clear hx0 hx1; go_simp; (try with_reducible rfl))
      (try simp only [Act.put, List.setIfInBounds_toArray, List.set_cons_zero, List.set_cons_succ, List.getElem_toArray, List.getElem_cons_zero, List.getElem_cons_succ])
      refine wpAnyH_take (i := 11) (v := ?_) rfl (by kernel_rfl) (by kernel_rfl) (by kernel_rfl) (fun _ _ _ h => h) (Or.inl ⟨by kernel_rfl, ?_⟩) (⟨xa, xb⟩) ?_
      rotate_left
      focus (intro W' hSw; obtain ⟨hx0, hx1⟩ := hSw; have hc0 := hx0.c0; have hc1 := hx0.c1; have hc2 := hx1.c0; have hc3 := hx1.c1; clear hx0 hx1; go_simp; (try with_reducible rfl))
      (try simp only [Act.put, List.setIfInBounds_toArray, List.set_cons_zero, List.set_cons_succ, List.getElem_toArray, List.getElem_cons_zero, List.getElem_cons_succ])
      refine wpAnyH_take (i := 12) (v := ?_) rfl (by kernel_rfl) (by kernel_rfl) (by kernel_rfl) (fun _ _ _ h => h) (Or.inl ⟨by kernel_rfl, ?_⟩) (⟨xa, xb⟩) ?_
      rotate_left
      focus (intro W' hSw; obtain ⟨hx0, hx1⟩ := hSw; have hc0 := hx0.c0; have hc1 := hx0.c1; have hc2 := hx1.c0; have hc3 := hx1.c1; clear hx0 hx1; go_simp; (try with_reducible rfl))
      (try simp only [Act.put, List.setIfInBounds_toArray, List.set_cons_zero, List.set_cons_succ, List.getElem_toArray, List.getElem_cons_zero, List.getElem_cons_succ])
      refine wpAnyH_take (i := 13) (v := ?_) rfl (by kernel_rfl) (by kernel_rfl) (by kernel_rfl) (fun _ _ _ h => h) (Or.inl ⟨by kernel_rfl, ?_⟩) (⟨xa, xb⟩) ?_
      rotate_left
      focus (intro W' hSw; obtain ⟨hx0, hx1⟩ := hSw; have hc0 := hx0.c0; have hc1 := hx0.c1; have hc2 := hx1.c0; have hc3 := hx1.c1; clear hx0 hx1; go_simp; (try with_reducible rfl))
      (try simp only [Act.put, List.setIfInBounds_toArray, List.set_cons_zero, List.set_cons_succ, List.getElem_toArray, List.getElem_cons_zero, List.getElem_cons_succ])
      refine wpAnyH_done (by kernel_rfl) ?_ _
      refine then_code (by assumption) ?_
      go_light
      cases fx with
      | false =>
        obtain ⟨g1, g2, g3⟩ := lim_big (n := X) (d := Y) (.inl HFX.out)
        obtain rfl : A = 0 := by rw [← HA.out.1, g1]
        obtain rfl : B = 0 := by rw [← HA.out.2.1, g2]
        obtain rfl : E = 2 := by rw [← HA.out.2.2, g3]
        obtain ⟨rfl, rfl⟩ := HX.out.2 HFX.out
        clear g1 g2 g3
        have c_xr := xr.c0
        have d_xr := xr.c1
        have p_xr := xr.f0
        have q_xr := xr.f1
        go_wp2_with fail
        clear c_xr d_xr p_xr q_xr
        have hP := put2 W7 (w.heap.size + 1 + 1) (.int .i64 0) (.int .i64 0)
        have hN := xr.stored (.int .i64 0) (.int .i64 0)
        generalize (W7.setCell _ _).setCell _ _ = WZ at hP hN ⊢
        replace h0 := bel_put h0 (by omega) hP
        clear hP xr
        have xr := hN
        clear hN
        have e0 := xr.c0
        have e1 := xr.c1
        exact bodyPost_ret (v := .tuple #[fr (0) (0), .int .i64 (2)]) (by simp [results, Tryd.results21, go_sem, e0, e1]) rfl ⟨rfl, h0⟩
      | true =>
        obtain ⟨rfl, rfl⟩ := HX.out.1 HFX.out
        cases fy with
        | false =>
          obtain ⟨g1, g2, g3⟩ := lim_big (n := X') (d := Y) (.inr HFY.out)
          obtain rfl : A = 0 := by rw [← HA.out.1, g1]
          obtain rfl : B = 0 := by rw [← HA.out.2.1, g2]
          obtain rfl : E = 2 := by rw [← HA.out.2.2, g3]
          clear g1 g2 g3
          have c_xr := xr.c0
          have d_xr := xr.c1
          have p_xr := xr.f0
          have q_xr := xr.f1
          go_wp2_with fail
          clear c_xr d_xr p_xr q_xr
          have hP := put2 W7 (w.heap.size + 1 + 1) (.int .i64 0) (.int .i64 0)
          have hN := xr.stored (.int .i64 0) (.int .i64 0)
          generalize (W7.setCell _ _).setCell _ _ = WZ at hP hN ⊢
          replace h0 := bel_put h0 (by omega) hP
          clear hP xr
          have xr := hN
          clear hN
          have e0 := xr.c0
          have e1 := xr.c1
          exact bodyPost_ret (v := .tuple #[fr (0) (0), .int .i64 (2)]) (by simp [results, Tryd.results21, go_sem, e0, e1]) rfl ⟨rfl, h0⟩
        | true =>
          obtain rfl : Y = Y' := by rw [← HY.out, (fit_in (fits_iff.1 HFY.out).1 (fits_iff.1 HFY.out).2).1]
          go_wp2_with fail
          go_at_call 20; (with_reducible refine (limited_any X' Y _).mono ?_)
          rintro e W8 ⟨rfl, hb⟩
          replace xr := xr.go hb
          replace h0 := bel_go h0 h0.size hb
          clear hb
          rw [HA.out.1, HA.out.2.1, HA.out.2.2]
          have c_xr := xr.c0
          have d_xr := xr.c1
          have p_xr := xr.f0
          have q_xr := xr.f1
          go_wp2_with fail
          clear c_xr d_xr p_xr q_xr
          have hP := put2 W8 (w.heap.size + 1 + 1) (.int .i64 (A)) (.int .i64 (B))
          have hN := xr.stored (.int .i64 (A)) (.int .i64 (B))
          generalize (W8.setCell _ _).setCell _ _ = W9 at hP hN ⊢
          replace h0 := bel_put h0 (by omega) hP
          clear hP xr
          have xr := hN
          clear hN
          have e0 := xr.c0
          have e1 := xr.c1
          exact bodyPost_ret (v := .tuple #[fr (A) (B), .int .i64 (E)]) (by simp [results, Tryd.results21, go_sem, e0, e1]) rfl ⟨rfl, h0⟩
  · rw [show addA a b c d = 0 from if_neg h, show addB a b c d = 0 from if_neg h, show addE a b c d = chk2 a b c d from if_neg h]
    generalize hk_ : chk2 a b c d = k at h
    have HK := Lib.hid hk_
    clear hk_
    have hk : (k != 0) = true := by simpa using h
    obtain ⟨W, hW, h0, xa, xb, xr⟩ := fbox3 w (.int .i64 a) (.int .i64 b) (.int .i64 c) (.int .i64 d) (.int .i64 0) (.int .i64 0)
    have HW := Lib.hid hW
    clear hW
    go_enter Tryd.func21, Tryd.ntmps21
    go_wp2_with fail
    rw [← HW.out]
    clear HW
    have c_xa := xa.c0
    have d_xa := xa.c1
    have p_xa := xa.f0
    have q_xa := xa.f1
    have c_xb := xb.c0
    have d_xb := xb.c1
    have p_xb := xb.f0
    have q_xb := xb.f1
    have c_xr := xr.c0
    have d_xr := xr.c1
    have p_xr := xr.f0
    have q_xr := xr.f1
    go_wp2_with fail
    clear c_xa d_xa p_xa q_xa c_xb d_xb p_xb q_xb c_xr d_xr p_xr q_xr
    go_at_call 48; (with_reducible refine (checkBoth_any a b c d a1 a2 b1 b2 c1 c2 d1 d2 _).mono ?_)
    rintro e W1 ⟨rfl, hb⟩
    replace xa := xa.go hb
    replace xb := xb.go hb
    replace xr := xr.go hb
    replace h0 := bel_go h0 h0.size hb
    clear hb
    rw [HK.out]
    have c_xr := xr.c0
    have d_xr := xr.c1
    have p_xr := xr.f0
    have q_xr := xr.f1
    go_wp2_with fail
    clear c_xr d_xr p_xr q_xr
    have hP := put2 W1 (w.heap.size + 1 + 1) (.int .i64 0) (.int .i64 0)
    have hN := xr.stored (.int .i64 0) (.int .i64 0)
    generalize (W1.setCell _ _).setCell _ _ = WZ at hP hN ⊢
    replace h0 := bel_put h0 (by omega) hP
    clear hP xr
    have xr := hN
    clear hN
    have e0 := xr.c0
    have e1 := xr.c1
    exact bodyPost_ret (v := .tuple #[fr (0) (0), .int .i64 (k)]) (by simp [results, Tryd.results21, go_sem, e0, e1]) rfl ⟨rfl, h0⟩
end Go.Proofs.YtocheeocnbfbiaaDoor

