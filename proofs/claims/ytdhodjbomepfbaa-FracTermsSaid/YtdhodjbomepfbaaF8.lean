/-
  The contracts of frac.gap and frac.nearer.
  Conditions: the arguments are int64, and the distances that they reckon fit into 63 bits.
-/
import Derived.Test.YtdhodjbomepfbaaF5
set_option linter.unusedVariables false
set_option linter.unusedSimpArgs false
namespace Go.Proofs.Ytdhodjbomepfbaa
open Go.RowKit Go.Shelf Wd

/-- The distance of two numbers, times both denominators. -/
def gp (p q n d : Int) : Int := ((p * d - n * q).natAbs : Int)
set_option maxRecDepth 100000 in
set_option maxHeartbeats 4000000 in
theorem gap_any (a b c d : Int) (a1 : -9223372036854775808 ≤ a) (a2 : a ≤ 9223372036854775807) (b1 : -9223372036854775808 ≤ b) (b2 : b ≤ 9223372036854775807) (c1 : -9223372036854775808 ≤ c) (c2 : c ≤ 9223372036854775807) (d1 : -9223372036854775808 ≤ d) (d2 : d ≤ 9223372036854775807) (hg : gp a b c d ≤ 9223372036854775807) (w : World) : Calls Try.prog 153 #[fr a b, fr c d] w fun e w' => e = .returned (.int .i64 (gp a b c d)) ∧ Below w.heap.size w w' := by
  have m1 := mul_bd a1 a2 d1 d2
  have m2 := mul_bd c1 c2 b1 b2
  have i1 := mul_in a1 a2 d1 d2
  have i2 := mul_in c1 c2 b1 b2
  obtain ⟨D, hD⟩ : ∃ D, a * d - c * b = D := ⟨_, rfl⟩
  have hgd : gp a b c d = D.natAbs := by unfold gp; rw [hD]
  rw [hgd] at hg ⊢
  have n2 : w128 (-(c * b)) = -(c * b) := w128_id (by unfold InW; omega)
  have n3 : InW (-(c * b)) := by rw [← n2]; exact w128_in _
  have nD : InW D := by unfold InW; omega
  have n4 : w128 (a * d + -(c * b)) = D := by rw [show a * d + -(c * b) = D by omega]; exact w128_id nD
  have n5 : w128 (-D) = -D := w128_id (by unfold InW; omega)
  obtain ⟨ph, hph⟩ : ∃ z, a * d / 18446744073709551616 = z := ⟨_, rfl⟩
  obtain ⟨pl, hpl⟩ : ∃ z, a * d % 18446744073709551616 = z := ⟨_, rfl⟩
  obtain ⟨qh, hqh⟩ : ∃ z, c * b / 18446744073709551616 = z := ⟨_, rfl⟩
  obtain ⟨ql, hql⟩ : ∃ z, c * b % 18446744073709551616 = z := ⟨_, rfl⟩
  obtain ⟨rh, hrh⟩ : ∃ z, -(c * b) / 18446744073709551616 = z := ⟨_, rfl⟩
  obtain ⟨rl, hrl⟩ : ∃ z, -(c * b) % 18446744073709551616 = z := ⟨_, rfl⟩
  obtain ⟨sh, hsh⟩ : ∃ z, D / 18446744073709551616 = z := ⟨_, rfl⟩
  obtain ⟨sl, hsl⟩ : ∃ z, D % 18446744073709551616 = z := ⟨_, rfl⟩
  obtain ⟨th, hth⟩ : ∃ z, -D / 18446744073709551616 = z := ⟨_, rfl⟩
  obtain ⟨tl, htl⟩ : ∃ z, -D % 18446744073709551616 = z := ⟨_, rfl⟩
  have HP1 : Hid (∀ w : World, Calls Try.prog 122 #[.int .i64 a, .int .i64 d] w fun e w' => e = .returned (.agg #[.int .i64 ph, .int .u64 pl]) ∧ Below w.heap.size w w') := by
    intro w
    have := prod_any a d a1 a2 d1 d2 w
    rw [wide, hph, hpl] at this
    exact this
  have HP2 : Hid (∀ w : World, Calls Try.prog 122 #[.int .i64 c, .int .i64 b] w fun e w' => e = .returned (.agg #[.int .i64 qh, .int .u64 ql]) ∧ Below w.heap.size w w') := by
    intro w
    have := prod_any c b c1 c2 b1 b2 w
    rw [wide, hqh, hql] at this
    exact this
  have HNG : Hid (∀ w : World, Calls Try.prog 169 #[.agg #[.int .i64 qh, .int .u64 ql]] w fun e w' => e = .returned (.agg #[.int .i64 rh, .int .u64 rl]) ∧ Below w.heap.size w w') := by
    intro w
    have := neg_any (c * b) i2 w
    rw [n2, wide, wide, hqh, hql, hrh, hrl] at this
    exact this
  have HPL : Hid (∀ w : World, Calls Try.prog 130 #[.agg #[.int .i64 ph, .int .u64 pl], .agg #[.int .i64 rh, .int .u64 rl]] w fun e w' => e = .returned (.agg #[.int .i64 sh, .int .u64 sl]) ∧ Below w.heap.size w w') := by
    intro w
    have := plus_any (a * d) (-(c * b)) i1 n3 w
    rw [n4, wide, wide, wide, hph, hpl, hrh, hrl, hsh, hsl] at this
    exact this
  have HN2 : Hid (∀ w : World, Calls Try.prog 169 #[.agg #[.int .i64 sh, .int .u64 sl]] w fun e w' => e = .returned (.agg #[.int .i64 th, .int .u64 tl]) ∧ Below w.heap.size w w') := by
    intro w
    have := neg_any D nD w
    rw [n5, wide, wide, hsh, hsl, hth, htl] at this
    exact this
  have hlo : 0 ≤ D → IntKind.i64.wrap sl = D.natAbs := by intro h; rw [IntKind.wrap_i64]; omega
  have hlt : D < 0 → IntKind.i64.wrap tl = D.natAbs := by intro h; rw [IntKind.wrap_i64]; omega
  have hsg : (D < 0 → sh < 0) ∧ (0 ≤ D → 0 ≤ sh) := by omega
  have hsb : -9223372036854775808 ≤ sh ∧ sh ≤ 9223372036854775807 ∧ 0 ≤ sl ∧ sl < 18446744073709551616 := by unfold InW at nD; omega
  have htb : -9223372036854775808 ≤ th ∧ th ≤ 9223372036854775807 ∧ 0 ≤ tl ∧ tl < 18446744073709551616 := by unfold InW at nD; omega
  generalize (D.natAbs : Int) = R at hg hlo hlt ⊢
  have HS := Lib.hid hsg
  have HLO := Lib.hid hlo
  have HLT := Lib.hid hlt
  clear hsg hlo hlt hph hpl hqh hql hrh hrl hsh hsl hth htl n2 n3 n4 n5 nD i1 i2 m1 m2 hD hgd
  obtain ⟨W, hW, h0, xa, xb⟩ := fbox2 w (.int .i64 a) (.int .i64 b) (.int .i64 c) (.int .i64 d)
  have HW := Lib.hid hW
  clear hW
  go_enter Try.func153, Try.ntmps153
  go_wp2_with fail
  rw [← HW.out]
  clear HW
  go_upto_region 1 with fail
  go_cut [5] from 6 (fun s5 wc => ∃ Bs : Nat, s5 = .pointer (some ⟨Bs, 0, none⟩) ∧ Bx wc Bs 134 (.int .i64 sh) (.int .u64 sl) ∧ w.heap.size ≤ Bs ∧ Below w.heap.size w wc)
  case first =>
    refine wp_region_last (S := fun W' => Bx W' (w.heap.size) 76 (.int .i64 a) (.int .i64 b) ∧ Bx W' (w.heap.size + 1) 76 (.int .i64 c) (.int .i64 d)) (m := 13) (by kernel_rfl) (by kernel_rfl) (by kernel_rfl) (⟨xa.drew, xb.drew⟩) (fun _ => ?_)
    replace xa := xa.drew
    replace xb := xb.drew
    replace h0 := Below.drew h0
    generalize W.drew = W at xa xb h0 ⊢
    refine wpAnyH_take (i := 0) (v := ?_) rfl (by kernel_rfl) (by kernel_rfl) (by kernel_rfl) (fun _ _ _ h => h) (Or.inl ⟨by kernel_rfl, ?_⟩) (⟨xa, xb⟩) ?_
    rotate_left
    focus (intro W' hSw; obtain ⟨hx0, hx1⟩ := hSw; have hc0 := hx0.c0; have hc1 := hx0.c1; have hc2 := hx1.c0; have hc3 := hx1.c1; clear hx0 hx1; go_simp; (try with_reducible rfl))
    (try simp only [Act.put, List.setIfInBounds_toArray, List.set_cons_zero, List.set_cons_succ, List.getElem_toArray, List.getElem_cons_zero, List.getElem_cons_succ])
    refine wpAnyH_take (i := 1) (v := ?_) rfl (by kernel_rfl) (by kernel_rfl) (by kernel_rfl) (fun _ _ _ h => h) (Or.inl ⟨by kernel_rfl, ?_⟩) (⟨xa, xb⟩) ?_
    rotate_left
    focus (intro W' hSw; obtain ⟨hx0, hx1⟩ := hSw; have hc0 := hx0.c0; have hc1 := hx0.c1; have hc2 := hx1.c0; have hc3 := hx1.c1; clear hx0 hx1; go_simp; (try with_reducible rfl))
    (try simp only [Act.put, List.setIfInBounds_toArray, List.set_cons_zero, List.set_cons_succ, List.getElem_toArray, List.getElem_cons_zero, List.getElem_cons_succ])
    refine wpAnyH_take (i := 2) (v := ?_) rfl (by kernel_rfl) (by kernel_rfl) (by kernel_rfl) (fun _ _ _ h => h) (Or.inl ⟨by kernel_rfl, ?_⟩) (⟨xa, xb⟩) ?_
    rotate_left
    focus (intro W' hSw; obtain ⟨hx0, hx1⟩ := hSw; have hc0 := hx0.c0; have hc1 := hx0.c1; have hc2 := hx1.c0; have hc3 := hx1.c1; clear hx0 hx1; go_simp; (try with_reducible rfl))
    (try simp only [Act.put, List.setIfInBounds_toArray, List.set_cons_zero, List.set_cons_succ, List.getElem_toArray, List.getElem_cons_zero, List.getElem_cons_succ])
    refine wpAnyH_take (i := 3) (v := ?_) rfl (by kernel_rfl) (by kernel_rfl) (by kernel_rfl) (fun _ _ _ h => h) (Or.inl ⟨by kernel_rfl, ?_⟩) (⟨xa, xb⟩) ?_
    rotate_left
    focus (intro W' hSw; obtain ⟨hx0, hx1⟩ := hSw; have hc0 := hx0.c0; have hc1 := hx0.c1; have hc2 := hx1.c0; have hc3 := hx1.c1; clear hx0 hx1; go_simp; (try with_reducible rfl))
    (try simp only [Act.put, List.setIfInBounds_toArray, List.set_cons_zero, List.set_cons_succ, List.getElem_toArray, List.getElem_cons_zero, List.getElem_cons_succ])
    refine wpAnyH_take (i := 5) (v := ?_) rfl (by kernel_rfl) (by kernel_rfl) (by kernel_rfl) (fun _ _ _ h => h) (Or.inl ⟨by kernel_rfl, ?_⟩) (⟨xa, xb⟩) ?_
    rotate_left
    focus (intro W' hSw; obtain ⟨hx0, hx1⟩ := hSw; have hc0 := hx0.c0; have hc1 := hx0.c1; have hc2 := hx1.c0; have hc3 := hx1.c1; clear hx0 hx1; go_simp; (try with_reducible rfl))
    (try simp only [Act.put, List.setIfInBounds_toArray, List.set_cons_zero, List.set_cons_succ, List.getElem_toArray, List.getElem_cons_zero, List.getElem_cons_succ])
    refine wpAnyH_take (i := 6) (v := ?_) rfl (by kernel_rfl) (by kernel_rfl) (by kernel_rfl) (fun _ _ _ h => h) (Or.inl ⟨by kernel_rfl, ?_⟩) (⟨xa, xb⟩) ?_
    rotate_left
    focus (intro W' hSw; obtain ⟨hx0, hx1⟩ := hSw; have hc0 := hx0.c0; have hc1 := hx0.c1; have hc2 := hx1.c0; have hc3 := hx1.c1; clear hx0 hx1; go_simp; (try with_reducible rfl))
    (try simp only [Act.put, List.setIfInBounds_toArray, List.set_cons_zero, List.set_cons_succ, List.getElem_toArray, List.getElem_cons_zero, List.getElem_cons_succ])
    refine wpAnyH_take (i := 7) (v := ?_) rfl (by kernel_rfl) (by kernel_rfl) (by kernel_rfl) (fun _ _ _ h => h) (Or.inl ⟨by kernel_rfl, ?_⟩) (⟨xa, xb⟩) ?_
    rotate_left
    focus (intro W' hSw; obtain ⟨hx0, hx1⟩ := hSw; have hc0 := hx0.c0; have hc1 := hx0.c1; have hc2 := hx1.c0; have hc3 := hx1.c1; clear hx0 hx1; go_simp; (try with_reducible rfl))
    (try simp only [Act.put, List.setIfInBounds_toArray, List.set_cons_zero, List.set_cons_succ, List.getElem_toArray, List.getElem_cons_zero, List.getElem_cons_succ])
    refine wpAnyH_take (i := 8) (v := ?_) rfl (by kernel_rfl) (by kernel_rfl) (by kernel_rfl) (fun _ _ _ h => h) (Or.inl ⟨by kernel_rfl, ?_⟩) (⟨xa, xb⟩) ?_
    rotate_left
    focus (intro W' hSw; obtain ⟨hx0, hx1⟩ := hSw; have hc0 := hx0.c0; have hc1 := hx0.c1; have hc2 := hx1.c0; have hc3 := hx1.c1; clear hx0 hx1; go_simp; (try with_reducible rfl))
    (try simp only [Act.put, List.setIfInBounds_toArray, List.set_cons_zero, List.set_cons_succ, List.getElem_toArray, List.getElem_cons_zero, List.getElem_cons_succ])
    refine wpAnyH_ready (rs := [4, 12]) (by kernel_rfl) (by simp) ?_
    refine AllReadyH.cons rfl (fun K hK => ?_) (AllReadyH.cons rfl (fun K hK => ?_) (AllReadyH.nil))
    · go_simp
      go_at_call 122; (with_reducible refine (HP1.out _).mono ?_)

      rintro e Wp ⟨rfl, hb⟩
      replace xa := xa.go hb
      replace xb := xb.go hb
      replace h0 := bel_go h0 h0.size hb
      clear hb
      refine hK.out _ _ (⟨xa, xb⟩) (fun _ => ?_)
      clear hK K
      (try simp only [Act.put, List.setIfInBounds_toArray, List.set_cons_zero, List.set_cons_succ, List.getElem_toArray, List.getElem_cons_zero, List.getElem_cons_succ])
      refine wpAnyH_ready (rs := [9, 12]) (by kernel_rfl) (by simp) ?_
      refine AllReadyH.cons rfl (fun K hK => ?_) (AllReadyH.cons rfl (fun K hK => ?_) (AllReadyH.nil))
      · go_simp
        go_at_call 122; (with_reducible refine (HP2.out _).mono ?_)

        rintro e Wq ⟨rfl, hb⟩
        replace xa := xa.go hb
        replace xb := xb.go hb
        replace h0 := bel_go h0 h0.size hb
        clear hb
        refine hK.out _ _ (⟨xa, xb⟩) (fun _ => ?_)
        clear hK K
        (try simp only [Act.put, List.setIfInBounds_toArray, List.set_cons_zero, List.set_cons_succ, List.getElem_toArray, List.getElem_cons_zero, List.getElem_cons_succ])
        refine wpAnyH_ready (rs := [10, 12]) (by kernel_rfl) (by simp) ?_
        refine AllReadyH.cons rfl (fun K hK => ?_) (AllReadyH.cons rfl (fun K hK => ?_) (AllReadyH.nil))
        · go_simp
          go_at_call 169; (with_reducible refine (HNG.out _).mono ?_)

          rintro e Wn ⟨rfl, hb⟩
          replace xa := xa.go hb
          replace xb := xb.go hb
          replace h0 := bel_go h0 h0.size hb
          clear hb
          refine hK.out _ _ (⟨xa, xb⟩) (fun _ => ?_)
          clear hK K
          (try simp only [Act.put, List.setIfInBounds_toArray, List.set_cons_zero, List.set_cons_succ, List.getElem_toArray, List.getElem_cons_zero, List.getElem_cons_succ])
          refine wpAnyH_ready (rs := [11, 12]) (by kernel_rfl) (by simp) ?_
          refine AllReadyH.cons rfl (fun K hK => ?_) (AllReadyH.cons rfl (fun K hK => ?_) (AllReadyH.nil))
          · go_simp
            go_at_call 130; (with_reducible refine (HPL.out _).mono ?_)

            rintro e Wr ⟨rfl, hb⟩
            replace xa := xa.go hb
            replace xb := xb.go hb
            replace h0 := bel_go h0 h0.size hb
            clear hb
            refine hK.out _ _ (⟨xa, xb⟩) (fun _ => ?_)
            clear hK K
            (try simp only [Act.put, List.setIfInBounds_toArray, List.set_cons_zero, List.set_cons_succ, List.getElem_toArray, List.getElem_cons_zero, List.getElem_cons_succ])
            refine wpAnyH_ready (rs := [12]) (by kernel_rfl) (by simp) ?_
            refine AllReadyH.cons rfl (fun K hK => ?_) (AllReadyH.nil)
            go_simp
            have hal : Below Wr.heap.size Wr (Wr.alloc (.cells #[.int .i64 0, .int .u64 0] 134)) := (Below.refl _ _).alloc (Nat.le_refl _) _
            have xs := Bx.new Wr 134 (.int .i64 0) (.int .u64 0)
            have sl_xs := Lib.hid (show w.heap.size ≤ Wr.heap.size from h0.size)
            have l_xs_xa := Lib.hid xa.lt
            have l_xs_xb := Lib.hid xb.lt
            replace xa := xa.go hal
            replace xb := xb.go hal
            replace h0 := bel_go h0 h0.size hal
            clear hal
            generalize Wr.heap.size = Bxs at xs sl_xs l_xs_xa l_xs_xb ⊢
            generalize Wr.alloc (.cells #[.int .i64 0, .int .u64 0] 134) = Vxs at xa xb xs h0 ⊢
            refine hK.out _ _ (⟨xa, xb⟩) (fun _ => ?_)
            clear hK K
            (try simp only [Act.put, List.setIfInBounds_toArray, List.set_cons_zero, List.set_cons_succ, List.getElem_toArray, List.getElem_cons_zero, List.getElem_cons_succ])
            refine wpAnyH_done (by kernel_rfl) ?_ _
            refine still1_step rfl (fun K hK => ?_)
            have hq0 := xs.c0
            have hq1 := xs.c1
            have hr0 := xs.f0
            have hr1 := xs.f1
            go_simp
            clear hq0 hq1 hr0 hr1
            have hP := put2 Vxs (Bxs) (.int .i64 sh) (.int .u64 sl)
            have hN := xs.stored (.int .i64 sh) (.int .u64 sl)
            generalize (Vxs.setCell ⟨Bxs, 0, none⟩ (.int .i64 sh)).setCell ⟨Bxs, 1, none⟩ (.int .u64 sl) = W3 at hP hN ⊢
            replace h0 := bel_put h0 (by have := sl_xs.out; omega) hP
            replace xa := xa.put hP (by have := l_xs_xa.out; omega)
            replace xb := xb.put hP (by have := l_xs_xb.out; omega)
            clear hP xs
            have xs := hN
            clear hN
            refine hK.out _ _ ?_
            clear hK K
            (try simp only [Act.put, List.setIfInBounds_toArray, List.set_cons_zero, List.set_cons_succ, List.getElem_toArray, List.getElem_cons_zero, List.getElem_cons_succ])
            go_wp2_with fail
            go_meet
            case rel => exact ⟨_, rfl, xs, sl_xs.out, h0⟩
          · go_simp
            have hal : Below Wn.heap.size Wn (Wn.alloc (.cells #[.int .i64 0, .int .u64 0] 134)) := (Below.refl _ _).alloc (Nat.le_refl _) _
            have xs := Bx.new Wn 134 (.int .i64 0) (.int .u64 0)
            have sl_xs := Lib.hid (show w.heap.size ≤ Wn.heap.size from h0.size)
            have l_xs_xa := Lib.hid xa.lt
            have l_xs_xb := Lib.hid xb.lt
            replace xa := xa.go hal
            replace xb := xb.go hal
            replace h0 := bel_go h0 h0.size hal
            clear hal
            generalize Wn.heap.size = Bxs at xs sl_xs l_xs_xa l_xs_xb ⊢
            generalize Wn.alloc (.cells #[.int .i64 0, .int .u64 0] 134) = Vxs at xa xb xs h0 ⊢
            refine hK.out _ _ (⟨xa, xb⟩) (fun _ => ?_)
            clear hK K
            (try simp only [Act.put, List.setIfInBounds_toArray, List.set_cons_zero, List.set_cons_succ, List.getElem_toArray, List.getElem_cons_zero, List.getElem_cons_succ])
            refine wpAnyH_ready (rs := [11]) (by kernel_rfl) (by simp) ?_
            refine AllReadyH.cons rfl (fun K hK => ?_) (AllReadyH.nil)
            go_simp
            go_at_call 130; (with_reducible refine (HPL.out _).mono ?_)

            rintro e Wr ⟨rfl, hb⟩
            replace xa := xa.go hb
            replace xb := xb.go hb
            replace xs := xs.go hb
            replace h0 := bel_go h0 h0.size hb
            clear hb
            refine hK.out _ _ (⟨xa, xb⟩) (fun _ => ?_)
            clear hK K
            (try simp only [Act.put, List.setIfInBounds_toArray, List.set_cons_zero, List.set_cons_succ, List.getElem_toArray, List.getElem_cons_zero, List.getElem_cons_succ])
            refine wpAnyH_done (by kernel_rfl) ?_ _
            refine still1_step rfl (fun K hK => ?_)
            have hq0 := xs.c0
            have hq1 := xs.c1
            have hr0 := xs.f0
            have hr1 := xs.f1
            go_simp
            clear hq0 hq1 hr0 hr1
            have hP := put2 Wr (Bxs) (.int .i64 sh) (.int .u64 sl)
            have hN := xs.stored (.int .i64 sh) (.int .u64 sl)
            generalize (Wr.setCell ⟨Bxs, 0, none⟩ (.int .i64 sh)).setCell ⟨Bxs, 1, none⟩ (.int .u64 sl) = W3 at hP hN ⊢
            replace h0 := bel_put h0 (by have := sl_xs.out; omega) hP
            replace xa := xa.put hP (by have := l_xs_xa.out; omega)
            replace xb := xb.put hP (by have := l_xs_xb.out; omega)
            clear hP xs
            have xs := hN
            clear hN
            refine hK.out _ _ ?_
            clear hK K
            (try simp only [Act.put, List.setIfInBounds_toArray, List.set_cons_zero, List.set_cons_succ, List.getElem_toArray, List.getElem_cons_zero, List.getElem_cons_succ])
            go_wp2_with fail
            go_meet
            case rel => exact ⟨_, rfl, xs, sl_xs.out, h0⟩
        · go_simp
          have hal : Below Wq.heap.size Wq (Wq.alloc (.cells #[.int .i64 0, .int .u64 0] 134)) := (Below.refl _ _).alloc (Nat.le_refl _) _
          have xs := Bx.new Wq 134 (.int .i64 0) (.int .u64 0)
          have sl_xs := Lib.hid (show w.heap.size ≤ Wq.heap.size from h0.size)
          have l_xs_xa := Lib.hid xa.lt
          have l_xs_xb := Lib.hid xb.lt
          replace xa := xa.go hal
          replace xb := xb.go hal
          replace h0 := bel_go h0 h0.size hal
          clear hal
          generalize Wq.heap.size = Bxs at xs sl_xs l_xs_xa l_xs_xb ⊢
          generalize Wq.alloc (.cells #[.int .i64 0, .int .u64 0] 134) = Vxs at xa xb xs h0 ⊢
          refine hK.out _ _ (⟨xa, xb⟩) (fun _ => ?_)
          clear hK K
          (try simp only [Act.put, List.setIfInBounds_toArray, List.set_cons_zero, List.set_cons_succ, List.getElem_toArray, List.getElem_cons_zero, List.getElem_cons_succ])
          refine wpAnyH_ready (rs := [10]) (by kernel_rfl) (by simp) ?_
          refine AllReadyH.cons rfl (fun K hK => ?_) (AllReadyH.nil)
          go_simp
          go_at_call 169; (with_reducible refine (HNG.out _).mono ?_)

          rintro e Wn ⟨rfl, hb⟩
          replace xa := xa.go hb
          replace xb := xb.go hb
          replace xs := xs.go hb
          replace h0 := bel_go h0 h0.size hb
          clear hb
          refine hK.out _ _ (⟨xa, xb⟩) (fun _ => ?_)
          clear hK K
          (try simp only [Act.put, List.setIfInBounds_toArray, List.set_cons_zero, List.set_cons_succ, List.getElem_toArray, List.getElem_cons_zero, List.getElem_cons_succ])
          refine wpAnyH_ready (rs := [11]) (by kernel_rfl) (by simp) ?_
          refine AllReadyH.cons rfl (fun K hK => ?_) (AllReadyH.nil)
          go_simp
          go_at_call 130; (with_reducible refine (HPL.out _).mono ?_)

          rintro e Wr ⟨rfl, hb⟩
          replace xa := xa.go hb
          replace xb := xb.go hb
          replace xs := xs.go hb
          replace h0 := bel_go h0 h0.size hb
          clear hb
          refine hK.out _ _ (⟨xa, xb⟩) (fun _ => ?_)
          clear hK K
          (try simp only [Act.put, List.setIfInBounds_toArray, List.set_cons_zero, List.set_cons_succ, List.getElem_toArray, List.getElem_cons_zero, List.getElem_cons_succ])
          refine wpAnyH_done (by kernel_rfl) ?_ _
          refine still1_step rfl (fun K hK => ?_)
          have hq0 := xs.c0
          have hq1 := xs.c1
          have hr0 := xs.f0
          have hr1 := xs.f1
          go_simp
          clear hq0 hq1 hr0 hr1
          have hP := put2 Wr (Bxs) (.int .i64 sh) (.int .u64 sl)
          have hN := xs.stored (.int .i64 sh) (.int .u64 sl)
          generalize (Wr.setCell ⟨Bxs, 0, none⟩ (.int .i64 sh)).setCell ⟨Bxs, 1, none⟩ (.int .u64 sl) = W3 at hP hN ⊢
          replace h0 := bel_put h0 (by have := sl_xs.out; omega) hP
          replace xa := xa.put hP (by have := l_xs_xa.out; omega)
          replace xb := xb.put hP (by have := l_xs_xb.out; omega)
          clear hP xs
          have xs := hN
          clear hN
          refine hK.out _ _ ?_
          clear hK K
          (try simp only [Act.put, List.setIfInBounds_toArray, List.set_cons_zero, List.set_cons_succ, List.getElem_toArray, List.getElem_cons_zero, List.getElem_cons_succ])
          go_wp2_with fail
          go_meet
          case rel => exact ⟨_, rfl, xs, sl_xs.out, h0⟩
      · go_simp
        have hal : Below Wp.heap.size Wp (Wp.alloc (.cells #[.int .i64 0, .int .u64 0] 134)) := (Below.refl _ _).alloc (Nat.le_refl _) _
        have xs := Bx.new Wp 134 (.int .i64 0) (.int .u64 0)
        have sl_xs := Lib.hid (show w.heap.size ≤ Wp.heap.size from h0.size)
        have l_xs_xa := Lib.hid xa.lt
        have l_xs_xb := Lib.hid xb.lt
        replace xa := xa.go hal
        replace xb := xb.go hal
        replace h0 := bel_go h0 h0.size hal
        clear hal
        generalize Wp.heap.size = Bxs at xs sl_xs l_xs_xa l_xs_xb ⊢
        generalize Wp.alloc (.cells #[.int .i64 0, .int .u64 0] 134) = Vxs at xa xb xs h0 ⊢
        refine hK.out _ _ (⟨xa, xb⟩) (fun _ => ?_)
        clear hK K
        (try simp only [Act.put, List.setIfInBounds_toArray, List.set_cons_zero, List.set_cons_succ, List.getElem_toArray, List.getElem_cons_zero, List.getElem_cons_succ])
        refine wpAnyH_ready (rs := [9]) (by kernel_rfl) (by simp) ?_
        refine AllReadyH.cons rfl (fun K hK => ?_) (AllReadyH.nil)
        go_simp
        go_at_call 122; (with_reducible refine (HP2.out _).mono ?_)

        rintro e Wq ⟨rfl, hb⟩
        replace xa := xa.go hb
        replace xb := xb.go hb
        replace xs := xs.go hb
        replace h0 := bel_go h0 h0.size hb
        clear hb
        refine hK.out _ _ (⟨xa, xb⟩) (fun _ => ?_)
        clear hK K
        (try simp only [Act.put, List.setIfInBounds_toArray, List.set_cons_zero, List.set_cons_succ, List.getElem_toArray, List.getElem_cons_zero, List.getElem_cons_succ])
        refine wpAnyH_ready (rs := [10]) (by kernel_rfl) (by simp) ?_
        refine AllReadyH.cons rfl (fun K hK => ?_) (AllReadyH.nil)
        go_simp
        go_at_call 169; (with_reducible refine (HNG.out _).mono ?_)

        rintro e Wn ⟨rfl, hb⟩
        replace xa := xa.go hb
        replace xb := xb.go hb
        replace xs := xs.go hb
        replace h0 := bel_go h0 h0.size hb
        clear hb
        refine hK.out _ _ (⟨xa, xb⟩) (fun _ => ?_)
        clear hK K
        (try simp only [Act.put, List.setIfInBounds_toArray, List.set_cons_zero, List.set_cons_succ, List.getElem_toArray, List.getElem_cons_zero, List.getElem_cons_succ])
        refine wpAnyH_ready (rs := [11]) (by kernel_rfl) (by simp) ?_
        refine AllReadyH.cons rfl (fun K hK => ?_) (AllReadyH.nil)
        go_simp
        go_at_call 130; (with_reducible refine (HPL.out _).mono ?_)

        rintro e Wr ⟨rfl, hb⟩
        replace xa := xa.go hb
        replace xb := xb.go hb
        replace xs := xs.go hb
        replace h0 := bel_go h0 h0.size hb
        clear hb
        refine hK.out _ _ (⟨xa, xb⟩) (fun _ => ?_)
        clear hK K
        (try simp only [Act.put, List.setIfInBounds_toArray, List.set_cons_zero, List.set_cons_succ, List.getElem_toArray, List.getElem_cons_zero, List.getElem_cons_succ])
        refine wpAnyH_done (by kernel_rfl) ?_ _
        refine still1_step rfl (fun K hK => ?_)
        have hq0 := xs.c0
        have hq1 := xs.c1
        have hr0 := xs.f0
        have hr1 := xs.f1
        go_simp
        clear hq0 hq1 hr0 hr1
        have hP := put2 Wr (Bxs) (.int .i64 sh) (.int .u64 sl)
        have hN := xs.stored (.int .i64 sh) (.int .u64 sl)
        generalize (Wr.setCell ⟨Bxs, 0, none⟩ (.int .i64 sh)).setCell ⟨Bxs, 1, none⟩ (.int .u64 sl) = W3 at hP hN ⊢
        replace h0 := bel_put h0 (by have := sl_xs.out; omega) hP
        replace xa := xa.put hP (by have := l_xs_xa.out; omega)
        replace xb := xb.put hP (by have := l_xs_xb.out; omega)
        clear hP xs
        have xs := hN
        clear hN
        refine hK.out _ _ ?_
        clear hK K
        (try simp only [Act.put, List.setIfInBounds_toArray, List.set_cons_zero, List.set_cons_succ, List.getElem_toArray, List.getElem_cons_zero, List.getElem_cons_succ])
        go_wp2_with fail
        go_meet
        case rel => exact ⟨_, rfl, xs, sl_xs.out, h0⟩
    · go_simp
      have hal : Below W.heap.size W (W.alloc (.cells #[.int .i64 0, .int .u64 0] 134)) := (Below.refl _ _).alloc (Nat.le_refl _) _
      have xs := Bx.new W 134 (.int .i64 0) (.int .u64 0)
      have sl_xs := Lib.hid (show w.heap.size ≤ W.heap.size from h0.size)
      have l_xs_xa := Lib.hid xa.lt
      have l_xs_xb := Lib.hid xb.lt
      replace xa := xa.go hal
      replace xb := xb.go hal
      replace h0 := bel_go h0 h0.size hal
      clear hal
      generalize W.heap.size = Bxs at xs sl_xs l_xs_xa l_xs_xb ⊢
      generalize W.alloc (.cells #[.int .i64 0, .int .u64 0] 134) = Vxs at xa xb xs h0 ⊢
      refine hK.out _ _ (⟨xa, xb⟩) (fun _ => ?_)
      clear hK K
      (try simp only [Act.put, List.setIfInBounds_toArray, List.set_cons_zero, List.set_cons_succ, List.getElem_toArray, List.getElem_cons_zero, List.getElem_cons_succ])
      refine wpAnyH_ready (rs := [4]) (by kernel_rfl) (by simp) ?_
      refine AllReadyH.cons rfl (fun K hK => ?_) (AllReadyH.nil)
      go_simp
      go_at_call 122; (with_reducible refine (HP1.out _).mono ?_)

      rintro e Wp ⟨rfl, hb⟩
      replace xa := xa.go hb
      replace xb := xb.go hb
      replace xs := xs.go hb
      replace h0 := bel_go h0 h0.size hb
      clear hb
      refine hK.out _ _ (⟨xa, xb⟩) (fun _ => ?_)
      clear hK K
      (try simp only [Act.put, List.setIfInBounds_toArray, List.set_cons_zero, List.set_cons_succ, List.getElem_toArray, List.getElem_cons_zero, List.getElem_cons_succ])
      refine wpAnyH_ready (rs := [9]) (by kernel_rfl) (by simp) ?_
      refine AllReadyH.cons rfl (fun K hK => ?_) (AllReadyH.nil)
      go_simp
      go_at_call 122; (with_reducible refine (HP2.out _).mono ?_)

      rintro e Wq ⟨rfl, hb⟩
      replace xa := xa.go hb
      replace xb := xb.go hb
      replace xs := xs.go hb
      replace h0 := bel_go h0 h0.size hb
      clear hb
      refine hK.out _ _ (⟨xa, xb⟩) (fun _ => ?_)
      clear hK K
      (try simp only [Act.put, List.setIfInBounds_toArray, List.set_cons_zero, List.set_cons_succ, List.getElem_toArray, List.getElem_cons_zero, List.getElem_cons_succ])
      refine wpAnyH_ready (rs := [10]) (by kernel_rfl) (by simp) ?_
      refine AllReadyH.cons rfl (fun K hK => ?_) (AllReadyH.nil)
      go_simp
      go_at_call 169; (with_reducible refine (HNG.out _).mono ?_)

      rintro e Wn ⟨rfl, hb⟩
      replace xa := xa.go hb
      replace xb := xb.go hb
      replace xs := xs.go hb
      replace h0 := bel_go h0 h0.size hb
      clear hb
      refine hK.out _ _ (⟨xa, xb⟩) (fun _ => ?_)
      clear hK K
      (try simp only [Act.put, List.setIfInBounds_toArray, List.set_cons_zero, List.set_cons_succ, List.getElem_toArray, List.getElem_cons_zero, List.getElem_cons_succ])
      refine wpAnyH_ready (rs := [11]) (by kernel_rfl) (by simp) ?_
      refine AllReadyH.cons rfl (fun K hK => ?_) (AllReadyH.nil)
      go_simp
      go_at_call 130; (with_reducible refine (HPL.out _).mono ?_)

      rintro e Wr ⟨rfl, hb⟩
      replace xa := xa.go hb
      replace xb := xb.go hb
      replace xs := xs.go hb
      replace h0 := bel_go h0 h0.size hb
      clear hb
      refine hK.out _ _ (⟨xa, xb⟩) (fun _ => ?_)
      clear hK K
      (try simp only [Act.put, List.setIfInBounds_toArray, List.set_cons_zero, List.set_cons_succ, List.getElem_toArray, List.getElem_cons_zero, List.getElem_cons_succ])
      refine wpAnyH_done (by kernel_rfl) ?_ _
      refine still1_step rfl (fun K hK => ?_)
      have hq0 := xs.c0
      have hq1 := xs.c1
      have hr0 := xs.f0
      have hr1 := xs.f1
      go_simp
      clear hq0 hq1 hr0 hr1
      have hP := put2 Wr (Bxs) (.int .i64 sh) (.int .u64 sl)
      have hN := xs.stored (.int .i64 sh) (.int .u64 sl)
      generalize (Wr.setCell ⟨Bxs, 0, none⟩ (.int .i64 sh)).setCell ⟨Bxs, 1, none⟩ (.int .u64 sl) = W3 at hP hN ⊢
      replace h0 := bel_put h0 (by have := sl_xs.out; omega) hP
      replace xa := xa.put hP (by have := l_xs_xa.out; omega)
      replace xb := xb.put hP (by have := l_xs_xb.out; omega)
      clear hP xs
      have xs := hN
      clear hN
      refine hK.out _ _ ?_
      clear hK K
      (try simp only [Act.put, List.setIfInBounds_toArray, List.set_cons_zero, List.set_cons_succ, List.getElem_toArray, List.getElem_cons_zero, List.getElem_cons_succ])
      go_wp2_with fail
      go_meet
      case rel => exact ⟨_, rfl, xs, sl_xs.out, h0⟩
  case rest =>
    clear xa xb h0
    obtain ⟨Bs, rfl, xs, hBs, h0⟩ := hcut
    rcases Int.lt_or_le D 0 with hn | hn
    · have hs0 : sh < 0 := HS.out.1 hn
      have hr := HLT.out hn
      clear hn
      have c_xs := xs.c0
      have d_xs := xs.c1
      have p_xs := xs.f0
      have q_xs := xs.f1
      go_wp2_with fail
      clear c_xs d_xs p_xs q_xs
      go_at_call 169; (with_reducible refine (HN2.out _).mono ?_)
      rintro e W4 ⟨rfl, hb⟩
      replace xs := xs.go hb
      replace h0 := bel_go h0 h0.size hb
      clear hb
      have c_xs := xs.c0
      have d_xs := xs.c1
      have p_xs := xs.f0
      have q_xs := xs.f1
      go_upto_region 4 with fail
      clear c_xs d_xs p_xs q_xs
      have hP := put2 W4 (Bs) (.int .i64 th) (.int .u64 tl)
      have hN := xs.stored (.int .i64 th) (.int .u64 tl)
      generalize (W4.setCell _ _).setCell _ _ = W5 at hP hN ⊢
      replace h0 := bel_put h0 (by omega) hP
      clear hP xs
      have xs := hN
      clear hN
      have c_xs := xs.c0
      have d_xs := xs.c1
      have p_xs := xs.f0
      have q_xs := xs.f1
      go_wp2_with fail
      clear c_xs d_xs p_xs q_xs
      go_ret
      exact ⟨rfl, h0⟩
    · have hs0 : 0 ≤ sh := HS.out.2 hn
      have hr := HLO.out hn
      clear hn
      have c_xs := xs.c0
      have d_xs := xs.c1
      have p_xs := xs.f0
      have q_xs := xs.f1
      go_wp2_with fail
      clear c_xs d_xs p_xs q_xs
      go_ret
      exact ⟨rfl, h0⟩
theorem fbox4 (w : World) (x1 y1 x2 y2 x3 y3 x4 y4 : Value) : ∃ W, W = (((w.alloc (.cells #[x1, y1] 76)).alloc (.cells #[x2, y2] 76)).alloc (.cells #[x3, y3] 76)).alloc (.cells #[x4, y4] 76) ∧ Below w.heap.size w W ∧ Bx W w.heap.size 76 x1 y1 ∧ Bx W (w.heap.size + 1) 76 x2 y2 ∧ Bx W (w.heap.size + 1 + 1) 76 x3 y3 ∧ Bx W (w.heap.size + 1 + 1 + 1) 76 x4 y4 := by
  obtain ⟨W, hW, h0, b1, b2, b3⟩ := fbox3 w x1 y1 x2 y2 x3 y3
  have e1 : W.heap.size = w.heap.size + 1 + 1 + 1 := by rw [hW]; simp
  have h4 := Bx.new W 76 x4 y4
  rw [e1] at h4
  exact ⟨_, by rw [hW], h0.alloc (by omega) _, b1.alloc _, b2.alloc _, b3.alloc _, h4⟩
/-- Is the second number nearer? -/
def nearB (n d p q P Q : Int) : Bool := decide (gp P Q n d * q < gp p q n d * Q)
set_option maxRecDepth 100000 in
set_option maxHeartbeats 4000000 in
theorem nearer_any (n d p q P Q : Int) (n1 : -9223372036854775808 ≤ n) (n2 : n ≤ 9223372036854775807) (d1 : -9223372036854775808 ≤ d) (d2 : d ≤ 9223372036854775807) (p1 : -9223372036854775808 ≤ p) (p2 : p ≤ 9223372036854775807) (q1 : -9223372036854775808 ≤ q) (q2 : q ≤ 9223372036854775807) (P1 : -9223372036854775808 ≤ P) (P2 : P ≤ 9223372036854775807) (Q1 : -9223372036854775808 ≤ Q) (Q2 : Q ≤ 9223372036854775807) (g1 : gp P Q n d ≤ 9223372036854775807) (g2 : gp p q n d ≤ 9223372036854775807) (w : World) :
    Calls Try.prog 133 #[fr n d, fr p q, fr P Q] w fun e w' => e = .returned (if nearB n d p q P Q = true then fr P Q else fr p q) ∧ Below w.heap.size w w' := by
  have HG1 := Lib.hid g1
  have HG2 := Lib.hid g2
  obtain ⟨u, hu⟩ : ∃ u, gp P Q n d = u := ⟨_, rfl⟩
  obtain ⟨v, hv⟩ : ∃ v, gp p q n d = v := ⟨_, rfl⟩
  have E1 := Lib.hid hu
  have E2 := Lib.hid hv
  have u0 : 0 ≤ u ∧ u ≤ 9223372036854775807 := by rw [hu] at g1; unfold gp at hu; omega
  have v0 : 0 ≤ v ∧ v ≤ 9223372036854775807 := by rw [hv] at g2; unfold gp at hv; omega
  have hnb : nearB n d p q P Q = decide (cmpI (u * q) (v * Q) < 0) := by
    unfold nearB; rw [hu, hv]; exact decide_eq_decide.2 cmpI_neg.symm
  rw [hnb]
  obtain ⟨k, hk⟩ : ∃ k, cmpI (u * q) (v * Q) = k := ⟨_, rfl⟩
  rw [hk]
  obtain ⟨A, B, hAB, hlo, hhi⟩ : ∃ A B, (if decide (k < 0) = true then fr P Q else fr p q) = fr A B ∧ (k < 0 → A = P ∧ B = Q) ∧ (0 ≤ k → A = p ∧ B = q) := by
    by_cases h : k < 0
    · exact ⟨P, Q, by rw [if_pos (decide_eq_true h)], fun _ => ⟨rfl, rfl⟩, fun h2 => by omega⟩
    · exact ⟨p, q, by rw [if_neg (by simpa using h)], fun h2 => absurd h2 h, fun _ => ⟨rfl, rfl⟩⟩
  rw [hAB]
  have HLO := Lib.hid hlo
  have HHI := Lib.hid hhi
  clear hlo hhi hAB
  obtain ⟨ph, hph⟩ : ∃ z, u * q / 18446744073709551616 = z := ⟨_, rfl⟩
  obtain ⟨pl, hpl⟩ : ∃ z, u * q % 18446744073709551616 = z := ⟨_, rfl⟩
  obtain ⟨rh, hrh⟩ : ∃ z, v * Q / 18446744073709551616 = z := ⟨_, rfl⟩
  obtain ⟨rl, hrl⟩ : ∃ z, v * Q % 18446744073709551616 = z := ⟨_, rfl⟩
  have HP1 : Hid (∀ w : World, Calls Try.prog 122 #[.int .i64 u, .int .i64 q] w fun e w' => e = .returned (.agg #[.int .i64 ph, .int .u64 pl]) ∧ Below w.heap.size w w') := by
    intro w
    have := prod_any u q (by omega) (by omega) q1 q2 w
    rw [wide, hph, hpl] at this
    exact this
  have HP2 : Hid (∀ w : World, Calls Try.prog 122 #[.int .i64 v, .int .i64 Q] w fun e w' => e = .returned (.agg #[.int .i64 rh, .int .u64 rl]) ∧ Below w.heap.size w w') := by
    intro w
    have := prod_any v Q (by omega) (by omega) Q1 Q2 w
    rw [wide, hrh, hrl] at this
    exact this
  have HCM : Hid (∀ w : World, Calls Try.prog 123 #[.agg #[.int .i64 ph, .int .u64 pl], .agg #[.int .i64 rh, .int .u64 rl]] w fun e w' => e = .returned (.int .i64 k) ∧ Below w.heap.size w w') := by
    intro w
    have := wcmp_any (u * q) (v * Q) w
    rw [hk, wide, wide, hph, hpl, hrh, hrl] at this
    exact this
  clear hph hpl hrh hrl hu hv hk hnb g1 g2 u0 v0
  obtain ⟨W, hW, h0, xx, xl, xn, xr⟩ := fbox4 w (.int .i64 n) (.int .i64 d) (.int .i64 p) (.int .i64 q) (.int .i64 P) (.int .i64 Q) (.int .i64 0) (.int .i64 0)
  have HW := Lib.hid hW
  clear hW
  go_enter Try.func133, Try.ntmps133
  go_wp2_with fail
  rw [← HW.out]
  clear HW
  refine wp_region_held_drew (S := fun W' => Bx W' (w.heap.size) 76 (.int .i64 n) (.int .i64 d) ∧ Bx W' (w.heap.size + 1) 76 (.int .i64 p) (.int .i64 q) ∧ Bx W' (w.heap.size + 1 + 1) 76 (.int .i64 P) (.int .i64 Q)) (by kernel_rfl) (⟨xx.drew, xl.drew, xn.drew⟩) (fun _ => ?_)
  replace xx := xx.drew
  replace xl := xl.drew
  replace xn := xn.drew
  replace xr := xr.drew
  replace h0 := Below.drew h0
  generalize W.drew = W at xx xl xn xr h0 ⊢
  refine wpAnyH_take (i := 0) (v := ?_) rfl (by kernel_rfl) (by kernel_rfl) (by kernel_rfl) (fun _ _ _ h => h) (Or.inl ⟨by kernel_rfl, ?_⟩) (⟨xx, xl, xn⟩) ?_
  rotate_left
  focus (intro W' hSw; obtain ⟨hx0, hx1, hx2⟩ := hSw; have hc0 := hx0.c0; have hc1 := hx0.c1; have hc2 := hx1.c0; have hc3 := hx1.c1; have hc4 := hx2.c0; have hc5 := hx2.c1; clear hx0 hx1 hx2; go_simp; (try with_reducible rfl))
  (try simp only [Act.put, List.setIfInBounds_toArray, List.set_cons_zero, List.set_cons_succ, List.getElem_toArray, List.getElem_cons_zero, List.getElem_cons_succ])
  refine wpAnyH_take (i := 1) (v := ?_) rfl (by kernel_rfl) (by kernel_rfl) (by kernel_rfl) (fun _ _ _ h => h) (Or.inl ⟨by kernel_rfl, ?_⟩) (⟨xx, xl, xn⟩) ?_
  rotate_left
  focus (intro W' hSw; obtain ⟨hx0, hx1, hx2⟩ := hSw; have hc0 := hx0.c0; have hc1 := hx0.c1; have hc2 := hx1.c0; have hc3 := hx1.c1; have hc4 := hx2.c0; have hc5 := hx2.c1; clear hx0 hx1 hx2; go_simp; (try with_reducible rfl))
  (try simp only [Act.put, List.setIfInBounds_toArray, List.set_cons_zero, List.set_cons_succ, List.getElem_toArray, List.getElem_cons_zero, List.getElem_cons_succ])
  refine wpAnyH_take (i := 3) (v := ?_) rfl (by kernel_rfl) (by kernel_rfl) (by kernel_rfl) (fun _ _ _ h => h) (Or.inl ⟨by kernel_rfl, ?_⟩) (⟨xx, xl, xn⟩) ?_
  rotate_left
  focus (intro W' hSw; obtain ⟨hx0, hx1, hx2⟩ := hSw; have hc0 := hx0.c0; have hc1 := hx0.c1; have hc2 := hx1.c0; have hc3 := hx1.c1; have hc4 := hx2.c0; have hc5 := hx2.c1; clear hx0 hx1 hx2; go_simp; (try with_reducible rfl))
  (try simp only [Act.put, List.setIfInBounds_toArray, List.set_cons_zero, List.set_cons_succ, List.getElem_toArray, List.getElem_cons_zero, List.getElem_cons_succ])
  refine wpAnyH_take (i := 4) (v := ?_) rfl (by kernel_rfl) (by kernel_rfl) (by kernel_rfl) (fun _ _ _ h => h) (Or.inl ⟨by kernel_rfl, ?_⟩) (⟨xx, xl, xn⟩) ?_
  rotate_left
  focus (intro W' hSw; obtain ⟨hx0, hx1, hx2⟩ := hSw; have hc0 := hx0.c0; have hc1 := hx0.c1; have hc2 := hx1.c0; have hc3 := hx1.c1; have hc4 := hx2.c0; have hc5 := hx2.c1; clear hx0 hx1 hx2; go_simp; (try with_reducible rfl))
  (try simp only [Act.put, List.setIfInBounds_toArray, List.set_cons_zero, List.set_cons_succ, List.getElem_toArray, List.getElem_cons_zero, List.getElem_cons_succ])
  refine wpAnyH_take (i := 6) (v := ?_) rfl (by kernel_rfl) (by kernel_rfl) (by kernel_rfl) (fun _ _ _ h => h) (Or.inl ⟨by kernel_rfl, ?_⟩) (⟨xx, xl, xn⟩) ?_
  rotate_left
  focus (intro W' hSw; obtain ⟨hx0, hx1, hx2⟩ := hSw; have hc0 := hx0.c0; have hc1 := hx0.c1; have hc2 := hx1.c0; have hc3 := hx1.c1; have hc4 := hx2.c0; have hc5 := hx2.c1; clear hx0 hx1 hx2; go_simp; (try with_reducible rfl))
  (try simp only [Act.put, List.setIfInBounds_toArray, List.set_cons_zero, List.set_cons_succ, List.getElem_toArray, List.getElem_cons_zero, List.getElem_cons_succ])
  refine wpAnyH_take (i := 7) (v := ?_) rfl (by kernel_rfl) (by kernel_rfl) (by kernel_rfl) (fun _ _ _ h => h) (Or.inl ⟨by kernel_rfl, ?_⟩) (⟨xx, xl, xn⟩) ?_
  rotate_left
  focus (intro W' hSw; obtain ⟨hx0, hx1, hx2⟩ := hSw; have hc0 := hx0.c0; have hc1 := hx0.c1; have hc2 := hx1.c0; have hc3 := hx1.c1; have hc4 := hx2.c0; have hc5 := hx2.c1; clear hx0 hx1 hx2; go_simp; (try with_reducible rfl))
  (try simp only [Act.put, List.setIfInBounds_toArray, List.set_cons_zero, List.set_cons_succ, List.getElem_toArray, List.getElem_cons_zero, List.getElem_cons_succ])
  refine wpAnyH_take (i := 9) (v := ?_) rfl (by kernel_rfl) (by kernel_rfl) (by kernel_rfl) (fun _ _ _ h => h) (Or.inl ⟨by kernel_rfl, ?_⟩) (⟨xx, xl, xn⟩) ?_
  rotate_left
  focus (intro W' hSw; obtain ⟨hx0, hx1, hx2⟩ := hSw; have hc0 := hx0.c0; have hc1 := hx0.c1; have hc2 := hx1.c0; have hc3 := hx1.c1; have hc4 := hx2.c0; have hc5 := hx2.c1; clear hx0 hx1 hx2; go_simp; (try with_reducible rfl))
  (try simp only [Act.put, List.setIfInBounds_toArray, List.set_cons_zero, List.set_cons_succ, List.getElem_toArray, List.getElem_cons_zero, List.getElem_cons_succ])
  refine wpAnyH_take (i := 10) (v := ?_) rfl (by kernel_rfl) (by kernel_rfl) (by kernel_rfl) (fun _ _ _ h => h) (Or.inl ⟨by kernel_rfl, ?_⟩) (⟨xx, xl, xn⟩) ?_
  rotate_left
  focus (intro W' hSw; obtain ⟨hx0, hx1, hx2⟩ := hSw; have hc0 := hx0.c0; have hc1 := hx0.c1; have hc2 := hx1.c0; have hc3 := hx1.c1; have hc4 := hx2.c0; have hc5 := hx2.c1; clear hx0 hx1 hx2; go_simp; (try with_reducible rfl))
  (try simp only [Act.put, List.setIfInBounds_toArray, List.set_cons_zero, List.set_cons_succ, List.getElem_toArray, List.getElem_cons_zero, List.getElem_cons_succ])
  refine wpAnyH_ready (rs := [2]) (by kernel_rfl) (by simp) ?_
  refine AllReadyH.cons rfl (fun K hK => ?_) (AllReadyH.nil)
  go_simp
  go_at_call 153; (with_reducible refine (gap_any P Q n d P1 P2 Q1 Q2 n1 n2 d1 d2 HG1.out _).mono ?_)
  rw [E1.out]
  rintro e Y1 ⟨rfl, hb⟩
  replace xx := xx.go hb
  replace xl := xl.go hb
  replace xn := xn.go hb
  replace xr := xr.go hb
  replace h0 := bel_go h0 h0.size hb
  clear hb
  refine hK.out _ _ (⟨xx, xl, xn⟩) (fun _ => ?_)
  clear hK K
  (try simp only [Act.put, List.setIfInBounds_toArray, List.set_cons_zero, List.set_cons_succ, List.getElem_toArray, List.getElem_cons_zero, List.getElem_cons_succ])
  refine wpAnyH_ready (rs := [5]) (by kernel_rfl) (by simp) ?_
  refine AllReadyH.cons rfl (fun K hK => ?_) (AllReadyH.nil)
  go_simp
  go_at_call 122; (with_reducible refine (HP1.out _).mono ?_)

  rintro e Y2 ⟨rfl, hb⟩
  replace xx := xx.go hb
  replace xl := xl.go hb
  replace xn := xn.go hb
  replace xr := xr.go hb
  replace h0 := bel_go h0 h0.size hb
  clear hb
  refine hK.out _ _ (⟨xx, xl, xn⟩) (fun _ => ?_)
  clear hK K
  (try simp only [Act.put, List.setIfInBounds_toArray, List.set_cons_zero, List.set_cons_succ, List.getElem_toArray, List.getElem_cons_zero, List.getElem_cons_succ])
  refine wpAnyH_ready (rs := [8]) (by kernel_rfl) (by simp) ?_
  refine AllReadyH.cons rfl (fun K hK => ?_) (AllReadyH.nil)
  go_simp
  go_at_call 153; (with_reducible refine (gap_any p q n d p1 p2 q1 q2 n1 n2 d1 d2 HG2.out _).mono ?_)
  rw [E2.out]
  rintro e Y3 ⟨rfl, hb⟩
  replace xx := xx.go hb
  replace xl := xl.go hb
  replace xn := xn.go hb
  replace xr := xr.go hb
  replace h0 := bel_go h0 h0.size hb
  clear hb
  refine hK.out _ _ (⟨xx, xl, xn⟩) (fun _ => ?_)
  clear hK K
  (try simp only [Act.put, List.setIfInBounds_toArray, List.set_cons_zero, List.set_cons_succ, List.getElem_toArray, List.getElem_cons_zero, List.getElem_cons_succ])
  refine wpAnyH_ready (rs := [11]) (by kernel_rfl) (by simp) ?_
  refine AllReadyH.cons rfl (fun K hK => ?_) (AllReadyH.nil)
  go_simp
  go_at_call 122; (with_reducible refine (HP2.out _).mono ?_)

  rintro e Y4 ⟨rfl, hb⟩
  replace xx := xx.go hb
  replace xl := xl.go hb
  replace xn := xn.go hb
  replace xr := xr.go hb
  replace h0 := bel_go h0 h0.size hb
  clear hb
  refine hK.out _ _ (⟨xx, xl, xn⟩) (fun _ => ?_)
  clear hK K
  (try simp only [Act.put, List.setIfInBounds_toArray, List.set_cons_zero, List.set_cons_succ, List.getElem_toArray, List.getElem_cons_zero, List.getElem_cons_succ])
  refine wpAnyH_ready (rs := [12]) (by kernel_rfl) (by simp) ?_
  refine AllReadyH.cons rfl (fun K hK => ?_) (AllReadyH.nil)
  go_simp
  go_at_call 123; (with_reducible refine (HCM.out _).mono ?_)

  rintro e Y5 ⟨rfl, hb⟩
  replace xx := xx.go hb
  replace xl := xl.go hb
  replace xn := xn.go hb
  replace xr := xr.go hb
  replace h0 := bel_go h0 h0.size hb
  clear hb
  refine hK.out _ _ (⟨xx, xl, xn⟩) (fun _ => ?_)
  clear hK K
  (try simp only [Act.put, List.setIfInBounds_toArray, List.set_cons_zero, List.set_cons_succ, List.getElem_toArray, List.getElem_cons_zero, List.getElem_cons_succ])
  refine wpAnyH_take (i := 13) (v := ?_) rfl (by kernel_rfl) (by kernel_rfl) (by kernel_rfl) (fun _ _ _ h => h) (Or.inl ⟨by kernel_rfl, ?_⟩) (⟨xx, xl, xn⟩) ?_
  rotate_left
  focus (intro W' hSw; obtain ⟨hx0, hx1, hx2⟩ := hSw; have hc0 := hx0.c0; have hc1 := hx0.c1; have hc2 := hx1.c0; have hc3 := hx1.c1; have hc4 := hx2.c0; have hc5 := hx2.c1; clear hx0 hx1 hx2; go_simp; (try with_reducible rfl))
  (try simp only [Act.put, List.setIfInBounds_toArray, List.set_cons_zero, List.set_cons_succ, List.getElem_toArray, List.getElem_cons_zero, List.getElem_cons_succ])
  refine wpAnyH_done (by kernel_rfl) ?_ _
  rcases Int.lt_or_le k 0 with hk0 | hk0
  · obtain ⟨rfl, rfl⟩ := HLO.out hk0
    have c_xr := xr.c0
    have d_xr := xr.c1
    have p_xr := xr.f0
    have q_xr := xr.f1
    have c_xn := xn.c0
    have d_xn := xn.c1
    have p_xn := xn.f0
    have q_xn := xn.f1
    go_wp2_with fail
    clear c_xr d_xr p_xr q_xr c_xn d_xn p_xn q_xn
    have hP := put2 Y5 (w.heap.size + 1 + 1 + 1) (.int .i64 A) (.int .i64 B)
    have hN := xr.stored (.int .i64 A) (.int .i64 B)
    generalize (Y5.setCell _ _).setCell _ _ = Y6 at hP hN ⊢
    replace h0 := bel_put h0 (by omega) hP
    clear hP xr
    have xr := hN
    clear hN
    have e0 := xr.c0
    have e1 := xr.c1
    exact bodyPost_ret (v := fr A B) (by simp [results, Try.results133, go_sem, e0, e1]) rfl ⟨rfl, h0⟩
  · obtain ⟨rfl, rfl⟩ := HHI.out hk0
    have c_xr := xr.c0
    have d_xr := xr.c1
    have p_xr := xr.f0
    have q_xr := xr.f1
    have c_xl := xl.c0
    have d_xl := xl.c1
    have p_xl := xl.f0
    have q_xl := xl.f1
    go_wp2_with fail
    clear c_xr d_xr p_xr q_xr c_xl d_xl p_xl q_xl
    have hP := put2 Y5 (w.heap.size + 1 + 1 + 1) (.int .i64 A) (.int .i64 B)
    have hN := xr.stored (.int .i64 A) (.int .i64 B)
    generalize (Y5.setCell _ _).setCell _ _ = Y6 at hP hN ⊢
    replace h0 := bel_put h0 (by omega) hP
    clear hP xr
    have xr := hN
    clear hN
    have e0 := xr.c0
    have e1 := xr.c1
    exact bodyPost_ret (v := fr A B) (by simp [results, Try.results133, go_sem, e0, e1]) rfl ⟨rfl, h0⟩
end Go.Proofs.Ytdhodjbomepfbaa

