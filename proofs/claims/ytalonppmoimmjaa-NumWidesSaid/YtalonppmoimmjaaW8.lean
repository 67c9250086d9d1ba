/-
  The walk of the law NumWides.
  Conditions: those of each theorem.
-/
import Derived.Test.YtalonppmoimmjaaW7
set_option linter.unusedSimpArgs false
set_option linter.unusedVariables false
namespace Go.Proofs.Ytalonppmoimmjaa
open Go.RowKit Go.Shelf Zd Wd

theorem w128_mod (x : Int) : (w128 x - x) % 2 ^ (16 * 8) = 0 := by
  have e : (2 : Int) ^ (16 * 8) = 340282366920938463463374607431768211456 := by decide
  rw [e]
  unfold w128
  omega
theorem inW_len {n : Int} (hn : InW n) : (digs n.natAbs).length ≤ 50 := by
  obtain ⟨n1, n2⟩ := hn
  exact Nat.le_trans (digs_len (k := 7) (by omega)) (by omega)

set_option maxRecDepth 100000 in
set_option maxHeartbeats 16000000 in
theorem numWides_law (a : Int) (a1 : -9223372036854775808 ≤ a) (a2 : a ≤ 9223372036854775807) (b : Int) (b1 : -9223372036854775808 ≤ b) (b2 : b ≤ 9223372036854775807) (n : Int) (hn : InW n) (m : Int) (hm : InW m) (w : World) :
    Calls Try.prog 8 #[.int .i64 a, .int .i64 b, wide n, wide m] w fun e w' => e = .returned (.bool true) ∧ Below w.heap.size w w' := by
  have hab := mul_in a1 a2 b1 b2
  have sp2 : (digs a.natAbs).length + (digs b.natAbs).length ≤ 1999999 := by have := dlen64 a1 a2; have := dlen64 b1 b2; omega
  have sp : Sm (a * b) := sm_le (dlen_mulI (dlen64 a1 a2) (dlen64 b1 b2)) (by omega)
  have sn : Sm n := sm_le (inW_len hn) (by omega)
  have sm : Sm m := sm_le (inW_len hm) (by omega)
  have ln1 : (digs (-n).natAbs).length ≤ 100 := Nat.le_trans (dlen_negI (inW_len hn)) (by omega)
  have ln2 : (digs (n + m).natAbs).length ≤ 100 := Nat.le_trans (dlen_addI (inW_len hn) (inW_len hm)) (by omega)
  have MD1 := Lib.hid (w128_mod (-n))
  have MD2 := Lib.hid (w128_mod (n + m))
  have hk1 : (cmpI (a * b) (a * b) == 0) = true := by rw [cmpI_eq rfl]; rfl
  have hk3 : (cmpI n m == cmpI n m) = true := by simp
  obtain ⟨h, hh⟩ : ∃ h, n / 18446744073709551616 = h := ⟨_, rfl⟩
  obtain ⟨l, hl⟩ : ∃ l, n % 18446744073709551616 = l := ⟨_, rfl⟩
  obtain ⟨h', hh'⟩ : ∃ h, m / 18446744073709551616 = h := ⟨_, rfl⟩
  obtain ⟨l', hl'⟩ : ∃ l, m % 18446744073709551616 = l := ⟨_, rfl⟩
  have ew : Hid (wide n = .agg #[.int .i64 h, .int .u64 l]) := by unfold Hid; rw [← hh, ← hl]
  have ev : Hid (wide m = .agg #[.int .i64 h', .int .u64 l']) := by unfold Hid; rw [← hh', ← hl']
  rw [ew.out, ev.out]
  clear hh hl hh' hl'
  have hwN := Lib.hid (show ∀ W : World, Calls Try.prog 47 #[.agg #[.int .i64 h, .int .u64 l]] W fun e w' => ∃ u, e = .returned u ∧ IsZ w' u n ∧ Below W.heap.size W w' from fun W => by rw [← ew.out]; exact wideof_any n hn W)
  have hwM := Lib.hid (show ∀ W : World, Calls Try.prog 47 #[.agg #[.int .i64 h', .int .u64 l']] W fun e w' => ∃ u, e = .returned u ∧ IsZ w' u m ∧ Below W.heap.size W w' from fun W => by rw [← ev.out]; exact wideof_any m hm W)
  have hng := Lib.hid (show ∀ W : World, Calls Try.prog 51 #[.agg #[.int .i64 h, .int .u64 l]] W fun e w' => e = .returned (wide (w128 (-n))) ∧ Below W.heap.size W w' from fun W => by rw [← ew.out]; exact neg_any n hn W)
  have hpl := Lib.hid (show ∀ W : World, Calls Try.prog 53 #[.agg #[.int .i64 h, .int .u64 l], .agg #[.int .i64 h', .int .u64 l']] W fun e w' => e = .returned (wide (w128 (n + m))) ∧ Below W.heap.size W w' from fun W => by rw [← ew.out, ← ev.out]; exact plus_any n m hn hm W)
  have hcm := Lib.hid (show ∀ W : World, Calls Try.prog 54 #[.agg #[.int .i64 h, .int .u64 l], .agg #[.int .i64 h', .int .u64 l']] W fun e w' => e = .returned (.int .i64 (cmpI n m)) ∧ Below W.heap.size W w' from fun W => by rw [← ew.out, ← ev.out]; exact wcmp_any n m W)
  have bw := Bx.new w 49 (.int .i64 h) (.int .u64 l)
  have hal : Below w.heap.size w (w.alloc (.cells #[.int .i64 h, .int .u64 l] 49)) := (Below.refl _ _).alloc (Nat.le_refl _) _
  obtain ⟨W, hW, hal2, bp⟩ : ∃ W, W = (w.alloc (.cells #[.int .i64 h, .int .u64 l] 49)).alloc (.cells #[.int .i64 h', .int .u64 l'] 49) ∧ Below (w.alloc (.cells #[.int .i64 h, .int .u64 l] 49)).heap.size (w.alloc (.cells #[.int .i64 h, .int .u64 l] 49)) W ∧ Bx W (w.alloc (.cells #[.int .i64 h, .int .u64 l] 49)).heap.size 49 (.int .i64 h') (.int .u64 l') := ⟨_, rfl, by go_grown, Bx.new _ 49 _ _⟩
  replace bw := bw.go hal2
  have h0 := bel_go hal hal.size hal2
  rw [show (w.alloc (.cells #[.int .i64 h, .int .u64 l] 49)).heap.size = w.heap.size + 1 by simp] at bp
  have HW := Lib.hid hW
  clear hW hal hal2
  go_enter Try.func8, Try.ntmps8
  go_wp2
  rw [← HW.out]
  clear HW
  go_cut [10, 11] from 12 (fun s10 s11 wc => ∃ (gx : Bool) (px : Option Addr) (nx cx Bbu : Nat) (gy : Bool) (py : Option Addr) (ny cy Bbv : Nat), s10 = .pointer (some ⟨Bbu, 0, none⟩) ∧ s11 = .pointer (some ⟨Bbv, 0, none⟩) ∧ Bx wc Bbu 27 (.bool gx) (.slice px nx cx) ∧ Bx wc Bbv 27 (.bool gy) (.slice py ny cy) ∧ IsZ wc (.agg #[.bool gx, .slice px nx cx]) n ∧ IsZ wc (.agg #[.bool gy, .slice py ny cy]) m ∧
      Bx wc w.heap.size 49 (.int .i64 h) (.int .u64 l) ∧ Bx wc (w.heap.size + 1) 49 (.int .i64 h') (.int .u64 l') ∧ Below w.heap.size w wc)
  case first =>
    refine wp_region_last (S := fun W' => Bx W' (w.heap.size) 49 (.int .i64 h) (.int .u64 l) ∧ Bx W' (w.heap.size + 1) 49 (.int .i64 h') (.int .u64 l')) (m := 7) (by kernel_rfl) (by kernel_rfl) (by kernel_rfl) (⟨bw.drew, bp.drew⟩) (fun _ => ?_)
    replace bw := bw.drew
    replace bp := bp.drew
    replace h0 := Below.drew h0
    generalize W.drew = W at bw bp h0 ⊢
    refine wpAnyH_take (i := 0) (v := ?_) rfl (by kernel_rfl) (by kernel_rfl) (by kernel_rfl) (fun _ _ _ h => h) (Or.inl ⟨by kernel_rfl, ?_⟩) (⟨bw, bp⟩) ?_
    rotate_left
    focus (intro W' hSw; obtain ⟨hx0, hx1⟩ := hSw; have hc0 := hx0.c0; have hc1 := hx0.c1; have hc2 := hx1.c0; have hc3 := hx1.c1; clear hx0 hx1; go_simp; (try with_reducible rfl))
    (try simp only [Act.put, List.setIfInBounds_toArray, List.set_cons_zero, List.set_cons_succ, List.getElem_toArray, List.getElem_cons_zero, List.getElem_cons_succ])
    refine wpAnyH_take (i := 2) (v := ?_) rfl (by kernel_rfl) (by kernel_rfl) (by kernel_rfl) (fun _ _ _ h => h) (Or.inl ⟨by kernel_rfl, ?_⟩) (⟨bw, bp⟩) ?_
    rotate_left
    focus (intro W' hSw; obtain ⟨hx0, hx1⟩ := hSw; have hc0 := hx0.c0; have hc1 := hx0.c1; have hc2 := hx1.c0; have hc3 := hx1.c1; clear hx0 hx1; go_simp; (try with_reducible rfl))
    (try simp only [Act.put, List.setIfInBounds_toArray, List.set_cons_zero, List.set_cons_succ, List.getElem_toArray, List.getElem_cons_zero, List.getElem_cons_succ])
    refine wpAnyH_ready (rs := [1, 4, 5]) (by kernel_rfl) (by simp) ?_
    refine AllReadyH.cons rfl (fun K hK => ?_) (AllReadyH.cons rfl (fun K hK => ?_) (AllReadyH.cons rfl (fun K hK => ?_) (AllReadyH.nil)))
    · go_simp
      go_at_call 47; refine (hwN.out _).mono ?_
      rintro e Wx ⟨u, rfl, hx, hb⟩
      obtain ⟨gx, px, nx, cx, rfl⟩ := hx.shape
      replace bw := bw.go hb
      replace bp := bp.go hb
      replace h0 := bel_go h0 h0.size hb
      clear hb
      refine hK.out _ _ (⟨bw, bp⟩) (fun _ => ?_)
      clear hK K
      (try simp only [Act.put, List.setIfInBounds_toArray, List.set_cons_zero, List.set_cons_succ, List.getElem_toArray, List.getElem_cons_zero, List.getElem_cons_succ])
      refine wpAnyH_ready (rs := [3, 4, 5]) (by kernel_rfl) (by simp) ?_
      refine AllReadyH.cons rfl (fun K hK => ?_) (AllReadyH.cons rfl (fun K hK => ?_) (AllReadyH.cons rfl (fun K hK => ?_) (AllReadyH.nil)))
      · go_simp
        go_at_call 47; refine (hwM.out _).mono ?_
        rintro e Wy ⟨u, rfl, hy, hb⟩
        obtain ⟨gy, py, ny, cy, rfl⟩ := hy.shape
        replace bw := bw.go hb
        replace bp := bp.go hb
        replace hx := hx.go hb
        replace h0 := bel_go h0 h0.size hb
        clear hb
        refine hK.out _ _ (⟨bw, bp⟩) (fun _ => ?_)
        clear hK K
        (try simp only [Act.put, List.setIfInBounds_toArray, List.set_cons_zero, List.set_cons_succ, List.getElem_toArray, List.getElem_cons_zero, List.getElem_cons_succ])
        refine wpAnyH_ready (rs := [4, 5]) (by kernel_rfl) (by simp) ?_
        refine AllReadyH.cons rfl (fun K hK => ?_) (AllReadyH.cons rfl (fun K hK => ?_) (AllReadyH.nil))
        · go_simp
          have hal : Below Wy.heap.size Wy (Wy.alloc (.cells #[.bool false, .slice none 0 0] 27)) := (Below.refl _ _).alloc (Nat.le_refl _) _
          have bu := Bx.new Wy 27 (.bool false) (.slice none 0 0)
          have l_bu_bw := Lib.hid bw.lt
          have l_bu_bp := Lib.hid bp.lt
          have s_bu := Lib.hid (show w.heap.size ≤ Wy.heap.size from h0.size)
          replace bw := bw.go hal
          replace bp := bp.go hal
          replace hx := hx.go hal
          replace hy := hy.go hal
          replace h0 := bel_go h0 h0.size hal
          clear hal
          generalize Wy.heap.size = Bbu at bu s_bu l_bu_bw l_bu_bp ⊢
          generalize Wy.alloc (.cells #[.bool false, .slice none 0 0] 27) = Vbu at bw bp hx hy bu h0 ⊢
          refine hK.out _ _ (⟨bw, bp⟩) (fun _ => ?_)
          clear hK K
          (try simp only [Act.put, List.setIfInBounds_toArray, List.set_cons_zero, List.set_cons_succ, List.getElem_toArray, List.getElem_cons_zero, List.getElem_cons_succ])
          refine wpAnyH_ready (rs := [5]) (by kernel_rfl) (by simp) ?_
          refine AllReadyH.cons rfl (fun K hK => ?_) (AllReadyH.nil)
          go_simp
          have hal : Below Vbu.heap.size Vbu (Vbu.alloc (.cells #[.bool false, .slice none 0 0] 27)) := (Below.refl _ _).alloc (Nat.le_refl _) _
          have bv := Bx.new Vbu 27 (.bool false) (.slice none 0 0)
          have l_bv_bw := Lib.hid bw.lt
          have l_bv_bp := Lib.hid bp.lt
          have l_bv_bu := Lib.hid bu.lt
          have s_bv := Lib.hid (show w.heap.size ≤ Vbu.heap.size from h0.size)
          replace bw := bw.go hal
          replace bp := bp.go hal
          replace hx := hx.go hal
          replace hy := hy.go hal
          replace bu := bu.go hal
          replace h0 := bel_go h0 h0.size hal
          clear hal
          generalize Vbu.heap.size = Bbv at bv s_bv l_bv_bw l_bv_bp l_bv_bu ⊢
          generalize Vbu.alloc (.cells #[.bool false, .slice none 0 0] 27) = Vbv at bw bp hx hy bu bv h0 ⊢
          refine hK.out _ _ (⟨bw, bp⟩) (fun _ => ?_)
          clear hK K
          (try simp only [Act.put, List.setIfInBounds_toArray, List.set_cons_zero, List.set_cons_succ, List.getElem_toArray, List.getElem_cons_zero, List.getElem_cons_succ])
          refine wpAnyH_ready (rs := [6]) (by kernel_rfl) (by simp) ?_
          refine AllReadyH.cons rfl (fun K hK => ?_) (AllReadyH.nil)
          have hq0 := bu.c0
          have hq1 := bu.c1
          have hr0 := bu.f0
          have hr1 := bu.f1
          go_simp
          clear hq0 hq1 hr0 hr1
          have hP := put2 Vbv Bbu (.bool gx) (.slice px nx cx)
          have hN := bu.stored (.bool gx) (.slice px nx cx)
          generalize (Vbv.setCell ⟨Bbu, 0, none⟩ (.bool gx)).setCell ⟨Bbu, 1, none⟩ (.slice px nx cx) = WZ at hP hN ⊢
          replace hx := hx.put bu (by decide) hP
          replace hy := hy.put bu (by decide) hP
          replace bw := bw.put hP (by have := l_bu_bw.out; omega)
          replace bp := bp.put hP (by have := l_bu_bp.out; omega)
          replace bv := bv.put hP (by have := l_bv_bu.out; omega)
          replace h0 := bel_put h0 (by have := s_bu.out; omega) hP
          clear hP bu
          have bu := hN
          clear hN
          refine hK.out _ _ (⟨bw, bp⟩) (fun _ => ?_)
          clear hK K
          (try simp only [Act.put, List.setIfInBounds_toArray, List.set_cons_zero, List.set_cons_succ, List.getElem_toArray, List.getElem_cons_zero, List.getElem_cons_succ])
          refine wpAnyH_done (by kernel_rfl) ?_ _
          refine still1_step rfl (fun K hK => ?_)
          have hq0 := bv.c0
          have hq1 := bv.c1
          have hr0 := bv.f0
          have hr1 := bv.f1
          go_simp
          clear hq0 hq1 hr0 hr1
          have hP := put2 WZ Bbv (.bool gy) (.slice py ny cy)
          have hN := bv.stored (.bool gy) (.slice py ny cy)
          generalize (WZ.setCell ⟨Bbv, 0, none⟩ (.bool gy)).setCell ⟨Bbv, 1, none⟩ (.slice py ny cy) = WK at hP hN ⊢
          replace hx := hx.put bv (by decide) hP
          replace hy := hy.put bv (by decide) hP
          replace bw := bw.put hP (by have := l_bv_bw.out; omega)
          replace bp := bp.put hP (by have := l_bv_bp.out; omega)
          replace bu := bu.put hP (by have := l_bv_bu.out; omega)
          replace h0 := bel_put h0 (by have := s_bv.out; omega) hP
          clear hP bv
          have bv := hN
          clear hN
          refine hK.out _ _ ?_
          clear hK K
          (try simp only [Act.put, List.setIfInBounds_toArray, List.set_cons_zero, List.set_cons_succ, List.getElem_toArray, List.getElem_cons_zero, List.getElem_cons_succ])
          go_wp2_with fail
          go_meet
          case rel => exact ⟨gx, px, nx, cx, Bbu, gy, py, ny, cy, Bbv, rfl, rfl, bu, bv, hx, hy, bw, bp, h0⟩
        · go_simp
          have hal : Below Wy.heap.size Wy (Wy.alloc (.cells #[.bool false, .slice none 0 0] 27)) := (Below.refl _ _).alloc (Nat.le_refl _) _
          have bv := Bx.new Wy 27 (.bool false) (.slice none 0 0)
          have l_bv_bw := Lib.hid bw.lt
          have l_bv_bp := Lib.hid bp.lt
          have s_bv := Lib.hid (show w.heap.size ≤ Wy.heap.size from h0.size)
          replace bw := bw.go hal
          replace bp := bp.go hal
          replace hx := hx.go hal
          replace hy := hy.go hal
          replace h0 := bel_go h0 h0.size hal
          clear hal
          generalize Wy.heap.size = Bbv at bv s_bv l_bv_bw l_bv_bp ⊢
          generalize Wy.alloc (.cells #[.bool false, .slice none 0 0] 27) = Vbv at bw bp hx hy bv h0 ⊢
          refine hK.out _ _ (⟨bw, bp⟩) (fun _ => ?_)
          clear hK K
          (try simp only [Act.put, List.setIfInBounds_toArray, List.set_cons_zero, List.set_cons_succ, List.getElem_toArray, List.getElem_cons_zero, List.getElem_cons_succ])
          refine wpAnyH_ready (rs := [4]) (by kernel_rfl) (by simp) ?_
          refine AllReadyH.cons rfl (fun K hK => ?_) (AllReadyH.nil)
          go_simp
          have hal : Below Vbv.heap.size Vbv (Vbv.alloc (.cells #[.bool false, .slice none 0 0] 27)) := (Below.refl _ _).alloc (Nat.le_refl _) _
          have bu := Bx.new Vbv 27 (.bool false) (.slice none 0 0)
          have l_bu_bw := Lib.hid bw.lt
          have l_bu_bp := Lib.hid bp.lt
          have l_bu_bv := Lib.hid bv.lt
          have s_bu := Lib.hid (show w.heap.size ≤ Vbv.heap.size from h0.size)
          replace bw := bw.go hal
          replace bp := bp.go hal
          replace hx := hx.go hal
          replace hy := hy.go hal
          replace bv := bv.go hal
          replace h0 := bel_go h0 h0.size hal
          clear hal
          generalize Vbv.heap.size = Bbu at bu s_bu l_bu_bw l_bu_bp l_bu_bv ⊢
          generalize Vbv.alloc (.cells #[.bool false, .slice none 0 0] 27) = Vbu at bw bp hx hy bv bu h0 ⊢
          refine hK.out _ _ (⟨bw, bp⟩) (fun _ => ?_)
          clear hK K
          (try simp only [Act.put, List.setIfInBounds_toArray, List.set_cons_zero, List.set_cons_succ, List.getElem_toArray, List.getElem_cons_zero, List.getElem_cons_succ])
          refine wpAnyH_ready (rs := [6]) (by kernel_rfl) (by simp) ?_
          refine AllReadyH.cons rfl (fun K hK => ?_) (AllReadyH.nil)
          have hq0 := bu.c0
          have hq1 := bu.c1
          have hr0 := bu.f0
          have hr1 := bu.f1
          go_simp
          clear hq0 hq1 hr0 hr1
          have hP := put2 Vbu Bbu (.bool gx) (.slice px nx cx)
          have hN := bu.stored (.bool gx) (.slice px nx cx)
          generalize (Vbu.setCell ⟨Bbu, 0, none⟩ (.bool gx)).setCell ⟨Bbu, 1, none⟩ (.slice px nx cx) = WZ at hP hN ⊢
          replace hx := hx.put bu (by decide) hP
          replace hy := hy.put bu (by decide) hP
          replace bw := bw.put hP (by have := l_bu_bw.out; omega)
          replace bp := bp.put hP (by have := l_bu_bp.out; omega)
          replace bv := bv.put hP (by have := l_bu_bv.out; omega)
          replace h0 := bel_put h0 (by have := s_bu.out; omega) hP
          clear hP bu
          have bu := hN
          clear hN
          refine hK.out _ _ (⟨bw, bp⟩) (fun _ => ?_)
          clear hK K
          (try simp only [Act.put, List.setIfInBounds_toArray, List.set_cons_zero, List.set_cons_succ, List.getElem_toArray, List.getElem_cons_zero, List.getElem_cons_succ])
          refine wpAnyH_done (by kernel_rfl) ?_ _
          refine still1_step rfl (fun K hK => ?_)
          have hq0 := bv.c0
          have hq1 := bv.c1
          have hr0 := bv.f0
          have hr1 := bv.f1
          go_simp
          clear hq0 hq1 hr0 hr1
          have hP := put2 WZ Bbv (.bool gy) (.slice py ny cy)
          have hN := bv.stored (.bool gy) (.slice py ny cy)
          generalize (WZ.setCell ⟨Bbv, 0, none⟩ (.bool gy)).setCell ⟨Bbv, 1, none⟩ (.slice py ny cy) = WK at hP hN ⊢
          replace hx := hx.put bv (by decide) hP
          replace hy := hy.put bv (by decide) hP
          replace bw := bw.put hP (by have := l_bv_bw.out; omega)
          replace bp := bp.put hP (by have := l_bv_bp.out; omega)
          replace bu := bu.put hP (by have := l_bu_bv.out; omega)
          replace h0 := bel_put h0 (by have := s_bv.out; omega) hP
          clear hP bv
          have bv := hN
          clear hN
          refine hK.out _ _ ?_
          clear hK K
          (try simp only [Act.put, List.setIfInBounds_toArray, List.set_cons_zero, List.set_cons_succ, List.getElem_toArray, List.getElem_cons_zero, List.getElem_cons_succ])
          go_wp2_with fail
          go_meet
          case rel => exact ⟨gx, px, nx, cx, Bbu, gy, py, ny, cy, Bbv, rfl, rfl, bu, bv, hx, hy, bw, bp, h0⟩
      · go_simp
        have hal : Below Wx.heap.size Wx (Wx.alloc (.cells #[.bool false, .slice none 0 0] 27)) := (Below.refl _ _).alloc (Nat.le_refl _) _
        have bu := Bx.new Wx 27 (.bool false) (.slice none 0 0)
        have l_bu_bw := Lib.hid bw.lt
        have l_bu_bp := Lib.hid bp.lt
        have s_bu := Lib.hid (show w.heap.size ≤ Wx.heap.size from h0.size)
        replace bw := bw.go hal
        replace bp := bp.go hal
        replace hx := hx.go hal
        replace h0 := bel_go h0 h0.size hal
        clear hal
        generalize Wx.heap.size = Bbu at bu s_bu l_bu_bw l_bu_bp ⊢
        generalize Wx.alloc (.cells #[.bool false, .slice none 0 0] 27) = Vbu at bw bp hx bu h0 ⊢
        refine hK.out _ _ (⟨bw, bp⟩) (fun _ => ?_)
        clear hK K
        (try simp only [Act.put, List.setIfInBounds_toArray, List.set_cons_zero, List.set_cons_succ, List.getElem_toArray, List.getElem_cons_zero, List.getElem_cons_succ])
        refine wpAnyH_ready (rs := [3, 5]) (by kernel_rfl) (by simp) ?_
        refine AllReadyH.cons rfl (fun K hK => ?_) (AllReadyH.cons rfl (fun K hK => ?_) (AllReadyH.nil))
        · go_simp
          go_at_call 47; refine (hwM.out _).mono ?_
          rintro e Wy ⟨u, rfl, hy, hb⟩
          obtain ⟨gy, py, ny, cy, rfl⟩ := hy.shape
          replace bw := bw.go hb
          replace bp := bp.go hb
          replace hx := hx.go hb
          replace bu := bu.go hb
          replace h0 := bel_go h0 h0.size hb
          clear hb
          refine hK.out _ _ (⟨bw, bp⟩) (fun _ => ?_)
          clear hK K
          (try simp only [Act.put, List.setIfInBounds_toArray, List.set_cons_zero, List.set_cons_succ, List.getElem_toArray, List.getElem_cons_zero, List.getElem_cons_succ])
          refine wpAnyH_ready (rs := [5]) (by kernel_rfl) (by simp) ?_
          refine AllReadyH.cons rfl (fun K hK => ?_) (AllReadyH.nil)
          go_simp
          have hal : Below Wy.heap.size Wy (Wy.alloc (.cells #[.bool false, .slice none 0 0] 27)) := (Below.refl _ _).alloc (Nat.le_refl _) _
          have bv := Bx.new Wy 27 (.bool false) (.slice none 0 0)
          have l_bv_bw := Lib.hid bw.lt
          have l_bv_bp := Lib.hid bp.lt
          have l_bv_bu := Lib.hid bu.lt
          have s_bv := Lib.hid (show w.heap.size ≤ Wy.heap.size from h0.size)
          replace bw := bw.go hal
          replace bp := bp.go hal
          replace hx := hx.go hal
          replace bu := bu.go hal
          replace hy := hy.go hal
          replace h0 := bel_go h0 h0.size hal
          clear hal
          generalize Wy.heap.size = Bbv at bv s_bv l_bv_bw l_bv_bp l_bv_bu ⊢
          generalize Wy.alloc (.cells #[.bool false, .slice none 0 0] 27) = Vbv at bw bp hx bu hy bv h0 ⊢
          refine hK.out _ _ (⟨bw, bp⟩) (fun _ => ?_)
          clear hK K
          (try simp only [Act.put, List.setIfInBounds_toArray, List.set_cons_zero, List.set_cons_succ, List.getElem_toArray, List.getElem_cons_zero, List.getElem_cons_succ])
          refine wpAnyH_ready (rs := [6]) (by kernel_rfl) (by simp) ?_
          refine AllReadyH.cons rfl (fun K hK => ?_) (AllReadyH.nil)
          have hq0 := bu.c0
          have hq1 := bu.c1
          have hr0 := bu.f0
          have hr1 := bu.f1
          go_simp
          clear hq0 hq1 hr0 hr1
          have hP := put2 Vbv Bbu (.bool gx) (.slice px nx cx)
          have hN := bu.stored (.bool gx) (.slice px nx cx)
          generalize (Vbv.setCell ⟨Bbu, 0, none⟩ (.bool gx)).setCell ⟨Bbu, 1, none⟩ (.slice px nx cx) = WZ at hP hN ⊢
          replace hx := hx.put bu (by decide) hP
          replace hy := hy.put bu (by decide) hP
          replace bw := bw.put hP (by have := l_bu_bw.out; omega)
          replace bp := bp.put hP (by have := l_bu_bp.out; omega)
          replace bv := bv.put hP (by have := l_bv_bu.out; omega)
          replace h0 := bel_put h0 (by have := s_bu.out; omega) hP
          clear hP bu
          have bu := hN
          clear hN
          refine hK.out _ _ (⟨bw, bp⟩) (fun _ => ?_)
          clear hK K
          (try simp only [Act.put, List.setIfInBounds_toArray, List.set_cons_zero, List.set_cons_succ, List.getElem_toArray, List.getElem_cons_zero, List.getElem_cons_succ])
          refine wpAnyH_done (by kernel_rfl) ?_ _
          refine still1_step rfl (fun K hK => ?_)
          have hq0 := bv.c0
          have hq1 := bv.c1
          have hr0 := bv.f0
          have hr1 := bv.f1
          go_simp
          clear hq0 hq1 hr0 hr1
          have hP := put2 WZ Bbv (.bool gy) (.slice py ny cy)
          have hN := bv.stored (.bool gy) (.slice py ny cy)
          generalize (WZ.setCell ⟨Bbv, 0, none⟩ (.bool gy)).setCell ⟨Bbv, 1, none⟩ (.slice py ny cy) = WK at hP hN ⊢
          replace hx := hx.put bv (by decide) hP
          replace hy := hy.put bv (by decide) hP
          replace bw := bw.put hP (by have := l_bv_bw.out; omega)
          replace bp := bp.put hP (by have := l_bv_bp.out; omega)
          replace bu := bu.put hP (by have := l_bv_bu.out; omega)
          replace h0 := bel_put h0 (by have := s_bv.out; omega) hP
          clear hP bv
          have bv := hN
          clear hN
          refine hK.out _ _ ?_
          clear hK K
          (try simp only [Act.put, List.setIfInBounds_toArray, List.set_cons_zero, List.set_cons_succ, List.getElem_toArray, List.getElem_cons_zero, List.getElem_cons_succ])
          go_wp2_with fail
          go_meet
          case rel => exact ⟨gx, px, nx, cx, Bbu, gy, py, ny, cy, Bbv, rfl, rfl, bu, bv, hx, hy, bw, bp, h0⟩
        · go_simp
          have hal : Below Vbu.heap.size Vbu (Vbu.alloc (.cells #[.bool false, .slice none 0 0] 27)) := (Below.refl _ _).alloc (Nat.le_refl _) _
          have bv := Bx.new Vbu 27 (.bool false) (.slice none 0 0)
          have l_bv_bw := Lib.hid bw.lt
          have l_bv_bp := Lib.hid bp.lt
          have l_bv_bu := Lib.hid bu.lt
          have s_bv := Lib.hid (show w.heap.size ≤ Vbu.heap.size from h0.size)
          replace bw := bw.go hal
          replace bp := bp.go hal
          replace hx := hx.go hal
          replace bu := bu.go hal
          replace h0 := bel_go h0 h0.size hal
          clear hal
          generalize Vbu.heap.size = Bbv at bv s_bv l_bv_bw l_bv_bp l_bv_bu ⊢
          generalize Vbu.alloc (.cells #[.bool false, .slice none 0 0] 27) = Vbv at bw bp hx bu bv h0 ⊢
          refine hK.out _ _ (⟨bw, bp⟩) (fun _ => ?_)
          clear hK K
          (try simp only [Act.put, List.setIfInBounds_toArray, List.set_cons_zero, List.set_cons_succ, List.getElem_toArray, List.getElem_cons_zero, List.getElem_cons_succ])
          refine wpAnyH_ready (rs := [3]) (by kernel_rfl) (by simp) ?_
          refine AllReadyH.cons rfl (fun K hK => ?_) (AllReadyH.nil)
          go_simp
          go_at_call 47; refine (hwM.out _).mono ?_
          rintro e Wy ⟨u, rfl, hy, hb⟩
          obtain ⟨gy, py, ny, cy, rfl⟩ := hy.shape
          replace bw := bw.go hb
          replace bp := bp.go hb
          replace hx := hx.go hb
          replace bu := bu.go hb
          replace bv := bv.go hb
          replace h0 := bel_go h0 h0.size hb
          clear hb
          refine hK.out _ _ (⟨bw, bp⟩) (fun _ => ?_)
          clear hK K
          (try simp only [Act.put, List.setIfInBounds_toArray, List.set_cons_zero, List.set_cons_succ, List.getElem_toArray, List.getElem_cons_zero, List.getElem_cons_succ])
          refine wpAnyH_ready (rs := [6]) (by kernel_rfl) (by simp) ?_
          refine AllReadyH.cons rfl (fun K hK => ?_) (AllReadyH.nil)
          have hq0 := bu.c0
          have hq1 := bu.c1
          have hr0 := bu.f0
          have hr1 := bu.f1
          go_simp
          clear hq0 hq1 hr0 hr1
          have hP := put2 Wy Bbu (.bool gx) (.slice px nx cx)
          have hN := bu.stored (.bool gx) (.slice px nx cx)
          generalize (Wy.setCell ⟨Bbu, 0, none⟩ (.bool gx)).setCell ⟨Bbu, 1, none⟩ (.slice px nx cx) = WZ at hP hN ⊢
          replace hx := hx.put bu (by decide) hP
          replace hy := hy.put bu (by decide) hP
          replace bw := bw.put hP (by have := l_bu_bw.out; omega)
          replace bp := bp.put hP (by have := l_bu_bp.out; omega)
          replace bv := bv.put hP (by have := l_bv_bu.out; omega)
          replace h0 := bel_put h0 (by have := s_bu.out; omega) hP
          clear hP bu
          have bu := hN
          clear hN
          refine hK.out _ _ (⟨bw, bp⟩) (fun _ => ?_)
          clear hK K
          (try simp only [Act.put, List.setIfInBounds_toArray, List.set_cons_zero, List.set_cons_succ, List.getElem_toArray, List.getElem_cons_zero, List.getElem_cons_succ])
          refine wpAnyH_done (by kernel_rfl) ?_ _
          refine still1_step rfl (fun K hK => ?_)
          have hq0 := bv.c0
          have hq1 := bv.c1
          have hr0 := bv.f0
          have hr1 := bv.f1
          go_simp
          clear hq0 hq1 hr0 hr1
          have hP := put2 WZ Bbv (.bool gy) (.slice py ny cy)
          have hN := bv.stored (.bool gy) (.slice py ny cy)
          generalize (WZ.setCell ⟨Bbv, 0, none⟩ (.bool gy)).setCell ⟨Bbv, 1, none⟩ (.slice py ny cy) = WK at hP hN ⊢
          replace hx := hx.put bv (by decide) hP
          replace hy := hy.put bv (by decide) hP
          replace bw := bw.put hP (by have := l_bv_bw.out; omega)
          replace bp := bp.put hP (by have := l_bv_bp.out; omega)
          replace bu := bu.put hP (by have := l_bv_bu.out; omega)
          replace h0 := bel_put h0 (by have := s_bv.out; omega) hP
          clear hP bv
          have bv := hN
          clear hN
          refine hK.out _ _ ?_
          clear hK K
          (try simp only [Act.put, List.setIfInBounds_toArray, List.set_cons_zero, List.set_cons_succ, List.getElem_toArray, List.getElem_cons_zero, List.getElem_cons_succ])
          go_wp2_with fail
          go_meet
          case rel => exact ⟨gx, px, nx, cx, Bbu, gy, py, ny, cy, Bbv, rfl, rfl, bu, bv, hx, hy, bw, bp, h0⟩
      · go_simp
        have hal : Below Wx.heap.size Wx (Wx.alloc (.cells #[.bool false, .slice none 0 0] 27)) := (Below.refl _ _).alloc (Nat.le_refl _) _
        have bv := Bx.new Wx 27 (.bool false) (.slice none 0 0)
        have l_bv_bw := Lib.hid bw.lt
        have l_bv_bp := Lib.hid bp.lt
        have s_bv := Lib.hid (show w.heap.size ≤ Wx.heap.size from h0.size)
        replace bw := bw.go hal
        replace bp := bp.go hal
        replace hx := hx.go hal
        replace h0 := bel_go h0 h0.size hal
        clear hal
        generalize Wx.heap.size = Bbv at bv s_bv l_bv_bw l_bv_bp ⊢
        generalize Wx.alloc (.cells #[.bool false, .slice none 0 0] 27) = Vbv at bw bp hx bv h0 ⊢
        refine hK.out _ _ (⟨bw, bp⟩) (fun _ => ?_)
        clear hK K
        (try simp only [Act.put, List.setIfInBounds_toArray, List.set_cons_zero, List.set_cons_succ, List.getElem_toArray, List.getElem_cons_zero, List.getElem_cons_succ])
        refine wpAnyH_ready (rs := [3, 4]) (by kernel_rfl) (by simp) ?_
        refine AllReadyH.cons rfl (fun K hK => ?_) (AllReadyH.cons rfl (fun K hK => ?_) (AllReadyH.nil))
        · go_simp
          go_at_call 47; refine (hwM.out _).mono ?_
          rintro e Wy ⟨u, rfl, hy, hb⟩
          obtain ⟨gy, py, ny, cy, rfl⟩ := hy.shape
          replace bw := bw.go hb
          replace bp := bp.go hb
          replace hx := hx.go hb
          replace bv := bv.go hb
          replace h0 := bel_go h0 h0.size hb
          clear hb
          refine hK.out _ _ (⟨bw, bp⟩) (fun _ => ?_)
          clear hK K
          (try simp only [Act.put, List.setIfInBounds_toArray, List.set_cons_zero, List.set_cons_succ, List.getElem_toArray, List.getElem_cons_zero, List.getElem_cons_succ])
          refine wpAnyH_ready (rs := [4]) (by kernel_rfl) (by simp) ?_
          refine AllReadyH.cons rfl (fun K hK => ?_) (AllReadyH.nil)
          go_simp
          have hal : Below Wy.heap.size Wy (Wy.alloc (.cells #[.bool false, .slice none 0 0] 27)) := (Below.refl _ _).alloc (Nat.le_refl _) _
          have bu := Bx.new Wy 27 (.bool false) (.slice none 0 0)
          have l_bu_bw := Lib.hid bw.lt
          have l_bu_bp := Lib.hid bp.lt
          have l_bu_bv := Lib.hid bv.lt
          have s_bu := Lib.hid (show w.heap.size ≤ Wy.heap.size from h0.size)
          replace bw := bw.go hal
          replace bp := bp.go hal
          replace hx := hx.go hal
          replace bv := bv.go hal
          replace hy := hy.go hal
          replace h0 := bel_go h0 h0.size hal
          clear hal
          generalize Wy.heap.size = Bbu at bu s_bu l_bu_bw l_bu_bp l_bu_bv ⊢
          generalize Wy.alloc (.cells #[.bool false, .slice none 0 0] 27) = Vbu at bw bp hx bv hy bu h0 ⊢
          refine hK.out _ _ (⟨bw, bp⟩) (fun _ => ?_)
          clear hK K
          (try simp only [Act.put, List.setIfInBounds_toArray, List.set_cons_zero, List.set_cons_succ, List.getElem_toArray, List.getElem_cons_zero, List.getElem_cons_succ])
          refine wpAnyH_ready (rs := [6]) (by kernel_rfl) (by simp) ?_
          refine AllReadyH.cons rfl (fun K hK => ?_) (AllReadyH.nil)
          have hq0 := bu.c0
          have hq1 := bu.c1
          have hr0 := bu.f0
          have hr1 := bu.f1
          go_simp
          clear hq0 hq1 hr0 hr1
          have hP := put2 Vbu Bbu (.bool gx) (.slice px nx cx)
          have hN := bu.stored (.bool gx) (.slice px nx cx)
          generalize (Vbu.setCell ⟨Bbu, 0, none⟩ (.bool gx)).setCell ⟨Bbu, 1, none⟩ (.slice px nx cx) = WZ at hP hN ⊢
          replace hx := hx.put bu (by decide) hP
          replace hy := hy.put bu (by decide) hP
          replace bw := bw.put hP (by have := l_bu_bw.out; omega)
          replace bp := bp.put hP (by have := l_bu_bp.out; omega)
          replace bv := bv.put hP (by have := l_bu_bv.out; omega)
          replace h0 := bel_put h0 (by have := s_bu.out; omega) hP
          clear hP bu
          have bu := hN
          clear hN
          refine hK.out _ _ (⟨bw, bp⟩) (fun _ => ?_)
          clear hK K
          (try simp only [Act.put, List.setIfInBounds_toArray, List.set_cons_zero, List.set_cons_succ, List.getElem_toArray, List.getElem_cons_zero, List.getElem_cons_succ])
          refine wpAnyH_done (by kernel_rfl) ?_ _
          refine still1_step rfl (fun K hK => ?_)
          have hq0 := bv.c0
          have hq1 := bv.c1
          have hr0 := bv.f0
          have hr1 := bv.f1
          go_simp
          clear hq0 hq1 hr0 hr1
          have hP := put2 WZ Bbv (.bool gy) (.slice py ny cy)
          have hN := bv.stored (.bool gy) (.slice py ny cy)
          generalize (WZ.setCell ⟨Bbv, 0, none⟩ (.bool gy)).setCell ⟨Bbv, 1, none⟩ (.slice py ny cy) = WK at hP hN ⊢
          replace hx := hx.put bv (by decide) hP
          replace hy := hy.put bv (by decide) hP
          replace bw := bw.put hP (by have := l_bv_bw.out; omega)
          replace bp := bp.put hP (by have := l_bv_bp.out; omega)
          replace bu := bu.put hP (by have := l_bu_bv.out; omega)
          replace h0 := bel_put h0 (by have := s_bv.out; omega) hP
          clear hP bv
          have bv := hN
          clear hN
          refine hK.out _ _ ?_
          clear hK K
          (try simp only [Act.put, List.setIfInBounds_toArray, List.set_cons_zero, List.set_cons_succ, List.getElem_toArray, List.getElem_cons_zero, List.getElem_cons_succ])
          go_wp2_with fail
          go_meet
          case rel => exact ⟨gx, px, nx, cx, Bbu, gy, py, ny, cy, Bbv, rfl, rfl, bu, bv, hx, hy, bw, bp, h0⟩
        · go_simp
          have hal : Below Vbv.heap.size Vbv (Vbv.alloc (.cells #[.bool false, .slice none 0 0] 27)) := (Below.refl _ _).alloc (Nat.le_refl _) _
          have bu := Bx.new Vbv 27 (.bool false) (.slice none 0 0)
          have l_bu_bw := Lib.hid bw.lt
          have l_bu_bp := Lib.hid bp.lt
          have l_bu_bv := Lib.hid bv.lt
          have s_bu := Lib.hid (show w.heap.size ≤ Vbv.heap.size from h0.size)
          replace bw := bw.go hal
          replace bp := bp.go hal
          replace hx := hx.go hal
          replace bv := bv.go hal
          replace h0 := bel_go h0 h0.size hal
          clear hal
          generalize Vbv.heap.size = Bbu at bu s_bu l_bu_bw l_bu_bp l_bu_bv ⊢
          generalize Vbv.alloc (.cells #[.bool false, .slice none 0 0] 27) = Vbu at bw bp hx bv bu h0 ⊢
          refine hK.out _ _ (⟨bw, bp⟩) (fun _ => ?_)
          clear hK K
          (try simp only [Act.put, List.setIfInBounds_toArray, List.set_cons_zero, List.set_cons_succ, List.getElem_toArray, List.getElem_cons_zero, List.getElem_cons_succ])
          refine wpAnyH_ready (rs := [3]) (by kernel_rfl) (by simp) ?_
          refine AllReadyH.cons rfl (fun K hK => ?_) (AllReadyH.nil)
          go_simp
          go_at_call 47; refine (hwM.out _).mono ?_
          rintro e Wy ⟨u, rfl, hy, hb⟩
          obtain ⟨gy, py, ny, cy, rfl⟩ := hy.shape
          replace bw := bw.go hb
          replace bp := bp.go hb
          replace hx := hx.go hb
          replace bv := bv.go hb
          replace bu := bu.go hb
          replace h0 := bel_go h0 h0.size hb
          clear hb
          refine hK.out _ _ (⟨bw, bp⟩) (fun _ => ?_)
          clear hK K
          (try simp only [Act.put, List.setIfInBounds_toArray, List.set_cons_zero, List.set_cons_succ, List.getElem_toArray, List.getElem_cons_zero, List.getElem_cons_succ])
          refine wpAnyH_ready (rs := [6]) (by kernel_rfl) (by simp) ?_
          refine AllReadyH.cons rfl (fun K hK => ?_) (AllReadyH.nil)
          have hq0 := bu.c0
          have hq1 := bu.c1
          have hr0 := bu.f0
          have hr1 := bu.f1
          go_simp
          clear hq0 hq1 hr0 hr1
          have hP := put2 Wy Bbu (.bool gx) (.slice px nx cx)
          have hN := bu.stored (.bool gx) (.slice px nx cx)
          generalize (Wy.setCell ⟨Bbu, 0, none⟩ (.bool gx)).setCell ⟨Bbu, 1, none⟩ (.slice px nx cx) = WZ at hP hN ⊢
          replace hx := hx.put bu (by decide) hP
          replace hy := hy.put bu (by decide) hP
          replace bw := bw.put hP (by have := l_bu_bw.out; omega)
          replace bp := bp.put hP (by have := l_bu_bp.out; omega)
          replace bv := bv.put hP (by have := l_bu_bv.out; omega)
          replace h0 := bel_put h0 (by have := s_bu.out; omega) hP
          clear hP bu
          have bu := hN
          clear hN
          refine hK.out _ _ (⟨bw, bp⟩) (fun _ => ?_)
          clear hK K
          (try simp only [Act.put, List.setIfInBounds_toArray, List.set_cons_zero, List.set_cons_succ, List.getElem_toArray, List.getElem_cons_zero, List.getElem_cons_succ])
          refine wpAnyH_done (by kernel_rfl) ?_ _
          refine still1_step rfl (fun K hK => ?_)
          have hq0 := bv.c0
          have hq1 := bv.c1
          have hr0 := bv.f0
          have hr1 := bv.f1
          go_simp
          clear hq0 hq1 hr0 hr1
          have hP := put2 WZ Bbv (.bool gy) (.slice py ny cy)
          have hN := bv.stored (.bool gy) (.slice py ny cy)
          generalize (WZ.setCell ⟨Bbv, 0, none⟩ (.bool gy)).setCell ⟨Bbv, 1, none⟩ (.slice py ny cy) = WK at hP hN ⊢
          replace hx := hx.put bv (by decide) hP
          replace hy := hy.put bv (by decide) hP
          replace bw := bw.put hP (by have := l_bv_bw.out; omega)
          replace bp := bp.put hP (by have := l_bv_bp.out; omega)
          replace bu := bu.put hP (by have := l_bu_bv.out; omega)
          replace h0 := bel_put h0 (by have := s_bv.out; omega) hP
          clear hP bv
          have bv := hN
          clear hN
          refine hK.out _ _ ?_
          clear hK K
          (try simp only [Act.put, List.setIfInBounds_toArray, List.set_cons_zero, List.set_cons_succ, List.getElem_toArray, List.getElem_cons_zero, List.getElem_cons_succ])
          go_wp2_with fail
          go_meet
          case rel => exact ⟨gx, px, nx, cx, Bbu, gy, py, ny, cy, Bbv, rfl, rfl, bu, bv, hx, hy, bw, bp, h0⟩
    · go_simp
      have hal : Below W.heap.size W (W.alloc (.cells #[.bool false, .slice none 0 0] 27)) := (Below.refl _ _).alloc (Nat.le_refl _) _
      have bu := Bx.new W 27 (.bool false) (.slice none 0 0)
      have l_bu_bw := Lib.hid bw.lt
      have l_bu_bp := Lib.hid bp.lt
      have s_bu := Lib.hid (show w.heap.size ≤ W.heap.size from h0.size)
      replace bw := bw.go hal
      replace bp := bp.go hal
      replace h0 := bel_go h0 h0.size hal
      clear hal
      generalize W.heap.size = Bbu at bu s_bu l_bu_bw l_bu_bp ⊢
      generalize W.alloc (.cells #[.bool false, .slice none 0 0] 27) = Vbu at bw bp bu h0 ⊢
      refine hK.out _ _ (⟨bw, bp⟩) (fun _ => ?_)
      clear hK K
      (try simp only [Act.put, List.setIfInBounds_toArray, List.set_cons_zero, List.set_cons_succ, List.getElem_toArray, List.getElem_cons_zero, List.getElem_cons_succ])
      refine wpAnyH_ready (rs := [1, 5]) (by kernel_rfl) (by simp) ?_
      refine AllReadyH.cons rfl (fun K hK => ?_) (AllReadyH.cons rfl (fun K hK => ?_) (AllReadyH.nil))
      · go_simp
        go_at_call 47; refine (hwN.out _).mono ?_
        rintro e Wx ⟨u, rfl, hx, hb⟩
        obtain ⟨gx, px, nx, cx, rfl⟩ := hx.shape
        replace bw := bw.go hb
        replace bp := bp.go hb
        replace bu := bu.go hb
        replace h0 := bel_go h0 h0.size hb
        clear hb
        refine hK.out _ _ (⟨bw, bp⟩) (fun _ => ?_)
        clear hK K
        (try simp only [Act.put, List.setIfInBounds_toArray, List.set_cons_zero, List.set_cons_succ, List.getElem_toArray, List.getElem_cons_zero, List.getElem_cons_succ])
        refine wpAnyH_ready (rs := [3, 5]) (by kernel_rfl) (by simp) ?_
        refine AllReadyH.cons rfl (fun K hK => ?_) (AllReadyH.cons rfl (fun K hK => ?_) (AllReadyH.nil))
        · go_simp
          go_at_call 47; refine (hwM.out _).mono ?_
          rintro e Wy ⟨u, rfl, hy, hb⟩
          obtain ⟨gy, py, ny, cy, rfl⟩ := hy.shape
          replace bw := bw.go hb
          replace bp := bp.go hb
          replace bu := bu.go hb
          replace hx := hx.go hb
          replace h0 := bel_go h0 h0.size hb
          clear hb
          refine hK.out _ _ (⟨bw, bp⟩) (fun _ => ?_)
          clear hK K
          (try simp only [Act.put, List.setIfInBounds_toArray, List.set_cons_zero, List.set_cons_succ, List.getElem_toArray, List.getElem_cons_zero, List.getElem_cons_succ])
          refine wpAnyH_ready (rs := [5]) (by kernel_rfl) (by simp) ?_
          refine AllReadyH.cons rfl (fun K hK => ?_) (AllReadyH.nil)
          go_simp
          have hal : Below Wy.heap.size Wy (Wy.alloc (.cells #[.bool false, .slice none 0 0] 27)) := (Below.refl _ _).alloc (Nat.le_refl _) _
          have bv := Bx.new Wy 27 (.bool false) (.slice none 0 0)
          have l_bv_bw := Lib.hid bw.lt
          have l_bv_bp := Lib.hid bp.lt
          have l_bv_bu := Lib.hid bu.lt
          have s_bv := Lib.hid (show w.heap.size ≤ Wy.heap.size from h0.size)
          replace bw := bw.go hal
          replace bp := bp.go hal
          replace bu := bu.go hal
          replace hx := hx.go hal
          replace hy := hy.go hal
          replace h0 := bel_go h0 h0.size hal
          clear hal
          generalize Wy.heap.size = Bbv at bv s_bv l_bv_bw l_bv_bp l_bv_bu ⊢
          generalize Wy.alloc (.cells #[.bool false, .slice none 0 0] 27) = Vbv at bw bp bu hx hy bv h0 ⊢
          refine hK.out _ _ (⟨bw, bp⟩) (fun _ => ?_)
          clear hK K
          (try simp only [Act.put, List.setIfInBounds_toArray, List.set_cons_zero, List.set_cons_succ, List.getElem_toArray, List.getElem_cons_zero, List.getElem_cons_succ])
          refine wpAnyH_ready (rs := [6]) (by kernel_rfl) (by simp) ?_
          refine AllReadyH.cons rfl (fun K hK => ?_) (AllReadyH.nil)
          have hq0 := bu.c0
          have hq1 := bu.c1
          have hr0 := bu.f0
          have hr1 := bu.f1
          go_simp
          clear hq0 hq1 hr0 hr1
          have hP := put2 Vbv Bbu (.bool gx) (.slice px nx cx)
          have hN := bu.stored (.bool gx) (.slice px nx cx)
          generalize (Vbv.setCell ⟨Bbu, 0, none⟩ (.bool gx)).setCell ⟨Bbu, 1, none⟩ (.slice px nx cx) = WZ at hP hN ⊢
          replace hx := hx.put bu (by decide) hP
          replace hy := hy.put bu (by decide) hP
          replace bw := bw.put hP (by have := l_bu_bw.out; omega)
          replace bp := bp.put hP (by have := l_bu_bp.out; omega)
          replace bv := bv.put hP (by have := l_bv_bu.out; omega)
          replace h0 := bel_put h0 (by have := s_bu.out; omega) hP
          clear hP bu
          have bu := hN
          clear hN
          refine hK.out _ _ (⟨bw, bp⟩) (fun _ => ?_)
          clear hK K
          (try simp only [Act.put, List.setIfInBounds_toArray, List.set_cons_zero, List.set_cons_succ, List.getElem_toArray, List.getElem_cons_zero, List.getElem_cons_succ])
          refine wpAnyH_done (by kernel_rfl) ?_ _
          refine still1_step rfl (fun K hK => ?_)
          have hq0 := bv.c0
          have hq1 := bv.c1
          have hr0 := bv.f0
          have hr1 := bv.f1
          go_simp
          clear hq0 hq1 hr0 hr1
          have hP := put2 WZ Bbv (.bool gy) (.slice py ny cy)
          have hN := bv.stored (.bool gy) (.slice py ny cy)
          generalize (WZ.setCell ⟨Bbv, 0, none⟩ (.bool gy)).setCell ⟨Bbv, 1, none⟩ (.slice py ny cy) = WK at hP hN ⊢
          replace hx := hx.put bv (by decide) hP
          replace hy := hy.put bv (by decide) hP
          replace bw := bw.put hP (by have := l_bv_bw.out; omega)
          replace bp := bp.put hP (by have := l_bv_bp.out; omega)
          replace bu := bu.put hP (by have := l_bv_bu.out; omega)
          replace h0 := bel_put h0 (by have := s_bv.out; omega) hP
          clear hP bv
          have bv := hN
          clear hN
          refine hK.out _ _ ?_
          clear hK K
          (try simp only [Act.put, List.setIfInBounds_toArray, List.set_cons_zero, List.set_cons_succ, List.getElem_toArray, List.getElem_cons_zero, List.getElem_cons_succ])
          go_wp2_with fail
          go_meet
          case rel => exact ⟨gx, px, nx, cx, Bbu, gy, py, ny, cy, Bbv, rfl, rfl, bu, bv, hx, hy, bw, bp, h0⟩
        · go_simp
          have hal : Below Wx.heap.size Wx (Wx.alloc (.cells #[.bool false, .slice none 0 0] 27)) := (Below.refl _ _).alloc (Nat.le_refl _) _
          have bv := Bx.new Wx 27 (.bool false) (.slice none 0 0)
          have l_bv_bw := Lib.hid bw.lt
          have l_bv_bp := Lib.hid bp.lt
          have l_bv_bu := Lib.hid bu.lt
          have s_bv := Lib.hid (show w.heap.size ≤ Wx.heap.size from h0.size)
          replace bw := bw.go hal
          replace bp := bp.go hal
          replace bu := bu.go hal
          replace hx := hx.go hal
          replace h0 := bel_go h0 h0.size hal
          clear hal
          generalize Wx.heap.size = Bbv at bv s_bv l_bv_bw l_bv_bp l_bv_bu ⊢
          generalize Wx.alloc (.cells #[.bool false, .slice none 0 0] 27) = Vbv at bw bp bu hx bv h0 ⊢
          refine hK.out _ _ (⟨bw, bp⟩) (fun _ => ?_)
          clear hK K
          (try simp only [Act.put, List.setIfInBounds_toArray, List.set_cons_zero, List.set_cons_succ, List.getElem_toArray, List.getElem_cons_zero, List.getElem_cons_succ])
          refine wpAnyH_ready (rs := [3]) (by kernel_rfl) (by simp) ?_
          refine AllReadyH.cons rfl (fun K hK => ?_) (AllReadyH.nil)
          go_simp
          go_at_call 47; refine (hwM.out _).mono ?_
          rintro e Wy ⟨u, rfl, hy, hb⟩
          obtain ⟨gy, py, ny, cy, rfl⟩ := hy.shape
          replace bw := bw.go hb
          replace bp := bp.go hb
          replace bu := bu.go hb
          replace hx := hx.go hb
          replace bv := bv.go hb
          replace h0 := bel_go h0 h0.size hb
          clear hb
          refine hK.out _ _ (⟨bw, bp⟩) (fun _ => ?_)
          clear hK K
          (try simp only [Act.put, List.setIfInBounds_toArray, List.set_cons_zero, List.set_cons_succ, List.getElem_toArray, List.getElem_cons_zero, List.getElem_cons_succ])
          refine wpAnyH_ready (rs := [6]) (by kernel_rfl) (by simp) ?_
          refine AllReadyH.cons rfl (fun K hK => ?_) (AllReadyH.nil)
          have hq0 := bu.c0
          have hq1 := bu.c1
          have hr0 := bu.f0
          have hr1 := bu.f1
          go_simp
          clear hq0 hq1 hr0 hr1
          have hP := put2 Wy Bbu (.bool gx) (.slice px nx cx)
          have hN := bu.stored (.bool gx) (.slice px nx cx)
          generalize (Wy.setCell ⟨Bbu, 0, none⟩ (.bool gx)).setCell ⟨Bbu, 1, none⟩ (.slice px nx cx) = WZ at hP hN ⊢
          replace hx := hx.put bu (by decide) hP
          replace hy := hy.put bu (by decide) hP
          replace bw := bw.put hP (by have := l_bu_bw.out; omega)
          replace bp := bp.put hP (by have := l_bu_bp.out; omega)
          replace bv := bv.put hP (by have := l_bv_bu.out; omega)
          replace h0 := bel_put h0 (by have := s_bu.out; omega) hP
          clear hP bu
          have bu := hN
          clear hN
          refine hK.out _ _ (⟨bw, bp⟩) (fun _ => ?_)
          clear hK K
          (try simp only [Act.put, List.setIfInBounds_toArray, List.set_cons_zero, List.set_cons_succ, List.getElem_toArray, List.getElem_cons_zero, List.getElem_cons_succ])
          refine wpAnyH_done (by kernel_rfl) ?_ _
          refine still1_step rfl (fun K hK => ?_)
          have hq0 := bv.c0
          have hq1 := bv.c1
          have hr0 := bv.f0
          have hr1 := bv.f1
          go_simp
          clear hq0 hq1 hr0 hr1
          have hP := put2 WZ Bbv (.bool gy) (.slice py ny cy)
          have hN := bv.stored (.bool gy) (.slice py ny cy)
          generalize (WZ.setCell ⟨Bbv, 0, none⟩ (.bool gy)).setCell ⟨Bbv, 1, none⟩ (.slice py ny cy) = WK at hP hN ⊢
          replace hx := hx.put bv (by decide) hP
          replace hy := hy.put bv (by decide) hP
          replace bw := bw.put hP (by have := l_bv_bw.out; omega)
          replace bp := bp.put hP (by have := l_bv_bp.out; omega)
          replace bu := bu.put hP (by have := l_bv_bu.out; omega)
          replace h0 := bel_put h0 (by have := s_bv.out; omega) hP
          clear hP bv
          have bv := hN
          clear hN
          refine hK.out _ _ ?_
          clear hK K
          (try simp only [Act.put, List.setIfInBounds_toArray, List.set_cons_zero, List.set_cons_succ, List.getElem_toArray, List.getElem_cons_zero, List.getElem_cons_succ])
          go_wp2_with fail
          go_meet
          case rel => exact ⟨gx, px, nx, cx, Bbu, gy, py, ny, cy, Bbv, rfl, rfl, bu, bv, hx, hy, bw, bp, h0⟩
      · go_simp
        have hal : Below Vbu.heap.size Vbu (Vbu.alloc (.cells #[.bool false, .slice none 0 0] 27)) := (Below.refl _ _).alloc (Nat.le_refl _) _
        have bv := Bx.new Vbu 27 (.bool false) (.slice none 0 0)
        have l_bv_bw := Lib.hid bw.lt
        have l_bv_bp := Lib.hid bp.lt
        have l_bv_bu := Lib.hid bu.lt
        have s_bv := Lib.hid (show w.heap.size ≤ Vbu.heap.size from h0.size)
        replace bw := bw.go hal
        replace bp := bp.go hal
        replace bu := bu.go hal
        replace h0 := bel_go h0 h0.size hal
        clear hal
        generalize Vbu.heap.size = Bbv at bv s_bv l_bv_bw l_bv_bp l_bv_bu ⊢
        generalize Vbu.alloc (.cells #[.bool false, .slice none 0 0] 27) = Vbv at bw bp bu bv h0 ⊢
        refine hK.out _ _ (⟨bw, bp⟩) (fun _ => ?_)
        clear hK K
        (try simp only [Act.put, List.setIfInBounds_toArray, List.set_cons_zero, List.set_cons_succ, List.getElem_toArray, List.getElem_cons_zero, List.getElem_cons_succ])
        refine wpAnyH_ready (rs := [1]) (by kernel_rfl) (by simp) ?_
        refine AllReadyH.cons rfl (fun K hK => ?_) (AllReadyH.nil)
        go_simp
        go_at_call 47; refine (hwN.out _).mono ?_
        rintro e Wx ⟨u, rfl, hx, hb⟩
        obtain ⟨gx, px, nx, cx, rfl⟩ := hx.shape
        replace bw := bw.go hb
        replace bp := bp.go hb
        replace bu := bu.go hb
        replace bv := bv.go hb
        replace h0 := bel_go h0 h0.size hb
        clear hb
        refine hK.out _ _ (⟨bw, bp⟩) (fun _ => ?_)
        clear hK K
        (try simp only [Act.put, List.setIfInBounds_toArray, List.set_cons_zero, List.set_cons_succ, List.getElem_toArray, List.getElem_cons_zero, List.getElem_cons_succ])
        refine wpAnyH_ready (rs := [3]) (by kernel_rfl) (by simp) ?_
        refine AllReadyH.cons rfl (fun K hK => ?_) (AllReadyH.nil)
        go_simp
        go_at_call 47; refine (hwM.out _).mono ?_
        rintro e Wy ⟨u, rfl, hy, hb⟩
        obtain ⟨gy, py, ny, cy, rfl⟩ := hy.shape
        replace bw := bw.go hb
        replace bp := bp.go hb
        replace bu := bu.go hb
        replace bv := bv.go hb
        replace hx := hx.go hb
        replace h0 := bel_go h0 h0.size hb
        clear hb
        refine hK.out _ _ (⟨bw, bp⟩) (fun _ => ?_)
        clear hK K
        (try simp only [Act.put, List.setIfInBounds_toArray, List.set_cons_zero, List.set_cons_succ, List.getElem_toArray, List.getElem_cons_zero, List.getElem_cons_succ])
        refine wpAnyH_ready (rs := [6]) (by kernel_rfl) (by simp) ?_
        refine AllReadyH.cons rfl (fun K hK => ?_) (AllReadyH.nil)
        have hq0 := bu.c0
        have hq1 := bu.c1
        have hr0 := bu.f0
        have hr1 := bu.f1
        go_simp
        clear hq0 hq1 hr0 hr1
        have hP := put2 Wy Bbu (.bool gx) (.slice px nx cx)
        have hN := bu.stored (.bool gx) (.slice px nx cx)
        generalize (Wy.setCell ⟨Bbu, 0, none⟩ (.bool gx)).setCell ⟨Bbu, 1, none⟩ (.slice px nx cx) = WZ at hP hN ⊢
        replace hx := hx.put bu (by decide) hP
        replace hy := hy.put bu (by decide) hP
        replace bw := bw.put hP (by have := l_bu_bw.out; omega)
        replace bp := bp.put hP (by have := l_bu_bp.out; omega)
        replace bv := bv.put hP (by have := l_bv_bu.out; omega)
        replace h0 := bel_put h0 (by have := s_bu.out; omega) hP
        clear hP bu
        have bu := hN
        clear hN
        refine hK.out _ _ (⟨bw, bp⟩) (fun _ => ?_)
        clear hK K
        (try simp only [Act.put, List.setIfInBounds_toArray, List.set_cons_zero, List.set_cons_succ, List.getElem_toArray, List.getElem_cons_zero, List.getElem_cons_succ])
        refine wpAnyH_done (by kernel_rfl) ?_ _
        refine still1_step rfl (fun K hK => ?_)
        have hq0 := bv.c0
        have hq1 := bv.c1
        have hr0 := bv.f0
        have hr1 := bv.f1
        go_simp
        clear hq0 hq1 hr0 hr1
        have hP := put2 WZ Bbv (.bool gy) (.slice py ny cy)
        have hN := bv.stored (.bool gy) (.slice py ny cy)
        generalize (WZ.setCell ⟨Bbv, 0, none⟩ (.bool gy)).setCell ⟨Bbv, 1, none⟩ (.slice py ny cy) = WK at hP hN ⊢
        replace hx := hx.put bv (by decide) hP
        replace hy := hy.put bv (by decide) hP
        replace bw := bw.put hP (by have := l_bv_bw.out; omega)
        replace bp := bp.put hP (by have := l_bv_bp.out; omega)
        replace bu := bu.put hP (by have := l_bv_bu.out; omega)
        replace h0 := bel_put h0 (by have := s_bv.out; omega) hP
        clear hP bv
        have bv := hN
        clear hN
        refine hK.out _ _ ?_
        clear hK K
        (try simp only [Act.put, List.setIfInBounds_toArray, List.set_cons_zero, List.set_cons_succ, List.getElem_toArray, List.getElem_cons_zero, List.getElem_cons_succ])
        go_wp2_with fail
        go_meet
        case rel => exact ⟨gx, px, nx, cx, Bbu, gy, py, ny, cy, Bbv, rfl, rfl, bu, bv, hx, hy, bw, bp, h0⟩
    · go_simp
      have hal : Below W.heap.size W (W.alloc (.cells #[.bool false, .slice none 0 0] 27)) := (Below.refl _ _).alloc (Nat.le_refl _) _
      have bv := Bx.new W 27 (.bool false) (.slice none 0 0)
      have l_bv_bw := Lib.hid bw.lt
      have l_bv_bp := Lib.hid bp.lt
      have s_bv := Lib.hid (show w.heap.size ≤ W.heap.size from h0.size)
      replace bw := bw.go hal
      replace bp := bp.go hal
      replace h0 := bel_go h0 h0.size hal
      clear hal
      generalize W.heap.size = Bbv at bv s_bv l_bv_bw l_bv_bp ⊢
      generalize W.alloc (.cells #[.bool false, .slice none 0 0] 27) = Vbv at bw bp bv h0 ⊢
      refine hK.out _ _ (⟨bw, bp⟩) (fun _ => ?_)
      clear hK K
      (try simp only [Act.put, List.setIfInBounds_toArray, List.set_cons_zero, List.set_cons_succ, List.getElem_toArray, List.getElem_cons_zero, List.getElem_cons_succ])
      refine wpAnyH_ready (rs := [1, 4]) (by kernel_rfl) (by simp) ?_
      refine AllReadyH.cons rfl (fun K hK => ?_) (AllReadyH.cons rfl (fun K hK => ?_) (AllReadyH.nil))
      · go_simp
        go_at_call 47; refine (hwN.out _).mono ?_
        rintro e Wx ⟨u, rfl, hx, hb⟩
        obtain ⟨gx, px, nx, cx, rfl⟩ := hx.shape
        replace bw := bw.go hb
        replace bp := bp.go hb
        replace bv := bv.go hb
        replace h0 := bel_go h0 h0.size hb
        clear hb
        refine hK.out _ _ (⟨bw, bp⟩) (fun _ => ?_)
        clear hK K
        (try simp only [Act.put, List.setIfInBounds_toArray, List.set_cons_zero, List.set_cons_succ, List.getElem_toArray, List.getElem_cons_zero, List.getElem_cons_succ])
        refine wpAnyH_ready (rs := [3, 4]) (by kernel_rfl) (by simp) ?_
        refine AllReadyH.cons rfl (fun K hK => ?_) (AllReadyH.cons rfl (fun K hK => ?_) (AllReadyH.nil))
        · go_simp
          go_at_call 47; refine (hwM.out _).mono ?_
          rintro e Wy ⟨u, rfl, hy, hb⟩
          obtain ⟨gy, py, ny, cy, rfl⟩ := hy.shape
          replace bw := bw.go hb
          replace bp := bp.go hb
          replace bv := bv.go hb
          replace hx := hx.go hb
          replace h0 := bel_go h0 h0.size hb
          clear hb
          refine hK.out _ _ (⟨bw, bp⟩) (fun _ => ?_)
          clear hK K
          (try simp only [Act.put, List.setIfInBounds_toArray, List.set_cons_zero, List.set_cons_succ, List.getElem_toArray, List.getElem_cons_zero, List.getElem_cons_succ])
          refine wpAnyH_ready (rs := [4]) (by kernel_rfl) (by simp) ?_
          refine AllReadyH.cons rfl (fun K hK => ?_) (AllReadyH.nil)
          go_simp
          have hal : Below Wy.heap.size Wy (Wy.alloc (.cells #[.bool false, .slice none 0 0] 27)) := (Below.refl _ _).alloc (Nat.le_refl _) _
          have bu := Bx.new Wy 27 (.bool false) (.slice none 0 0)
          have l_bu_bw := Lib.hid bw.lt
          have l_bu_bp := Lib.hid bp.lt
          have l_bu_bv := Lib.hid bv.lt
          have s_bu := Lib.hid (show w.heap.size ≤ Wy.heap.size from h0.size)
          replace bw := bw.go hal
          replace bp := bp.go hal
          replace bv := bv.go hal
          replace hx := hx.go hal
          replace hy := hy.go hal
          replace h0 := bel_go h0 h0.size hal
          clear hal
          generalize Wy.heap.size = Bbu at bu s_bu l_bu_bw l_bu_bp l_bu_bv ⊢
          generalize Wy.alloc (.cells #[.bool false, .slice none 0 0] 27) = Vbu at bw bp bv hx hy bu h0 ⊢
          refine hK.out _ _ (⟨bw, bp⟩) (fun _ => ?_)
          clear hK K
          (try simp only [Act.put, List.setIfInBounds_toArray, List.set_cons_zero, List.set_cons_succ, List.getElem_toArray, List.getElem_cons_zero, List.getElem_cons_succ])
          refine wpAnyH_ready (rs := [6]) (by kernel_rfl) (by simp) ?_
          refine AllReadyH.cons rfl (fun K hK => ?_) (AllReadyH.nil)
          have hq0 := bu.c0
          have hq1 := bu.c1
          have hr0 := bu.f0
          have hr1 := bu.f1
          go_simp
          clear hq0 hq1 hr0 hr1
          have hP := put2 Vbu Bbu (.bool gx) (.slice px nx cx)
          have hN := bu.stored (.bool gx) (.slice px nx cx)
          generalize (Vbu.setCell ⟨Bbu, 0, none⟩ (.bool gx)).setCell ⟨Bbu, 1, none⟩ (.slice px nx cx) = WZ at hP hN ⊢
          replace hx := hx.put bu (by decide) hP
          replace hy := hy.put bu (by decide) hP
          replace bw := bw.put hP (by have := l_bu_bw.out; omega)
          replace bp := bp.put hP (by have := l_bu_bp.out; omega)
          replace bv := bv.put hP (by have := l_bu_bv.out; omega)
          replace h0 := bel_put h0 (by have := s_bu.out; omega) hP
          clear hP bu
          have bu := hN
          clear hN
          refine hK.out _ _ (⟨bw, bp⟩) (fun _ => ?_)
          clear hK K
          (try simp only [Act.put, List.setIfInBounds_toArray, List.set_cons_zero, List.set_cons_succ, List.getElem_toArray, List.getElem_cons_zero, List.getElem_cons_succ])
          refine wpAnyH_done (by kernel_rfl) ?_ _
          refine still1_step rfl (fun K hK => ?_)
          have hq0 := bv.c0
          have hq1 := bv.c1
          have hr0 := bv.f0
          have hr1 := bv.f1
          go_simp
          clear hq0 hq1 hr0 hr1
          have hP := put2 WZ Bbv (.bool gy) (.slice py ny cy)
          have hN := bv.stored (.bool gy) (.slice py ny cy)
          generalize (WZ.setCell ⟨Bbv, 0, none⟩ (.bool gy)).setCell ⟨Bbv, 1, none⟩ (.slice py ny cy) = WK at hP hN ⊢
          replace hx := hx.put bv (by decide) hP
          replace hy := hy.put bv (by decide) hP
          replace bw := bw.put hP (by have := l_bv_bw.out; omega)
          replace bp := bp.put hP (by have := l_bv_bp.out; omega)
          replace bu := bu.put hP (by have := l_bu_bv.out; omega)
          replace h0 := bel_put h0 (by have := s_bv.out; omega) hP
          clear hP bv
          have bv := hN
          clear hN
          refine hK.out _ _ ?_
          clear hK K
          (try simp only [Act.put, List.setIfInBounds_toArray, List.set_cons_zero, List.set_cons_succ, List.getElem_toArray, List.getElem_cons_zero, List.getElem_cons_succ])
          go_wp2_with fail
          go_meet
          case rel => exact ⟨gx, px, nx, cx, Bbu, gy, py, ny, cy, Bbv, rfl, rfl, bu, bv, hx, hy, bw, bp, h0⟩
        · go_simp
          have hal : Below Wx.heap.size Wx (Wx.alloc (.cells #[.bool false, .slice none 0 0] 27)) := (Below.refl _ _).alloc (Nat.le_refl _) _
          have bu := Bx.new Wx 27 (.bool false) (.slice none 0 0)
          have l_bu_bw := Lib.hid bw.lt
          have l_bu_bp := Lib.hid bp.lt
          have l_bu_bv := Lib.hid bv.lt
          have s_bu := Lib.hid (show w.heap.size ≤ Wx.heap.size from h0.size)
          replace bw := bw.go hal
          replace bp := bp.go hal
          replace bv := bv.go hal
          replace hx := hx.go hal
          replace h0 := bel_go h0 h0.size hal
          clear hal
          generalize Wx.heap.size = Bbu at bu s_bu l_bu_bw l_bu_bp l_bu_bv ⊢
          generalize Wx.alloc (.cells #[.bool false, .slice none 0 0] 27) = Vbu at bw bp bv hx bu h0 ⊢
          refine hK.out _ _ (⟨bw, bp⟩) (fun _ => ?_)
          clear hK K
          (try simp only [Act.put, List.setIfInBounds_toArray, List.set_cons_zero, List.set_cons_succ, List.getElem_toArray, List.getElem_cons_zero, List.getElem_cons_succ])
          refine wpAnyH_ready (rs := [3]) (by kernel_rfl) (by simp) ?_
          refine AllReadyH.cons rfl (fun K hK => ?_) (AllReadyH.nil)
          go_simp
          go_at_call 47; refine (hwM.out _).mono ?_
          rintro e Wy ⟨u, rfl, hy, hb⟩
          obtain ⟨gy, py, ny, cy, rfl⟩ := hy.shape
          replace bw := bw.go hb
          replace bp := bp.go hb
          replace bv := bv.go hb
          replace hx := hx.go hb
          replace bu := bu.go hb
          replace h0 := bel_go h0 h0.size hb
          clear hb
          refine hK.out _ _ (⟨bw, bp⟩) (fun _ => ?_)
          clear hK K
          (try simp only [Act.put, List.setIfInBounds_toArray, List.set_cons_zero, List.set_cons_succ, List.getElem_toArray, List.getElem_cons_zero, List.getElem_cons_succ])
          refine wpAnyH_ready (rs := [6]) (by kernel_rfl) (by simp) ?_
          refine AllReadyH.cons rfl (fun K hK => ?_) (AllReadyH.nil)
          have hq0 := bu.c0
          have hq1 := bu.c1
          have hr0 := bu.f0
          have hr1 := bu.f1
          go_simp
          clear hq0 hq1 hr0 hr1
          have hP := put2 Wy Bbu (.bool gx) (.slice px nx cx)
          have hN := bu.stored (.bool gx) (.slice px nx cx)
          generalize (Wy.setCell ⟨Bbu, 0, none⟩ (.bool gx)).setCell ⟨Bbu, 1, none⟩ (.slice px nx cx) = WZ at hP hN ⊢
          replace hx := hx.put bu (by decide) hP
          replace hy := hy.put bu (by decide) hP
          replace bw := bw.put hP (by have := l_bu_bw.out; omega)
          replace bp := bp.put hP (by have := l_bu_bp.out; omega)
          replace bv := bv.put hP (by have := l_bu_bv.out; omega)
          replace h0 := bel_put h0 (by have := s_bu.out; omega) hP
          clear hP bu
          have bu := hN
          clear hN
          refine hK.out _ _ (⟨bw, bp⟩) (fun _ => ?_)
          clear hK K
          (try simp only [Act.put, List.setIfInBounds_toArray, List.set_cons_zero, List.set_cons_succ, List.getElem_toArray, List.getElem_cons_zero, List.getElem_cons_succ])
          refine wpAnyH_done (by kernel_rfl) ?_ _
          refine still1_step rfl (fun K hK => ?_)
          have hq0 := bv.c0
          have hq1 := bv.c1
          have hr0 := bv.f0
          have hr1 := bv.f1
          go_simp
          clear hq0 hq1 hr0 hr1
          have hP := put2 WZ Bbv (.bool gy) (.slice py ny cy)
          have hN := bv.stored (.bool gy) (.slice py ny cy)
          generalize (WZ.setCell ⟨Bbv, 0, none⟩ (.bool gy)).setCell ⟨Bbv, 1, none⟩ (.slice py ny cy) = WK at hP hN ⊢
          replace hx := hx.put bv (by decide) hP
          replace hy := hy.put bv (by decide) hP
          replace bw := bw.put hP (by have := l_bv_bw.out; omega)
          replace bp := bp.put hP (by have := l_bv_bp.out; omega)
          replace bu := bu.put hP (by have := l_bu_bv.out; omega)
          replace h0 := bel_put h0 (by have := s_bv.out; omega) hP
          clear hP bv
          have bv := hN
          clear hN
          refine hK.out _ _ ?_
          clear hK K
          (try simp only [Act.put, List.setIfInBounds_toArray, List.set_cons_zero, List.set_cons_succ, List.getElem_toArray, List.getElem_cons_zero, List.getElem_cons_succ])
          go_wp2_with fail
          go_meet
          case rel => exact ⟨gx, px, nx, cx, Bbu, gy, py, ny, cy, Bbv, rfl, rfl, bu, bv, hx, hy, bw, bp, h0⟩
      · go_simp
        have hal : Below Vbv.heap.size Vbv (Vbv.alloc (.cells #[.bool false, .slice none 0 0] 27)) := (Below.refl _ _).alloc (Nat.le_refl _) _
        have bu := Bx.new Vbv 27 (.bool false) (.slice none 0 0)
        have l_bu_bw := Lib.hid bw.lt
        have l_bu_bp := Lib.hid bp.lt
        have l_bu_bv := Lib.hid bv.lt
        have s_bu := Lib.hid (show w.heap.size ≤ Vbv.heap.size from h0.size)
        replace bw := bw.go hal
        replace bp := bp.go hal
        replace bv := bv.go hal
        replace h0 := bel_go h0 h0.size hal
        clear hal
        generalize Vbv.heap.size = Bbu at bu s_bu l_bu_bw l_bu_bp l_bu_bv ⊢
        generalize Vbv.alloc (.cells #[.bool false, .slice none 0 0] 27) = Vbu at bw bp bv bu h0 ⊢
        refine hK.out _ _ (⟨bw, bp⟩) (fun _ => ?_)
        clear hK K
        (try simp only [Act.put, List.setIfInBounds_toArray, List.set_cons_zero, List.set_cons_succ, List.getElem_toArray, List.getElem_cons_zero, List.getElem_cons_succ])
        refine wpAnyH_ready (rs := [1]) (by kernel_rfl) (by simp) ?_
        refine AllReadyH.cons rfl (fun K hK => ?_) (AllReadyH.nil)
        go_simp
        go_at_call 47; refine (hwN.out _).mono ?_
        rintro e Wx ⟨u, rfl, hx, hb⟩
        obtain ⟨gx, px, nx, cx, rfl⟩ := hx.shape
        replace bw := bw.go hb
        replace bp := bp.go hb
        replace bv := bv.go hb
        replace bu := bu.go hb
        replace h0 := bel_go h0 h0.size hb
        clear hb
        refine hK.out _ _ (⟨bw, bp⟩) (fun _ => ?_)
        clear hK K
        (try simp only [Act.put, List.setIfInBounds_toArray, List.set_cons_zero, List.set_cons_succ, List.getElem_toArray, List.getElem_cons_zero, List.getElem_cons_succ])
        refine wpAnyH_ready (rs := [3]) (by kernel_rfl) (by simp) ?_
        refine AllReadyH.cons rfl (fun K hK => ?_) (AllReadyH.nil)
        go_simp
        go_at_call 47; refine (hwM.out _).mono ?_
        rintro e Wy ⟨u, rfl, hy, hb⟩
        obtain ⟨gy, py, ny, cy, rfl⟩ := hy.shape
        replace bw := bw.go hb
        replace bp := bp.go hb
        replace bv := bv.go hb
        replace bu := bu.go hb
        replace hx := hx.go hb
        replace h0 := bel_go h0 h0.size hb
        clear hb
        refine hK.out _ _ (⟨bw, bp⟩) (fun _ => ?_)
        clear hK K
        (try simp only [Act.put, List.setIfInBounds_toArray, List.set_cons_zero, List.set_cons_succ, List.getElem_toArray, List.getElem_cons_zero, List.getElem_cons_succ])
        refine wpAnyH_ready (rs := [6]) (by kernel_rfl) (by simp) ?_
        refine AllReadyH.cons rfl (fun K hK => ?_) (AllReadyH.nil)
        have hq0 := bu.c0
        have hq1 := bu.c1
        have hr0 := bu.f0
        have hr1 := bu.f1
        go_simp
        clear hq0 hq1 hr0 hr1
        have hP := put2 Wy Bbu (.bool gx) (.slice px nx cx)
        have hN := bu.stored (.bool gx) (.slice px nx cx)
        generalize (Wy.setCell ⟨Bbu, 0, none⟩ (.bool gx)).setCell ⟨Bbu, 1, none⟩ (.slice px nx cx) = WZ at hP hN ⊢
        replace hx := hx.put bu (by decide) hP
        replace hy := hy.put bu (by decide) hP
        replace bw := bw.put hP (by have := l_bu_bw.out; omega)
        replace bp := bp.put hP (by have := l_bu_bp.out; omega)
        replace bv := bv.put hP (by have := l_bu_bv.out; omega)
        replace h0 := bel_put h0 (by have := s_bu.out; omega) hP
        clear hP bu
        have bu := hN
        clear hN
        refine hK.out _ _ (⟨bw, bp⟩) (fun _ => ?_)
        clear hK K
        (try simp only [Act.put, List.setIfInBounds_toArray, List.set_cons_zero, List.set_cons_succ, List.getElem_toArray, List.getElem_cons_zero, List.getElem_cons_succ])
        refine wpAnyH_done (by kernel_rfl) ?_ _
        refine still1_step rfl (fun K hK => ?_)
        have hq0 := bv.c0
        have hq1 := bv.c1
        have hr0 := bv.f0
        have hr1 := bv.f1
        go_simp
        clear hq0 hq1 hr0 hr1
        have hP := put2 WZ Bbv (.bool gy) (.slice py ny cy)
        have hN := bv.stored (.bool gy) (.slice py ny cy)
        generalize (WZ.setCell ⟨Bbv, 0, none⟩ (.bool gy)).setCell ⟨Bbv, 1, none⟩ (.slice py ny cy) = WK at hP hN ⊢
        replace hx := hx.put bv (by decide) hP
        replace hy := hy.put bv (by decide) hP
        replace bw := bw.put hP (by have := l_bv_bw.out; omega)
        replace bp := bp.put hP (by have := l_bv_bp.out; omega)
        replace bu := bu.put hP (by have := l_bu_bv.out; omega)
        replace h0 := bel_put h0 (by have := s_bv.out; omega) hP
        clear hP bv
        have bv := hN
        clear hN
        refine hK.out _ _ ?_
        clear hK K
        (try simp only [Act.put, List.setIfInBounds_toArray, List.set_cons_zero, List.set_cons_succ, List.getElem_toArray, List.getElem_cons_zero, List.getElem_cons_succ])
        go_wp2_with fail
        go_meet
        case rel => exact ⟨gx, px, nx, cx, Bbu, gy, py, ny, cy, Bbv, rfl, rfl, bu, bv, hx, hy, bw, bp, h0⟩
  case rest =>
    clear bw bp h0
    obtain ⟨gx, px, nx, cx, Bbu, gy, py, ny, cy, Bbv, rfl, rfl, bu, bv, hx, hy, bw, bp, h0⟩ := hcut
    go_wp2
    refine wp_region_held_drew (S := fun W' => Bx W' (Bbu) 27 (.bool gx) (.slice px nx cx) ∧ Bx W' (Bbv) 27 (.bool gy) (.slice py ny cy) ∧ Bx W' (w.heap.size) 49 (.int .i64 h) (.int .u64 l) ∧ Bx W' (w.heap.size + 1) 49 (.int .i64 h') (.int .u64 l')) (by kernel_rfl) (⟨bu.drew, bv.drew, bw.drew, bp.drew⟩) (fun _ => ?_)
    replace bu := bu.drew
    replace bv := bv.drew
    replace bw := bw.drew
    replace bp := bp.drew
    replace hx := hx.drew
    replace hy := hy.drew
    replace h0 := Below.drew h0
    generalize wc.drew = wc at bu bv bw bp hx hy h0 ⊢
    refine wpAnyH_ready (rs := [0]) (by kernel_rfl) (by simp) ?_
    refine AllReadyH.cons rfl (fun K hK => ?_) (AllReadyH.nil)
    go_simp
    go_at_call 19; refine (nums_any _).mono ?_
    rintro e W1 ⟨rfl, hb⟩
    replace bu := bu.go hb
    replace bv := bv.go hb
    replace bw := bw.go hb
    replace bp := bp.go hb
    replace hx := hx.go hb
    replace hy := hy.go hb
    replace h0 := bel_go h0 h0.size hb
    clear hb
    refine hK.out _ _ (⟨bu, bv, bw, bp⟩) (fun _ => ?_)
    clear hK K
    (try simp only [Act.put, List.setIfInBounds_toArray, List.set_cons_zero, List.set_cons_succ, List.getElem_toArray, List.getElem_cons_zero, List.getElem_cons_succ])
    refine wpAnyH_take (i := 1) (v := ?_) rfl (by kernel_rfl) (by kernel_rfl) (by kernel_rfl) (fun _ _ _ h => h) (Or.inl ⟨by kernel_rfl, ?_⟩) (⟨bu, bv, bw, bp⟩) ?_
    rotate_left
    focus (intro W' hSw; obtain ⟨hx0, hx1, hx2, hx3⟩ := hSw; have hc0 := hx0.c0; have hc1 := hx0.c1; have hc2 := hx1.c0; have hc3 := hx1.c1; have hc4 := hx2.c0; have hc5 := hx2.c1; have hc6 := hx3.c0; have hc7 := hx3.c1; clear hx0 hx1 hx2 hx3; go_simp; (try with_reducible rfl))
    (try simp only [Act.put, List.setIfInBounds_toArray, List.set_cons_zero, List.set_cons_succ, List.getElem_toArray, List.getElem_cons_zero, List.getElem_cons_succ])
    refine wpAnyH_take (i := 2) (v := ?_) rfl (by kernel_rfl) (by kernel_rfl) (by kernel_rfl) (fun _ _ _ h => h) (Or.inl ⟨by kernel_rfl, ?_⟩) (⟨bu, bv, bw, bp⟩) ?_
    rotate_left
    focus (intro W' hSw; obtain ⟨hx0, hx1, hx2, hx3⟩ := hSw; have hc0 := hx0.c0; have hc1 := hx0.c1; have hc2 := hx1.c0; have hc3 := hx1.c1; have hc4 := hx2.c0; have hc5 := hx2.c1; have hc6 := hx3.c0; have hc7 := hx3.c1; clear hx0 hx1 hx2 hx3; go_simp; (try with_reducible rfl))
    (try simp only [Act.put, List.setIfInBounds_toArray, List.set_cons_zero, List.set_cons_succ, List.getElem_toArray, List.getElem_cons_zero, List.getElem_cons_succ])
    refine wpAnyH_take (i := 3) (v := ?_) rfl (by kernel_rfl) (by kernel_rfl) (by kernel_rfl) (fun _ _ _ h => h) (Or.inl ⟨by kernel_rfl, ?_⟩) (⟨bu, bv, bw, bp⟩) ?_
    rotate_left
    focus (intro W' hSw; obtain ⟨hx0, hx1, hx2, hx3⟩ := hSw; have hc0 := hx0.c0; have hc1 := hx0.c1; have hc2 := hx1.c0; have hc3 := hx1.c1; have hc4 := hx2.c0; have hc5 := hx2.c1; have hc6 := hx3.c0; have hc7 := hx3.c1; clear hx0 hx1 hx2 hx3; go_simp; (try with_reducible rfl))
    (try simp only [Act.put, List.setIfInBounds_toArray, List.set_cons_zero, List.set_cons_succ, List.getElem_toArray, List.getElem_cons_zero, List.getElem_cons_succ])
    refine wpAnyH_take (i := 6) (v := ?_) rfl (by kernel_rfl) (by kernel_rfl) (by kernel_rfl) (fun _ _ _ h => h) (Or.inl ⟨by kernel_rfl, ?_⟩) (⟨bu, bv, bw, bp⟩) ?_
    rotate_left
    focus (intro W' hSw; obtain ⟨hx0, hx1, hx2, hx3⟩ := hSw; have hc0 := hx0.c0; have hc1 := hx0.c1; have hc2 := hx1.c0; have hc3 := hx1.c1; have hc4 := hx2.c0; have hc5 := hx2.c1; have hc6 := hx3.c0; have hc7 := hx3.c1; clear hx0 hx1 hx2 hx3; go_simp; (try with_reducible rfl))
    (try simp only [Act.put, List.setIfInBounds_toArray, List.set_cons_zero, List.set_cons_succ, List.getElem_toArray, List.getElem_cons_zero, List.getElem_cons_succ])
    refine wpAnyH_take (i := 8) (v := ?_) rfl (by kernel_rfl) (by kernel_rfl) (by kernel_rfl) (fun _ _ _ h => h) (Or.inl ⟨by kernel_rfl, ?_⟩) (⟨bu, bv, bw, bp⟩) ?_
    rotate_left
    focus (intro W' hSw; obtain ⟨hx0, hx1, hx2, hx3⟩ := hSw; have hc0 := hx0.c0; have hc1 := hx0.c1; have hc2 := hx1.c0; have hc3 := hx1.c1; have hc4 := hx2.c0; have hc5 := hx2.c1; have hc6 := hx3.c0; have hc7 := hx3.c1; clear hx0 hx1 hx2 hx3; go_simp; (try with_reducible rfl))
    (try simp only [Act.put, List.setIfInBounds_toArray, List.set_cons_zero, List.set_cons_succ, List.getElem_toArray, List.getElem_cons_zero, List.getElem_cons_succ])
    refine wpAnyH_ready (rs := [4]) (by kernel_rfl) (by simp) ?_
    refine AllReadyH.cons rfl (fun K hK => ?_) (AllReadyH.nil)
    go_simp
    go_at_call 50; refine (prod_any a b a1 a2 b1 b2 _).mono ?_
    rintro e W2 ⟨rfl, hb⟩
    replace bu := bu.go hb
    replace bv := bv.go hb
    replace bw := bw.go hb
    replace bp := bp.go hb
    replace hx := hx.go hb
    replace hy := hy.go hb
    replace h0 := bel_go h0 h0.size hb
    clear hb
    refine hK.out _ _ (⟨bu, bv, bw, bp⟩) (fun _ => ?_)
    clear hK K
    (try simp only [Act.put, List.setIfInBounds_toArray, List.set_cons_zero, List.set_cons_succ, List.getElem_toArray, List.getElem_cons_zero, List.getElem_cons_succ])
    refine wpAnyH_ready (rs := [5]) (by kernel_rfl) (by simp) ?_
    refine AllReadyH.cons rfl (fun K hK => ?_) (AllReadyH.nil)
    go_simp
    go_at_call 47; refine (wideof_any (a * b) hab _).mono ?_
    rintro e Wp ⟨u, rfl, hp, hb⟩
    obtain ⟨gp, pp, np, cp, rfl⟩ := hp.shape
    replace bu := bu.go hb
    replace bv := bv.go hb
    replace bw := bw.go hb
    replace bp := bp.go hb
    replace hx := hx.go hb
    replace hy := hy.go hb
    replace h0 := bel_go h0 h0.size hb
    clear hb
    refine hK.out _ _ (⟨bu, bv, bw, bp⟩) (fun _ => ?_)
    clear hK K
    (try simp only [Act.put, List.setIfInBounds_toArray, List.set_cons_zero, List.set_cons_succ, List.getElem_toArray, List.getElem_cons_zero, List.getElem_cons_succ])
    refine wpAnyH_ready (rs := [7]) (by kernel_rfl) (by simp) ?_
    refine AllReadyH.cons rfl (fun K hK => ?_) (AllReadyH.nil)
    go_simp
    go_at_call 25; refine (i_any a a1 a2 _).mono ?_
    rintro e Wi ⟨u, rfl, hi, hb⟩
    obtain ⟨gi, pi, ni, ci, rfl⟩ := hi.shape
    replace bu := bu.go hb
    replace bv := bv.go hb
    replace bw := bw.go hb
    replace bp := bp.go hb
    replace hx := hx.go hb
    replace hy := hy.go hb
    replace hp := hp.go hb
    replace h0 := bel_go h0 h0.size hb
    clear hb
    refine hK.out _ _ (⟨bu, bv, bw, bp⟩) (fun _ => ?_)
    clear hK K
    (try simp only [Act.put, List.setIfInBounds_toArray, List.set_cons_zero, List.set_cons_succ, List.getElem_toArray, List.getElem_cons_zero, List.getElem_cons_succ])
    refine wpAnyH_ready (rs := [9]) (by kernel_rfl) (by simp) ?_
    refine AllReadyH.cons rfl (fun K hK => ?_) (AllReadyH.nil)
    go_simp
    go_at_call 25; refine (i_any b b1 b2 _).mono ?_
    rintro e Wj ⟨u, rfl, hj, hb⟩
    obtain ⟨gj, pj, nj, cj, rfl⟩ := hj.shape
    replace bu := bu.go hb
    replace bv := bv.go hb
    replace bw := bw.go hb
    replace bp := bp.go hb
    replace hx := hx.go hb
    replace hy := hy.go hb
    replace hp := hp.go hb
    replace hi := hi.go hb
    replace h0 := bel_go h0 h0.size hb
    clear hb
    refine hK.out _ _ (⟨bu, bv, bw, bp⟩) (fun _ => ?_)
    clear hK K
    (try simp only [Act.put, List.setIfInBounds_toArray, List.set_cons_zero, List.set_cons_succ, List.getElem_toArray, List.getElem_cons_zero, List.getElem_cons_succ])
    refine wpAnyH_ready (rs := [10]) (by kernel_rfl) (by simp) ?_
    refine AllReadyH.cons rfl (fun K hK => ?_) (AllReadyH.nil)
    go_simp
    go_at_call 28; refine (ztimes_any _ _ a b sp2 _ hi hj).mono ?_
    rintro e Wt ⟨u, rfl, ht, hb⟩
    obtain ⟨gt, pt, nt, ct, rfl⟩ := ht.shape
    replace bu := bu.go hb
    replace bv := bv.go hb
    replace bw := bw.go hb
    replace bp := bp.go hb
    replace hx := hx.go hb
    replace hy := hy.go hb
    replace hp := hp.go hb
    replace h0 := bel_go h0 h0.size hb
    clear hb
    refine hK.out _ _ (⟨bu, bv, bw, bp⟩) (fun _ => ?_)
    clear hK K
    (try simp only [Act.put, List.setIfInBounds_toArray, List.set_cons_zero, List.set_cons_succ, List.getElem_toArray, List.getElem_cons_zero, List.getElem_cons_succ])
    refine wpAnyH_ready (rs := [11]) (by kernel_rfl) (by simp) ?_
    refine AllReadyH.cons rfl (fun K hK => ?_) (AllReadyH.nil)
    go_simp
    go_at_call 35; refine (zcmp_any _ _ (a * b) (a * b) sp sp _ hp ht).mono ?_
    rintro e W3 ⟨rfl, hb⟩
    clear hp ht hi hj
    replace bu := bu.go hb
    replace bv := bv.go hb
    replace bw := bw.go hb
    replace bp := bp.go hb
    replace hx := hx.go hb
    replace hy := hy.go hb
    replace h0 := bel_go h0 h0.size hb
    clear hb
    refine hK.out _ _ (⟨bu, bv, bw, bp⟩) (fun _ => ?_)
    clear hK K
    (try simp only [Act.put, List.setIfInBounds_toArray, List.set_cons_zero, List.set_cons_succ, List.getElem_toArray, List.getElem_cons_zero, List.getElem_cons_succ])
    refine wpAnyH_take (i := 12) (v := ?_) rfl (by kernel_rfl) (by kernel_rfl) (by kernel_rfl) (fun _ _ _ h => h) (Or.inl ⟨by kernel_rfl, ?_⟩) (⟨bu, bv, bw, bp⟩) ?_
    rotate_left
    focus (intro W' hSw; obtain ⟨hx0, hx1, hx2, hx3⟩ := hSw; have hc0 := hx0.c0; have hc1 := hx0.c1; have hc2 := hx1.c0; have hc3 := hx1.c1; have hc4 := hx2.c0; have hc5 := hx2.c1; have hc6 := hx3.c0; have hc7 := hx3.c1; clear hx0 hx1 hx2 hx3; go_simp; (try with_reducible rfl))
    (try simp only [Act.put, List.setIfInBounds_toArray, List.set_cons_zero, List.set_cons_succ, List.getElem_toArray, List.getElem_cons_zero, List.getElem_cons_succ])
    refine wpAnyH_take (i := 13) (v := ?_) rfl (by kernel_rfl) (by kernel_rfl) (by kernel_rfl) (fun _ _ _ h => h) (Or.inl ⟨by kernel_rfl, ?_⟩) (⟨bu, bv, bw, bp⟩) ?_
    rotate_left
    focus (intro W' hSw; obtain ⟨hx0, hx1, hx2, hx3⟩ := hSw; have hc0 := hx0.c0; have hc1 := hx0.c1; have hc2 := hx1.c0; have hc3 := hx1.c1; have hc4 := hx2.c0; have hc5 := hx2.c1; have hc6 := hx3.c0; have hc7 := hx3.c1; clear hx0 hx1 hx2 hx3; go_simp; (try with_reducible rfl))
    (try simp only [Act.put, List.setIfInBounds_toArray, List.set_cons_zero, List.set_cons_succ, List.getElem_toArray, List.getElem_cons_zero, List.getElem_cons_succ])
    refine wpAnyH_take (i := 14) (v := ?_) rfl (by kernel_rfl) (by kernel_rfl) (by kernel_rfl) (fun _ _ _ h => h) (Or.inl ⟨by kernel_rfl, ?_⟩) (⟨bu, bv, bw, bp⟩) ?_
    rotate_left
    focus (intro W' hSw; obtain ⟨hx0, hx1, hx2, hx3⟩ := hSw; have hc0 := hx0.c0; have hc1 := hx0.c1; have hc2 := hx1.c0; have hc3 := hx1.c1; have hc4 := hx2.c0; have hc5 := hx2.c1; have hc6 := hx3.c0; have hc7 := hx3.c1; clear hx0 hx1 hx2 hx3; go_simp; (try with_reducible rfl))
    (try simp only [Act.put, List.setIfInBounds_toArray, List.set_cons_zero, List.set_cons_succ, List.getElem_toArray, List.getElem_cons_zero, List.getElem_cons_succ])
    refine wpAnyH_take (i := 15) (v := ?_) rfl (by kernel_rfl) (by kernel_rfl) (by kernel_rfl) (fun _ _ _ h => h) (Or.inl ⟨by kernel_rfl, ?_⟩) (⟨bu, bv, bw, bp⟩) ?_
    rotate_left
    focus (intro W' hSw; obtain ⟨hx0, hx1, hx2, hx3⟩ := hSw; have hc0 := hx0.c0; have hc1 := hx0.c1; have hc2 := hx1.c0; have hc3 := hx1.c1; have hc4 := hx2.c0; have hc5 := hx2.c1; have hc6 := hx3.c0; have hc7 := hx3.c1; clear hx0 hx1 hx2 hx3; go_simp; (try with_reducible rfl))
    (try simp only [Act.put, List.setIfInBounds_toArray, List.set_cons_zero, List.set_cons_succ, List.getElem_toArray, List.getElem_cons_zero, List.getElem_cons_succ])
    refine wpAnyH_take (i := 16) (v := ?_) rfl (by kernel_rfl) (by kernel_rfl) (by kernel_rfl) (fun _ _ _ h => h) (Or.inl ⟨by kernel_rfl, ?_⟩) (⟨bu, bv, bw, bp⟩) ?_
    rotate_left
    focus (intro W' hSw; obtain ⟨hx0, hx1, hx2, hx3⟩ := hSw; have hc0 := hx0.c0; have hc1 := hx0.c1; have hc2 := hx1.c0; have hc3 := hx1.c1; have hc4 := hx2.c0; have hc5 := hx2.c1; have hc6 := hx3.c0; have hc7 := hx3.c1; clear hx0 hx1 hx2 hx3; go_simp; (try with_reducible rfl))
    (try simp only [Act.put, List.setIfInBounds_toArray, List.set_cons_zero, List.set_cons_succ, List.getElem_toArray, List.getElem_cons_zero, List.getElem_cons_succ])
    refine wpAnyH_take (i := 18) (v := ?_) rfl (by kernel_rfl) (by kernel_rfl) (by kernel_rfl) (fun _ _ _ h => h) (Or.inl ⟨by kernel_rfl, ?_⟩) (⟨bu, bv, bw, bp⟩) ?_
    rotate_left
    focus (intro W' hSw; obtain ⟨hx0, hx1, hx2, hx3⟩ := hSw; have hc0 := hx0.c0; have hc1 := hx0.c1; have hc2 := hx1.c0; have hc3 := hx1.c1; have hc4 := hx2.c0; have hc5 := hx2.c1; have hc6 := hx3.c0; have hc7 := hx3.c1; clear hx0 hx1 hx2 hx3; go_simp; (try with_reducible rfl))
    (try simp only [Act.put, List.setIfInBounds_toArray, List.set_cons_zero, List.set_cons_succ, List.getElem_toArray, List.getElem_cons_zero, List.getElem_cons_succ])
    refine wpAnyH_ready (rs := [17]) (by kernel_rfl) (by simp) ?_
    refine AllReadyH.cons rfl (fun K hK => ?_) (AllReadyH.nil)
    go_simp
    go_at_call 51; refine (hng.out _).mono ?_
    rintro e W4 ⟨rfl, hb⟩
    replace bu := bu.go hb
    replace bv := bv.go hb
    replace bw := bw.go hb
    replace bp := bp.go hb
    replace hx := hx.go hb
    replace hy := hy.go hb
    replace h0 := bel_go h0 h0.size hb
    clear hb
    refine hK.out _ _ (⟨bu, bv, bw, bp⟩) (fun _ => ?_)
    clear hK K
    (try simp only [Act.put, List.setIfInBounds_toArray, List.set_cons_zero, List.set_cons_succ, List.getElem_toArray, List.getElem_cons_zero, List.getElem_cons_succ])
    refine wpAnyH_ready (rs := [19]) (by kernel_rfl) (by simp) ?_
    refine AllReadyH.cons rfl (fun K hK => ?_) (AllReadyH.nil)
    go_simp
    go_at_call 52; refine (zminus_any _ n sn _ hx).mono ?_
    rintro e Wk ⟨u, rfl, hk, hb⟩
    obtain ⟨gk, pk, nk, ck, rfl⟩ := hk.shape
    replace bu := bu.go hb
    replace bv := bv.go hb
    replace bw := bw.go hb
    replace bp := bp.go hb
    replace hx := hx.go hb
    replace hy := hy.go hb
    replace h0 := bel_go h0 h0.size hb
    clear hb
    refine hK.out _ _ (⟨bu, bv, bw, bp⟩) (fun _ => ?_)
    clear hK K
    (try simp only [Act.put, List.setIfInBounds_toArray, List.set_cons_zero, List.set_cons_succ, List.getElem_toArray, List.getElem_cons_zero, List.getElem_cons_succ])
    refine wpAnyH_ready (rs := [20]) (by kernel_rfl) (by simp) ?_
    refine AllReadyH.cons rfl (fun K hK => ?_) (AllReadyH.nil)
    go_simp
    go_at_call 46; refine (same_any (w128 (-n)) (w128_in _) (-n) _ ln1 MD1.out _ hk).mono ?_
    rintro e W5 ⟨rfl, hb⟩
    clear hk
    replace bu := bu.go hb
    replace bv := bv.go hb
    replace bw := bw.go hb
    replace bp := bp.go hb
    replace hx := hx.go hb
    replace hy := hy.go hb
    replace h0 := bel_go h0 h0.size hb
    clear hb
    refine hK.out _ _ (⟨bu, bv, bw, bp⟩) (fun _ => ?_)
    clear hK K
    (try simp only [Act.put, List.setIfInBounds_toArray, List.set_cons_zero, List.set_cons_succ, List.getElem_toArray, List.getElem_cons_zero, List.getElem_cons_succ])
    refine wpAnyH_take (i := 21) (v := ?_) rfl (by kernel_rfl) (by kernel_rfl) (by kernel_rfl) (fun _ _ _ h => h) (Or.inl ⟨by kernel_rfl, ?_⟩) (⟨bu, bv, bw, bp⟩) ?_
    rotate_left
    focus (intro W' hSw; obtain ⟨hx0, hx1, hx2, hx3⟩ := hSw; have hc0 := hx0.c0; have hc1 := hx0.c1; have hc2 := hx1.c0; have hc3 := hx1.c1; have hc4 := hx2.c0; have hc5 := hx2.c1; have hc6 := hx3.c0; have hc7 := hx3.c1; clear hx0 hx1 hx2 hx3; go_simp; (try with_reducible rfl))
    (try simp only [Act.put, List.setIfInBounds_toArray, List.set_cons_zero, List.set_cons_succ, List.getElem_toArray, List.getElem_cons_zero, List.getElem_cons_succ])
    refine wpAnyH_take (i := 22) (v := ?_) rfl (by kernel_rfl) (by kernel_rfl) (by kernel_rfl) (fun _ _ _ h => h) (Or.inl ⟨by kernel_rfl, ?_⟩) (⟨bu, bv, bw, bp⟩) ?_
    rotate_left
    focus (intro W' hSw; obtain ⟨hx0, hx1, hx2, hx3⟩ := hSw; have hc0 := hx0.c0; have hc1 := hx0.c1; have hc2 := hx1.c0; have hc3 := hx1.c1; have hc4 := hx2.c0; have hc5 := hx2.c1; have hc6 := hx3.c0; have hc7 := hx3.c1; clear hx0 hx1 hx2 hx3; go_simp; (try with_reducible rfl))
    (try simp only [Act.put, List.setIfInBounds_toArray, List.set_cons_zero, List.set_cons_succ, List.getElem_toArray, List.getElem_cons_zero, List.getElem_cons_succ])
    refine wpAnyH_take (i := 23) (v := ?_) rfl (by kernel_rfl) (by kernel_rfl) (by kernel_rfl) (fun _ _ _ h => h) (Or.inl ⟨by kernel_rfl, ?_⟩) (⟨bu, bv, bw, bp⟩) ?_
    rotate_left
    focus (intro W' hSw; obtain ⟨hx0, hx1, hx2, hx3⟩ := hSw; have hc0 := hx0.c0; have hc1 := hx0.c1; have hc2 := hx1.c0; have hc3 := hx1.c1; have hc4 := hx2.c0; have hc5 := hx2.c1; have hc6 := hx3.c0; have hc7 := hx3.c1; clear hx0 hx1 hx2 hx3; go_simp; (try with_reducible rfl))
    (try simp only [Act.put, List.setIfInBounds_toArray, List.set_cons_zero, List.set_cons_succ, List.getElem_toArray, List.getElem_cons_zero, List.getElem_cons_succ])
    refine wpAnyH_take (i := 24) (v := ?_) rfl (by kernel_rfl) (by kernel_rfl) (by kernel_rfl) (fun _ _ _ h => h) (Or.inl ⟨by kernel_rfl, ?_⟩) (⟨bu, bv, bw, bp⟩) ?_
    rotate_left
    focus (intro W' hSw; obtain ⟨hx0, hx1, hx2, hx3⟩ := hSw; have hc0 := hx0.c0; have hc1 := hx0.c1; have hc2 := hx1.c0; have hc3 := hx1.c1; have hc4 := hx2.c0; have hc5 := hx2.c1; have hc6 := hx3.c0; have hc7 := hx3.c1; clear hx0 hx1 hx2 hx3; go_simp; (try with_reducible rfl))
    (try simp only [Act.put, List.setIfInBounds_toArray, List.set_cons_zero, List.set_cons_succ, List.getElem_toArray, List.getElem_cons_zero, List.getElem_cons_succ])
    refine wpAnyH_take (i := 25) (v := ?_) rfl (by kernel_rfl) (by kernel_rfl) (by kernel_rfl) (fun _ _ _ h => h) (Or.inl ⟨by kernel_rfl, ?_⟩) (⟨bu, bv, bw, bp⟩) ?_
    rotate_left
    focus (intro W' hSw; obtain ⟨hx0, hx1, hx2, hx3⟩ := hSw; have hc0 := hx0.c0; have hc1 := hx0.c1; have hc2 := hx1.c0; have hc3 := hx1.c1; have hc4 := hx2.c0; have hc5 := hx2.c1; have hc6 := hx3.c0; have hc7 := hx3.c1; clear hx0 hx1 hx2 hx3; go_simp; (try with_reducible rfl))
    (try simp only [Act.put, List.setIfInBounds_toArray, List.set_cons_zero, List.set_cons_succ, List.getElem_toArray, List.getElem_cons_zero, List.getElem_cons_succ])
    refine wpAnyH_take (i := 27) (v := ?_) rfl (by kernel_rfl) (by kernel_rfl) (by kernel_rfl) (fun _ _ _ h => h) (Or.inl ⟨by kernel_rfl, ?_⟩) (⟨bu, bv, bw, bp⟩) ?_
    rotate_left
    focus (intro W' hSw; obtain ⟨hx0, hx1, hx2, hx3⟩ := hSw; have hc0 := hx0.c0; have hc1 := hx0.c1; have hc2 := hx1.c0; have hc3 := hx1.c1; have hc4 := hx2.c0; have hc5 := hx2.c1; have hc6 := hx3.c0; have hc7 := hx3.c1; clear hx0 hx1 hx2 hx3; go_simp; (try with_reducible rfl))
    (try simp only [Act.put, List.setIfInBounds_toArray, List.set_cons_zero, List.set_cons_succ, List.getElem_toArray, List.getElem_cons_zero, List.getElem_cons_succ])
    refine wpAnyH_take (i := 28) (v := ?_) rfl (by kernel_rfl) (by kernel_rfl) (by kernel_rfl) (fun _ _ _ h => h) (Or.inl ⟨by kernel_rfl, ?_⟩) (⟨bu, bv, bw, bp⟩) ?_
    rotate_left
    focus (intro W' hSw; obtain ⟨hx0, hx1, hx2, hx3⟩ := hSw; have hc0 := hx0.c0; have hc1 := hx0.c1; have hc2 := hx1.c0; have hc3 := hx1.c1; have hc4 := hx2.c0; have hc5 := hx2.c1; have hc6 := hx3.c0; have hc7 := hx3.c1; clear hx0 hx1 hx2 hx3; go_simp; (try with_reducible rfl))
    (try simp only [Act.put, List.setIfInBounds_toArray, List.set_cons_zero, List.set_cons_succ, List.getElem_toArray, List.getElem_cons_zero, List.getElem_cons_succ])
    refine wpAnyH_ready (rs := [26]) (by kernel_rfl) (by simp) ?_
    refine AllReadyH.cons rfl (fun K hK => ?_) (AllReadyH.nil)
    go_simp
    go_at_call 53; refine (hpl.out _).mono ?_
    rintro e W6 ⟨rfl, hb⟩
    replace bu := bu.go hb
    replace bv := bv.go hb
    replace bw := bw.go hb
    replace bp := bp.go hb
    replace hx := hx.go hb
    replace hy := hy.go hb
    replace h0 := bel_go h0 h0.size hb
    clear hb
    refine hK.out _ _ (⟨bu, bv, bw, bp⟩) (fun _ => ?_)
    clear hK K
    (try simp only [Act.put, List.setIfInBounds_toArray, List.set_cons_zero, List.set_cons_succ, List.getElem_toArray, List.getElem_cons_zero, List.getElem_cons_succ])
    refine wpAnyH_ready (rs := [29]) (by kernel_rfl) (by simp) ?_
    refine AllReadyH.cons rfl (fun K hK => ?_) (AllReadyH.nil)
    go_simp
    go_at_call 26; refine (zplus_any _ _ n m sn sm _ hx hy).mono ?_
    rintro e Wk ⟨u, rfl, hk, hb⟩
    obtain ⟨gk, pk, nk, ck, rfl⟩ := hk.shape
    replace bu := bu.go hb
    replace bv := bv.go hb
    replace bw := bw.go hb
    replace bp := bp.go hb
    replace hx := hx.go hb
    replace hy := hy.go hb
    replace h0 := bel_go h0 h0.size hb
    clear hb
    refine hK.out _ _ (⟨bu, bv, bw, bp⟩) (fun _ => ?_)
    clear hK K
    (try simp only [Act.put, List.setIfInBounds_toArray, List.set_cons_zero, List.set_cons_succ, List.getElem_toArray, List.getElem_cons_zero, List.getElem_cons_succ])
    refine wpAnyH_ready (rs := [30]) (by kernel_rfl) (by simp) ?_
    refine AllReadyH.cons rfl (fun K hK => ?_) (AllReadyH.nil)
    go_simp
    go_at_call 46; refine (same_any (w128 (n + m)) (w128_in _) (n + m) _ ln2 MD2.out _ hk).mono ?_
    rintro e W7 ⟨rfl, hb⟩
    clear hk
    replace bu := bu.go hb
    replace bv := bv.go hb
    replace bw := bw.go hb
    replace bp := bp.go hb
    replace hx := hx.go hb
    replace hy := hy.go hb
    replace h0 := bel_go h0 h0.size hb
    clear hb
    refine hK.out _ _ (⟨bu, bv, bw, bp⟩) (fun _ => ?_)
    clear hK K
    (try simp only [Act.put, List.setIfInBounds_toArray, List.set_cons_zero, List.set_cons_succ, List.getElem_toArray, List.getElem_cons_zero, List.getElem_cons_succ])
    refine wpAnyH_take (i := 31) (v := ?_) rfl (by kernel_rfl) (by kernel_rfl) (by kernel_rfl) (fun _ _ _ h => h) (Or.inl ⟨by kernel_rfl, ?_⟩) (⟨bu, bv, bw, bp⟩) ?_
    rotate_left
    focus (intro W' hSw; obtain ⟨hx0, hx1, hx2, hx3⟩ := hSw; have hc0 := hx0.c0; have hc1 := hx0.c1; have hc2 := hx1.c0; have hc3 := hx1.c1; have hc4 := hx2.c0; have hc5 := hx2.c1; have hc6 := hx3.c0; have hc7 := hx3.c1; clear hx0 hx1 hx2 hx3; go_simp; (try with_reducible rfl))
    (try simp only [Act.put, List.setIfInBounds_toArray, List.set_cons_zero, List.set_cons_succ, List.getElem_toArray, List.getElem_cons_zero, List.getElem_cons_succ])
    refine wpAnyH_take (i := 32) (v := ?_) rfl (by kernel_rfl) (by kernel_rfl) (by kernel_rfl) (fun _ _ _ h => h) (Or.inl ⟨by kernel_rfl, ?_⟩) (⟨bu, bv, bw, bp⟩) ?_
    rotate_left
    focus (intro W' hSw; obtain ⟨hx0, hx1, hx2, hx3⟩ := hSw; have hc0 := hx0.c0; have hc1 := hx0.c1; have hc2 := hx1.c0; have hc3 := hx1.c1; have hc4 := hx2.c0; have hc5 := hx2.c1; have hc6 := hx3.c0; have hc7 := hx3.c1; clear hx0 hx1 hx2 hx3; go_simp; (try with_reducible rfl))
    (try simp only [Act.put, List.setIfInBounds_toArray, List.set_cons_zero, List.set_cons_succ, List.getElem_toArray, List.getElem_cons_zero, List.getElem_cons_succ])
    refine wpAnyH_take (i := 33) (v := ?_) rfl (by kernel_rfl) (by kernel_rfl) (by kernel_rfl) (fun _ _ _ h => h) (Or.inl ⟨by kernel_rfl, ?_⟩) (⟨bu, bv, bw, bp⟩) ?_
    rotate_left
    focus (intro W' hSw; obtain ⟨hx0, hx1, hx2, hx3⟩ := hSw; have hc0 := hx0.c0; have hc1 := hx0.c1; have hc2 := hx1.c0; have hc3 := hx1.c1; have hc4 := hx2.c0; have hc5 := hx2.c1; have hc6 := hx3.c0; have hc7 := hx3.c1; clear hx0 hx1 hx2 hx3; go_simp; (try with_reducible rfl))
    (try simp only [Act.put, List.setIfInBounds_toArray, List.set_cons_zero, List.set_cons_succ, List.getElem_toArray, List.getElem_cons_zero, List.getElem_cons_succ])
    refine wpAnyH_take (i := 34) (v := ?_) rfl (by kernel_rfl) (by kernel_rfl) (by kernel_rfl) (fun _ _ _ h => h) (Or.inl ⟨by kernel_rfl, ?_⟩) (⟨bu, bv, bw, bp⟩) ?_
    rotate_left
    focus (intro W' hSw; obtain ⟨hx0, hx1, hx2, hx3⟩ := hSw; have hc0 := hx0.c0; have hc1 := hx0.c1; have hc2 := hx1.c0; have hc3 := hx1.c1; have hc4 := hx2.c0; have hc5 := hx2.c1; have hc6 := hx3.c0; have hc7 := hx3.c1; clear hx0 hx1 hx2 hx3; go_simp; (try with_reducible rfl))
    (try simp only [Act.put, List.setIfInBounds_toArray, List.set_cons_zero, List.set_cons_succ, List.getElem_toArray, List.getElem_cons_zero, List.getElem_cons_succ])
    refine wpAnyH_take (i := 36) (v := ?_) rfl (by kernel_rfl) (by kernel_rfl) (by kernel_rfl) (fun _ _ _ h => h) (Or.inl ⟨by kernel_rfl, ?_⟩) (⟨bu, bv, bw, bp⟩) ?_
    rotate_left
    focus (intro W' hSw; obtain ⟨hx0, hx1, hx2, hx3⟩ := hSw; have hc0 := hx0.c0; have hc1 := hx0.c1; have hc2 := hx1.c0; have hc3 := hx1.c1; have hc4 := hx2.c0; have hc5 := hx2.c1; have hc6 := hx3.c0; have hc7 := hx3.c1; clear hx0 hx1 hx2 hx3; go_simp; (try with_reducible rfl))
    (try simp only [Act.put, List.setIfInBounds_toArray, List.set_cons_zero, List.set_cons_succ, List.getElem_toArray, List.getElem_cons_zero, List.getElem_cons_succ])
    refine wpAnyH_take (i := 37) (v := ?_) rfl (by kernel_rfl) (by kernel_rfl) (by kernel_rfl) (fun _ _ _ h => h) (Or.inl ⟨by kernel_rfl, ?_⟩) (⟨bu, bv, bw, bp⟩) ?_
    rotate_left
    focus (intro W' hSw; obtain ⟨hx0, hx1, hx2, hx3⟩ := hSw; have hc0 := hx0.c0; have hc1 := hx0.c1; have hc2 := hx1.c0; have hc3 := hx1.c1; have hc4 := hx2.c0; have hc5 := hx2.c1; have hc6 := hx3.c0; have hc7 := hx3.c1; clear hx0 hx1 hx2 hx3; go_simp; (try with_reducible rfl))
    (try simp only [Act.put, List.setIfInBounds_toArray, List.set_cons_zero, List.set_cons_succ, List.getElem_toArray, List.getElem_cons_zero, List.getElem_cons_succ])
    refine wpAnyH_ready (rs := [35]) (by kernel_rfl) (by simp) ?_
    refine AllReadyH.cons rfl (fun K hK => ?_) (AllReadyH.nil)
    go_simp
    go_at_call 54; refine (hcm.out _).mono ?_
    rintro e W8 ⟨rfl, hb⟩
    replace bu := bu.go hb
    replace bv := bv.go hb
    replace bw := bw.go hb
    replace bp := bp.go hb
    replace hx := hx.go hb
    replace hy := hy.go hb
    replace h0 := bel_go h0 h0.size hb
    clear hb
    refine hK.out _ _ (⟨bu, bv, bw, bp⟩) (fun _ => ?_)
    clear hK K
    (try simp only [Act.put, List.setIfInBounds_toArray, List.set_cons_zero, List.set_cons_succ, List.getElem_toArray, List.getElem_cons_zero, List.getElem_cons_succ])
    refine wpAnyH_ready (rs := [38]) (by kernel_rfl) (by simp) ?_
    refine AllReadyH.cons rfl (fun K hK => ?_) (AllReadyH.nil)
    go_simp
    go_at_call 35; refine (zcmp_any _ _ n m sn sm _ hx hy).mono ?_
    rintro e W9 ⟨rfl, hb⟩
    replace bu := bu.go hb
    replace bv := bv.go hb
    replace bw := bw.go hb
    replace bp := bp.go hb
    replace hx := hx.go hb
    replace hy := hy.go hb
    replace h0 := bel_go h0 h0.size hb
    clear hb
    refine hK.out _ _ (⟨bu, bv, bw, bp⟩) (fun _ => ?_)
    clear hK K
    (try simp only [Act.put, List.setIfInBounds_toArray, List.set_cons_zero, List.set_cons_succ, List.getElem_toArray, List.getElem_cons_zero, List.getElem_cons_succ])
    refine wpAnyH_take (i := 39) (v := ?_) rfl (by kernel_rfl) (by kernel_rfl) (by kernel_rfl) (fun _ _ _ h => h) (Or.inl ⟨by kernel_rfl, ?_⟩) (⟨bu, bv, bw, bp⟩) ?_
    rotate_left
    focus (intro W' hSw; obtain ⟨hx0, hx1, hx2, hx3⟩ := hSw; have hc0 := hx0.c0; have hc1 := hx0.c1; have hc2 := hx1.c0; have hc3 := hx1.c1; have hc4 := hx2.c0; have hc5 := hx2.c1; have hc6 := hx3.c0; have hc7 := hx3.c1; clear hx0 hx1 hx2 hx3; go_simp; (try with_reducible rfl))
    (try simp only [Act.put, List.setIfInBounds_toArray, List.set_cons_zero, List.set_cons_succ, List.getElem_toArray, List.getElem_cons_zero, List.getElem_cons_succ])
    refine wpAnyH_take (i := 40) (v := ?_) rfl (by kernel_rfl) (by kernel_rfl) (by kernel_rfl) (fun _ _ _ h => h) (Or.inl ⟨by kernel_rfl, ?_⟩) (⟨bu, bv, bw, bp⟩) ?_
    rotate_left
    focus (intro W' hSw; obtain ⟨hx0, hx1, hx2, hx3⟩ := hSw; have hc0 := hx0.c0; have hc1 := hx0.c1; have hc2 := hx1.c0; have hc3 := hx1.c1; have hc4 := hx2.c0; have hc5 := hx2.c1; have hc6 := hx3.c0; have hc7 := hx3.c1; clear hx0 hx1 hx2 hx3; go_simp; (try with_reducible rfl))
    (try simp only [Act.put, List.setIfInBounds_toArray, List.set_cons_zero, List.set_cons_succ, List.getElem_toArray, List.getElem_cons_zero, List.getElem_cons_succ])
    refine wpAnyH_take (i := 41) (v := ?_) rfl (by kernel_rfl) (by kernel_rfl) (by kernel_rfl) (fun _ _ _ h => h) (Or.inl ⟨by kernel_rfl, ?_⟩) (⟨bu, bv, bw, bp⟩) ?_
    rotate_left
    focus (intro W' hSw; obtain ⟨hx0, hx1, hx2, hx3⟩ := hSw; have hc0 := hx0.c0; have hc1 := hx0.c1; have hc2 := hx1.c0; have hc3 := hx1.c1; have hc4 := hx2.c0; have hc5 := hx2.c1; have hc6 := hx3.c0; have hc7 := hx3.c1; clear hx0 hx1 hx2 hx3; go_simp; (try with_reducible rfl))
    (try simp only [Act.put, List.setIfInBounds_toArray, List.set_cons_zero, List.set_cons_succ, List.getElem_toArray, List.getElem_cons_zero, List.getElem_cons_succ])
    refine wpAnyH_done (by kernel_rfl) ?_ _
    go_wp2
    go_ret
    exact ⟨rfl, h0⟩
end Go.Proofs.Ytalonppmoimmjaa
