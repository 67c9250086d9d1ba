/-
  The walk of the law NumWideQuotients.
  Conditions: those of each theorem.
-/
import Derived.Test.YtalonppmoimmjaaW2
import Derived.Test.YtalonppmoimmjaaZT
import Derived.Deep.Cut
set_option linter.unusedSimpArgs false
set_option linter.unusedVariables false
namespace Go.Proofs.Ytalonppmoimmjaa
open Go.RowKit Go.Shelf Zd Wd

theorem wmod_lowW (n d : Int) (h : d < 1) (w : World) :
    Calls Try.prog 56 #[wide n, .int .i64 d] w fun e w' => e = .returned (.int .i64 0) ∧ Below w.heap.size w w' := by
  obtain ⟨h', hh⟩ : ∃ h, n / 18446744073709551616 = h := ⟨_, rfl⟩
  obtain ⟨l, hl⟩ : ∃ l, n % 18446744073709551616 = l := ⟨_, rfl⟩
  have ew : wide n = .agg #[.int .i64 h', .int .u64 l] := by rw [← hh, ← hl]
  rw [ew]
  clear hh hl ew
  go_enter Try.func56, Try.ntmps56
  go_wp2
  go_ret
  exact ⟨rfl, by go_grown⟩

set_option maxRecDepth 100000 in
set_option maxHeartbeats 8000000 in
theorem numWideQuotients_law (n : Int) (hn : InW n) (d : Int) (d1 : -9223372036854775808 ≤ d) (d2 : d ≤ 9223372036854775807) (w : World) :
    Calls Try.prog 9 #[wide n, .int .i64 d] w fun e w' => e = .returned (.bool true) ∧ Below w.heap.size w w' := by
  have hln : (digs n.natAbs).length ≤ 100000 := by
    obtain ⟨n1, n2⟩ := hn
    exact Nat.le_trans (digs_len (k := 7) (by omega)) (by omega)
  by_cases hlow : d < 1
  · have E1 := Lib.hid (show divV n d = 0 from if_pos hlow)
    have E2 := Lib.hid (show divE n d = 1 from if_pos hlow)
    obtain ⟨h, hh⟩ : ∃ h, n / 18446744073709551616 = h := ⟨_, rfl⟩
    obtain ⟨l, hl⟩ : ∃ l, n % 18446744073709551616 = l := ⟨_, rfl⟩
    have ew : Hid (wide n = .agg #[.int .i64 h, .int .u64 l]) := by unfold Hid; rw [← hh, ← hl]
    rw [ew.out]
    clear hh hl
    have b0 := Bx.new w 49 (.int .i64 h) (.int .u64 l)
    have h0 : Below w.heap.size w (w.alloc (.cells #[.int .i64 h, .int .u64 l] 49)) := (Below.refl _ _).alloc (Nat.le_refl _) _
    go_enter Try.func9, Try.ntmps9
    go_wp2_with fail
    have hwo := wideof_any n hn (w.alloc (.cells #[.int .i64 h, .int .u64 l] 49))
    rw [ew.out] at hwo
    go_at_call 47; refine hwo.mono ?_
    rintro e W1 ⟨u, rfl, hx, hb⟩
    obtain ⟨gx, px, nx, cx, rfl⟩ := hx.shape
    clear hwo
    replace b0 := b0.go hb
    replace h0 := bel_go h0 h0.size hb
    clear hb
    go_wp2_with fail
    obtain ⟨WP, hWP, hal, bx⟩ := boot1 W1 (.bool gx) (.slice px nx cx)
    rw [← hWP]
    have sx := Lib.hid b0.lt
    clear hWP
    replace hx := hx.go hal
    replace b0 := b0.go hal
    replace h0 := bel_go h0 h0.size hal
    clear hal
    generalize W1.heap.size = BX at bx sx ⊢
    have c0 := b0.c0
    have c1 := b0.c1
    have c2 := bx.c0
    have c3 := bx.c1
    go_at_call 38; refine (quot_down _ n d hln d2 _ hx).mono ?_
    rw [E1.out, E2.out]
    rintro e W2 ⟨rfl, hb⟩
    replace hx := hx.go hb
    replace b0 := b0.go hb
    replace bx := bx.go hb
    replace h0 := bel_go h0 h0.size hb
    clear hb
    clear c0 c1 c2 c3
    have c0 := b0.c0
    have c1 := b0.c1
    have c2 := bx.c0
    have c3 := bx.c1
    go_wp2_with fail
    have hdv := wdiv_any n d hn d2 W2
    rw [ew.out] at hdv
    go_at_call 55; refine hdv.mono ?_
    rw [E1.out, E2.out]
    rintro e W3 ⟨rfl, hb⟩
    clear hdv
    replace hx := hx.go hb
    replace b0 := b0.go hb
    replace bx := bx.go hb
    replace h0 := bel_go h0 h0.size hb
    clear hb
    clear c0 c1 c2 c3
    have c0 := b0.c0
    have c1 := b0.c1
    have c2 := bx.c0
    have c3 := bx.c1
    go_wp2_with fail
    go_at_call 19; refine (nums_any _).mono ?_
    rintro e W4 ⟨rfl, hb⟩
    replace hx := hx.go hb
    replace b0 := b0.go hb
    replace bx := bx.go hb
    replace h0 := bel_go h0 h0.size hb
    clear hb
    clear c0 c1 c2 c3
    have c0 := b0.c0
    have c1 := b0.c1
    go_wp2_with fail
    have hmd := wmod_lowW n d hlow W4
    rw [ew.out] at hmd
    go_at_call 56; refine hmd.mono ?_
    rintro e W5 ⟨rfl, hb⟩
    clear hmd
    replace h0 := bel_go h0 h0.size hb
    clear hb
    go_wp2
    go_ret
    exact ⟨rfl, h0⟩
  · have d0 : 1 ≤ d := by omega
    have hd0 : d ≠ 0 := by omega
    have hln4 : (digs n.natAbs).length ≤ 400000 := by omega
    have hld : (digs d.natAbs).length ≤ 400000 := by have := dlen64 d1 d2; omega
    have m1 : -9223372036854775808 ≤ n % d := by have := Int.emod_nonneg n hd0; omega
    have m2 : n % d ≤ 9223372036854775807 := by have := Int.emod_lt_of_pos n (show 0 < d by omega); omega
    have hsm : Sm (n % d) := sm_le (dlen64 m1 m2) (by omega)
    have hk : (cmpI (n % d) (n % d) == 0) = true := by rw [cmpI_eq rfl]; rfl
    obtain ⟨h, hh⟩ : ∃ h, n / 18446744073709551616 = h := ⟨_, rfl⟩
    obtain ⟨l, hl⟩ : ∃ l, n % 18446744073709551616 = l := ⟨_, rfl⟩
    have ew : Hid (wide n = .agg #[.int .i64 h, .int .u64 l]) := by unfold Hid; rw [← hh, ← hl]
    rw [ew.out]
    clear hh hl
    have b0 := Bx.new w 49 (.int .i64 h) (.int .u64 l)
    have h0 : Below w.heap.size w (w.alloc (.cells #[.int .i64 h, .int .u64 l] 49)) := (Below.refl _ _).alloc (Nat.le_refl _) _
    go_enter Try.func9, Try.ntmps9
    go_wp2_with fail
    have hwo := wideof_any n hn (w.alloc (.cells #[.int .i64 h, .int .u64 l] 49))
    rw [ew.out] at hwo
    go_at_call 47; refine hwo.mono ?_
    rintro e W1 ⟨u, rfl, hx, hb⟩
    obtain ⟨gx, px, nx, cx, rfl⟩ := hx.shape
    clear hwo
    replace b0 := b0.go hb
    replace h0 := bel_go h0 h0.size hb
    clear hb
    go_wp2_with fail
    obtain ⟨WP, hWP, hal, bx⟩ := boot1 W1 (.bool gx) (.slice px nx cx)
    rw [← hWP]
    have sx := Lib.hid b0.lt
    clear hWP
    replace hx := hx.go hal
    replace b0 := b0.go hal
    replace h0 := bel_go h0 h0.size hal
    clear hal
    generalize W1.heap.size = BX at bx sx ⊢
    have c0 := b0.c0
    have c1 := b0.c1
    have c2 := bx.c0
    have c3 := bx.c1
    go_at_call 38; refine (quot_down _ n d hln d2 _ hx).mono ?_
    rintro e W2 ⟨rfl, hb⟩
    replace hx := hx.go hb
    replace b0 := b0.go hb
    replace bx := bx.go hb
    replace h0 := bel_go h0 h0.size hb
    clear hb
    clear c0 c1 c2 c3
    have c0 := b0.c0
    have c1 := b0.c1
    have c2 := bx.c0
    have c3 := bx.c1
    go_wp2_with fail
    have hdv := wdiv_any n d hn d2 W2
    rw [ew.out] at hdv
    go_at_call 55; refine hdv.mono ?_
    rintro e W3 ⟨rfl, hb⟩
    clear hdv
    replace hx := hx.go hb
    replace b0 := b0.go hb
    replace bx := bx.go hb
    replace h0 := bel_go h0 h0.size hb
    clear hb
    clear c0 c1 c2 c3
    have c0 := b0.c0
    have c1 := b0.c1
    have c2 := bx.c0
    have c3 := bx.c1
    clear c0 c1 c2 c3
    go_wp2
    go_cut [10, 11] from 43 (fun s10 s11 wc => ∃ (gv : Bool) (pv : Option Addr) (nv cv Bbr : Nat), s11 = .pointer (some ⟨Bbr, 0, none⟩) ∧ Bx wc Bbr 27 (.bool gv) (.slice pv nv cv) ∧ IsZ wc (.agg #[.bool gv, .slice pv nv cv]) (n % d) ∧ Bx wc w.heap.size 49 (.int .i64 h) (.int .u64 l) ∧ Below w.heap.size w wc)
    case first =>
      refine wp_region_last (S := fun W' => Bx W' (BX) 27 (.bool gx) (.slice px nx cx)) (m := 10) (by kernel_rfl) (by kernel_rfl) (by kernel_rfl) (bx.drew) (fun _ => ?_)
      replace hx := hx.drew
      replace bx := bx.drew
      replace b0 := b0.drew
      replace h0 := Below.drew h0
      generalize W3.drew = W3 at hx bx b0 h0 ⊢
      refine wpAnyH_take (i := 0) (v := ?_) rfl (by kernel_rfl) (by kernel_rfl) (by kernel_rfl) (fun _ _ _ h => h) (Or.inl ⟨by kernel_rfl, ?_⟩) (bx) ?_
      rotate_left
      focus (intro W' hSw; have hx0 := hSw; (try dsimp only at hx0); have hc0 := hx0.c0; have hc1 := hx0.c1; clear hx0; go_simp; (try with_reducible rfl))
      (try simp only [Act.put, List.setIfInBounds_toArray, List.set_cons_zero, List.set_cons_succ, List.getElem_toArray, List.getElem_cons_zero, List.getElem_cons_succ])
      refine wpAnyH_take (i := 1) (v := ?_) rfl (by kernel_rfl) (by kernel_rfl) (by kernel_rfl) (fun _ _ _ h => h) (Or.inl ⟨by kernel_rfl, ?_⟩) (bx) ?_
      rotate_left
      focus (intro W' hSw; have hx0 := hSw; (try dsimp only at hx0); have hc0 := hx0.c0; have hc1 := hx0.c1; clear hx0; go_simp; (try with_reducible rfl))
      (try simp only [Act.put, List.setIfInBounds_toArray, List.set_cons_zero, List.set_cons_succ, List.getElem_toArray, List.getElem_cons_zero, List.getElem_cons_succ])
      refine wpAnyH_ready (rs := [2, 7, 8]) (by kernel_rfl) (by simp) ?_
      refine AllReadyH.cons rfl (fun K hK => ?_) (AllReadyH.cons rfl (fun K hK => ?_) (AllReadyH.cons rfl (fun K hK => ?_) (AllReadyH.nil)))
      · go_simp
        go_at_call 25; refine (i_any d d1 d2 _).mono ?_
        rintro e Wi ⟨u, rfl, hi, hb⟩
        obtain ⟨gi, pi, ni, ci, rfl⟩ := hi.shape
        replace hx := hx.go hb
        replace bx := bx.go hb
        replace b0 := b0.go hb
        replace h0 := bel_go h0 h0.size hb
        clear hb
        refine hK.out _ _ (bx) (fun _ => ?_)
        clear hK K
        (try simp only [Act.put, List.setIfInBounds_toArray, List.set_cons_zero, List.set_cons_succ, List.getElem_toArray, List.getElem_cons_zero, List.getElem_cons_succ])
        refine wpAnyH_ready (rs := [3, 7, 8]) (by kernel_rfl) (by simp) ?_
        refine AllReadyH.cons rfl (fun K hK => ?_) (AllReadyH.cons rfl (fun K hK => ?_) (AllReadyH.cons rfl (fun K hK => ?_) (AllReadyH.nil)))
        · go_simp
          go_at_call 33; refine (zsplit_any _ _ n d hd0 hln4 hld _ hx hi).mono ?_
          rintro e Wq ⟨u, v, rfl, hq, hv, hb⟩
          obtain ⟨gq, pq, nq, cq, rfl⟩ := hq.shape
          obtain ⟨gv, pv, nv, cv, rfl⟩ := hv.shape
          replace hx := hx.go hb
          replace bx := bx.go hb
          replace b0 := b0.go hb
          replace hi := hi.go hb
          replace h0 := bel_go h0 h0.size hb
          clear hb
          refine hK.out _ _ (bx) (fun _ => ?_)
          clear hK K
          (try simp only [Act.put, List.setIfInBounds_toArray, List.set_cons_zero, List.set_cons_succ, List.getElem_toArray, List.getElem_cons_zero, List.getElem_cons_succ])
          refine wpAnyH_take (i := 4) (v := ?_) rfl (by kernel_rfl) (by kernel_rfl) (by kernel_rfl) (fun _ _ _ h => h) (Or.inl ⟨by kernel_rfl, ?_⟩) (bx) ?_
          rotate_left
          focus (intro W' hSw; have hx0 := hSw; (try dsimp only at hx0); have hc0 := hx0.c0; have hc1 := hx0.c1; clear hx0; go_simp; (try with_reducible rfl))
          (try simp only [Act.put, List.setIfInBounds_toArray, List.set_cons_zero, List.set_cons_succ, List.getElem_toArray, List.getElem_cons_zero, List.getElem_cons_succ])
          refine wpAnyH_take (i := 5) (v := ?_) rfl (by kernel_rfl) (by kernel_rfl) (by kernel_rfl) (fun _ _ _ h => h) (Or.inl ⟨by kernel_rfl, ?_⟩) (bx) ?_
          rotate_left
          focus (intro W' hSw; have hx0 := hSw; (try dsimp only at hx0); have hc0 := hx0.c0; have hc1 := hx0.c1; clear hx0; go_simp; (try with_reducible rfl))
          (try simp only [Act.put, List.setIfInBounds_toArray, List.set_cons_zero, List.set_cons_succ, List.getElem_toArray, List.getElem_cons_zero, List.getElem_cons_succ])
          refine wpAnyH_take (i := 6) (v := ?_) rfl (by kernel_rfl) (by kernel_rfl) (by kernel_rfl) (fun _ _ _ h => h) (Or.inl ⟨by kernel_rfl, ?_⟩) (bx) ?_
          rotate_left
          focus (intro W' hSw; have hx0 := hSw; (try dsimp only at hx0); have hc0 := hx0.c0; have hc1 := hx0.c1; clear hx0; go_simp; (try with_reducible rfl))
          (try simp only [Act.put, List.setIfInBounds_toArray, List.set_cons_zero, List.set_cons_succ, List.getElem_toArray, List.getElem_cons_zero, List.getElem_cons_succ])
          refine wpAnyH_ready (rs := [7, 8]) (by kernel_rfl) (by simp) ?_
          refine AllReadyH.cons rfl (fun K hK => ?_) (AllReadyH.cons rfl (fun K hK => ?_) (AllReadyH.nil))
          · go_simp
            have hal : Below Wq.heap.size Wq (Wq.alloc (.cells #[.bool false, .slice none 0 0] 27)) := (Below.refl _ _).alloc (Nat.le_refl _) _
            have bm := Bx.new Wq 27 (.bool false) (.slice none 0 0)
            have s_bm := Lib.hid (show w.heap.size ≤ Wq.heap.size from h0.size)
            have t_bm := Lib.hid (show BX < Wq.heap.size from bx.lt)
            have u_bm := Lib.hid (show w.heap.size < Wq.heap.size from b0.lt)
            replace hx := hx.go hal
            replace bx := bx.go hal
            replace b0 := b0.go hal
            replace hi := hi.go hal
            replace hq := hq.go hal
            replace hv := hv.go hal
            replace h0 := bel_go h0 h0.size hal
            clear hal
            generalize Wq.heap.size = Bbm at bm s_bm t_bm u_bm ⊢
            generalize Wq.alloc (.cells #[.bool false, .slice none 0 0] 27) = Vbm at hx bx b0 hi hq hv bm h0 ⊢
            refine hK.out _ _ (bx) (fun _ => ?_)
            clear hK K
            (try simp only [Act.put, List.setIfInBounds_toArray, List.set_cons_zero, List.set_cons_succ, List.getElem_toArray, List.getElem_cons_zero, List.getElem_cons_succ])
            refine wpAnyH_ready (rs := [8]) (by kernel_rfl) (by simp) ?_
            refine AllReadyH.cons rfl (fun K hK => ?_) (AllReadyH.nil)
            go_simp
            have hal : Below Vbm.heap.size Vbm (Vbm.alloc (.cells #[.bool false, .slice none 0 0] 27)) := (Below.refl _ _).alloc (Nat.le_refl _) _
            have br := Bx.new Vbm 27 (.bool false) (.slice none 0 0)
            have s_br := Lib.hid (show w.heap.size ≤ Vbm.heap.size from h0.size)
            have t_br := Lib.hid (show BX < Vbm.heap.size from bx.lt)
            have u_br := Lib.hid (show w.heap.size < Vbm.heap.size from b0.lt)
            have v_br := Lib.hid bm.lt
            replace hx := hx.go hal
            replace bx := bx.go hal
            replace b0 := b0.go hal
            replace hi := hi.go hal
            replace hq := hq.go hal
            replace hv := hv.go hal
            replace bm := bm.go hal
            replace h0 := bel_go h0 h0.size hal
            clear hal
            generalize Vbm.heap.size = Bbr at br s_br t_br u_br v_br ⊢
            generalize Vbm.alloc (.cells #[.bool false, .slice none 0 0] 27) = Vbr at hx bx b0 hi hq hv bm br h0 ⊢
            refine hK.out _ _ (bx) (fun _ => ?_)
            clear hK K
            (try simp only [Act.put, List.setIfInBounds_toArray, List.set_cons_zero, List.set_cons_succ, List.getElem_toArray, List.getElem_cons_zero, List.getElem_cons_succ])
            refine wpAnyH_ready (rs := [9]) (by kernel_rfl) (by simp) ?_
            refine AllReadyH.cons rfl (fun K hK => ?_) (AllReadyH.nil)
            have hq0 := bm.c0
            have hq1 := bm.c1
            have hr0 := bm.f0
            have hr1 := bm.f1
            go_simp
            clear hq0 hq1 hr0 hr1
            have hP := put2 Vbr Bbm (.bool gq) (.slice pq nq cq)
            generalize (Vbr.setCell ⟨Bbm, 0, none⟩ (.bool gq)).setCell ⟨Bbm, 1, none⟩ (.slice pq nq cq) = WZ at hP ⊢
            replace hv := hv.put bm (by decide) hP
            replace h0 := bel_put h0 (by have := s_bm.out; omega) hP
            replace bx := bx.put hP (by have := t_bm.out; omega)
            replace b0 := b0.put hP (by have := s_bm.out; have := u_bm.out; omega)
            replace br := br.put hP (by have := v_br.out; omega)
            clear hP bm
            refine hK.out _ _ (bx) (fun _ => ?_)
            clear hK K
            (try simp only [Act.put, List.setIfInBounds_toArray, List.set_cons_zero, List.set_cons_succ, List.getElem_toArray, List.getElem_cons_zero, List.getElem_cons_succ])
            refine wpAnyH_done (by kernel_rfl) ?_ _
            refine still1_step rfl (fun K hK => ?_)
            have hq0 := br.c0
            have hq1 := br.c1
            have hr0 := br.f0
            have hr1 := br.f1
            go_simp
            clear hq0 hq1 hr0 hr1
            have hP := put2 WZ Bbr (.bool gv) (.slice pv nv cv)
            have hN := br.stored (.bool gv) (.slice pv nv cv)
            generalize (WZ.setCell ⟨Bbr, 0, none⟩ (.bool gv)).setCell ⟨Bbr, 1, none⟩ (.slice pv nv cv) = WK at hP hN ⊢
            replace hv := hv.put br (by decide) hP
            replace h0 := bel_put h0 (by have := s_br.out; omega) hP
            replace b0 := b0.put hP (by have := s_br.out; have := u_br.out; omega)
            clear hP br bx
            have br := hN
            clear hN
            refine hK.out _ _ ?_
            clear hK K
            (try simp only [Act.put, List.setIfInBounds_toArray, List.set_cons_zero, List.set_cons_succ, List.getElem_toArray, List.getElem_cons_zero, List.getElem_cons_succ])
            go_wp2_with fail
            go_meet
            case rel => exact ⟨gv, pv, nv, cv, Bbr, rfl, br, hv, b0, h0⟩
          · go_simp
            have hal : Below Wq.heap.size Wq (Wq.alloc (.cells #[.bool false, .slice none 0 0] 27)) := (Below.refl _ _).alloc (Nat.le_refl _) _
            have br := Bx.new Wq 27 (.bool false) (.slice none 0 0)
            have s_br := Lib.hid (show w.heap.size ≤ Wq.heap.size from h0.size)
            have t_br := Lib.hid (show BX < Wq.heap.size from bx.lt)
            have u_br := Lib.hid (show w.heap.size < Wq.heap.size from b0.lt)
            replace hx := hx.go hal
            replace bx := bx.go hal
            replace b0 := b0.go hal
            replace hi := hi.go hal
            replace hq := hq.go hal
            replace hv := hv.go hal
            replace h0 := bel_go h0 h0.size hal
            clear hal
            generalize Wq.heap.size = Bbr at br s_br t_br u_br ⊢
            generalize Wq.alloc (.cells #[.bool false, .slice none 0 0] 27) = Vbr at hx bx b0 hi hq hv br h0 ⊢
            refine hK.out _ _ (bx) (fun _ => ?_)
            clear hK K
            (try simp only [Act.put, List.setIfInBounds_toArray, List.set_cons_zero, List.set_cons_succ, List.getElem_toArray, List.getElem_cons_zero, List.getElem_cons_succ])
            refine wpAnyH_ready (rs := [7]) (by kernel_rfl) (by simp) ?_
            refine AllReadyH.cons rfl (fun K hK => ?_) (AllReadyH.nil)
            go_simp
            have hal : Below Vbr.heap.size Vbr (Vbr.alloc (.cells #[.bool false, .slice none 0 0] 27)) := (Below.refl _ _).alloc (Nat.le_refl _) _
            have bm := Bx.new Vbr 27 (.bool false) (.slice none 0 0)
            have s_bm := Lib.hid (show w.heap.size ≤ Vbr.heap.size from h0.size)
            have t_bm := Lib.hid (show BX < Vbr.heap.size from bx.lt)
            have u_bm := Lib.hid (show w.heap.size < Vbr.heap.size from b0.lt)
            have v_bm := Lib.hid br.lt
            replace hx := hx.go hal
            replace bx := bx.go hal
            replace b0 := b0.go hal
            replace hi := hi.go hal
            replace hq := hq.go hal
            replace hv := hv.go hal
            replace br := br.go hal
            replace h0 := bel_go h0 h0.size hal
            clear hal
            generalize Vbr.heap.size = Bbm at bm s_bm t_bm u_bm v_bm ⊢
            generalize Vbr.alloc (.cells #[.bool false, .slice none 0 0] 27) = Vbm at hx bx b0 hi hq hv br bm h0 ⊢
            refine hK.out _ _ (bx) (fun _ => ?_)
            clear hK K
            (try simp only [Act.put, List.setIfInBounds_toArray, List.set_cons_zero, List.set_cons_succ, List.getElem_toArray, List.getElem_cons_zero, List.getElem_cons_succ])
            refine wpAnyH_ready (rs := [9]) (by kernel_rfl) (by simp) ?_
            refine AllReadyH.cons rfl (fun K hK => ?_) (AllReadyH.nil)
            have hq0 := bm.c0
            have hq1 := bm.c1
            have hr0 := bm.f0
            have hr1 := bm.f1
            go_simp
            clear hq0 hq1 hr0 hr1
            have hP := put2 Vbm Bbm (.bool gq) (.slice pq nq cq)
            generalize (Vbm.setCell ⟨Bbm, 0, none⟩ (.bool gq)).setCell ⟨Bbm, 1, none⟩ (.slice pq nq cq) = WZ at hP ⊢
            replace hv := hv.put bm (by decide) hP
            replace h0 := bel_put h0 (by have := s_bm.out; omega) hP
            replace bx := bx.put hP (by have := t_bm.out; omega)
            replace b0 := b0.put hP (by have := s_bm.out; have := u_bm.out; omega)
            replace br := br.put hP (by have := v_bm.out; omega)
            clear hP bm
            refine hK.out _ _ (bx) (fun _ => ?_)
            clear hK K
            (try simp only [Act.put, List.setIfInBounds_toArray, List.set_cons_zero, List.set_cons_succ, List.getElem_toArray, List.getElem_cons_zero, List.getElem_cons_succ])
            refine wpAnyH_done (by kernel_rfl) ?_ _
            refine still1_step rfl (fun K hK => ?_)
            have hq0 := br.c0
            have hq1 := br.c1
            have hr0 := br.f0
            have hr1 := br.f1
            go_simp
            clear hq0 hq1 hr0 hr1
            have hP := put2 WZ Bbr (.bool gv) (.slice pv nv cv)
            have hN := br.stored (.bool gv) (.slice pv nv cv)
            generalize (WZ.setCell ⟨Bbr, 0, none⟩ (.bool gv)).setCell ⟨Bbr, 1, none⟩ (.slice pv nv cv) = WK at hP hN ⊢
            replace hv := hv.put br (by decide) hP
            replace h0 := bel_put h0 (by have := s_br.out; omega) hP
            replace b0 := b0.put hP (by have := s_br.out; have := u_br.out; omega)
            clear hP br bx
            have br := hN
            clear hN
            refine hK.out _ _ ?_
            clear hK K
            (try simp only [Act.put, List.setIfInBounds_toArray, List.set_cons_zero, List.set_cons_succ, List.getElem_toArray, List.getElem_cons_zero, List.getElem_cons_succ])
            go_wp2_with fail
            go_meet
            case rel => exact ⟨gv, pv, nv, cv, Bbr, rfl, br, hv, b0, h0⟩
        · go_simp
          have hal : Below Wi.heap.size Wi (Wi.alloc (.cells #[.bool false, .slice none 0 0] 27)) := (Below.refl _ _).alloc (Nat.le_refl _) _
          have bm := Bx.new Wi 27 (.bool false) (.slice none 0 0)
          have s_bm := Lib.hid (show w.heap.size ≤ Wi.heap.size from h0.size)
          have t_bm := Lib.hid (show BX < Wi.heap.size from bx.lt)
          have u_bm := Lib.hid (show w.heap.size < Wi.heap.size from b0.lt)
          replace hx := hx.go hal
          replace bx := bx.go hal
          replace b0 := b0.go hal
          replace hi := hi.go hal
          replace h0 := bel_go h0 h0.size hal
          clear hal
          generalize Wi.heap.size = Bbm at bm s_bm t_bm u_bm ⊢
          generalize Wi.alloc (.cells #[.bool false, .slice none 0 0] 27) = Vbm at hx bx b0 hi bm h0 ⊢
          refine hK.out _ _ (bx) (fun _ => ?_)
          clear hK K
          (try simp only [Act.put, List.setIfInBounds_toArray, List.set_cons_zero, List.set_cons_succ, List.getElem_toArray, List.getElem_cons_zero, List.getElem_cons_succ])
          refine wpAnyH_ready (rs := [3, 8]) (by kernel_rfl) (by simp) ?_
          refine AllReadyH.cons rfl (fun K hK => ?_) (AllReadyH.cons rfl (fun K hK => ?_) (AllReadyH.nil))
          · go_simp
            go_at_call 33; refine (zsplit_any _ _ n d hd0 hln4 hld _ hx hi).mono ?_
            rintro e Wq ⟨u, v, rfl, hq, hv, hb⟩
            obtain ⟨gq, pq, nq, cq, rfl⟩ := hq.shape
            obtain ⟨gv, pv, nv, cv, rfl⟩ := hv.shape
            replace hx := hx.go hb
            replace bx := bx.go hb
            replace b0 := b0.go hb
            replace hi := hi.go hb
            replace bm := bm.go hb
            replace h0 := bel_go h0 h0.size hb
            clear hb
            refine hK.out _ _ (bx) (fun _ => ?_)
            clear hK K
            (try simp only [Act.put, List.setIfInBounds_toArray, List.set_cons_zero, List.set_cons_succ, List.getElem_toArray, List.getElem_cons_zero, List.getElem_cons_succ])
            refine wpAnyH_take (i := 4) (v := ?_) rfl (by kernel_rfl) (by kernel_rfl) (by kernel_rfl) (fun _ _ _ h => h) (Or.inl ⟨by kernel_rfl, ?_⟩) (bx) ?_
            rotate_left
            focus (intro W' hSw; have hx0 := hSw; (try dsimp only at hx0); have hc0 := hx0.c0; have hc1 := hx0.c1; clear hx0; go_simp; (try with_reducible rfl))
            (try simp only [Act.put, List.setIfInBounds_toArray, List.set_cons_zero, List.set_cons_succ, List.getElem_toArray, List.getElem_cons_zero, List.getElem_cons_succ])
            refine wpAnyH_take (i := 5) (v := ?_) rfl (by kernel_rfl) (by kernel_rfl) (by kernel_rfl) (fun _ _ _ h => h) (Or.inl ⟨by kernel_rfl, ?_⟩) (bx) ?_
            rotate_left
            focus (intro W' hSw; have hx0 := hSw; (try dsimp only at hx0); have hc0 := hx0.c0; have hc1 := hx0.c1; clear hx0; go_simp; (try with_reducible rfl))
            (try simp only [Act.put, List.setIfInBounds_toArray, List.set_cons_zero, List.set_cons_succ, List.getElem_toArray, List.getElem_cons_zero, List.getElem_cons_succ])
            refine wpAnyH_take (i := 6) (v := ?_) rfl (by kernel_rfl) (by kernel_rfl) (by kernel_rfl) (fun _ _ _ h => h) (Or.inl ⟨by kernel_rfl, ?_⟩) (bx) ?_
            rotate_left
            focus (intro W' hSw; have hx0 := hSw; (try dsimp only at hx0); have hc0 := hx0.c0; have hc1 := hx0.c1; clear hx0; go_simp; (try with_reducible rfl))
            (try simp only [Act.put, List.setIfInBounds_toArray, List.set_cons_zero, List.set_cons_succ, List.getElem_toArray, List.getElem_cons_zero, List.getElem_cons_succ])
            refine wpAnyH_ready (rs := [8]) (by kernel_rfl) (by simp) ?_
            refine AllReadyH.cons rfl (fun K hK => ?_) (AllReadyH.nil)
            go_simp
            have hal : Below Wq.heap.size Wq (Wq.alloc (.cells #[.bool false, .slice none 0 0] 27)) := (Below.refl _ _).alloc (Nat.le_refl _) _
            have br := Bx.new Wq 27 (.bool false) (.slice none 0 0)
            have s_br := Lib.hid (show w.heap.size ≤ Wq.heap.size from h0.size)
            have t_br := Lib.hid (show BX < Wq.heap.size from bx.lt)
            have u_br := Lib.hid (show w.heap.size < Wq.heap.size from b0.lt)
            have v_br := Lib.hid bm.lt
            replace hx := hx.go hal
            replace bx := bx.go hal
            replace b0 := b0.go hal
            replace hi := hi.go hal
            replace bm := bm.go hal
            replace hq := hq.go hal
            replace hv := hv.go hal
            replace h0 := bel_go h0 h0.size hal
            clear hal
            generalize Wq.heap.size = Bbr at br s_br t_br u_br v_br ⊢
            generalize Wq.alloc (.cells #[.bool false, .slice none 0 0] 27) = Vbr at hx bx b0 hi bm hq hv br h0 ⊢
            refine hK.out _ _ (bx) (fun _ => ?_)
            clear hK K
            (try simp only [Act.put, List.setIfInBounds_toArray, List.set_cons_zero, List.set_cons_succ, List.getElem_toArray, List.getElem_cons_zero, List.getElem_cons_succ])
            refine wpAnyH_ready (rs := [9]) (by kernel_rfl) (by simp) ?_
            refine AllReadyH.cons rfl (fun K hK => ?_) (AllReadyH.nil)
            have hq0 := bm.c0
            have hq1 := bm.c1
            have hr0 := bm.f0
            have hr1 := bm.f1
            go_simp
            clear hq0 hq1 hr0 hr1
            have hP := put2 Vbr Bbm (.bool gq) (.slice pq nq cq)
            generalize (Vbr.setCell ⟨Bbm, 0, none⟩ (.bool gq)).setCell ⟨Bbm, 1, none⟩ (.slice pq nq cq) = WZ at hP ⊢
            replace hv := hv.put bm (by decide) hP
            replace h0 := bel_put h0 (by have := s_bm.out; omega) hP
            replace bx := bx.put hP (by have := t_bm.out; omega)
            replace b0 := b0.put hP (by have := s_bm.out; have := u_bm.out; omega)
            replace br := br.put hP (by have := v_br.out; omega)
            clear hP bm
            refine hK.out _ _ (bx) (fun _ => ?_)
            clear hK K
            (try simp only [Act.put, List.setIfInBounds_toArray, List.set_cons_zero, List.set_cons_succ, List.getElem_toArray, List.getElem_cons_zero, List.getElem_cons_succ])
            refine wpAnyH_done (by kernel_rfl) ?_ _
            refine still1_step rfl (fun K hK => ?_)
            have hq0 := br.c0
            have hq1 := br.c1
            have hr0 := br.f0
            have hr1 := br.f1
            go_simp
            clear hq0 hq1 hr0 hr1
            have hP := put2 WZ Bbr (.bool gv) (.slice pv nv cv)
            have hN := br.stored (.bool gv) (.slice pv nv cv)
            generalize (WZ.setCell ⟨Bbr, 0, none⟩ (.bool gv)).setCell ⟨Bbr, 1, none⟩ (.slice pv nv cv) = WK at hP hN ⊢
            replace hv := hv.put br (by decide) hP
            replace h0 := bel_put h0 (by have := s_br.out; omega) hP
            replace b0 := b0.put hP (by have := s_br.out; have := u_br.out; omega)
            clear hP br bx
            have br := hN
            clear hN
            refine hK.out _ _ ?_
            clear hK K
            (try simp only [Act.put, List.setIfInBounds_toArray, List.set_cons_zero, List.set_cons_succ, List.getElem_toArray, List.getElem_cons_zero, List.getElem_cons_succ])
            go_wp2_with fail
            go_meet
            case rel => exact ⟨gv, pv, nv, cv, Bbr, rfl, br, hv, b0, h0⟩
          · go_simp
            have hal : Below Vbm.heap.size Vbm (Vbm.alloc (.cells #[.bool false, .slice none 0 0] 27)) := (Below.refl _ _).alloc (Nat.le_refl _) _
            have br := Bx.new Vbm 27 (.bool false) (.slice none 0 0)
            have s_br := Lib.hid (show w.heap.size ≤ Vbm.heap.size from h0.size)
            have t_br := Lib.hid (show BX < Vbm.heap.size from bx.lt)
            have u_br := Lib.hid (show w.heap.size < Vbm.heap.size from b0.lt)
            have v_br := Lib.hid bm.lt
            replace hx := hx.go hal
            replace bx := bx.go hal
            replace b0 := b0.go hal
            replace hi := hi.go hal
            replace bm := bm.go hal
            replace h0 := bel_go h0 h0.size hal
            clear hal
            generalize Vbm.heap.size = Bbr at br s_br t_br u_br v_br ⊢
            generalize Vbm.alloc (.cells #[.bool false, .slice none 0 0] 27) = Vbr at hx bx b0 hi bm br h0 ⊢
            refine hK.out _ _ (bx) (fun _ => ?_)
            clear hK K
            (try simp only [Act.put, List.setIfInBounds_toArray, List.set_cons_zero, List.set_cons_succ, List.getElem_toArray, List.getElem_cons_zero, List.getElem_cons_succ])
            refine wpAnyH_ready (rs := [3]) (by kernel_rfl) (by simp) ?_
            refine AllReadyH.cons rfl (fun K hK => ?_) (AllReadyH.nil)
            go_simp
            go_at_call 33; refine (zsplit_any _ _ n d hd0 hln4 hld _ hx hi).mono ?_
            rintro e Wq ⟨u, v, rfl, hq, hv, hb⟩
            obtain ⟨gq, pq, nq, cq, rfl⟩ := hq.shape
            obtain ⟨gv, pv, nv, cv, rfl⟩ := hv.shape
            replace hx := hx.go hb
            replace bx := bx.go hb
            replace b0 := b0.go hb
            replace hi := hi.go hb
            replace bm := bm.go hb
            replace br := br.go hb
            replace h0 := bel_go h0 h0.size hb
            clear hb
            refine hK.out _ _ (bx) (fun _ => ?_)
            clear hK K
            (try simp only [Act.put, List.setIfInBounds_toArray, List.set_cons_zero, List.set_cons_succ, List.getElem_toArray, List.getElem_cons_zero, List.getElem_cons_succ])
            refine wpAnyH_take (i := 4) (v := ?_) rfl (by kernel_rfl) (by kernel_rfl) (by kernel_rfl) (fun _ _ _ h => h) (Or.inl ⟨by kernel_rfl, ?_⟩) (bx) ?_
            rotate_left
            focus (intro W' hSw; have hx0 := hSw; (try dsimp only at hx0); have hc0 := hx0.c0; have hc1 := hx0.c1; clear hx0; go_simp; (try with_reducible rfl))
            (try simp only [Act.put, List.setIfInBounds_toArray, List.set_cons_zero, List.set_cons_succ, List.getElem_toArray, List.getElem_cons_zero, List.getElem_cons_succ])
            refine wpAnyH_take (i := 5) (v := ?_) rfl (by kernel_rfl) (by kernel_rfl) (by kernel_rfl) (fun _ _ _ h => h) (Or.inl ⟨by kernel_rfl, ?_⟩) (bx) ?_
            rotate_left
            focus (intro W' hSw; have hx0 := hSw; (try dsimp only at hx0); have hc0 := hx0.c0; have hc1 := hx0.c1; clear hx0; go_simp; (try with_reducible rfl))
            (try simp only [Act.put, List.setIfInBounds_toArray, List.set_cons_zero, List.set_cons_succ, List.getElem_toArray, List.getElem_cons_zero, List.getElem_cons_succ])
            refine wpAnyH_take (i := 6) (v := ?_) rfl (by kernel_rfl) (by kernel_rfl) (by kernel_rfl) (fun _ _ _ h => h) (Or.inl ⟨by kernel_rfl, ?_⟩) (bx) ?_
            rotate_left
            focus (intro W' hSw; have hx0 := hSw; (try dsimp only at hx0); have hc0 := hx0.c0; have hc1 := hx0.c1; clear hx0; go_simp; (try with_reducible rfl))
            (try simp only [Act.put, List.setIfInBounds_toArray, List.set_cons_zero, List.set_cons_succ, List.getElem_toArray, List.getElem_cons_zero, List.getElem_cons_succ])
            refine wpAnyH_ready (rs := [9]) (by kernel_rfl) (by simp) ?_
            refine AllReadyH.cons rfl (fun K hK => ?_) (AllReadyH.nil)
            have hq0 := bm.c0
            have hq1 := bm.c1
            have hr0 := bm.f0
            have hr1 := bm.f1
            go_simp
            clear hq0 hq1 hr0 hr1
            have hP := put2 Wq Bbm (.bool gq) (.slice pq nq cq)
            generalize (Wq.setCell ⟨Bbm, 0, none⟩ (.bool gq)).setCell ⟨Bbm, 1, none⟩ (.slice pq nq cq) = WZ at hP ⊢
            replace hv := hv.put bm (by decide) hP
            replace h0 := bel_put h0 (by have := s_bm.out; omega) hP
            replace bx := bx.put hP (by have := t_bm.out; omega)
            replace b0 := b0.put hP (by have := s_bm.out; have := u_bm.out; omega)
            replace br := br.put hP (by have := v_br.out; omega)
            clear hP bm
            refine hK.out _ _ (bx) (fun _ => ?_)
            clear hK K
            (try simp only [Act.put, List.setIfInBounds_toArray, List.set_cons_zero, List.set_cons_succ, List.getElem_toArray, List.getElem_cons_zero, List.getElem_cons_succ])
            refine wpAnyH_done (by kernel_rfl) ?_ _
            refine still1_step rfl (fun K hK => ?_)
            have hq0 := br.c0
            have hq1 := br.c1
            have hr0 := br.f0
            have hr1 := br.f1
            go_simp
            clear hq0 hq1 hr0 hr1
            have hP := put2 WZ Bbr (.bool gv) (.slice pv nv cv)
            have hN := br.stored (.bool gv) (.slice pv nv cv)
            generalize (WZ.setCell ⟨Bbr, 0, none⟩ (.bool gv)).setCell ⟨Bbr, 1, none⟩ (.slice pv nv cv) = WK at hP hN ⊢
            replace hv := hv.put br (by decide) hP
            replace h0 := bel_put h0 (by have := s_br.out; omega) hP
            replace b0 := b0.put hP (by have := s_br.out; have := u_br.out; omega)
            clear hP br bx
            have br := hN
            clear hN
            refine hK.out _ _ ?_
            clear hK K
            (try simp only [Act.put, List.setIfInBounds_toArray, List.set_cons_zero, List.set_cons_succ, List.getElem_toArray, List.getElem_cons_zero, List.getElem_cons_succ])
            go_wp2_with fail
            go_meet
            case rel => exact ⟨gv, pv, nv, cv, Bbr, rfl, br, hv, b0, h0⟩
        · go_simp
          have hal : Below Wi.heap.size Wi (Wi.alloc (.cells #[.bool false, .slice none 0 0] 27)) := (Below.refl _ _).alloc (Nat.le_refl _) _
          have br := Bx.new Wi 27 (.bool false) (.slice none 0 0)
          have s_br := Lib.hid (show w.heap.size ≤ Wi.heap.size from h0.size)
          have t_br := Lib.hid (show BX < Wi.heap.size from bx.lt)
          have u_br := Lib.hid (show w.heap.size < Wi.heap.size from b0.lt)
          replace hx := hx.go hal
          replace bx := bx.go hal
          replace b0 := b0.go hal
          replace hi := hi.go hal
          replace h0 := bel_go h0 h0.size hal
          clear hal
          generalize Wi.heap.size = Bbr at br s_br t_br u_br ⊢
          generalize Wi.alloc (.cells #[.bool false, .slice none 0 0] 27) = Vbr at hx bx b0 hi br h0 ⊢
          refine hK.out _ _ (bx) (fun _ => ?_)
          clear hK K
          (try simp only [Act.put, List.setIfInBounds_toArray, List.set_cons_zero, List.set_cons_succ, List.getElem_toArray, List.getElem_cons_zero, List.getElem_cons_succ])
          refine wpAnyH_ready (rs := [3, 7]) (by kernel_rfl) (by simp) ?_
          refine AllReadyH.cons rfl (fun K hK => ?_) (AllReadyH.cons rfl (fun K hK => ?_) (AllReadyH.nil))
          · go_simp
            go_at_call 33; refine (zsplit_any _ _ n d hd0 hln4 hld _ hx hi).mono ?_
            rintro e Wq ⟨u, v, rfl, hq, hv, hb⟩
            obtain ⟨gq, pq, nq, cq, rfl⟩ := hq.shape
            obtain ⟨gv, pv, nv, cv, rfl⟩ := hv.shape
            replace hx := hx.go hb
            replace bx := bx.go hb
            replace b0 := b0.go hb
            replace hi := hi.go hb
            replace br := br.go hb
            replace h0 := bel_go h0 h0.size hb
            clear hb
            refine hK.out _ _ (bx) (fun _ => ?_)
            clear hK K
            (try simp only [Act.put, List.setIfInBounds_toArray, List.set_cons_zero, List.set_cons_succ, List.getElem_toArray, List.getElem_cons_zero, List.getElem_cons_succ])
            refine wpAnyH_take (i := 4) (v := ?_) rfl (by kernel_rfl) (by kernel_rfl) (by kernel_rfl) (fun _ _ _ h => h) (Or.inl ⟨by kernel_rfl, ?_⟩) (bx) ?_
            rotate_left
            focus (intro W' hSw; have hx0 := hSw; (try dsimp only at hx0); have hc0 := hx0.c0; have hc1 := hx0.c1; clear hx0; go_simp; (try with_reducible rfl))
            (try simp only [Act.put, List.setIfInBounds_toArray, List.set_cons_zero, List.set_cons_succ, List.getElem_toArray, List.getElem_cons_zero, List.getElem_cons_succ])
            refine wpAnyH_take (i := 5) (v := ?_) rfl (by kernel_rfl) (by kernel_rfl) (by kernel_rfl) (fun _ _ _ h => h) (Or.inl ⟨by kernel_rfl, ?_⟩) (bx) ?_
            rotate_left
            focus (intro W' hSw; have hx0 := hSw; (try dsimp only at hx0); have hc0 := hx0.c0; have hc1 := hx0.c1; clear hx0; go_simp; (try with_reducible rfl))
            (try simp only [Act.put, List.setIfInBounds_toArray, List.set_cons_zero, List.set_cons_succ, List.getElem_toArray, List.getElem_cons_zero, List.getElem_cons_succ])
            refine wpAnyH_take (i := 6) (v := ?_) rfl (by kernel_rfl) (by kernel_rfl) (by kernel_rfl) (fun _ _ _ h => h) (Or.inl ⟨by kernel_rfl, ?_⟩) (bx) ?_
            rotate_left
            focus (intro W' hSw; have hx0 := hSw; (try dsimp only at hx0); have hc0 := hx0.c0; have hc1 := hx0.c1; clear hx0; go_simp; (try with_reducible rfl))
            (try simp only [Act.put, List.setIfInBounds_toArray, List.set_cons_zero, List.set_cons_succ, List.getElem_toArray, List.getElem_cons_zero, List.getElem_cons_succ])
            refine wpAnyH_ready (rs := [7]) (by kernel_rfl) (by simp) ?_
            refine AllReadyH.cons rfl (fun K hK => ?_) (AllReadyH.nil)
            go_simp
            have hal : Below Wq.heap.size Wq (Wq.alloc (.cells #[.bool false, .slice none 0 0] 27)) := (Below.refl _ _).alloc (Nat.le_refl _) _
            have bm := Bx.new Wq 27 (.bool false) (.slice none 0 0)
            have s_bm := Lib.hid (show w.heap.size ≤ Wq.heap.size from h0.size)
            have t_bm := Lib.hid (show BX < Wq.heap.size from bx.lt)
            have u_bm := Lib.hid (show w.heap.size < Wq.heap.size from b0.lt)
            have v_bm := Lib.hid br.lt
            replace hx := hx.go hal
            replace bx := bx.go hal
            replace b0 := b0.go hal
            replace hi := hi.go hal
            replace br := br.go hal
            replace hq := hq.go hal
            replace hv := hv.go hal
            replace h0 := bel_go h0 h0.size hal
            clear hal
            generalize Wq.heap.size = Bbm at bm s_bm t_bm u_bm v_bm ⊢
            generalize Wq.alloc (.cells #[.bool false, .slice none 0 0] 27) = Vbm at hx bx b0 hi br hq hv bm h0 ⊢
            refine hK.out _ _ (bx) (fun _ => ?_)
            clear hK K
            (try simp only [Act.put, List.setIfInBounds_toArray, List.set_cons_zero, List.set_cons_succ, List.getElem_toArray, List.getElem_cons_zero, List.getElem_cons_succ])
            refine wpAnyH_ready (rs := [9]) (by kernel_rfl) (by simp) ?_
            refine AllReadyH.cons rfl (fun K hK => ?_) (AllReadyH.nil)
            have hq0 := bm.c0
            have hq1 := bm.c1
            have hr0 := bm.f0
            have hr1 := bm.f1
            go_simp
            clear hq0 hq1 hr0 hr1
            have hP := put2 Vbm Bbm (.bool gq) (.slice pq nq cq)
            generalize (Vbm.setCell ⟨Bbm, 0, none⟩ (.bool gq)).setCell ⟨Bbm, 1, none⟩ (.slice pq nq cq) = WZ at hP ⊢
            replace hv := hv.put bm (by decide) hP
            replace h0 := bel_put h0 (by have := s_bm.out; omega) hP
            replace bx := bx.put hP (by have := t_bm.out; omega)
            replace b0 := b0.put hP (by have := s_bm.out; have := u_bm.out; omega)
            replace br := br.put hP (by have := v_bm.out; omega)
            clear hP bm
            refine hK.out _ _ (bx) (fun _ => ?_)
            clear hK K
            (try simp only [Act.put, List.setIfInBounds_toArray, List.set_cons_zero, List.set_cons_succ, List.getElem_toArray, List.getElem_cons_zero, List.getElem_cons_succ])
            refine wpAnyH_done (by kernel_rfl) ?_ _
            refine still1_step rfl (fun K hK => ?_)
            have hq0 := br.c0
            have hq1 := br.c1
            have hr0 := br.f0
            have hr1 := br.f1
            go_simp
            clear hq0 hq1 hr0 hr1
            have hP := put2 WZ Bbr (.bool gv) (.slice pv nv cv)
            have hN := br.stored (.bool gv) (.slice pv nv cv)
            generalize (WZ.setCell ⟨Bbr, 0, none⟩ (.bool gv)).setCell ⟨Bbr, 1, none⟩ (.slice pv nv cv) = WK at hP hN ⊢
            replace hv := hv.put br (by decide) hP
            replace h0 := bel_put h0 (by have := s_br.out; omega) hP
            replace b0 := b0.put hP (by have := s_br.out; have := u_br.out; omega)
            clear hP br bx
            have br := hN
            clear hN
            refine hK.out _ _ ?_
            clear hK K
            (try simp only [Act.put, List.setIfInBounds_toArray, List.set_cons_zero, List.set_cons_succ, List.getElem_toArray, List.getElem_cons_zero, List.getElem_cons_succ])
            go_wp2_with fail
            go_meet
            case rel => exact ⟨gv, pv, nv, cv, Bbr, rfl, br, hv, b0, h0⟩
          · go_simp
            have hal : Below Vbr.heap.size Vbr (Vbr.alloc (.cells #[.bool false, .slice none 0 0] 27)) := (Below.refl _ _).alloc (Nat.le_refl _) _
            have bm := Bx.new Vbr 27 (.bool false) (.slice none 0 0)
            have s_bm := Lib.hid (show w.heap.size ≤ Vbr.heap.size from h0.size)
            have t_bm := Lib.hid (show BX < Vbr.heap.size from bx.lt)
            have u_bm := Lib.hid (show w.heap.size < Vbr.heap.size from b0.lt)
            have v_bm := Lib.hid br.lt
            replace hx := hx.go hal
            replace bx := bx.go hal
            replace b0 := b0.go hal
            replace hi := hi.go hal
            replace br := br.go hal
            replace h0 := bel_go h0 h0.size hal
            clear hal
            generalize Vbr.heap.size = Bbm at bm s_bm t_bm u_bm v_bm ⊢
            generalize Vbr.alloc (.cells #[.bool false, .slice none 0 0] 27) = Vbm at hx bx b0 hi br bm h0 ⊢
            refine hK.out _ _ (bx) (fun _ => ?_)
            clear hK K
            (try simp only [Act.put, List.setIfInBounds_toArray, List.set_cons_zero, List.set_cons_succ, List.getElem_toArray, List.getElem_cons_zero, List.getElem_cons_succ])
            refine wpAnyH_ready (rs := [3]) (by kernel_rfl) (by simp) ?_
            refine AllReadyH.cons rfl (fun K hK => ?_) (AllReadyH.nil)
            go_simp
            go_at_call 33; refine (zsplit_any _ _ n d hd0 hln4 hld _ hx hi).mono ?_
            rintro e Wq ⟨u, v, rfl, hq, hv, hb⟩
            obtain ⟨gq, pq, nq, cq, rfl⟩ := hq.shape
            obtain ⟨gv, pv, nv, cv, rfl⟩ := hv.shape
            replace hx := hx.go hb
            replace bx := bx.go hb
            replace b0 := b0.go hb
            replace hi := hi.go hb
            replace br := br.go hb
            replace bm := bm.go hb
            replace h0 := bel_go h0 h0.size hb
            clear hb
            refine hK.out _ _ (bx) (fun _ => ?_)
            clear hK K
            (try simp only [Act.put, List.setIfInBounds_toArray, List.set_cons_zero, List.set_cons_succ, List.getElem_toArray, List.getElem_cons_zero, List.getElem_cons_succ])
            refine wpAnyH_take (i := 4) (v := ?_) rfl (by kernel_rfl) (by kernel_rfl) (by kernel_rfl) (fun _ _ _ h => h) (Or.inl ⟨by kernel_rfl, ?_⟩) (bx) ?_
            rotate_left
            focus (intro W' hSw; have hx0 := hSw; (try dsimp only at hx0); have hc0 := hx0.c0; have hc1 := hx0.c1; clear hx0; go_simp; (try with_reducible rfl))
            (try simp only [Act.put, List.setIfInBounds_toArray, List.set_cons_zero, List.set_cons_succ, List.getElem_toArray, List.getElem_cons_zero, List.getElem_cons_succ])
            refine wpAnyH_take (i := 5) (v := ?_) rfl (by kernel_rfl) (by kernel_rfl) (by kernel_rfl) (fun _ _ _ h => h) (Or.inl ⟨by kernel_rfl, ?_⟩) (bx) ?_
            rotate_left
            focus (intro W' hSw; have hx0 := hSw; (try dsimp only at hx0); have hc0 := hx0.c0; have hc1 := hx0.c1; clear hx0; go_simp; (try with_reducible rfl))
            (try simp only [Act.put, List.setIfInBounds_toArray, List.set_cons_zero, List.set_cons_succ, List.getElem_toArray, List.getElem_cons_zero, List.getElem_cons_succ])
            refine wpAnyH_take (i := 6) (v := ?_) rfl (by kernel_rfl) (by kernel_rfl) (by kernel_rfl) (fun _ _ _ h => h) (Or.inl ⟨by kernel_rfl, ?_⟩) (bx) ?_
            rotate_left
            focus (intro W' hSw; have hx0 := hSw; (try dsimp only at hx0); have hc0 := hx0.c0; have hc1 := hx0.c1; clear hx0; go_simp; (try with_reducible rfl))
            (try simp only [Act.put, List.setIfInBounds_toArray, List.set_cons_zero, List.set_cons_succ, List.getElem_toArray, List.getElem_cons_zero, List.getElem_cons_succ])
            refine wpAnyH_ready (rs := [9]) (by kernel_rfl) (by simp) ?_
            refine AllReadyH.cons rfl (fun K hK => ?_) (AllReadyH.nil)
            have hq0 := bm.c0
            have hq1 := bm.c1
            have hr0 := bm.f0
            have hr1 := bm.f1
            go_simp
            clear hq0 hq1 hr0 hr1
            have hP := put2 Wq Bbm (.bool gq) (.slice pq nq cq)
            generalize (Wq.setCell ⟨Bbm, 0, none⟩ (.bool gq)).setCell ⟨Bbm, 1, none⟩ (.slice pq nq cq) = WZ at hP ⊢
            replace hv := hv.put bm (by decide) hP
            replace h0 := bel_put h0 (by have := s_bm.out; omega) hP
            replace bx := bx.put hP (by have := t_bm.out; omega)
            replace b0 := b0.put hP (by have := s_bm.out; have := u_bm.out; omega)
            replace br := br.put hP (by have := v_bm.out; omega)
            clear hP bm
            refine hK.out _ _ (bx) (fun _ => ?_)
            clear hK K
            (try simp only [Act.put, List.setIfInBounds_toArray, List.set_cons_zero, List.set_cons_succ, List.getElem_toArray, List.getElem_cons_zero, List.getElem_cons_succ])
            refine wpAnyH_done (by kernel_rfl) ?_ _
            refine still1_step rfl (fun K hK => ?_)
            have hq0 := br.c0
            have hq1 := br.c1
            have hr0 := br.f0
            have hr1 := br.f1
            go_simp
            clear hq0 hq1 hr0 hr1
            have hP := put2 WZ Bbr (.bool gv) (.slice pv nv cv)
            have hN := br.stored (.bool gv) (.slice pv nv cv)
            generalize (WZ.setCell ⟨Bbr, 0, none⟩ (.bool gv)).setCell ⟨Bbr, 1, none⟩ (.slice pv nv cv) = WK at hP hN ⊢
            replace hv := hv.put br (by decide) hP
            replace h0 := bel_put h0 (by have := s_br.out; omega) hP
            replace b0 := b0.put hP (by have := s_br.out; have := u_br.out; omega)
            clear hP br bx
            have br := hN
            clear hN
            refine hK.out _ _ ?_
            clear hK K
            (try simp only [Act.put, List.setIfInBounds_toArray, List.set_cons_zero, List.set_cons_succ, List.getElem_toArray, List.getElem_cons_zero, List.getElem_cons_succ])
            go_wp2_with fail
            go_meet
            case rel => exact ⟨gv, pv, nv, cv, Bbr, rfl, br, hv, b0, h0⟩
      · go_simp
        have hal : Below W3.heap.size W3 (W3.alloc (.cells #[.bool false, .slice none 0 0] 27)) := (Below.refl _ _).alloc (Nat.le_refl _) _
        have bm := Bx.new W3 27 (.bool false) (.slice none 0 0)
        have s_bm := Lib.hid (show w.heap.size ≤ W3.heap.size from h0.size)
        have t_bm := Lib.hid (show BX < W3.heap.size from bx.lt)
        have u_bm := Lib.hid (show w.heap.size < W3.heap.size from b0.lt)
        replace hx := hx.go hal
        replace bx := bx.go hal
        replace b0 := b0.go hal
        replace h0 := bel_go h0 h0.size hal
        clear hal
        generalize W3.heap.size = Bbm at bm s_bm t_bm u_bm ⊢
        generalize W3.alloc (.cells #[.bool false, .slice none 0 0] 27) = Vbm at hx bx b0 bm h0 ⊢
        refine hK.out _ _ (bx) (fun _ => ?_)
        clear hK K
        (try simp only [Act.put, List.setIfInBounds_toArray, List.set_cons_zero, List.set_cons_succ, List.getElem_toArray, List.getElem_cons_zero, List.getElem_cons_succ])
        refine wpAnyH_ready (rs := [2, 8]) (by kernel_rfl) (by simp) ?_
        refine AllReadyH.cons rfl (fun K hK => ?_) (AllReadyH.cons rfl (fun K hK => ?_) (AllReadyH.nil))
        · go_simp
          go_at_call 25; refine (i_any d d1 d2 _).mono ?_
          rintro e Wi ⟨u, rfl, hi, hb⟩
          obtain ⟨gi, pi, ni, ci, rfl⟩ := hi.shape
          replace hx := hx.go hb
          replace bx := bx.go hb
          replace b0 := b0.go hb
          replace bm := bm.go hb
          replace h0 := bel_go h0 h0.size hb
          clear hb
          refine hK.out _ _ (bx) (fun _ => ?_)
          clear hK K
          (try simp only [Act.put, List.setIfInBounds_toArray, List.set_cons_zero, List.set_cons_succ, List.getElem_toArray, List.getElem_cons_zero, List.getElem_cons_succ])
          refine wpAnyH_ready (rs := [3, 8]) (by kernel_rfl) (by simp) ?_
          refine AllReadyH.cons rfl (fun K hK => ?_) (AllReadyH.cons rfl (fun K hK => ?_) (AllReadyH.nil))
          · go_simp
            go_at_call 33; refine (zsplit_any _ _ n d hd0 hln4 hld _ hx hi).mono ?_
            rintro e Wq ⟨u, v, rfl, hq, hv, hb⟩
            obtain ⟨gq, pq, nq, cq, rfl⟩ := hq.shape
            obtain ⟨gv, pv, nv, cv, rfl⟩ := hv.shape
            replace hx := hx.go hb
            replace bx := bx.go hb
            replace b0 := b0.go hb
            replace bm := bm.go hb
            replace hi := hi.go hb
            replace h0 := bel_go h0 h0.size hb
            clear hb
            refine hK.out _ _ (bx) (fun _ => ?_)
            clear hK K
            (try simp only [Act.put, List.setIfInBounds_toArray, List.set_cons_zero, List.set_cons_succ, List.getElem_toArray, List.getElem_cons_zero, List.getElem_cons_succ])
            refine wpAnyH_take (i := 4) (v := ?_) rfl (by kernel_rfl) (by kernel_rfl) (by kernel_rfl) (fun _ _ _ h => h) (Or.inl ⟨by kernel_rfl, ?_⟩) (bx) ?_
            rotate_left
            focus (intro W' hSw; have hx0 := hSw; (try dsimp only at hx0); have hc0 := hx0.c0; have hc1 := hx0.c1; clear hx0; go_simp; (try with_reducible rfl))
            (try simp only [Act.put, List.setIfInBounds_toArray, List.set_cons_zero, List.set_cons_succ, List.getElem_toArray, List.getElem_cons_zero, List.getElem_cons_succ])
            refine wpAnyH_take (i := 5) (v := ?_) rfl (by kernel_rfl) (by kernel_rfl) (by kernel_rfl) (fun _ _ _ h => h) (Or.inl ⟨by kernel_rfl, ?_⟩) (bx) ?_
            rotate_left
            focus (intro W' hSw; have hx0 := hSw; (try dsimp only at hx0); have hc0 := hx0.c0; have hc1 := hx0.c1; clear hx0; go_simp; (try with_reducible rfl))
            (try simp only [Act.put, List.setIfInBounds_toArray, List.set_cons_zero, List.set_cons_succ, List.getElem_toArray, List.getElem_cons_zero, List.getElem_cons_succ])
            refine wpAnyH_take (i := 6) (v := ?_) rfl (by kernel_rfl) (by kernel_rfl) (by kernel_rfl) (fun _ _ _ h => h) (Or.inl ⟨by kernel_rfl, ?_⟩) (bx) ?_
            rotate_left
            focus (intro W' hSw; have hx0 := hSw; (try dsimp only at hx0); have hc0 := hx0.c0; have hc1 := hx0.c1; clear hx0; go_simp; (try with_reducible rfl))
            (try simp only [Act.put, List.setIfInBounds_toArray, List.set_cons_zero, List.set_cons_succ, List.getElem_toArray, List.getElem_cons_zero, List.getElem_cons_succ])
            refine wpAnyH_ready (rs := [8]) (by kernel_rfl) (by simp) ?_
            refine AllReadyH.cons rfl (fun K hK => ?_) (AllReadyH.nil)
            go_simp
            have hal : Below Wq.heap.size Wq (Wq.alloc (.cells #[.bool false, .slice none 0 0] 27)) := (Below.refl _ _).alloc (Nat.le_refl _) _
            have br := Bx.new Wq 27 (.bool false) (.slice none 0 0)
            have s_br := Lib.hid (show w.heap.size ≤ Wq.heap.size from h0.size)
            have t_br := Lib.hid (show BX < Wq.heap.size from bx.lt)
            have u_br := Lib.hid (show w.heap.size < Wq.heap.size from b0.lt)
            have v_br := Lib.hid bm.lt
            replace hx := hx.go hal
            replace bx := bx.go hal
            replace b0 := b0.go hal
            replace bm := bm.go hal
            replace hi := hi.go hal
            replace hq := hq.go hal
            replace hv := hv.go hal
            replace h0 := bel_go h0 h0.size hal
            clear hal
            generalize Wq.heap.size = Bbr at br s_br t_br u_br v_br ⊢
            generalize Wq.alloc (.cells #[.bool false, .slice none 0 0] 27) = Vbr at hx bx b0 bm hi hq hv br h0 ⊢
            refine hK.out _ _ (bx) (fun _ => ?_)
            clear hK K
            (try simp only [Act.put, List.setIfInBounds_toArray, List.set_cons_zero, List.set_cons_succ, List.getElem_toArray, List.getElem_cons_zero, List.getElem_cons_succ])
            refine wpAnyH_ready (rs := [9]) (by kernel_rfl) (by simp) ?_
            refine AllReadyH.cons rfl (fun K hK => ?_) (AllReadyH.nil)
            have hq0 := bm.c0
            have hq1 := bm.c1
            have hr0 := bm.f0
            have hr1 := bm.f1
            go_simp
            clear hq0 hq1 hr0 hr1
            have hP := put2 Vbr Bbm (.bool gq) (.slice pq nq cq)
            generalize (Vbr.setCell ⟨Bbm, 0, none⟩ (.bool gq)).setCell ⟨Bbm, 1, none⟩ (.slice pq nq cq) = WZ at hP ⊢
            replace hv := hv.put bm (by decide) hP
            replace h0 := bel_put h0 (by have := s_bm.out; omega) hP
            replace bx := bx.put hP (by have := t_bm.out; omega)
            replace b0 := b0.put hP (by have := s_bm.out; have := u_bm.out; omega)
            replace br := br.put hP (by have := v_br.out; omega)
            clear hP bm
            refine hK.out _ _ (bx) (fun _ => ?_)
            clear hK K
            (try simp only [Act.put, List.setIfInBounds_toArray, List.set_cons_zero, List.set_cons_succ, List.getElem_toArray, List.getElem_cons_zero, List.getElem_cons_succ])
            refine wpAnyH_done (by kernel_rfl) ?_ _
            refine still1_step rfl (fun K hK => ?_)
            have hq0 := br.c0
            have hq1 := br.c1
            have hr0 := br.f0
            have hr1 := br.f1
            go_simp
            clear hq0 hq1 hr0 hr1
            have hP := put2 WZ Bbr (.bool gv) (.slice pv nv cv)
            have hN := br.stored (.bool gv) (.slice pv nv cv)
            generalize (WZ.setCell ⟨Bbr, 0, none⟩ (.bool gv)).setCell ⟨Bbr, 1, none⟩ (.slice pv nv cv) = WK at hP hN ⊢
            replace hv := hv.put br (by decide) hP
            replace h0 := bel_put h0 (by have := s_br.out; omega) hP
            replace b0 := b0.put hP (by have := s_br.out; have := u_br.out; omega)
            clear hP br bx
            have br := hN
            clear hN
            refine hK.out _ _ ?_
            clear hK K
            (try simp only [Act.put, List.setIfInBounds_toArray, List.set_cons_zero, List.set_cons_succ, List.getElem_toArray, List.getElem_cons_zero, List.getElem_cons_succ])
            go_wp2_with fail
            go_meet
            case rel => exact ⟨gv, pv, nv, cv, Bbr, rfl, br, hv, b0, h0⟩
          · go_simp
            have hal : Below Wi.heap.size Wi (Wi.alloc (.cells #[.bool false, .slice none 0 0] 27)) := (Below.refl _ _).alloc (Nat.le_refl _) _
            have br := Bx.new Wi 27 (.bool false) (.slice none 0 0)
            have s_br := Lib.hid (show w.heap.size ≤ Wi.heap.size from h0.size)
            have t_br := Lib.hid (show BX < Wi.heap.size from bx.lt)
            have u_br := Lib.hid (show w.heap.size < Wi.heap.size from b0.lt)
            have v_br := Lib.hid bm.lt
            replace hx := hx.go hal
            replace bx := bx.go hal
            replace b0 := b0.go hal
            replace bm := bm.go hal
            replace hi := hi.go hal
            replace h0 := bel_go h0 h0.size hal
            clear hal
            generalize Wi.heap.size = Bbr at br s_br t_br u_br v_br ⊢
            generalize Wi.alloc (.cells #[.bool false, .slice none 0 0] 27) = Vbr at hx bx b0 bm hi br h0 ⊢
            refine hK.out _ _ (bx) (fun _ => ?_)
            clear hK K
            (try simp only [Act.put, List.setIfInBounds_toArray, List.set_cons_zero, List.set_cons_succ, List.getElem_toArray, List.getElem_cons_zero, List.getElem_cons_succ])
            refine wpAnyH_ready (rs := [3]) (by kernel_rfl) (by simp) ?_
            refine AllReadyH.cons rfl (fun K hK => ?_) (AllReadyH.nil)
            go_simp
            go_at_call 33; refine (zsplit_any _ _ n d hd0 hln4 hld _ hx hi).mono ?_
            rintro e Wq ⟨u, v, rfl, hq, hv, hb⟩
            obtain ⟨gq, pq, nq, cq, rfl⟩ := hq.shape
            obtain ⟨gv, pv, nv, cv, rfl⟩ := hv.shape
            replace hx := hx.go hb
            replace bx := bx.go hb
            replace b0 := b0.go hb
            replace bm := bm.go hb
            replace hi := hi.go hb
            replace br := br.go hb
            replace h0 := bel_go h0 h0.size hb
            clear hb
            refine hK.out _ _ (bx) (fun _ => ?_)
            clear hK K
            (try simp only [Act.put, List.setIfInBounds_toArray, List.set_cons_zero, List.set_cons_succ, List.getElem_toArray, List.getElem_cons_zero, List.getElem_cons_succ])
            refine wpAnyH_take (i := 4) (v := ?_) rfl (by kernel_rfl) (by kernel_rfl) (by kernel_rfl) (fun _ _ _ h => h) (Or.inl ⟨by kernel_rfl, ?_⟩) (bx) ?_
            rotate_left
            focus (intro W' hSw; have hx0 := hSw; (try dsimp only at hx0); have hc0 := hx0.c0; have hc1 := hx0.c1; clear hx0; go_simp; (try with_reducible rfl))
            (try simp only [Act.put, List.setIfInBounds_toArray, List.set_cons_zero, List.set_cons_succ, List.getElem_toArray, List.getElem_cons_zero, List.getElem_cons_succ])
            refine wpAnyH_take (i := 5) (v := ?_) rfl (by kernel_rfl) (by kernel_rfl) (by kernel_rfl) (fun _ _ _ h => h) (Or.inl ⟨by kernel_rfl, ?_⟩) (bx) ?_
            rotate_left
            focus (intro W' hSw; have hx0 := hSw; (try dsimp only at hx0); have hc0 := hx0.c0; have hc1 := hx0.c1; clear hx0; go_simp; (try with_reducible rfl))
            (try simp only [Act.put, List.setIfInBounds_toArray, List.set_cons_zero, List.set_cons_succ, List.getElem_toArray, List.getElem_cons_zero, List.getElem_cons_succ])
            refine wpAnyH_take (i := 6) (v := ?_) rfl (by kernel_rfl) (by kernel_rfl) (by kernel_rfl) (fun _ _ _ h => h) (Or.inl ⟨by kernel_rfl, ?_⟩) (bx) ?_
            rotate_left
            focus (intro W' hSw; have hx0 := hSw; (try dsimp only at hx0); have hc0 := hx0.c0; have hc1 := hx0.c1; clear hx0; go_simp; (try with_reducible rfl))
            (try simp only [Act.put, List.setIfInBounds_toArray, List.set_cons_zero, List.set_cons_succ, List.getElem_toArray, List.getElem_cons_zero, List.getElem_cons_succ])
            refine wpAnyH_ready (rs := [9]) (by kernel_rfl) (by simp) ?_
            refine AllReadyH.cons rfl (fun K hK => ?_) (AllReadyH.nil)
            have hq0 := bm.c0
            have hq1 := bm.c1
            have hr0 := bm.f0
            have hr1 := bm.f1
            go_simp
            clear hq0 hq1 hr0 hr1
            have hP := put2 Wq Bbm (.bool gq) (.slice pq nq cq)
            generalize (Wq.setCell ⟨Bbm, 0, none⟩ (.bool gq)).setCell ⟨Bbm, 1, none⟩ (.slice pq nq cq) = WZ at hP ⊢
            replace hv := hv.put bm (by decide) hP
            replace h0 := bel_put h0 (by have := s_bm.out; omega) hP
            replace bx := bx.put hP (by have := t_bm.out; omega)
            replace b0 := b0.put hP (by have := s_bm.out; have := u_bm.out; omega)
            replace br := br.put hP (by have := v_br.out; omega)
            clear hP bm
            refine hK.out _ _ (bx) (fun _ => ?_)
            clear hK K
            (try simp only [Act.put, List.setIfInBounds_toArray, List.set_cons_zero, List.set_cons_succ, List.getElem_toArray, List.getElem_cons_zero, List.getElem_cons_succ])
            refine wpAnyH_done (by kernel_rfl) ?_ _
            refine still1_step rfl (fun K hK => ?_)
            have hq0 := br.c0
            have hq1 := br.c1
            have hr0 := br.f0
            have hr1 := br.f1
            go_simp
            clear hq0 hq1 hr0 hr1
            have hP := put2 WZ Bbr (.bool gv) (.slice pv nv cv)
            have hN := br.stored (.bool gv) (.slice pv nv cv)
            generalize (WZ.setCell ⟨Bbr, 0, none⟩ (.bool gv)).setCell ⟨Bbr, 1, none⟩ (.slice pv nv cv) = WK at hP hN ⊢
            replace hv := hv.put br (by decide) hP
            replace h0 := bel_put h0 (by have := s_br.out; omega) hP
            replace b0 := b0.put hP (by have := s_br.out; have := u_br.out; omega)
            clear hP br bx
            have br := hN
            clear hN
            refine hK.out _ _ ?_
            clear hK K
            (try simp only [Act.put, List.setIfInBounds_toArray, List.set_cons_zero, List.set_cons_succ, List.getElem_toArray, List.getElem_cons_zero, List.getElem_cons_succ])
            go_wp2_with fail
            go_meet
            case rel => exact ⟨gv, pv, nv, cv, Bbr, rfl, br, hv, b0, h0⟩
        · go_simp
          have hal : Below Vbm.heap.size Vbm (Vbm.alloc (.cells #[.bool false, .slice none 0 0] 27)) := (Below.refl _ _).alloc (Nat.le_refl _) _
          have br := Bx.new Vbm 27 (.bool false) (.slice none 0 0)
          have s_br := Lib.hid (show w.heap.size ≤ Vbm.heap.size from h0.size)
          have t_br := Lib.hid (show BX < Vbm.heap.size from bx.lt)
          have u_br := Lib.hid (show w.heap.size < Vbm.heap.size from b0.lt)
          have v_br := Lib.hid bm.lt
          replace hx := hx.go hal
          replace bx := bx.go hal
          replace b0 := b0.go hal
          replace bm := bm.go hal
          replace h0 := bel_go h0 h0.size hal
          clear hal
          generalize Vbm.heap.size = Bbr at br s_br t_br u_br v_br ⊢
          generalize Vbm.alloc (.cells #[.bool false, .slice none 0 0] 27) = Vbr at hx bx b0 bm br h0 ⊢
          refine hK.out _ _ (bx) (fun _ => ?_)
          clear hK K
          (try simp only [Act.put, List.setIfInBounds_toArray, List.set_cons_zero, List.set_cons_succ, List.getElem_toArray, List.getElem_cons_zero, List.getElem_cons_succ])
          refine wpAnyH_ready (rs := [2]) (by kernel_rfl) (by simp) ?_
          refine AllReadyH.cons rfl (fun K hK => ?_) (AllReadyH.nil)
          go_simp
          go_at_call 25; refine (i_any d d1 d2 _).mono ?_
          rintro e Wi ⟨u, rfl, hi, hb⟩
          obtain ⟨gi, pi, ni, ci, rfl⟩ := hi.shape
          replace hx := hx.go hb
          replace bx := bx.go hb
          replace b0 := b0.go hb
          replace bm := bm.go hb
          replace br := br.go hb
          replace h0 := bel_go h0 h0.size hb
          clear hb
          refine hK.out _ _ (bx) (fun _ => ?_)
          clear hK K
          (try simp only [Act.put, List.setIfInBounds_toArray, List.set_cons_zero, List.set_cons_succ, List.getElem_toArray, List.getElem_cons_zero, List.getElem_cons_succ])
          refine wpAnyH_ready (rs := [3]) (by kernel_rfl) (by simp) ?_
          refine AllReadyH.cons rfl (fun K hK => ?_) (AllReadyH.nil)
          go_simp
          go_at_call 33; refine (zsplit_any _ _ n d hd0 hln4 hld _ hx hi).mono ?_
          rintro e Wq ⟨u, v, rfl, hq, hv, hb⟩
          obtain ⟨gq, pq, nq, cq, rfl⟩ := hq.shape
          obtain ⟨gv, pv, nv, cv, rfl⟩ := hv.shape
          replace hx := hx.go hb
          replace bx := bx.go hb
          replace b0 := b0.go hb
          replace bm := bm.go hb
          replace br := br.go hb
          replace hi := hi.go hb
          replace h0 := bel_go h0 h0.size hb
          clear hb
          refine hK.out _ _ (bx) (fun _ => ?_)
          clear hK K
          (try simp only [Act.put, List.setIfInBounds_toArray, List.set_cons_zero, List.set_cons_succ, List.getElem_toArray, List.getElem_cons_zero, List.getElem_cons_succ])
          refine wpAnyH_take (i := 4) (v := ?_) rfl (by kernel_rfl) (by kernel_rfl) (by kernel_rfl) (fun _ _ _ h => h) (Or.inl ⟨by kernel_rfl, ?_⟩) (bx) ?_
          rotate_left
          focus (intro W' hSw; have hx0 := hSw; (try dsimp only at hx0); have hc0 := hx0.c0; have hc1 := hx0.c1; clear hx0; go_simp; (try with_reducible rfl))
          (try simp only [Act.put, List.setIfInBounds_toArray, List.set_cons_zero, List.set_cons_succ, List.getElem_toArray, List.getElem_cons_zero, List.getElem_cons_succ])
          refine wpAnyH_take (i := 5) (v := ?_) rfl (by kernel_rfl) (by kernel_rfl) (by kernel_rfl) (fun _ _ _ h => h) (Or.inl ⟨by kernel_rfl, ?_⟩) (bx) ?_
          rotate_left
          focus (intro W' hSw; have hx0 := hSw; (try dsimp only at hx0); have hc0 := hx0.c0; have hc1 := hx0.c1; clear hx0; go_simp; (try with_reducible rfl))
          (try simp only [Act.put, List.setIfInBounds_toArray, List.set_cons_zero, List.set_cons_succ, List.getElem_toArray, List.getElem_cons_zero, List.getElem_cons_succ])
          refine wpAnyH_take (i := 6) (v := ?_) rfl (by kernel_rfl) (by kernel_rfl) (by kernel_rfl) (fun _ _ _ h => h) (Or.inl ⟨by kernel_rfl, ?_⟩) (bx) ?_
          rotate_left
          focus (intro W' hSw; have hx0 := hSw; (try dsimp only at hx0); have hc0 := hx0.c0; have hc1 := hx0.c1; clear hx0; go_simp; (try with_reducible rfl))
          (try simp only [Act.put, List.setIfInBounds_toArray, List.set_cons_zero, List.set_cons_succ, List.getElem_toArray, List.getElem_cons_zero, List.getElem_cons_succ])
          refine wpAnyH_ready (rs := [9]) (by kernel_rfl) (by simp) ?_
          refine AllReadyH.cons rfl (fun K hK => ?_) (AllReadyH.nil)
          have hq0 := bm.c0
          have hq1 := bm.c1
          have hr0 := bm.f0
          have hr1 := bm.f1
          go_simp
          clear hq0 hq1 hr0 hr1
          have hP := put2 Wq Bbm (.bool gq) (.slice pq nq cq)
          generalize (Wq.setCell ⟨Bbm, 0, none⟩ (.bool gq)).setCell ⟨Bbm, 1, none⟩ (.slice pq nq cq) = WZ at hP ⊢
          replace hv := hv.put bm (by decide) hP
          replace h0 := bel_put h0 (by have := s_bm.out; omega) hP
          replace bx := bx.put hP (by have := t_bm.out; omega)
          replace b0 := b0.put hP (by have := s_bm.out; have := u_bm.out; omega)
          replace br := br.put hP (by have := v_br.out; omega)
          clear hP bm
          refine hK.out _ _ (bx) (fun _ => ?_)
          clear hK K
          (try simp only [Act.put, List.setIfInBounds_toArray, List.set_cons_zero, List.set_cons_succ, List.getElem_toArray, List.getElem_cons_zero, List.getElem_cons_succ])
          refine wpAnyH_done (by kernel_rfl) ?_ _
          refine still1_step rfl (fun K hK => ?_)
          have hq0 := br.c0
          have hq1 := br.c1
          have hr0 := br.f0
          have hr1 := br.f1
          go_simp
          clear hq0 hq1 hr0 hr1
          have hP := put2 WZ Bbr (.bool gv) (.slice pv nv cv)
          have hN := br.stored (.bool gv) (.slice pv nv cv)
          generalize (WZ.setCell ⟨Bbr, 0, none⟩ (.bool gv)).setCell ⟨Bbr, 1, none⟩ (.slice pv nv cv) = WK at hP hN ⊢
          replace hv := hv.put br (by decide) hP
          replace h0 := bel_put h0 (by have := s_br.out; omega) hP
          replace b0 := b0.put hP (by have := s_br.out; have := u_br.out; omega)
          clear hP br bx
          have br := hN
          clear hN
          refine hK.out _ _ ?_
          clear hK K
          (try simp only [Act.put, List.setIfInBounds_toArray, List.set_cons_zero, List.set_cons_succ, List.getElem_toArray, List.getElem_cons_zero, List.getElem_cons_succ])
          go_wp2_with fail
          go_meet
          case rel => exact ⟨gv, pv, nv, cv, Bbr, rfl, br, hv, b0, h0⟩
      · go_simp
        have hal : Below W3.heap.size W3 (W3.alloc (.cells #[.bool false, .slice none 0 0] 27)) := (Below.refl _ _).alloc (Nat.le_refl _) _
        have br := Bx.new W3 27 (.bool false) (.slice none 0 0)
        have s_br := Lib.hid (show w.heap.size ≤ W3.heap.size from h0.size)
        have t_br := Lib.hid (show BX < W3.heap.size from bx.lt)
        have u_br := Lib.hid (show w.heap.size < W3.heap.size from b0.lt)
        replace hx := hx.go hal
        replace bx := bx.go hal
        replace b0 := b0.go hal
        replace h0 := bel_go h0 h0.size hal
        clear hal
        generalize W3.heap.size = Bbr at br s_br t_br u_br ⊢
        generalize W3.alloc (.cells #[.bool false, .slice none 0 0] 27) = Vbr at hx bx b0 br h0 ⊢
        refine hK.out _ _ (bx) (fun _ => ?_)
        clear hK K
        (try simp only [Act.put, List.setIfInBounds_toArray, List.set_cons_zero, List.set_cons_succ, List.getElem_toArray, List.getElem_cons_zero, List.getElem_cons_succ])
        refine wpAnyH_ready (rs := [2, 7]) (by kernel_rfl) (by simp) ?_
        refine AllReadyH.cons rfl (fun K hK => ?_) (AllReadyH.cons rfl (fun K hK => ?_) (AllReadyH.nil))
        · go_simp
          go_at_call 25; refine (i_any d d1 d2 _).mono ?_
          rintro e Wi ⟨u, rfl, hi, hb⟩
          obtain ⟨gi, pi, ni, ci, rfl⟩ := hi.shape
          replace hx := hx.go hb
          replace bx := bx.go hb
          replace b0 := b0.go hb
          replace br := br.go hb
          replace h0 := bel_go h0 h0.size hb
          clear hb
          refine hK.out _ _ (bx) (fun _ => ?_)
          clear hK K
          (try simp only [Act.put, List.setIfInBounds_toArray, List.set_cons_zero, List.set_cons_succ, List.getElem_toArray, List.getElem_cons_zero, List.getElem_cons_succ])
          refine wpAnyH_ready (rs := [3, 7]) (by kernel_rfl) (by simp) ?_
          refine AllReadyH.cons rfl (fun K hK => ?_) (AllReadyH.cons rfl (fun K hK => ?_) (AllReadyH.nil))
          · go_simp
            go_at_call 33; refine (zsplit_any _ _ n d hd0 hln4 hld _ hx hi).mono ?_
            rintro e Wq ⟨u, v, rfl, hq, hv, hb⟩
            obtain ⟨gq, pq, nq, cq, rfl⟩ := hq.shape
            obtain ⟨gv, pv, nv, cv, rfl⟩ := hv.shape
            replace hx := hx.go hb
            replace bx := bx.go hb
            replace b0 := b0.go hb
            replace br := br.go hb
            replace hi := hi.go hb
            replace h0 := bel_go h0 h0.size hb
            clear hb
            refine hK.out _ _ (bx) (fun _ => ?_)
            clear hK K
            (try simp only [Act.put, List.setIfInBounds_toArray, List.set_cons_zero, List.set_cons_succ, List.getElem_toArray, List.getElem_cons_zero, List.getElem_cons_succ])
            refine wpAnyH_take (i := 4) (v := ?_) rfl (by kernel_rfl) (by kernel_rfl) (by kernel_rfl) (fun _ _ _ h => h) (Or.inl ⟨by kernel_rfl, ?_⟩) (bx) ?_
            rotate_left
            focus (intro W' hSw; have hx0 := hSw; (try dsimp only at hx0); have hc0 := hx0.c0; have hc1 := hx0.c1; clear hx0; go_simp; (try with_reducible rfl))
            (try simp only [Act.put, List.setIfInBounds_toArray, List.set_cons_zero, List.set_cons_succ, List.getElem_toArray, List.getElem_cons_zero, List.getElem_cons_succ])
            refine wpAnyH_take (i := 5) (v := ?_) rfl (by kernel_rfl) (by kernel_rfl) (by kernel_rfl) (fun _ _ _ h => h) (Or.inl ⟨by kernel_rfl, ?_⟩) (bx) ?_
            rotate_left
            focus (intro W' hSw; have hx0 := hSw; (try dsimp only at hx0); have hc0 := hx0.c0; have hc1 := hx0.c1; clear hx0; go_simp; (try with_reducible rfl))
            (try simp only [Act.put, List.setIfInBounds_toArray, List.set_cons_zero, List.set_cons_succ, List.getElem_toArray, List.getElem_cons_zero, List.getElem_cons_succ])
            refine wpAnyH_take (i := 6) (v := ?_) rfl (by kernel_rfl) (by kernel_rfl) (by kernel_rfl) (fun _ _ _ h => h) (Or.inl ⟨by kernel_rfl, ?_⟩) (bx) ?_
            rotate_left
            focus (intro W' hSw; have hx0 := hSw; (try dsimp only at hx0); have hc0 := hx0.c0; have hc1 := hx0.c1; clear hx0; go_simp; (try with_reducible rfl))
            (try simp only [Act.put, List.setIfInBounds_toArray, List.set_cons_zero, List.set_cons_succ, List.getElem_toArray, List.getElem_cons_zero, List.getElem_cons_succ])
            refine wpAnyH_ready (rs := [7]) (by kernel_rfl) (by simp) ?_
            refine AllReadyH.cons rfl (fun K hK => ?_) (AllReadyH.nil)
            go_simp
            have hal : Below Wq.heap.size Wq (Wq.alloc (.cells #[.bool false, .slice none 0 0] 27)) := (Below.refl _ _).alloc (Nat.le_refl _) _
            have bm := Bx.new Wq 27 (.bool false) (.slice none 0 0)
            have s_bm := Lib.hid (show w.heap.size ≤ Wq.heap.size from h0.size)
            have t_bm := Lib.hid (show BX < Wq.heap.size from bx.lt)
            have u_bm := Lib.hid (show w.heap.size < Wq.heap.size from b0.lt)
            have v_bm := Lib.hid br.lt
            replace hx := hx.go hal
            replace bx := bx.go hal
            replace b0 := b0.go hal
            replace br := br.go hal
            replace hi := hi.go hal
            replace hq := hq.go hal
            replace hv := hv.go hal
            replace h0 := bel_go h0 h0.size hal
            clear hal
            generalize Wq.heap.size = Bbm at bm s_bm t_bm u_bm v_bm ⊢
            generalize Wq.alloc (.cells #[.bool false, .slice none 0 0] 27) = Vbm at hx bx b0 br hi hq hv bm h0 ⊢
            refine hK.out _ _ (bx) (fun _ => ?_)
            clear hK K
            (try simp only [Act.put, List.setIfInBounds_toArray, List.set_cons_zero, List.set_cons_succ, List.getElem_toArray, List.getElem_cons_zero, List.getElem_cons_succ])
            refine wpAnyH_ready (rs := [9]) (by kernel_rfl) (by simp) ?_
            refine AllReadyH.cons rfl (fun K hK => ?_) (AllReadyH.nil)
            have hq0 := bm.c0
            have hq1 := bm.c1
            have hr0 := bm.f0
            have hr1 := bm.f1
            go_simp
            clear hq0 hq1 hr0 hr1
            have hP := put2 Vbm Bbm (.bool gq) (.slice pq nq cq)
            generalize (Vbm.setCell ⟨Bbm, 0, none⟩ (.bool gq)).setCell ⟨Bbm, 1, none⟩ (.slice pq nq cq) = WZ at hP ⊢
            replace hv := hv.put bm (by decide) hP
            replace h0 := bel_put h0 (by have := s_bm.out; omega) hP
            replace bx := bx.put hP (by have := t_bm.out; omega)
            replace b0 := b0.put hP (by have := s_bm.out; have := u_bm.out; omega)
            replace br := br.put hP (by have := v_bm.out; omega)
            clear hP bm
            refine hK.out _ _ (bx) (fun _ => ?_)
            clear hK K
            (try simp only [Act.put, List.setIfInBounds_toArray, List.set_cons_zero, List.set_cons_succ, List.getElem_toArray, List.getElem_cons_zero, List.getElem_cons_succ])
            refine wpAnyH_done (by kernel_rfl) ?_ _
            refine still1_step rfl (fun K hK => ?_)
            have hq0 := br.c0
            have hq1 := br.c1
            have hr0 := br.f0
            have hr1 := br.f1
            go_simp
            clear hq0 hq1 hr0 hr1
            have hP := put2 WZ Bbr (.bool gv) (.slice pv nv cv)
            have hN := br.stored (.bool gv) (.slice pv nv cv)
            generalize (WZ.setCell ⟨Bbr, 0, none⟩ (.bool gv)).setCell ⟨Bbr, 1, none⟩ (.slice pv nv cv) = WK at hP hN ⊢
            replace hv := hv.put br (by decide) hP
            replace h0 := bel_put h0 (by have := s_br.out; omega) hP
            replace b0 := b0.put hP (by have := s_br.out; have := u_br.out; omega)
            clear hP br bx
            have br := hN
            clear hN
            refine hK.out _ _ ?_
            clear hK K
            (try simp only [Act.put, List.setIfInBounds_toArray, List.set_cons_zero, List.set_cons_succ, List.getElem_toArray, List.getElem_cons_zero, List.getElem_cons_succ])
            go_wp2_with fail
            go_meet
            case rel => exact ⟨gv, pv, nv, cv, Bbr, rfl, br, hv, b0, h0⟩
          · go_simp
            have hal : Below Wi.heap.size Wi (Wi.alloc (.cells #[.bool false, .slice none 0 0] 27)) := (Below.refl _ _).alloc (Nat.le_refl _) _
            have bm := Bx.new Wi 27 (.bool false) (.slice none 0 0)
            have s_bm := Lib.hid (show w.heap.size ≤ Wi.heap.size from h0.size)
            have t_bm := Lib.hid (show BX < Wi.heap.size from bx.lt)
            have u_bm := Lib.hid (show w.heap.size < Wi.heap.size from b0.lt)
            have v_bm := Lib.hid br.lt
            replace hx := hx.go hal
            replace bx := bx.go hal
            replace b0 := b0.go hal
            replace br := br.go hal
            replace hi := hi.go hal
            replace h0 := bel_go h0 h0.size hal
            clear hal
            generalize Wi.heap.size = Bbm at bm s_bm t_bm u_bm v_bm ⊢
            generalize Wi.alloc (.cells #[.bool false, .slice none 0 0] 27) = Vbm at hx bx b0 br hi bm h0 ⊢
            refine hK.out _ _ (bx) (fun _ => ?_)
            clear hK K
            (try simp only [Act.put, List.setIfInBounds_toArray, List.set_cons_zero, List.set_cons_succ, List.getElem_toArray, List.getElem_cons_zero, List.getElem_cons_succ])
            refine wpAnyH_ready (rs := [3]) (by kernel_rfl) (by simp) ?_
            refine AllReadyH.cons rfl (fun K hK => ?_) (AllReadyH.nil)
            go_simp
            go_at_call 33; refine (zsplit_any _ _ n d hd0 hln4 hld _ hx hi).mono ?_
            rintro e Wq ⟨u, v, rfl, hq, hv, hb⟩
            obtain ⟨gq, pq, nq, cq, rfl⟩ := hq.shape
            obtain ⟨gv, pv, nv, cv, rfl⟩ := hv.shape
            replace hx := hx.go hb
            replace bx := bx.go hb
            replace b0 := b0.go hb
            replace br := br.go hb
            replace hi := hi.go hb
            replace bm := bm.go hb
            replace h0 := bel_go h0 h0.size hb
            clear hb
            refine hK.out _ _ (bx) (fun _ => ?_)
            clear hK K
            (try simp only [Act.put, List.setIfInBounds_toArray, List.set_cons_zero, List.set_cons_succ, List.getElem_toArray, List.getElem_cons_zero, List.getElem_cons_succ])
            refine wpAnyH_take (i := 4) (v := ?_) rfl (by kernel_rfl) (by kernel_rfl) (by kernel_rfl) (fun _ _ _ h => h) (Or.inl ⟨by kernel_rfl, ?_⟩) (bx) ?_
            rotate_left
            focus (intro W' hSw; have hx0 := hSw; (try dsimp only at hx0); have hc0 := hx0.c0; have hc1 := hx0.c1; clear hx0; go_simp; (try with_reducible rfl))
            (try simp only [Act.put, List.setIfInBounds_toArray, List.set_cons_zero, List.set_cons_succ, List.getElem_toArray, List.getElem_cons_zero, List.getElem_cons_succ])
            refine wpAnyH_take (i := 5) (v := ?_) rfl (by kernel_rfl) (by kernel_rfl) (by kernel_rfl) (fun _ _ _ h => h) (Or.inl ⟨by kernel_rfl, ?_⟩) (bx) ?_
            rotate_left
            focus (intro W' hSw; have hx0 := hSw; (try dsimp only at hx0); have hc0 := hx0.c0; have hc1 := hx0.c1; clear hx0; go_simp; (try with_reducible rfl))
            (try simp only [Act.put, List.setIfInBounds_toArray, List.set_cons_zero, List.set_cons_succ, List.getElem_toArray, List.getElem_cons_zero, List.getElem_cons_succ])
            refine wpAnyH_take (i := 6) (v := ?_) rfl (by kernel_rfl) (by kernel_rfl) (by kernel_rfl) (fun _ _ _ h => h) (Or.inl ⟨by kernel_rfl, ?_⟩) (bx) ?_
            rotate_left
            focus (intro W' hSw; have hx0 := hSw; (try dsimp only at hx0); have hc0 := hx0.c0; have hc1 := hx0.c1; clear hx0; go_simp; (try with_reducible rfl))
            (try simp only [Act.put, List.setIfInBounds_toArray, List.set_cons_zero, List.set_cons_succ, List.getElem_toArray, List.getElem_cons_zero, List.getElem_cons_succ])
            refine wpAnyH_ready (rs := [9]) (by kernel_rfl) (by simp) ?_
            refine AllReadyH.cons rfl (fun K hK => ?_) (AllReadyH.nil)
            have hq0 := bm.c0
            have hq1 := bm.c1
            have hr0 := bm.f0
            have hr1 := bm.f1
            go_simp
            clear hq0 hq1 hr0 hr1
            have hP := put2 Wq Bbm (.bool gq) (.slice pq nq cq)
            generalize (Wq.setCell ⟨Bbm, 0, none⟩ (.bool gq)).setCell ⟨Bbm, 1, none⟩ (.slice pq nq cq) = WZ at hP ⊢
            replace hv := hv.put bm (by decide) hP
            replace h0 := bel_put h0 (by have := s_bm.out; omega) hP
            replace bx := bx.put hP (by have := t_bm.out; omega)
            replace b0 := b0.put hP (by have := s_bm.out; have := u_bm.out; omega)
            replace br := br.put hP (by have := v_bm.out; omega)
            clear hP bm
            refine hK.out _ _ (bx) (fun _ => ?_)
            clear hK K
            (try simp only [Act.put, List.setIfInBounds_toArray, List.set_cons_zero, List.set_cons_succ, List.getElem_toArray, List.getElem_cons_zero, List.getElem_cons_succ])
            refine wpAnyH_done (by kernel_rfl) ?_ _
            refine still1_step rfl (fun K hK => ?_)
            have hq0 := br.c0
            have hq1 := br.c1
            have hr0 := br.f0
            have hr1 := br.f1
            go_simp
            clear hq0 hq1 hr0 hr1
            have hP := put2 WZ Bbr (.bool gv) (.slice pv nv cv)
            have hN := br.stored (.bool gv) (.slice pv nv cv)
            generalize (WZ.setCell ⟨Bbr, 0, none⟩ (.bool gv)).setCell ⟨Bbr, 1, none⟩ (.slice pv nv cv) = WK at hP hN ⊢
            replace hv := hv.put br (by decide) hP
            replace h0 := bel_put h0 (by have := s_br.out; omega) hP
            replace b0 := b0.put hP (by have := s_br.out; have := u_br.out; omega)
            clear hP br bx
            have br := hN
            clear hN
            refine hK.out _ _ ?_
            clear hK K
            (try simp only [Act.put, List.setIfInBounds_toArray, List.set_cons_zero, List.set_cons_succ, List.getElem_toArray, List.getElem_cons_zero, List.getElem_cons_succ])
            go_wp2_with fail
            go_meet
            case rel => exact ⟨gv, pv, nv, cv, Bbr, rfl, br, hv, b0, h0⟩
        · go_simp
          have hal : Below Vbr.heap.size Vbr (Vbr.alloc (.cells #[.bool false, .slice none 0 0] 27)) := (Below.refl _ _).alloc (Nat.le_refl _) _
          have bm := Bx.new Vbr 27 (.bool false) (.slice none 0 0)
          have s_bm := Lib.hid (show w.heap.size ≤ Vbr.heap.size from h0.size)
          have t_bm := Lib.hid (show BX < Vbr.heap.size from bx.lt)
          have u_bm := Lib.hid (show w.heap.size < Vbr.heap.size from b0.lt)
          have v_bm := Lib.hid br.lt
          replace hx := hx.go hal
          replace bx := bx.go hal
          replace b0 := b0.go hal
          replace br := br.go hal
          replace h0 := bel_go h0 h0.size hal
          clear hal
          generalize Vbr.heap.size = Bbm at bm s_bm t_bm u_bm v_bm ⊢
          generalize Vbr.alloc (.cells #[.bool false, .slice none 0 0] 27) = Vbm at hx bx b0 br bm h0 ⊢
          refine hK.out _ _ (bx) (fun _ => ?_)
          clear hK K
          (try simp only [Act.put, List.setIfInBounds_toArray, List.set_cons_zero, List.set_cons_succ, List.getElem_toArray, List.getElem_cons_zero, List.getElem_cons_succ])
          refine wpAnyH_ready (rs := [2]) (by kernel_rfl) (by simp) ?_
          refine AllReadyH.cons rfl (fun K hK => ?_) (AllReadyH.nil)
          go_simp
          go_at_call 25; refine (i_any d d1 d2 _).mono ?_
          rintro e Wi ⟨u, rfl, hi, hb⟩
          obtain ⟨gi, pi, ni, ci, rfl⟩ := hi.shape
          replace hx := hx.go hb
          replace bx := bx.go hb
          replace b0 := b0.go hb
          replace br := br.go hb
          replace bm := bm.go hb
          replace h0 := bel_go h0 h0.size hb
          clear hb
          refine hK.out _ _ (bx) (fun _ => ?_)
          clear hK K
          (try simp only [Act.put, List.setIfInBounds_toArray, List.set_cons_zero, List.set_cons_succ, List.getElem_toArray, List.getElem_cons_zero, List.getElem_cons_succ])
          refine wpAnyH_ready (rs := [3]) (by kernel_rfl) (by simp) ?_
          refine AllReadyH.cons rfl (fun K hK => ?_) (AllReadyH.nil)
          go_simp
          go_at_call 33; refine (zsplit_any _ _ n d hd0 hln4 hld _ hx hi).mono ?_
          rintro e Wq ⟨u, v, rfl, hq, hv, hb⟩
          obtain ⟨gq, pq, nq, cq, rfl⟩ := hq.shape
          obtain ⟨gv, pv, nv, cv, rfl⟩ := hv.shape
          replace hx := hx.go hb
          replace bx := bx.go hb
          replace b0 := b0.go hb
          replace br := br.go hb
          replace bm := bm.go hb
          replace hi := hi.go hb
          replace h0 := bel_go h0 h0.size hb
          clear hb
          refine hK.out _ _ (bx) (fun _ => ?_)
          clear hK K
          (try simp only [Act.put, List.setIfInBounds_toArray, List.set_cons_zero, List.set_cons_succ, List.getElem_toArray, List.getElem_cons_zero, List.getElem_cons_succ])
          refine wpAnyH_take (i := 4) (v := ?_) rfl (by kernel_rfl) (by kernel_rfl) (by kernel_rfl) (fun _ _ _ h => h) (Or.inl ⟨by kernel_rfl, ?_⟩) (bx) ?_
          rotate_left
          focus (intro W' hSw; have hx0 := hSw; (try dsimp only at hx0); have hc0 := hx0.c0; have hc1 := hx0.c1; clear hx0; go_simp; (try with_reducible rfl))
          (try simp only [Act.put, List.setIfInBounds_toArray, List.set_cons_zero, List.set_cons_succ, List.getElem_toArray, List.getElem_cons_zero, List.getElem_cons_succ])
          refine wpAnyH_take (i := 5) (v := ?_) rfl (by kernel_rfl) (by kernel_rfl) (by kernel_rfl) (fun _ _ _ h => h) (Or.inl ⟨by kernel_rfl, ?_⟩) (bx) ?_
          rotate_left
          focus (intro W' hSw; have hx0 := hSw; (try dsimp only at hx0); have hc0 := hx0.c0; have hc1 := hx0.c1; clear hx0; go_simp; (try with_reducible rfl))
          (try simp only [Act.put, List.setIfInBounds_toArray, List.set_cons_zero, List.set_cons_succ, List.getElem_toArray, List.getElem_cons_zero, List.getElem_cons_succ])
          refine wpAnyH_take (i := 6) (v := ?_) rfl (by kernel_rfl) (by kernel_rfl) (by kernel_rfl) (fun _ _ _ h => h) (Or.inl ⟨by kernel_rfl, ?_⟩) (bx) ?_
          rotate_left
          focus (intro W' hSw; have hx0 := hSw; (try dsimp only at hx0); have hc0 := hx0.c0; have hc1 := hx0.c1; clear hx0; go_simp; (try with_reducible rfl))
          (try simp only [Act.put, List.setIfInBounds_toArray, List.set_cons_zero, List.set_cons_succ, List.getElem_toArray, List.getElem_cons_zero, List.getElem_cons_succ])
          refine wpAnyH_ready (rs := [9]) (by kernel_rfl) (by simp) ?_
          refine AllReadyH.cons rfl (fun K hK => ?_) (AllReadyH.nil)
          have hq0 := bm.c0
          have hq1 := bm.c1
          have hr0 := bm.f0
          have hr1 := bm.f1
          go_simp
          clear hq0 hq1 hr0 hr1
          have hP := put2 Wq Bbm (.bool gq) (.slice pq nq cq)
          generalize (Wq.setCell ⟨Bbm, 0, none⟩ (.bool gq)).setCell ⟨Bbm, 1, none⟩ (.slice pq nq cq) = WZ at hP ⊢
          replace hv := hv.put bm (by decide) hP
          replace h0 := bel_put h0 (by have := s_bm.out; omega) hP
          replace bx := bx.put hP (by have := t_bm.out; omega)
          replace b0 := b0.put hP (by have := s_bm.out; have := u_bm.out; omega)
          replace br := br.put hP (by have := v_bm.out; omega)
          clear hP bm
          refine hK.out _ _ (bx) (fun _ => ?_)
          clear hK K
          (try simp only [Act.put, List.setIfInBounds_toArray, List.set_cons_zero, List.set_cons_succ, List.getElem_toArray, List.getElem_cons_zero, List.getElem_cons_succ])
          refine wpAnyH_done (by kernel_rfl) ?_ _
          refine still1_step rfl (fun K hK => ?_)
          have hq0 := br.c0
          have hq1 := br.c1
          have hr0 := br.f0
          have hr1 := br.f1
          go_simp
          clear hq0 hq1 hr0 hr1
          have hP := put2 WZ Bbr (.bool gv) (.slice pv nv cv)
          have hN := br.stored (.bool gv) (.slice pv nv cv)
          generalize (WZ.setCell ⟨Bbr, 0, none⟩ (.bool gv)).setCell ⟨Bbr, 1, none⟩ (.slice pv nv cv) = WK at hP hN ⊢
          replace hv := hv.put br (by decide) hP
          replace h0 := bel_put h0 (by have := s_br.out; omega) hP
          replace b0 := b0.put hP (by have := s_br.out; have := u_br.out; omega)
          clear hP br bx
          have br := hN
          clear hN
          refine hK.out _ _ ?_
          clear hK K
          (try simp only [Act.put, List.setIfInBounds_toArray, List.set_cons_zero, List.set_cons_succ, List.getElem_toArray, List.getElem_cons_zero, List.getElem_cons_succ])
          go_wp2_with fail
          go_meet
          case rel => exact ⟨gv, pv, nv, cv, Bbr, rfl, br, hv, b0, h0⟩
    case rest =>
      clear hx bx b0 h0
      obtain ⟨gv, pv, nv, cv, Bbr, rfl, br, hv, b0, h0⟩ := hcut
      go_wp2
      refine wp_region_held_drew (S := fun W' => Bx W' (Bbr) 27 (.bool gv) (.slice pv nv cv) ∧ Bx W' (w.heap.size) 49 (.int .i64 h) (.int .u64 l)) (by kernel_rfl) (⟨br.drew, b0.drew⟩) (fun _ => ?_)
      replace br := br.drew
      replace b0 := b0.drew
      replace hv := hv.drew
      replace h0 := Below.drew h0
      generalize wc.drew = wc at br b0 hv h0 ⊢
      refine wpAnyH_ready (rs := [0]) (by kernel_rfl) (by simp) ?_
      refine AllReadyH.cons rfl (fun K hK => ?_) (AllReadyH.nil)
      go_simp
      go_at_call 19; refine (nums_any _).mono ?_
      rintro e Wn ⟨rfl, hb⟩
      replace br := br.go hb
      replace b0 := b0.go hb
      replace hv := hv.go hb
      replace h0 := bel_go h0 h0.size hb
      clear hb
      refine hK.out _ _ (⟨br, b0⟩) (fun _ => ?_)
      clear hK K
      (try simp only [Act.put, List.setIfInBounds_toArray, List.set_cons_zero, List.set_cons_succ, List.getElem_toArray, List.getElem_cons_zero, List.getElem_cons_succ])
      refine wpAnyH_take (i := 1) (v := ?_) rfl (by kernel_rfl) (by kernel_rfl) (by kernel_rfl) (fun _ _ _ h => h) (Or.inl ⟨by kernel_rfl, ?_⟩) (⟨br, b0⟩) ?_
      rotate_left
      focus (intro W' hSw; obtain ⟨hx0, hx1⟩ := hSw; have hc0 := hx0.c0; have hc1 := hx0.c1; have hc2 := hx1.c0; have hc3 := hx1.c1; clear hx0 hx1; go_simp; (try with_reducible rfl))
      (try simp only [Act.put, List.setIfInBounds_toArray, List.set_cons_zero, List.set_cons_succ, List.getElem_toArray, List.getElem_cons_zero, List.getElem_cons_succ])
      refine wpAnyH_take (i := 2) (v := ?_) rfl (by kernel_rfl) (by kernel_rfl) (by kernel_rfl) (fun _ _ _ h => h) (Or.inl ⟨by kernel_rfl, ?_⟩) (⟨br, b0⟩) ?_
      rotate_left
      focus (intro W' hSw; obtain ⟨hx0, hx1⟩ := hSw; have hc0 := hx0.c0; have hc1 := hx0.c1; have hc2 := hx1.c0; have hc3 := hx1.c1; clear hx0 hx1; go_simp; (try with_reducible rfl))
      (try simp only [Act.put, List.setIfInBounds_toArray, List.set_cons_zero, List.set_cons_succ, List.getElem_toArray, List.getElem_cons_zero, List.getElem_cons_succ])
      refine wpAnyH_take (i := 3) (v := ?_) rfl (by kernel_rfl) (by kernel_rfl) (by kernel_rfl) (fun _ _ _ h => h) (Or.inl ⟨by kernel_rfl, ?_⟩) (⟨br, b0⟩) ?_
      rotate_left
      focus (intro W' hSw; obtain ⟨hx0, hx1⟩ := hSw; have hc0 := hx0.c0; have hc1 := hx0.c1; have hc2 := hx1.c0; have hc3 := hx1.c1; clear hx0 hx1; go_simp; (try with_reducible rfl))
      (try simp only [Act.put, List.setIfInBounds_toArray, List.set_cons_zero, List.set_cons_succ, List.getElem_toArray, List.getElem_cons_zero, List.getElem_cons_succ])
      refine wpAnyH_take (i := 4) (v := ?_) rfl (by kernel_rfl) (by kernel_rfl) (by kernel_rfl) (fun _ _ _ h => h) (Or.inl ⟨by kernel_rfl, ?_⟩) (⟨br, b0⟩) ?_
      rotate_left
      focus (intro W' hSw; obtain ⟨hx0, hx1⟩ := hSw; have hc0 := hx0.c0; have hc1 := hx0.c1; have hc2 := hx1.c0; have hc3 := hx1.c1; clear hx0 hx1; go_simp; (try with_reducible rfl))
      (try simp only [Act.put, List.setIfInBounds_toArray, List.set_cons_zero, List.set_cons_succ, List.getElem_toArray, List.getElem_cons_zero, List.getElem_cons_succ])
      refine wpAnyH_take (i := 5) (v := ?_) rfl (by kernel_rfl) (by kernel_rfl) (by kernel_rfl) (fun _ _ _ h => h) (Or.inl ⟨by kernel_rfl, ?_⟩) (⟨br, b0⟩) ?_
      rotate_left
      focus (intro W' hSw; obtain ⟨hx0, hx1⟩ := hSw; have hc0 := hx0.c0; have hc1 := hx0.c1; have hc2 := hx1.c0; have hc3 := hx1.c1; clear hx0 hx1; go_simp; (try with_reducible rfl))
      (try simp only [Act.put, List.setIfInBounds_toArray, List.set_cons_zero, List.set_cons_succ, List.getElem_toArray, List.getElem_cons_zero, List.getElem_cons_succ])
      refine wpAnyH_take (i := 6) (v := ?_) rfl (by kernel_rfl) (by kernel_rfl) (by kernel_rfl) (fun _ _ _ h => h) (Or.inl ⟨by kernel_rfl, ?_⟩) (⟨br, b0⟩) ?_
      rotate_left
      focus (intro W' hSw; obtain ⟨hx0, hx1⟩ := hSw; have hc0 := hx0.c0; have hc1 := hx0.c1; have hc2 := hx1.c0; have hc3 := hx1.c1; clear hx0 hx1; go_simp; (try with_reducible rfl))
      (try simp only [Act.put, List.setIfInBounds_toArray, List.set_cons_zero, List.set_cons_succ, List.getElem_toArray, List.getElem_cons_zero, List.getElem_cons_succ])
      refine wpAnyH_take (i := 7) (v := ?_) rfl (by kernel_rfl) (by kernel_rfl) (by kernel_rfl) (fun _ _ _ h => h) (Or.inl ⟨by kernel_rfl, ?_⟩) (⟨br, b0⟩) ?_
      rotate_left
      focus (intro W' hSw; obtain ⟨hx0, hx1⟩ := hSw; have hc0 := hx0.c0; have hc1 := hx0.c1; have hc2 := hx1.c0; have hc3 := hx1.c1; clear hx0 hx1; go_simp; (try with_reducible rfl))
      (try simp only [Act.put, List.setIfInBounds_toArray, List.set_cons_zero, List.set_cons_succ, List.getElem_toArray, List.getElem_cons_zero, List.getElem_cons_succ])
      refine wpAnyH_take (i := 8) (v := ?_) rfl (by kernel_rfl) (by kernel_rfl) (by kernel_rfl) (fun _ _ _ h => h) (Or.inl ⟨by kernel_rfl, ?_⟩) (⟨br, b0⟩) ?_
      rotate_left
      focus (intro W' hSw; obtain ⟨hx0, hx1⟩ := hSw; have hc0 := hx0.c0; have hc1 := hx0.c1; have hc2 := hx1.c0; have hc3 := hx1.c1; clear hx0 hx1; go_simp; (try with_reducible rfl))
      (try simp only [Act.put, List.setIfInBounds_toArray, List.set_cons_zero, List.set_cons_succ, List.getElem_toArray, List.getElem_cons_zero, List.getElem_cons_succ])
      refine wpAnyH_take (i := 9) (v := ?_) rfl (by kernel_rfl) (by kernel_rfl) (by kernel_rfl) (fun _ _ _ h => h) (Or.inl ⟨by kernel_rfl, ?_⟩) (⟨br, b0⟩) ?_
      rotate_left
      focus (intro W' hSw; obtain ⟨hx0, hx1⟩ := hSw; have hc0 := hx0.c0; have hc1 := hx0.c1; have hc2 := hx1.c0; have hc3 := hx1.c1; clear hx0 hx1; go_simp; (try with_reducible rfl))
      (try simp only [Act.put, List.setIfInBounds_toArray, List.set_cons_zero, List.set_cons_succ, List.getElem_toArray, List.getElem_cons_zero, List.getElem_cons_succ])
      refine wpAnyH_take (i := 10) (v := ?_) rfl (by kernel_rfl) (by kernel_rfl) (by kernel_rfl) (fun _ _ _ h => h) (Or.inl ⟨by kernel_rfl, ?_⟩) (⟨br, b0⟩) ?_
      rotate_left
      focus (intro W' hSw; obtain ⟨hx0, hx1⟩ := hSw; have hc0 := hx0.c0; have hc1 := hx0.c1; have hc2 := hx1.c0; have hc3 := hx1.c1; clear hx0 hx1; go_simp; (try with_reducible rfl))
      (try simp only [Act.put, List.setIfInBounds_toArray, List.set_cons_zero, List.set_cons_succ, List.getElem_toArray, List.getElem_cons_zero, List.getElem_cons_succ])
      refine wpAnyH_take (i := 11) (v := ?_) rfl (by kernel_rfl) (by kernel_rfl) (by kernel_rfl) (fun _ _ _ h => h) (Or.inl ⟨by kernel_rfl, ?_⟩) (⟨br, b0⟩) ?_
      rotate_left
      focus (intro W' hSw; obtain ⟨hx0, hx1⟩ := hSw; have hc0 := hx0.c0; have hc1 := hx0.c1; have hc2 := hx1.c0; have hc3 := hx1.c1; clear hx0 hx1; go_simp; (try with_reducible rfl))
      (try simp only [Act.put, List.setIfInBounds_toArray, List.set_cons_zero, List.set_cons_succ, List.getElem_toArray, List.getElem_cons_zero, List.getElem_cons_succ])
      refine wpAnyH_take (i := 12) (v := ?_) rfl (by kernel_rfl) (by kernel_rfl) (by kernel_rfl) (fun _ _ _ h => h) (Or.inl ⟨by kernel_rfl, ?_⟩) (⟨br, b0⟩) ?_
      rotate_left
      focus (intro W' hSw; obtain ⟨hx0, hx1⟩ := hSw; have hc0 := hx0.c0; have hc1 := hx0.c1; have hc2 := hx1.c0; have hc3 := hx1.c1; clear hx0 hx1; go_simp; (try with_reducible rfl))
      (try simp only [Act.put, List.setIfInBounds_toArray, List.set_cons_zero, List.set_cons_succ, List.getElem_toArray, List.getElem_cons_zero, List.getElem_cons_succ])
      refine wpAnyH_take (i := 13) (v := ?_) rfl (by kernel_rfl) (by kernel_rfl) (by kernel_rfl) (fun _ _ _ h => h) (Or.inl ⟨by kernel_rfl, ?_⟩) (⟨br, b0⟩) ?_
      rotate_left
      focus (intro W' hSw; obtain ⟨hx0, hx1⟩ := hSw; have hc0 := hx0.c0; have hc1 := hx0.c1; have hc2 := hx1.c0; have hc3 := hx1.c1; clear hx0 hx1; go_simp; (try with_reducible rfl))
      (try simp only [Act.put, List.setIfInBounds_toArray, List.set_cons_zero, List.set_cons_succ, List.getElem_toArray, List.getElem_cons_zero, List.getElem_cons_succ])
      refine wpAnyH_take (i := 14) (v := ?_) rfl (by kernel_rfl) (by kernel_rfl) (by kernel_rfl) (fun _ _ _ h => h) (Or.inl ⟨by kernel_rfl, ?_⟩) (⟨br, b0⟩) ?_
      rotate_left
      focus (intro W' hSw; obtain ⟨hx0, hx1⟩ := hSw; have hc0 := hx0.c0; have hc1 := hx0.c1; have hc2 := hx1.c0; have hc3 := hx1.c1; clear hx0 hx1; go_simp; (try with_reducible rfl))
      (try simp only [Act.put, List.setIfInBounds_toArray, List.set_cons_zero, List.set_cons_succ, List.getElem_toArray, List.getElem_cons_zero, List.getElem_cons_succ])
      refine wpAnyH_ready (rs := [15]) (by kernel_rfl) (by simp) ?_
      refine AllReadyH.cons rfl (fun K hK => ?_) (AllReadyH.nil)
      go_simp
      have hmd := wmod_any n d hn d0 d2 Wn
      rw [ew.out] at hmd
      go_at_call 56; refine hmd.mono ?_
      rintro e Wm ⟨rfl, hb⟩
      clear hmd
      replace br := br.go hb
      replace b0 := b0.go hb
      replace hv := hv.go hb
      replace h0 := bel_go h0 h0.size hb
      clear hb
      refine hK.out _ _ (⟨br, b0⟩) (fun _ => ?_)
      clear hK K
      (try simp only [Act.put, List.setIfInBounds_toArray, List.set_cons_zero, List.set_cons_succ, List.getElem_toArray, List.getElem_cons_zero, List.getElem_cons_succ])
      refine wpAnyH_ready (rs := [16]) (by kernel_rfl) (by simp) ?_
      refine AllReadyH.cons rfl (fun K hK => ?_) (AllReadyH.nil)
      go_simp
      go_at_call 25; refine (i_any (n % d) m1 m2 _).mono ?_
      rintro e Wi ⟨u, rfl, hi, hb⟩
      obtain ⟨gi, pi, ni, ci, rfl⟩ := hi.shape
      replace br := br.go hb
      replace b0 := b0.go hb
      replace hv := hv.go hb
      replace h0 := bel_go h0 h0.size hb
      clear hb
      refine hK.out _ _ (⟨br, b0⟩) (fun _ => ?_)
      clear hK K
      (try simp only [Act.put, List.setIfInBounds_toArray, List.set_cons_zero, List.set_cons_succ, List.getElem_toArray, List.getElem_cons_zero, List.getElem_cons_succ])
      refine wpAnyH_ready (rs := [17]) (by kernel_rfl) (by simp) ?_
      refine AllReadyH.cons rfl (fun K hK => ?_) (AllReadyH.nil)
      go_simp
      go_at_call 35; refine (zcmp_any _ _ (n % d) (n % d) hsm hsm _ hv hi).mono ?_
      rintro e Wc ⟨rfl, hb⟩
      replace br := br.go hb
      replace b0 := b0.go hb
      replace h0 := bel_go h0 h0.size hb
      clear hb
      refine hK.out _ _ (⟨br, b0⟩) (fun _ => ?_)
      clear hK K
      (try simp only [Act.put, List.setIfInBounds_toArray, List.set_cons_zero, List.set_cons_succ, List.getElem_toArray, List.getElem_cons_zero, List.getElem_cons_succ])
      refine wpAnyH_take (i := 18) (v := ?_) rfl (by kernel_rfl) (by kernel_rfl) (by kernel_rfl) (fun _ _ _ h => h) (Or.inl ⟨by kernel_rfl, ?_⟩) (⟨br, b0⟩) ?_
      rotate_left
      focus (intro W' hSw; obtain ⟨hx0, hx1⟩ := hSw; have hc0 := hx0.c0; have hc1 := hx0.c1; have hc2 := hx1.c0; have hc3 := hx1.c1; clear hx0 hx1; go_simp; (try with_reducible rfl))
      (try simp only [Act.put, List.setIfInBounds_toArray, List.set_cons_zero, List.set_cons_succ, List.getElem_toArray, List.getElem_cons_zero, List.getElem_cons_succ])
      refine wpAnyH_take (i := 19) (v := ?_) rfl (by kernel_rfl) (by kernel_rfl) (by kernel_rfl) (fun _ _ _ h => h) (Or.inl ⟨by kernel_rfl, ?_⟩) (⟨br, b0⟩) ?_
      rotate_left
      focus (intro W' hSw; obtain ⟨hx0, hx1⟩ := hSw; have hc0 := hx0.c0; have hc1 := hx0.c1; have hc2 := hx1.c0; have hc3 := hx1.c1; clear hx0 hx1; go_simp; (try with_reducible rfl))
      (try simp only [Act.put, List.setIfInBounds_toArray, List.set_cons_zero, List.set_cons_succ, List.getElem_toArray, List.getElem_cons_zero, List.getElem_cons_succ])
      refine wpAnyH_take (i := 20) (v := ?_) rfl (by kernel_rfl) (by kernel_rfl) (by kernel_rfl) (fun _ _ _ h => h) (Or.inl ⟨by kernel_rfl, ?_⟩) (⟨br, b0⟩) ?_
      rotate_left
      focus (intro W' hSw; obtain ⟨hx0, hx1⟩ := hSw; have hc0 := hx0.c0; have hc1 := hx0.c1; have hc2 := hx1.c0; have hc3 := hx1.c1; clear hx0 hx1; go_simp; (try with_reducible rfl))
      (try simp only [Act.put, List.setIfInBounds_toArray, List.set_cons_zero, List.set_cons_succ, List.getElem_toArray, List.getElem_cons_zero, List.getElem_cons_succ])
      refine wpAnyH_done (by kernel_rfl) ?_ _
      go_wp2
      go_ret
      exact ⟨rfl, h0⟩
end Go.Proofs.Ytalonppmoimmjaa
