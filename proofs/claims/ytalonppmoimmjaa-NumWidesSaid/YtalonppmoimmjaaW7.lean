/-
  The walk of the law NumWides: what it asks of numbers that differ by a multiple of 2^128.
  Conditions: those of each theorem.
-/
import Derived.Test.YtalonppmoimmjaaW5
set_option linter.unusedSimpArgs false
set_option linter.unusedVariables false
namespace Go.Proofs.Ytalonppmoimmjaa
open Go.RowKit Go.Shelf Zd Wd

set_option maxRecDepth 100000 in
set_option maxHeartbeats 16000000 in
/-- What NumWides asks of a word's number and a number. -/
theorem same_any (n : Int) (hn : InW n) (z : Int) (v : Value) (hzl : (digs z.natAbs).length ≤ 100) (hd : (n - z) % 2 ^ (16 * 8) = 0) (w : World) (hz : IsZ w v z) :
    Calls Try.prog 46 #[wide n, v] w fun e w' => e = .returned (.bool true) ∧ Below w.heap.size w w' := by
  have hnl : (digs n.natAbs).length ≤ 100 := by
    obtain ⟨n1, n2⟩ := hn
    exact Nat.le_trans (digs_len (k := 7) (by omega)) (by omega)
  have sn := sm_le hnl (by omega)
  have sz := sm_le hzl (by omega)
  have h20 : (2 : Int) ^ (16 * 8) ≠ 0 := by decide
  have hl1 : (digs (n - z).natAbs).length ≤ 400000 := by rw [Int.sub_eq_add_neg]; exact Nat.le_trans (dlen_addI hnl (dlen_negI hzl)) (by omega)
  have hl2 : (digs ((2 : Int) ^ (16 * 8)).natAbs).length ≤ 400000 := Nat.le_trans (dlen_two 8) (by omega)
  have HD := Lib.hid hd
  clear hd
  obtain ⟨h, hh⟩ : ∃ h, n / 18446744073709551616 = h := ⟨_, rfl⟩
  obtain ⟨l, hl⟩ : ∃ l, n % 18446744073709551616 = l := ⟨_, rfl⟩
  have ew : Hid (wide n = .agg #[.int .i64 h, .int .u64 l]) := by unfold Hid; rw [← hh, ← hl]
  rw [ew.out]
  clear hh hl
  have hwoA := Lib.hid (show ∀ W : World, Calls Try.prog 47 #[.agg #[.int .i64 h, .int .u64 l]] W fun e w' => ∃ u, e = .returned u ∧ IsZ w' u n ∧ Below W.heap.size W w' from fun W => by rw [← ew.out]; exact wideof_any n hn W)
  obtain ⟨gz, pz, nz, cz, rfl⟩ := hz.shape
  have bw := Bx.new w 49 (.int .i64 h) (.int .u64 l)
  have hal : Below w.heap.size w (w.alloc (.cells #[.int .i64 h, .int .u64 l] 49)) := (Below.refl _ _).alloc (Nat.le_refl _) _
  obtain ⟨W, hW, hal2, bz⟩ := boot1 (w.alloc (.cells #[.int .i64 h, .int .u64 l] 49)) (.bool gz) (.slice pz nz cz)
  replace bw := bw.go hal2
  have h0 := bel_go hal hal.size hal2
  replace hz := hz.go h0
  rw [show (w.alloc (.cells #[.int .i64 h, .int .u64 l] 49)).heap.size = w.heap.size + 1 by simp] at bz
  have HW := Lib.hid hW
  clear hW hal hal2
  go_enter Try.func46, Try.ntmps46
  go_wp2
  rw [← HW.out]
  clear HW
  go_cut [5, 6] from 7 (fun s5 s6 wc => ∃ (gv : Bool) (pv : Option Addr) (nv cv Bbr : Nat), s6 = .pointer (some ⟨Bbr, 0, none⟩) ∧ Bx wc Bbr 27 (.bool gv) (.slice pv nv cv) ∧ IsZ wc (.agg #[.bool gv, .slice pv nv cv]) ((n - z) % 2 ^ (16 * 8)) ∧ Below w.heap.size w wc)
  case first =>
    refine wp_region_last (S := fun W' => Bx W' (w.heap.size) 49 (.int .i64 h) (.int .u64 l) ∧ Bx W' (w.heap.size + 1) 27 (.bool gz) (.slice pz nz cz)) (m := 12) (by kernel_rfl) (by kernel_rfl) (by kernel_rfl) (⟨bw.drew, bz.drew⟩) (fun _ => ?_)
    replace bw := bw.drew
    replace bz := bz.drew
    replace hz := hz.drew
    replace h0 := Below.drew h0
    generalize W.drew = W at bw bz hz h0 ⊢
    refine wpAnyH_take (i := 0) (v := ?_) rfl (by kernel_rfl) (by kernel_rfl) (by kernel_rfl) (fun _ _ _ h => h) (Or.inl ⟨by kernel_rfl, ?_⟩) (⟨bw, bz⟩) ?_
    rotate_left
    focus (intro W' hSw; obtain ⟨hx0, hx1⟩ := hSw; have hc0 := hx0.c0; have hc1 := hx0.c1; have hc2 := hx1.c0; have hc3 := hx1.c1; clear hx0 hx1; go_simp; (try with_reducible rfl))
    (try simp only [Act.put, List.setIfInBounds_toArray, List.set_cons_zero, List.set_cons_succ, List.getElem_toArray, List.getElem_cons_zero, List.getElem_cons_succ])
    refine wpAnyH_take (i := 2) (v := ?_) rfl (by kernel_rfl) (by kernel_rfl) (by kernel_rfl) (fun _ _ _ h => h) (Or.inl ⟨by kernel_rfl, ?_⟩) (⟨bw, bz⟩) ?_
    rotate_left
    focus (intro W' hSw; obtain ⟨hx0, hx1⟩ := hSw; have hc0 := hx0.c0; have hc1 := hx0.c1; have hc2 := hx1.c0; have hc3 := hx1.c1; clear hx0 hx1; go_simp; (try with_reducible rfl))
    (try simp only [Act.put, List.setIfInBounds_toArray, List.set_cons_zero, List.set_cons_succ, List.getElem_toArray, List.getElem_cons_zero, List.getElem_cons_succ])
    refine wpAnyH_ready (rs := [1, 9, 10]) (by kernel_rfl) (by simp) ?_
    refine AllReadyH.cons rfl (fun K hK => ?_) (AllReadyH.cons rfl (fun K hK => ?_) (AllReadyH.cons rfl (fun K hK => ?_) (AllReadyH.nil)))
    · go_simp
      go_at_call 47; refine (hwoA.out _).mono ?_
      rintro e Wx ⟨u, rfl, hx, hb⟩
      obtain ⟨gx, px, nx, cx, rfl⟩ := hx.shape
      replace hz := hz.go hb
      replace bw := bw.go hb
      replace bz := bz.go hb
      replace h0 := bel_go h0 h0.size hb
      clear hb
      refine hK.out _ _ (⟨bw, bz⟩) (fun _ => ?_)
      clear hK K
      (try simp only [Act.put, List.setIfInBounds_toArray, List.set_cons_zero, List.set_cons_succ, List.getElem_toArray, List.getElem_cons_zero, List.getElem_cons_succ])
      refine wpAnyH_ready (rs := [3, 9, 10]) (by kernel_rfl) (by simp) ?_
      refine AllReadyH.cons rfl (fun K hK => ?_) (AllReadyH.cons rfl (fun K hK => ?_) (AllReadyH.cons rfl (fun K hK => ?_) (AllReadyH.nil)))
      · go_simp
        go_at_call 27; refine (zless_any _ _ n z sn sz _ hx hz).mono ?_
        rintro e Wd ⟨u, rfl, hd, hb⟩
        obtain ⟨gd, pd, nd, cd, rfl⟩ := hd.shape
        replace hz := hz.go hb
        replace bw := bw.go hb
        replace bz := bz.go hb
        replace hx := hx.go hb
        replace h0 := bel_go h0 h0.size hb
        clear hb
        refine hK.out _ _ (⟨bw, bz⟩) (fun _ => ?_)
        clear hK K
        (try simp only [Act.put, List.setIfInBounds_toArray, List.set_cons_zero, List.set_cons_succ, List.getElem_toArray, List.getElem_cons_zero, List.getElem_cons_succ])
        refine wpAnyH_ready (rs := [4, 9, 10]) (by kernel_rfl) (by simp) ?_
        refine AllReadyH.cons rfl (fun K hK => ?_) (AllReadyH.cons rfl (fun K hK => ?_) (AllReadyH.cons rfl (fun K hK => ?_) (AllReadyH.nil)))
        · go_simp
          go_at_call 48; refine (two_any 8 (by omega) _).mono ?_
          rintro e Wt ⟨u, rfl, ht, hb⟩
          obtain ⟨gt, pt, nt, ct, rfl⟩ := ht.shape
          replace hz := hz.go hb
          replace bw := bw.go hb
          replace bz := bz.go hb
          replace hx := hx.go hb
          replace hd := hd.go hb
          replace h0 := bel_go h0 h0.size hb
          clear hb
          refine hK.out _ _ (⟨bw, bz⟩) (fun _ => ?_)
          clear hK K
          (try simp only [Act.put, List.setIfInBounds_toArray, List.set_cons_zero, List.set_cons_succ, List.getElem_toArray, List.getElem_cons_zero, List.getElem_cons_succ])
          refine wpAnyH_ready (rs := [5, 9, 10]) (by kernel_rfl) (by simp) ?_
          refine AllReadyH.cons rfl (fun K hK => ?_) (AllReadyH.cons rfl (fun K hK => ?_) (AllReadyH.cons rfl (fun K hK => ?_) (AllReadyH.nil)))
          · go_simp
            go_at_call 33; refine (zsplit_any _ _ (n - z) (2 ^ (16 * 8)) h20 hl1 hl2 _ hd ht).mono ?_
            rintro e Wq ⟨u, v, rfl, hq, hv, hb⟩
            obtain ⟨gq, pq, nq, cq, rfl⟩ := hq.shape
            obtain ⟨gv, pv, nv, cv, rfl⟩ := hv.shape
            replace hz := hz.go hb
            replace bw := bw.go hb
            replace bz := bz.go hb
            replace hx := hx.go hb
            replace hd := hd.go hb
            replace ht := ht.go hb
            replace h0 := bel_go h0 h0.size hb
            clear hb
            refine hK.out _ _ (⟨bw, bz⟩) (fun _ => ?_)
            clear hK K
            (try simp only [Act.put, List.setIfInBounds_toArray, List.set_cons_zero, List.set_cons_succ, List.getElem_toArray, List.getElem_cons_zero, List.getElem_cons_succ])
            refine wpAnyH_take (i := 6) (v := ?_) rfl (by kernel_rfl) (by kernel_rfl) (by kernel_rfl) (fun _ _ _ h => h) (Or.inl ⟨by kernel_rfl, ?_⟩) (⟨bw, bz⟩) ?_
            rotate_left
            focus (intro W' hSw; obtain ⟨hx0, hx1⟩ := hSw; have hc0 := hx0.c0; have hc1 := hx0.c1; have hc2 := hx1.c0; have hc3 := hx1.c1; clear hx0 hx1; go_simp; (try with_reducible rfl))
            (try simp only [Act.put, List.setIfInBounds_toArray, List.set_cons_zero, List.set_cons_succ, List.getElem_toArray, List.getElem_cons_zero, List.getElem_cons_succ])
            refine wpAnyH_take (i := 7) (v := ?_) rfl (by kernel_rfl) (by kernel_rfl) (by kernel_rfl) (fun _ _ _ h => h) (Or.inl ⟨by kernel_rfl, ?_⟩) (⟨bw, bz⟩) ?_
            rotate_left
            focus (intro W' hSw; obtain ⟨hx0, hx1⟩ := hSw; have hc0 := hx0.c0; have hc1 := hx0.c1; have hc2 := hx1.c0; have hc3 := hx1.c1; clear hx0 hx1; go_simp; (try with_reducible rfl))
            (try simp only [Act.put, List.setIfInBounds_toArray, List.set_cons_zero, List.set_cons_succ, List.getElem_toArray, List.getElem_cons_zero, List.getElem_cons_succ])
            refine wpAnyH_take (i := 8) (v := ?_) rfl (by kernel_rfl) (by kernel_rfl) (by kernel_rfl) (fun _ _ _ h => h) (Or.inl ⟨by kernel_rfl, ?_⟩) (⟨bw, bz⟩) ?_
            rotate_left
            focus (intro W' hSw; obtain ⟨hx0, hx1⟩ := hSw; have hc0 := hx0.c0; have hc1 := hx0.c1; have hc2 := hx1.c0; have hc3 := hx1.c1; clear hx0 hx1; go_simp; (try with_reducible rfl))
            (try simp only [Act.put, List.setIfInBounds_toArray, List.set_cons_zero, List.set_cons_succ, List.getElem_toArray, List.getElem_cons_zero, List.getElem_cons_succ])
            refine wpAnyH_ready (rs := [9, 10]) (by kernel_rfl) (by simp) ?_
            refine AllReadyH.cons rfl (fun K hK => ?_) (AllReadyH.cons rfl (fun K hK => ?_) (AllReadyH.nil))
            · go_simp
              have hal : Below Wq.heap.size Wq (Wq.alloc (.cells #[.bool false, .slice none 0 0] 27)) := (Below.refl _ _).alloc (Nat.le_refl _) _
              have bm := Bx.new Wq 27 (.bool false) (.slice none 0 0)
              have l_bm_bw := Lib.hid bw.lt
              have l_bm_bz := Lib.hid bz.lt
              have s_bm := Lib.hid (show w.heap.size ≤ Wq.heap.size from h0.size)
              replace hz := hz.go hal
              replace bw := bw.go hal
              replace bz := bz.go hal
              replace hx := hx.go hal
              replace hd := hd.go hal
              replace ht := ht.go hal
              replace hq := hq.go hal
              replace hv := hv.go hal
              replace h0 := bel_go h0 h0.size hal
              clear hal
              generalize Wq.heap.size = Bbm at bm s_bm l_bm_bw l_bm_bz ⊢
              generalize Wq.alloc (.cells #[.bool false, .slice none 0 0] 27) = Vbm at hz bw bz hx hd ht hq hv bm h0 ⊢
              refine hK.out _ _ (⟨bw, bz⟩) (fun _ => ?_)
              clear hK K
              (try simp only [Act.put, List.setIfInBounds_toArray, List.set_cons_zero, List.set_cons_succ, List.getElem_toArray, List.getElem_cons_zero, List.getElem_cons_succ])
              refine wpAnyH_ready (rs := [10]) (by kernel_rfl) (by simp) ?_
              refine AllReadyH.cons rfl (fun K hK => ?_) (AllReadyH.nil)
              go_simp
              have hal : Below Vbm.heap.size Vbm (Vbm.alloc (.cells #[.bool false, .slice none 0 0] 27)) := (Below.refl _ _).alloc (Nat.le_refl _) _
              have br := Bx.new Vbm 27 (.bool false) (.slice none 0 0)
              have l_br_bw := Lib.hid bw.lt
              have l_br_bz := Lib.hid bz.lt
              have l_br_bm := Lib.hid bm.lt
              have s_br := Lib.hid (show w.heap.size ≤ Vbm.heap.size from h0.size)
              replace hz := hz.go hal
              replace bw := bw.go hal
              replace bz := bz.go hal
              replace hx := hx.go hal
              replace hd := hd.go hal
              replace ht := ht.go hal
              replace hq := hq.go hal
              replace hv := hv.go hal
              replace bm := bm.go hal
              replace h0 := bel_go h0 h0.size hal
              clear hal
              generalize Vbm.heap.size = Bbr at br s_br l_br_bw l_br_bz l_br_bm ⊢
              generalize Vbm.alloc (.cells #[.bool false, .slice none 0 0] 27) = Vbr at hz bw bz hx hd ht hq hv bm br h0 ⊢
              refine hK.out _ _ (⟨bw, bz⟩) (fun _ => ?_)
              clear hK K
              (try simp only [Act.put, List.setIfInBounds_toArray, List.set_cons_zero, List.set_cons_succ, List.getElem_toArray, List.getElem_cons_zero, List.getElem_cons_succ])
              refine wpAnyH_ready (rs := [11]) (by kernel_rfl) (by simp) ?_
              refine AllReadyH.cons rfl (fun K hK => ?_) (AllReadyH.nil)
              have hq0 := bm.c0
              have hq1 := bm.c1
              have hr0 := bm.f0
              have hr1 := bm.f1
              go_simp
              clear hq0 hq1 hr0 hr1
              have hP := put2 Vbr Bbm (.bool gq) (.slice pq nq cq)
              have hN := bm.stored (.bool gq) (.slice pq nq cq)
              generalize (Vbr.setCell ⟨Bbm, 0, none⟩ (.bool gq)).setCell ⟨Bbm, 1, none⟩ (.slice pq nq cq) = WZ at hP hN ⊢
              replace hz := hz.put bm (by decide) hP
              replace hx := hx.put bm (by decide) hP
              replace hd := hd.put bm (by decide) hP
              replace ht := ht.put bm (by decide) hP
              replace hq := hq.put bm (by decide) hP
              replace hv := hv.put bm (by decide) hP
              replace bw := bw.put hP (by have := l_bm_bw.out; omega)
              replace bz := bz.put hP (by have := l_bm_bz.out; omega)
              replace br := br.put hP (by have := l_br_bm.out; omega)
              replace h0 := bel_put h0 (by have := s_bm.out; omega) hP
              clear hP bm
              have bm := hN
              clear hN
              refine hK.out _ _ (⟨bw, bz⟩) (fun _ => ?_)
              clear hK K
              (try simp only [Act.put, List.setIfInBounds_toArray, List.set_cons_zero, List.set_cons_succ, List.getElem_toArray, List.getElem_cons_zero, List.getElem_cons_succ])
              refine wpAnyH_done (by kernel_rfl) ?_ _
              refine still1_step rfl (fun K hK => ?_)
              have hq0 := br.c0
              have hq1 := br.c1
              have hr0 := br.f0
              have hr1 := br.f1
              go_simp
              clear hq0 hq1 hr0 hr1
              have hP := put2 WZ Bbr (.bool gv) (.slice pv nv cv)
              have hN := br.stored (.bool gv) (.slice pv nv cv)
              generalize (WZ.setCell ⟨Bbr, 0, none⟩ (.bool gv)).setCell ⟨Bbr, 1, none⟩ (.slice pv nv cv) = WK at hP hN ⊢
              replace hz := hz.put br (by decide) hP
              replace hx := hx.put br (by decide) hP
              replace hd := hd.put br (by decide) hP
              replace ht := ht.put br (by decide) hP
              replace hq := hq.put br (by decide) hP
              replace hv := hv.put br (by decide) hP
              replace bw := bw.put hP (by have := l_br_bw.out; omega)
              replace bz := bz.put hP (by have := l_br_bz.out; omega)
              replace bm := bm.put hP (by have := l_br_bm.out; omega)
              replace h0 := bel_put h0 (by have := s_br.out; omega) hP
              clear hP br
              have br := hN
              clear hN
              refine hK.out _ _ ?_
              clear hK K
              (try simp only [Act.put, List.setIfInBounds_toArray, List.set_cons_zero, List.set_cons_succ, List.getElem_toArray, List.getElem_cons_zero, List.getElem_cons_succ])
              go_wp2_with fail
              go_meet
              case rel => exact ⟨gv, pv, nv, cv, Bbr, rfl, br, hv, h0⟩
            · go_simp
              have hal : Below Wq.heap.size Wq (Wq.alloc (.cells #[.bool false, .slice none 0 0] 27)) := (Below.refl _ _).alloc (Nat.le_refl _) _
              have br := Bx.new Wq 27 (.bool false) (.slice none 0 0)
              have l_br_bw := Lib.hid bw.lt
              have l_br_bz := Lib.hid bz.lt
              have s_br := Lib.hid (show w.heap.size ≤ Wq.heap.size from h0.size)
              replace hz := hz.go hal
              replace bw := bw.go hal
              replace bz := bz.go hal
              replace hx := hx.go hal
              replace hd := hd.go hal
              replace ht := ht.go hal
              replace hq := hq.go hal
              replace hv := hv.go hal
              replace h0 := bel_go h0 h0.size hal
              clear hal
              generalize Wq.heap.size = Bbr at br s_br l_br_bw l_br_bz ⊢
              generalize Wq.alloc (.cells #[.bool false, .slice none 0 0] 27) = Vbr at hz bw bz hx hd ht hq hv br h0 ⊢
              refine hK.out _ _ (⟨bw, bz⟩) (fun _ => ?_)
              clear hK K
              (try simp only [Act.put, List.setIfInBounds_toArray, List.set_cons_zero, List.set_cons_succ, List.getElem_toArray, List.getElem_cons_zero, List.getElem_cons_succ])
              refine wpAnyH_ready (rs := [9]) (by kernel_rfl) (by simp) ?_
              refine AllReadyH.cons rfl (fun K hK => ?_) (AllReadyH.nil)
              go_simp
              have hal : Below Vbr.heap.size Vbr (Vbr.alloc (.cells #[.bool false, .slice none 0 0] 27)) := (Below.refl _ _).alloc (Nat.le_refl _) _
              have bm := Bx.new Vbr 27 (.bool false) (.slice none 0 0)
              have l_bm_bw := Lib.hid bw.lt
              have l_bm_bz := Lib.hid bz.lt
              have l_bm_br := Lib.hid br.lt
              have s_bm := Lib.hid (show w.heap.size ≤ Vbr.heap.size from h0.size)
              replace hz := hz.go hal
              replace bw := bw.go hal
              replace bz := bz.go hal
              replace hx := hx.go hal
              replace hd := hd.go hal
              replace ht := ht.go hal
              replace hq := hq.go hal
              replace hv := hv.go hal
              replace br := br.go hal
              replace h0 := bel_go h0 h0.size hal
              clear hal
              generalize Vbr.heap.size = Bbm at bm s_bm l_bm_bw l_bm_bz l_bm_br ⊢
              generalize Vbr.alloc (.cells #[.bool false, .slice none 0 0] 27) = Vbm at hz bw bz hx hd ht hq hv br bm h0 ⊢
              refine hK.out _ _ (⟨bw, bz⟩) (fun _ => ?_)
              clear hK K
              (try simp only [Act.put, List.setIfInBounds_toArray, List.set_cons_zero, List.set_cons_succ, List.getElem_toArray, List.getElem_cons_zero, List.getElem_cons_succ])
              refine wpAnyH_ready (rs := [11]) (by kernel_rfl) (by simp) ?_
              refine AllReadyH.cons rfl (fun K hK => ?_) (AllReadyH.nil)
              have hq0 := bm.c0
              have hq1 := bm.c1
              have hr0 := bm.f0
              have hr1 := bm.f1
              go_simp
              clear hq0 hq1 hr0 hr1
              have hP := put2 Vbm Bbm (.bool gq) (.slice pq nq cq)
              have hN := bm.stored (.bool gq) (.slice pq nq cq)
              generalize (Vbm.setCell ⟨Bbm, 0, none⟩ (.bool gq)).setCell ⟨Bbm, 1, none⟩ (.slice pq nq cq) = WZ at hP hN ⊢
              replace hz := hz.put bm (by decide) hP
              replace hx := hx.put bm (by decide) hP
              replace hd := hd.put bm (by decide) hP
              replace ht := ht.put bm (by decide) hP
              replace hq := hq.put bm (by decide) hP
              replace hv := hv.put bm (by decide) hP
              replace bw := bw.put hP (by have := l_bm_bw.out; omega)
              replace bz := bz.put hP (by have := l_bm_bz.out; omega)
              replace br := br.put hP (by have := l_bm_br.out; omega)
              replace h0 := bel_put h0 (by have := s_bm.out; omega) hP
              clear hP bm
              have bm := hN
              clear hN
              refine hK.out _ _ (⟨bw, bz⟩) (fun _ => ?_)
              clear hK K
              (try simp only [Act.put, List.setIfInBounds_toArray, List.set_cons_zero, List.set_cons_succ, List.getElem_toArray, List.getElem_cons_zero, List.getElem_cons_succ])
              refine wpAnyH_done (by kernel_rfl) ?_ _
              refine still1_step rfl (fun K hK => ?_)
              have hq0 := br.c0
              have hq1 := br.c1
              have hr0 := br.f0
              have hr1 := br.f1
              go_simp
              clear hq0 hq1 hr0 hr1
              have hP := put2 WZ Bbr (.bool gv) (.slice pv nv cv)
              have hN := br.stored (.bool gv) (.slice pv nv cv)
              generalize (WZ.setCell ⟨Bbr, 0, none⟩ (.bool gv)).setCell ⟨Bbr, 1, none⟩ (.slice pv nv cv) = WK at hP hN ⊢
              replace hz := hz.put br (by decide) hP
              replace hx := hx.put br (by decide) hP
              replace hd := hd.put br (by decide) hP
              replace ht := ht.put br (by decide) hP
              replace hq := hq.put br (by decide) hP
              replace hv := hv.put br (by decide) hP
              replace bw := bw.put hP (by have := l_br_bw.out; omega)
              replace bz := bz.put hP (by have := l_br_bz.out; omega)
              replace bm := bm.put hP (by have := l_bm_br.out; omega)
              replace h0 := bel_put h0 (by have := s_br.out; omega) hP
              clear hP br
              have br := hN
              clear hN
              refine hK.out _ _ ?_
              clear hK K
              (try simp only [Act.put, List.setIfInBounds_toArray, List.set_cons_zero, List.set_cons_succ, List.getElem_toArray, List.getElem_cons_zero, List.getElem_cons_succ])
              go_wp2_with fail
              go_meet
              case rel => exact ⟨gv, pv, nv, cv, Bbr, rfl, br, hv, h0⟩
          · go_simp
            have hal : Below Wt.heap.size Wt (Wt.alloc (.cells #[.bool false, .slice none 0 0] 27)) := (Below.refl _ _).alloc (Nat.le_refl _) _
            have bm := Bx.new Wt 27 (.bool false) (.slice none 0 0)
            have l_bm_bw := Lib.hid bw.lt
            have l_bm_bz := Lib.hid bz.lt
            have s_bm := Lib.hid (show w.heap.size ≤ Wt.heap.size from h0.size)
            replace hz := hz.go hal
            replace bw := bw.go hal
            replace bz := bz.go hal
            replace hx := hx.go hal
            replace hd := hd.go hal
            replace ht := ht.go hal
            replace h0 := bel_go h0 h0.size hal
            clear hal
            generalize Wt.heap.size = Bbm at bm s_bm l_bm_bw l_bm_bz ⊢
            generalize Wt.alloc (.cells #[.bool false, .slice none 0 0] 27) = Vbm at hz bw bz hx hd ht bm h0 ⊢
            refine hK.out _ _ (⟨bw, bz⟩) (fun _ => ?_)
            clear hK K
            (try simp only [Act.put, List.setIfInBounds_toArray, List.set_cons_zero, List.set_cons_succ, List.getElem_toArray, List.getElem_cons_zero, List.getElem_cons_succ])
            refine wpAnyH_ready (rs := [5, 10]) (by kernel_rfl) (by simp) ?_
            refine AllReadyH.cons rfl (fun K hK => ?_) (AllReadyH.cons rfl (fun K hK => ?_) (AllReadyH.nil))
            · go_simp
              go_at_call 33; refine (zsplit_any _ _ (n - z) (2 ^ (16 * 8)) h20 hl1 hl2 _ hd ht).mono ?_
              rintro e Wq ⟨u, v, rfl, hq, hv, hb⟩
              obtain ⟨gq, pq, nq, cq, rfl⟩ := hq.shape
              obtain ⟨gv, pv, nv, cv, rfl⟩ := hv.shape
              replace hz := hz.go hb
              replace bw := bw.go hb
              replace bz := bz.go hb
              replace hx := hx.go hb
              replace hd := hd.go hb
              replace ht := ht.go hb
              replace bm := bm.go hb
              replace h0 := bel_go h0 h0.size hb
              clear hb
              refine hK.out _ _ (⟨bw, bz⟩) (fun _ => ?_)
              clear hK K
              (try simp only [Act.put, List.setIfInBounds_toArray, List.set_cons_zero, List.set_cons_succ, List.getElem_toArray, List.getElem_cons_zero, List.getElem_cons_succ])
              refine wpAnyH_take (i := 6) (v := ?_) rfl (by kernel_rfl) (by kernel_rfl) (by kernel_rfl) (fun _ _ _ h => h) (Or.inl ⟨by kernel_rfl, ?_⟩) (⟨bw, bz⟩) ?_
              rotate_left
              focus (intro W' hSw; obtain ⟨hx0, hx1⟩ := hSw; have hc0 := hx0.c0; have hc1 := hx0.c1; have hc2 := hx1.c0; have hc3 := hx1.c1; clear hx0 hx1; go_simp; (try with_reducible rfl))
              (try simp only [Act.put, List.setIfInBounds_toArray, List.set_cons_zero, List.set_cons_succ, List.getElem_toArray, List.getElem_cons_zero, List.getElem_cons_succ])
              refine wpAnyH_take (i := 7) (v := ?_) rfl (by kernel_rfl) (by kernel_rfl) (by kernel_rfl) (fun _ _ _ h => h) (Or.inl ⟨by kernel_rfl, ?_⟩) (⟨bw, bz⟩) ?_
              rotate_left
              focus (intro W' hSw; obtain ⟨hx0, hx1⟩ := hSw; have hc0 := hx0.c0; have hc1 := hx0.c1; have hc2 := hx1.c0; have hc3 := hx1.c1; clear hx0 hx1; go_simp; (try with_reducible rfl))
              (try simp only [Act.put, List.setIfInBounds_toArray, List.set_cons_zero, List.set_cons_succ, List.getElem_toArray, List.getElem_cons_zero, List.getElem_cons_succ])
              refine wpAnyH_take (i := 8) (v := ?_) rfl (by kernel_rfl) (by kernel_rfl) (by kernel_rfl) (fun _ _ _ h => h) (Or.inl ⟨by kernel_rfl, ?_⟩) (⟨bw, bz⟩) ?_
              rotate_left
              focus (intro W' hSw; obtain ⟨hx0, hx1⟩ := hSw; have hc0 := hx0.c0; have hc1 := hx0.c1; have hc2 := hx1.c0; have hc3 := hx1.c1; clear hx0 hx1; go_simp; (try with_reducible rfl))
              (try simp only [Act.put, List.setIfInBounds_toArray, List.set_cons_zero, List.set_cons_succ, List.getElem_toArray, List.getElem_cons_zero, List.getElem_cons_succ])
              refine wpAnyH_ready (rs := [10]) (by kernel_rfl) (by simp) ?_
              refine AllReadyH.cons rfl (fun K hK => ?_) (AllReadyH.nil)
              go_simp
              have hal : Below Wq.heap.size Wq (Wq.alloc (.cells #[.bool false, .slice none 0 0] 27)) := (Below.refl _ _).alloc (Nat.le_refl _) _
              have br := Bx.new Wq 27 (.bool false) (.slice none 0 0)
              have l_br_bw := Lib.hid bw.lt
              have l_br_bz := Lib.hid bz.lt
              have l_br_bm := Lib.hid bm.lt
              have s_br := Lib.hid (show w.heap.size ≤ Wq.heap.size from h0.size)
              replace hz := hz.go hal
              replace bw := bw.go hal
              replace bz := bz.go hal
              replace hx := hx.go hal
              replace hd := hd.go hal
              replace ht := ht.go hal
              replace bm := bm.go hal
              replace hq := hq.go hal
              replace hv := hv.go hal
              replace h0 := bel_go h0 h0.size hal
              clear hal
              generalize Wq.heap.size = Bbr at br s_br l_br_bw l_br_bz l_br_bm ⊢
              generalize Wq.alloc (.cells #[.bool false, .slice none 0 0] 27) = Vbr at hz bw bz hx hd ht bm hq hv br h0 ⊢
              refine hK.out _ _ (⟨bw, bz⟩) (fun _ => ?_)
              clear hK K
              (try simp only [Act.put, List.setIfInBounds_toArray, List.set_cons_zero, List.set_cons_succ, List.getElem_toArray, List.getElem_cons_zero, List.getElem_cons_succ])
              refine wpAnyH_ready (rs := [11]) (by kernel_rfl) (by simp) ?_
              refine AllReadyH.cons rfl (fun K hK => ?_) (AllReadyH.nil)
              have hq0 := bm.c0
              have hq1 := bm.c1
              have hr0 := bm.f0
              have hr1 := bm.f1
              go_simp
              clear hq0 hq1 hr0 hr1
              have hP := put2 Vbr Bbm (.bool gq) (.slice pq nq cq)
              have hN := bm.stored (.bool gq) (.slice pq nq cq)
              generalize (Vbr.setCell ⟨Bbm, 0, none⟩ (.bool gq)).setCell ⟨Bbm, 1, none⟩ (.slice pq nq cq) = WZ at hP hN ⊢
              replace hz := hz.put bm (by decide) hP
              replace hx := hx.put bm (by decide) hP
              replace hd := hd.put bm (by decide) hP
              replace ht := ht.put bm (by decide) hP
              replace hq := hq.put bm (by decide) hP
              replace hv := hv.put bm (by decide) hP
              replace bw := bw.put hP (by have := l_bm_bw.out; omega)
              replace bz := bz.put hP (by have := l_bm_bz.out; omega)
              replace br := br.put hP (by have := l_br_bm.out; omega)
              replace h0 := bel_put h0 (by have := s_bm.out; omega) hP
              clear hP bm
              have bm := hN
              clear hN
              refine hK.out _ _ (⟨bw, bz⟩) (fun _ => ?_)
              clear hK K
              (try simp only [Act.put, List.setIfInBounds_toArray, List.set_cons_zero, List.set_cons_succ, List.getElem_toArray, List.getElem_cons_zero, List.getElem_cons_succ])
              refine wpAnyH_done (by kernel_rfl) ?_ _
              refine still1_step rfl (fun K hK => ?_)
              have hq0 := br.c0
              have hq1 := br.c1
              have hr0 := br.f0
              have hr1 := br.f1
              go_simp
              clear hq0 hq1 hr0 hr1
              have hP := put2 WZ Bbr (.bool gv) (.slice pv nv cv)
              have hN := br.stored (.bool gv) (.slice pv nv cv)
              generalize (WZ.setCell ⟨Bbr, 0, none⟩ (.bool gv)).setCell ⟨Bbr, 1, none⟩ (.slice pv nv cv) = WK at hP hN ⊢
              replace hz := hz.put br (by decide) hP
              replace hx := hx.put br (by decide) hP
              replace hd := hd.put br (by decide) hP
              replace ht := ht.put br (by decide) hP
              replace hq := hq.put br (by decide) hP
              replace hv := hv.put br (by decide) hP
              replace bw := bw.put hP (by have := l_br_bw.out; omega)
              replace bz := bz.put hP (by have := l_br_bz.out; omega)
              replace bm := bm.put hP (by have := l_br_bm.out; omega)
              replace h0 := bel_put h0 (by have := s_br.out; omega) hP
              clear hP br
              have br := hN
              clear hN
              refine hK.out _ _ ?_
              clear hK K
              (try simp only [Act.put, List.setIfInBounds_toArray, List.set_cons_zero, List.set_cons_succ, List.getElem_toArray, List.getElem_cons_zero, List.getElem_cons_succ])
              go_wp2_with fail
              go_meet
              case rel => exact ⟨gv, pv, nv, cv, Bbr, rfl, br, hv, h0⟩
            · go_simp
              have hal : Below Vbm.heap.size Vbm (Vbm.alloc (.cells #[.bool false, .slice none 0 0] 27)) := (Below.refl _ _).alloc (Nat.le_refl _) _
              have br := Bx.new Vbm 27 (.bool false) (.slice none 0 0)
              have l_br_bw := Lib.hid bw.lt
              have l_br_bz := Lib.hid bz.lt
              have l_br_bm := Lib.hid bm.lt
              have s_br := Lib.hid (show w.heap.size ≤ Vbm.heap.size from h0.size)
              replace hz := hz.go hal
              replace bw := bw.go hal
              replace bz := bz.go hal
              replace hx := hx.go hal
              replace hd := hd.go hal
              replace ht := ht.go hal
              replace bm := bm.go hal
              replace h0 := bel_go h0 h0.size hal
              clear hal
              generalize Vbm.heap.size = Bbr at br s_br l_br_bw l_br_bz l_br_bm ⊢
              generalize Vbm.alloc (.cells #[.bool false, .slice none 0 0] 27) = Vbr at hz bw bz hx hd ht bm br h0 ⊢
              refine hK.out _ _ (⟨bw, bz⟩) (fun _ => ?_)
              clear hK K
              (try simp only [Act.put, List.setIfInBounds_toArray, List.set_cons_zero, List.set_cons_succ, List.getElem_toArray, List.getElem_cons_zero, List.getElem_cons_succ])
              refine wpAnyH_ready (rs := [5]) (by kernel_rfl) (by simp) ?_
              refine AllReadyH.cons rfl (fun K hK => ?_) (AllReadyH.nil)
              go_simp
              go_at_call 33; refine (zsplit_any _ _ (n - z) (2 ^ (16 * 8)) h20 hl1 hl2 _ hd ht).mono ?_
              rintro e Wq ⟨u, v, rfl, hq, hv, hb⟩
              obtain ⟨gq, pq, nq, cq, rfl⟩ := hq.shape
              obtain ⟨gv, pv, nv, cv, rfl⟩ := hv.shape
              replace hz := hz.go hb
              replace bw := bw.go hb
              replace bz := bz.go hb
              replace hx := hx.go hb
              replace hd := hd.go hb
              replace ht := ht.go hb
              replace bm := bm.go hb
              replace br := br.go hb
              replace h0 := bel_go h0 h0.size hb
              clear hb
              refine hK.out _ _ (⟨bw, bz⟩) (fun _ => ?_)
              clear hK K
              (try simp only [Act.put, List.setIfInBounds_toArray, List.set_cons_zero, List.set_cons_succ, List.getElem_toArray, List.getElem_cons_zero, List.getElem_cons_succ])
              refine wpAnyH_take (i := 6) (v := ?_) rfl (by kernel_rfl) (by kernel_rfl) (by kernel_rfl) (fun _ _ _ h => h) (Or.inl ⟨by kernel_rfl, ?_⟩) (⟨bw, bz⟩) ?_
              rotate_left
              focus (intro W' hSw; obtain ⟨hx0, hx1⟩ := hSw; have hc0 := hx0.c0; have hc1 := hx0.c1; have hc2 := hx1.c0; have hc3 := hx1.c1; clear hx0 hx1; go_simp; (try with_reducible rfl))
              (try simp only [Act.put, List.setIfInBounds_toArray, List.set_cons_zero, List.set_cons_succ, List.getElem_toArray, List.getElem_cons_zero, List.getElem_cons_succ])
              refine wpAnyH_take (i := 7) (v := ?_) rfl (by kernel_rfl) (by kernel_rfl) (by kernel_rfl) (fun _ _ _ h => h) (Or.inl ⟨by kernel_rfl, ?_⟩) (⟨bw, bz⟩) ?_
              rotate_left
              focus (intro W' hSw; obtain ⟨hx0, hx1⟩ := hSw; have hc0 := hx0.c0; have hc1 := hx0.c1; have hc2 := hx1.c0; have hc3 := hx1.c1; clear hx0 hx1; go_simp; (try with_reducible rfl))
              (try simp only [Act.put, List.setIfInBounds_toArray, List.set_cons_zero, List.set_cons_succ, List.getElem_toArray, List.getElem_cons_zero, List.getElem_cons_succ])
              refine wpAnyH_take (i := 8) (v := ?_) rfl (by kernel_rfl) (by kernel_rfl) (by kernel_rfl) (fun _ _ _ h => h) (Or.inl ⟨by kernel_rfl, ?_⟩) (⟨bw, bz⟩) ?_
              rotate_left
              focus (intro W' hSw; obtain ⟨hx0, hx1⟩ := hSw; have hc0 := hx0.c0; have hc1 := hx0.c1; have hc2 := hx1.c0; have hc3 := hx1.c1; clear hx0 hx1; go_simp; (try with_reducible rfl))
              (try simp only [Act.put, List.setIfInBounds_toArray, List.set_cons_zero, List.set_cons_succ, List.getElem_toArray, List.getElem_cons_zero, List.getElem_cons_succ])
              refine wpAnyH_ready (rs := [11]) (by kernel_rfl) (by simp) ?_
              refine AllReadyH.cons rfl (fun K hK => ?_) (AllReadyH.nil)
              have hq0 := bm.c0
              have hq1 := bm.c1
              have hr0 := bm.f0
              have hr1 := bm.f1
              go_simp
              clear hq0 hq1 hr0 hr1
              have hP := put2 Wq Bbm (.bool gq) (.slice pq nq cq)
              have hN := bm.stored (.bool gq) (.slice pq nq cq)
              generalize (Wq.setCell ⟨Bbm, 0, none⟩ (.bool gq)).setCell ⟨Bbm, 1, none⟩ (.slice pq nq cq) = WZ at hP hN ⊢
              replace hz := hz.put bm (by decide) hP
              replace hx := hx.put bm (by decide) hP
              replace hd := hd.put bm (by decide) hP
              replace ht := ht.put bm (by decide) hP
              replace hq := hq.put bm (by decide) hP
              replace hv := hv.put bm (by decide) hP
              replace bw := bw.put hP (by have := l_bm_bw.out; omega)
              replace bz := bz.put hP (by have := l_bm_bz.out; omega)
              replace br := br.put hP (by have := l_br_bm.out; omega)
              replace h0 := bel_put h0 (by have := s_bm.out; omega) hP
              clear hP bm
              have bm := hN
              clear hN
              refine hK.out _ _ (⟨bw, bz⟩) (fun _ => ?_)
              clear hK K
              (try simp only [Act.put, List.setIfInBounds_toArray, List.set_cons_zero, List.set_cons_succ, List.getElem_toArray, List.getElem_cons_zero, List.getElem_cons_succ])
              refine wpAnyH_done (by kernel_rfl) ?_ _
              refine still1_step rfl (fun K hK => ?_)
              have hq0 := br.c0
              have hq1 := br.c1
              have hr0 := br.f0
              have hr1 := br.f1
              go_simp
              clear hq0 hq1 hr0 hr1
              have hP := put2 WZ Bbr (.bool gv) (.slice pv nv cv)
              have hN := br.stored (.bool gv) (.slice pv nv cv)
              generalize (WZ.setCell ⟨Bbr, 0, none⟩ (.bool gv)).setCell ⟨Bbr, 1, none⟩ (.slice pv nv cv) = WK at hP hN ⊢
              replace hz := hz.put br (by decide) hP
              replace hx := hx.put br (by decide) hP
              replace hd := hd.put br (by decide) hP
              replace ht := ht.put br (by decide) hP
              replace hq := hq.put br (by decide) hP
              replace hv := hv.put br (by decide) hP
              replace bw := bw.put hP (by have := l_br_bw.out; omega)
              replace bz := bz.put hP (by have := l_br_bz.out; omega)
              replace bm := bm.put hP (by have := l_br_bm.out; omega)
              replace h0 := bel_put h0 (by have := s_br.out; omega) hP
              clear hP br
              have br := hN
              clear hN
              refine hK.out _ _ ?_
              clear hK K
              (try simp only [Act.put, List.setIfInBounds_toArray, List.set_cons_zero, List.set_cons_succ, List.getElem_toArray, List.getElem_cons_zero, List.getElem_cons_succ])
              go_wp2_with fail
              go_meet
              case rel => exact ⟨gv, pv, nv, cv, Bbr, rfl, br, hv, h0⟩
          · go_simp
            have hal : Below Wt.heap.size Wt (Wt.alloc (.cells #[.bool false, .slice none 0 0] 27)) := (Below.refl _ _).alloc (Nat.le_refl _) _
            have br := Bx.new Wt 27 (.bool false) (.slice none 0 0)
            have l_br_bw := Lib.hid bw.lt
            have l_br_bz := Lib.hid bz.lt
            have s_br := Lib.hid (show w.heap.size ≤ Wt.heap.size from h0.size)
            replace hz := hz.go hal
            replace bw := bw.go hal
            replace bz := bz.go hal
            replace hx := hx.go hal
            replace hd := hd.go hal
            replace ht := ht.go hal
            replace h0 := bel_go h0 h0.size hal
            clear hal
            generalize Wt.heap.size = Bbr at br s_br l_br_bw l_br_bz ⊢
            generalize Wt.alloc (.cells #[.bool false, .slice none 0 0] 27) = Vbr at hz bw bz hx hd ht br h0 ⊢
            refine hK.out _ _ (⟨bw, bz⟩) (fun _ => ?_)
            clear hK K
            (try simp only [Act.put, List.setIfInBounds_toArray, List.set_cons_zero, List.set_cons_succ, List.getElem_toArray, List.getElem_cons_zero, List.getElem_cons_succ])
            refine wpAnyH_ready (rs := [5, 9]) (by kernel_rfl) (by simp) ?_
            refine AllReadyH.cons rfl (fun K hK => ?_) (AllReadyH.cons rfl (fun K hK => ?_) (AllReadyH.nil))
            · go_simp
              go_at_call 33; refine (zsplit_any _ _ (n - z) (2 ^ (16 * 8)) h20 hl1 hl2 _ hd ht).mono ?_
              rintro e Wq ⟨u, v, rfl, hq, hv, hb⟩
              obtain ⟨gq, pq, nq, cq, rfl⟩ := hq.shape
              obtain ⟨gv, pv, nv, cv, rfl⟩ := hv.shape
              replace hz := hz.go hb
              replace bw := bw.go hb
              replace bz := bz.go hb
              replace hx := hx.go hb
              replace hd := hd.go hb
              replace ht := ht.go hb
              replace br := br.go hb
              replace h0 := bel_go h0 h0.size hb
              clear hb
              refine hK.out _ _ (⟨bw, bz⟩) (fun _ => ?_)
              clear hK K
              (try simp only [Act.put, List.setIfInBounds_toArray, List.set_cons_zero, List.set_cons_succ, List.getElem_toArray, List.getElem_cons_zero, List.getElem_cons_succ])
              refine wpAnyH_take (i := 6) (v := ?_) rfl (by kernel_rfl) (by kernel_rfl) (by kernel_rfl) (fun _ _ _ h => h) (Or.inl ⟨by kernel_rfl, ?_⟩) (⟨bw, bz⟩) ?_
              rotate_left
              focus (intro W' hSw; obtain ⟨hx0, hx1⟩ := hSw; have hc0 := hx0.c0; have hc1 := hx0.c1; have hc2 := hx1.c0; have hc3 := hx1.c1; clear hx0 hx1; go_simp; (try with_reducible rfl))
              (try simp only [Act.put, List.setIfInBounds_toArray, List.set_cons_zero, List.set_cons_succ, List.getElem_toArray, List.getElem_cons_zero, List.getElem_cons_succ])
              refine wpAnyH_take (i := 7) (v := ?_) rfl (by kernel_rfl) (by kernel_rfl) (by kernel_rfl) (fun _ _ _ h => h) (Or.inl ⟨by kernel_rfl, ?_⟩) (⟨bw, bz⟩) ?_
              rotate_left
              focus (intro W' hSw; obtain ⟨hx0, hx1⟩ := hSw; have hc0 := hx0.c0; have hc1 := hx0.c1; have hc2 := hx1.c0; have hc3 := hx1.c1; clear hx0 hx1; go_simp; (try with_reducible rfl))
              (try simp only [Act.put, List.setIfInBounds_toArray, List.set_cons_zero, List.set_cons_succ, List.getElem_toArray, List.getElem_cons_zero, List.getElem_cons_succ])
              refine wpAnyH_take (i := 8) (v := ?_) rfl (by kernel_rfl) (by kernel_rfl) (by kernel_rfl) (fun _ _ _ h => h) (Or.inl ⟨by kernel_rfl, ?_⟩) (⟨bw, bz⟩) ?_
              rotate_left
              focus (intro W' hSw; obtain ⟨hx0, hx1⟩ := hSw; have hc0 := hx0.c0; have hc1 := hx0.c1; have hc2 := hx1.c0; have hc3 := hx1.c1; clear hx0 hx1; go_simp; (try with_reducible rfl))
              (try simp only [Act.put, List.setIfInBounds_toArray, List.set_cons_zero, List.set_cons_succ, List.getElem_toArray, List.getElem_cons_zero, List.getElem_cons_succ])
              refine wpAnyH_ready (rs := [9]) (by kernel_rfl) (by simp) ?_
              refine AllReadyH.cons rfl (fun K hK => ?_) (AllReadyH.nil)
              go_simp
              have hal : Below Wq.heap.size Wq (Wq.alloc (.cells #[.bool false, .slice none 0 0] 27)) := (Below.refl _ _).alloc (Nat.le_refl _) _
              have bm := Bx.new Wq 27 (.bool false) (.slice none 0 0)
              have l_bm_bw := Lib.hid bw.lt
              have l_bm_bz := Lib.hid bz.lt
              have l_bm_br := Lib.hid br.lt
              have s_bm := Lib.hid (show w.heap.size ≤ Wq.heap.size from h0.size)
              replace hz := hz.go hal
              replace bw := bw.go hal
              replace bz := bz.go hal
              replace hx := hx.go hal
              replace hd := hd.go hal
              replace ht := ht.go hal
              replace br := br.go hal
              replace hq := hq.go hal
              replace hv := hv.go hal
              replace h0 := bel_go h0 h0.size hal
              clear hal
              generalize Wq.heap.size = Bbm at bm s_bm l_bm_bw l_bm_bz l_bm_br ⊢
              generalize Wq.alloc (.cells #[.bool false, .slice none 0 0] 27) = Vbm at hz bw bz hx hd ht br hq hv bm h0 ⊢
              refine hK.out _ _ (⟨bw, bz⟩) (fun _ => ?_)
              clear hK K
              (try simp only [Act.put, List.setIfInBounds_toArray, List.set_cons_zero, List.set_cons_succ, List.getElem_toArray, List.getElem_cons_zero, List.getElem_cons_succ])
              refine wpAnyH_ready (rs := [11]) (by kernel_rfl) (by simp) ?_
              refine AllReadyH.cons rfl (fun K hK => ?_) (AllReadyH.nil)
              have hq0 := bm.c0
              have hq1 := bm.c1
              have hr0 := bm.f0
              have hr1 := bm.f1
              go_simp
              clear hq0 hq1 hr0 hr1
              have hP := put2 Vbm Bbm (.bool gq) (.slice pq nq cq)
              have hN := bm.stored (.bool gq) (.slice pq nq cq)
              generalize (Vbm.setCell ⟨Bbm, 0, none⟩ (.bool gq)).setCell ⟨Bbm, 1, none⟩ (.slice pq nq cq) = WZ at hP hN ⊢
              replace hz := hz.put bm (by decide) hP
              replace hx := hx.put bm (by decide) hP
              replace hd := hd.put bm (by decide) hP
              replace ht := ht.put bm (by decide) hP
              replace hq := hq.put bm (by decide) hP
              replace hv := hv.put bm (by decide) hP
              replace bw := bw.put hP (by have := l_bm_bw.out; omega)
              replace bz := bz.put hP (by have := l_bm_bz.out; omega)
              replace br := br.put hP (by have := l_bm_br.out; omega)
              replace h0 := bel_put h0 (by have := s_bm.out; omega) hP
              clear hP bm
              have bm := hN
              clear hN
              refine hK.out _ _ (⟨bw, bz⟩) (fun _ => ?_)
              clear hK K
              (try simp only [Act.put, List.setIfInBounds_toArray, List.set_cons_zero, List.set_cons_succ, List.getElem_toArray, List.getElem_cons_zero, List.getElem_cons_succ])
              refine wpAnyH_done (by kernel_rfl) ?_ _
              refine still1_step rfl (fun K hK => ?_)
              have hq0 := br.c0
              have hq1 := br.c1
              have hr0 := br.f0
              have hr1 := br.f1
              go_simp
              clear hq0 hq1 hr0 hr1
              have hP := put2 WZ Bbr (.bool gv) (.slice pv nv cv)
              have hN := br.stored (.bool gv) (.slice pv nv cv)
              generalize (WZ.setCell ⟨Bbr, 0, none⟩ (.bool gv)).setCell ⟨Bbr, 1, none⟩ (.slice pv nv cv) = WK at hP hN ⊢
              replace hz := hz.put br (by decide) hP
              replace hx := hx.put br (by decide) hP
              replace hd := hd.put br (by decide) hP
              replace ht := ht.put br (by decide) hP
              replace hq := hq.put br (by decide) hP
              replace hv := hv.put br (by decide) hP
              replace bw := bw.put hP (by have := l_br_bw.out; omega)
              replace bz := bz.put hP (by have := l_br_bz.out; omega)
              replace bm := bm.put hP (by have := l_bm_br.out; omega)
              replace h0 := bel_put h0 (by have := s_br.out; omega) hP
              clear hP br
              have br := hN
              clear hN
              refine hK.out _ _ ?_
              clear hK K
              (try simp only [Act.put, List.setIfInBounds_toArray, List.set_cons_zero, List.set_cons_succ, List.getElem_toArray, List.getElem_cons_zero, List.getElem_cons_succ])
              go_wp2_with fail
              go_meet
              case rel => exact ⟨gv, pv, nv, cv, Bbr, rfl, br, hv, h0⟩
            · go_simp
              have hal : Below Vbr.heap.size Vbr (Vbr.alloc (.cells #[.bool false, .slice none 0 0] 27)) := (Below.refl _ _).alloc (Nat.le_refl _) _
              have bm := Bx.new Vbr 27 (.bool false) (.slice none 0 0)
              have l_bm_bw := Lib.hid bw.lt
              have l_bm_bz := Lib.hid bz.lt
              have l_bm_br := Lib.hid br.lt
              have s_bm := Lib.hid (show w.heap.size ≤ Vbr.heap.size from h0.size)
              replace hz := hz.go hal
              replace bw := bw.go hal
              replace bz := bz.go hal
              replace hx := hx.go hal
              replace hd := hd.go hal
              replace ht := ht.go hal
              replace br := br.go hal
              replace h0 := bel_go h0 h0.size hal
              clear hal
              generalize Vbr.heap.size = Bbm at bm s_bm l_bm_bw l_bm_bz l_bm_br ⊢
              generalize Vbr.alloc (.cells #[.bool false, .slice none 0 0] 27) = Vbm at hz bw bz hx hd ht br bm h0 ⊢
              refine hK.out _ _ (⟨bw, bz⟩) (fun _ => ?_)
              clear hK K
              (try simp only [Act.put, List.setIfInBounds_toArray, List.set_cons_zero, List.set_cons_succ, List.getElem_toArray, List.getElem_cons_zero, List.getElem_cons_succ])
              refine wpAnyH_ready (rs := [5]) (by kernel_rfl) (by simp) ?_
              refine AllReadyH.cons rfl (fun K hK => ?_) (AllReadyH.nil)
              go_simp
              go_at_call 33; refine (zsplit_any _ _ (n - z) (2 ^ (16 * 8)) h20 hl1 hl2 _ hd ht).mono ?_
              rintro e Wq ⟨u, v, rfl, hq, hv, hb⟩
              obtain ⟨gq, pq, nq, cq, rfl⟩ := hq.shape
              obtain ⟨gv, pv, nv, cv, rfl⟩ := hv.shape
              replace hz := hz.go hb
              replace bw := bw.go hb
              replace bz := bz.go hb
              replace hx := hx.go hb
              replace hd := hd.go hb
              replace ht := ht.go hb
              replace br := br.go hb
              replace bm := bm.go hb
              replace h0 := bel_go h0 h0.size hb
              clear hb
              refine hK.out _ _ (⟨bw, bz⟩) (fun _ => ?_)
              clear hK K
              (try simp only [Act.put, List.setIfInBounds_toArray, List.set_cons_zero, List.set_cons_succ, List.getElem_toArray, List.getElem_cons_zero, List.getElem_cons_succ])
              refine wpAnyH_take (i := 6) (v := ?_) rfl (by kernel_rfl) (by kernel_rfl) (by kernel_rfl) (fun _ _ _ h => h) (Or.inl ⟨by kernel_rfl, ?_⟩) (⟨bw, bz⟩) ?_
              rotate_left
              focus (intro W' hSw; obtain ⟨hx0, hx1⟩ := hSw; have hc0 := hx0.c0; have hc1 := hx0.c1; have hc2 := hx1.c0; have hc3 := hx1.c1; clear hx0 hx1; go_simp; (try with_reducible rfl))
              (try simp only [Act.put, List.setIfInBounds_toArray, List.set_cons_zero, List.set_cons_succ, List.getElem_toArray, List.getElem_cons_zero, List.getElem_cons_succ])
              refine wpAnyH_take (i := 7) (v := ?_) rfl (by kernel_rfl) (by kernel_rfl) (by kernel_rfl) (fun _ _ _ h => h) (Or.inl ⟨by kernel_rfl, ?_⟩) (⟨bw, bz⟩) ?_
              rotate_left
              focus (intro W' hSw; obtain ⟨hx0, hx1⟩ := hSw; have hc0 := hx0.c0; have hc1 := hx0.c1; have hc2 := hx1.c0; have hc3 := hx1.c1; clear hx0 hx1; go_simp; (try with_reducible rfl))
              (try simp only [Act.put, List.setIfInBounds_toArray, List.set_cons_zero, List.set_cons_succ, List.getElem_toArray, List.getElem_cons_zero, List.getElem_cons_succ])
              refine wpAnyH_take (i := 8) (v := ?_) rfl (by kernel_rfl) (by kernel_rfl) (by kernel_rfl) (fun _ _ _ h => h) (Or.inl ⟨by kernel_rfl, ?_⟩) (⟨bw, bz⟩) ?_
              rotate_left
              focus (intro W' hSw; obtain ⟨hx0, hx1⟩ := hSw; have hc0 := hx0.c0; have hc1 := hx0.c1; have hc2 := hx1.c0; have hc3 := hx1.c1; clear hx0 hx1; go_simp; (try with_reducible rfl))
              (try simp only [Act.put, List.setIfInBounds_toArray, List.set_cons_zero, List.set_cons_succ, List.getElem_toArray, List.getElem_cons_zero, List.getElem_cons_succ])
              refine wpAnyH_ready (rs := [11]) (by kernel_rfl) (by simp) ?_
              refine AllReadyH.cons rfl (fun K hK => ?_) (AllReadyH.nil)
              have hq0 := bm.c0
              have hq1 := bm.c1
              have hr0 := bm.f0
              have hr1 := bm.f1
              go_simp
              clear hq0 hq1 hr0 hr1
              have hP := put2 Wq Bbm (.bool gq) (.slice pq nq cq)
              have hN := bm.stored (.bool gq) (.slice pq nq cq)
              generalize (Wq.setCell ⟨Bbm, 0, none⟩ (.bool gq)).setCell ⟨Bbm, 1, none⟩ (.slice pq nq cq) = WZ at hP hN ⊢
              replace hz := hz.put bm (by decide) hP
              replace hx := hx.put bm (by decide) hP
              replace hd := hd.put bm (by decide) hP
              replace ht := ht.put bm (by decide) hP
              replace hq := hq.put bm (by decide) hP
              replace hv := hv.put bm (by decide) hP
              replace bw := bw.put hP (by have := l_bm_bw.out; omega)
              replace bz := bz.put hP (by have := l_bm_bz.out; omega)
              replace br := br.put hP (by have := l_bm_br.out; omega)
              replace h0 := bel_put h0 (by have := s_bm.out; omega) hP
              clear hP bm
              have bm := hN
              clear hN
              refine hK.out _ _ (⟨bw, bz⟩) (fun _ => ?_)
              clear hK K
              (try simp only [Act.put, List.setIfInBounds_toArray, List.set_cons_zero, List.set_cons_succ, List.getElem_toArray, List.getElem_cons_zero, List.getElem_cons_succ])
              refine wpAnyH_done (by kernel_rfl) ?_ _
              refine still1_step rfl (fun K hK => ?_)
              have hq0 := br.c0
              have hq1 := br.c1
              have hr0 := br.f0
              have hr1 := br.f1
              go_simp
              clear hq0 hq1 hr0 hr1
              have hP := put2 WZ Bbr (.bool gv) (.slice pv nv cv)
              have hN := br.stored (.bool gv) (.slice pv nv cv)
              generalize (WZ.setCell ⟨Bbr, 0, none⟩ (.bool gv)).setCell ⟨Bbr, 1, none⟩ (.slice pv nv cv) = WK at hP hN ⊢
              replace hz := hz.put br (by decide) hP
              replace hx := hx.put br (by decide) hP
              replace hd := hd.put br (by decide) hP
              replace ht := ht.put br (by decide) hP
              replace hq := hq.put br (by decide) hP
              replace hv := hv.put br (by decide) hP
              replace bw := bw.put hP (by have := l_br_bw.out; omega)
              replace bz := bz.put hP (by have := l_br_bz.out; omega)
              replace bm := bm.put hP (by have := l_bm_br.out; omega)
              replace h0 := bel_put h0 (by have := s_br.out; omega) hP
              clear hP br
              have br := hN
              clear hN
              refine hK.out _ _ ?_
              clear hK K
              (try simp only [Act.put, List.setIfInBounds_toArray, List.set_cons_zero, List.set_cons_succ, List.getElem_toArray, List.getElem_cons_zero, List.getElem_cons_succ])
              go_wp2_with fail
              go_meet
              case rel => exact ⟨gv, pv, nv, cv, Bbr, rfl, br, hv, h0⟩
        · go_simp
          have hal : Below Wd.heap.size Wd (Wd.alloc (.cells #[.bool false, .slice none 0 0] 27)) := (Below.refl _ _).alloc (Nat.le_refl _) _
          have bm := Bx.new Wd 27 (.bool false) (.slice none 0 0)
          have l_bm_bw := Lib.hid bw.lt
          have l_bm_bz := Lib.hid bz.lt
          have s_bm := Lib.hid (show w.heap.size ≤ Wd.heap.size from h0.size)
          replace hz := hz.go hal
          replace bw := bw.go hal
          replace bz := bz.go hal
          replace hx := hx.go hal
          replace hd := hd.go hal
          replace h0 := bel_go h0 h0.size hal
          clear hal
          generalize Wd.heap.size = Bbm at bm s_bm l_bm_bw l_bm_bz ⊢
          generalize Wd.alloc (.cells #[.bool false, .slice none 0 0] 27) = Vbm at hz bw bz hx hd bm h0 ⊢
          refine hK.out _ _ (⟨bw, bz⟩) (fun _ => ?_)
          clear hK K
          (try simp only [Act.put, List.setIfInBounds_toArray, List.set_cons_zero, List.set_cons_succ, List.getElem_toArray, List.getElem_cons_zero, List.getElem_cons_succ])
          refine wpAnyH_ready (rs := [4, 10]) (by kernel_rfl) (by simp) ?_
          refine AllReadyH.cons rfl (fun K hK => ?_) (AllReadyH.cons rfl (fun K hK => ?_) (AllReadyH.nil))
          · go_simp
            go_at_call 48; refine (two_any 8 (by omega) _).mono ?_
            rintro e Wt ⟨u, rfl, ht, hb⟩
            obtain ⟨gt, pt, nt, ct, rfl⟩ := ht.shape
            replace hz := hz.go hb
            replace bw := bw.go hb
            replace bz := bz.go hb
            replace hx := hx.go hb
            replace hd := hd.go hb
            replace bm := bm.go hb
            replace h0 := bel_go h0 h0.size hb
            clear hb
            refine hK.out _ _ (⟨bw, bz⟩) (fun _ => ?_)
            clear hK K
            (try simp only [Act.put, List.setIfInBounds_toArray, List.set_cons_zero, List.set_cons_succ, List.getElem_toArray, List.getElem_cons_zero, List.getElem_cons_succ])
            refine wpAnyH_ready (rs := [5, 10]) (by kernel_rfl) (by simp) ?_
            refine AllReadyH.cons rfl (fun K hK => ?_) (AllReadyH.cons rfl (fun K hK => ?_) (AllReadyH.nil))
            · go_simp
              go_at_call 33; refine (zsplit_any _ _ (n - z) (2 ^ (16 * 8)) h20 hl1 hl2 _ hd ht).mono ?_
              rintro e Wq ⟨u, v, rfl, hq, hv, hb⟩
              obtain ⟨gq, pq, nq, cq, rfl⟩ := hq.shape
              obtain ⟨gv, pv, nv, cv, rfl⟩ := hv.shape
              replace hz := hz.go hb
              replace bw := bw.go hb
              replace bz := bz.go hb
              replace hx := hx.go hb
              replace hd := hd.go hb
              replace bm := bm.go hb
              replace ht := ht.go hb
              replace h0 := bel_go h0 h0.size hb
              clear hb
              refine hK.out _ _ (⟨bw, bz⟩) (fun _ => ?_)
              clear hK K
              (try simp only [Act.put, List.setIfInBounds_toArray, List.set_cons_zero, List.set_cons_succ, List.getElem_toArray, List.getElem_cons_zero, List.getElem_cons_succ])
              refine wpAnyH_take (i := 6) (v := ?_) rfl (by kernel_rfl) (by kernel_rfl) (by kernel_rfl) (fun _ _ _ h => h) (Or.inl ⟨by kernel_rfl, ?_⟩) (⟨bw, bz⟩) ?_
              rotate_left
              focus (intro W' hSw; obtain ⟨hx0, hx1⟩ := hSw; have hc0 := hx0.c0; have hc1 := hx0.c1; have hc2 := hx1.c0; have hc3 := hx1.c1; clear hx0 hx1; go_simp; (try with_reducible rfl))
              (try simp only [Act.put, List.setIfInBounds_toArray, List.set_cons_zero, List.set_cons_succ, List.getElem_toArray, List.getElem_cons_zero, List.getElem_cons_succ])
              refine wpAnyH_take (i := 7) (v := ?_) rfl (by kernel_rfl) (by kernel_rfl) (by kernel_rfl) (fun _ _ _ h => h) (Or.inl ⟨by kernel_rfl, ?_⟩) (⟨bw, bz⟩) ?_
              rotate_left
              focus (intro W' hSw; obtain ⟨hx0, hx1⟩ := hSw; have hc0 := hx0.c0; have hc1 := hx0.c1; have hc2 := hx1.c0; have hc3 := hx1.c1; clear hx0 hx1; go_simp; (try with_reducible rfl))
              (try simp only [Act.put, List.setIfInBounds_toArray, List.set_cons_zero, List.set_cons_succ, List.getElem_toArray, List.getElem_cons_zero, List.getElem_cons_succ])
              refine wpAnyH_take (i := 8) (v := ?_) rfl (by kernel_rfl) (by kernel_rfl) (by kernel_rfl) (fun _ _ _ h => h) (Or.inl ⟨by kernel_rfl, ?_⟩) (⟨bw, bz⟩) ?_
              rotate_left
              focus (intro W' hSw; obtain ⟨hx0, hx1⟩ := hSw; have hc0 := hx0.c0; have hc1 := hx0.c1; have hc2 := hx1.c0; have hc3 := hx1.c1; clear hx0 hx1; go_simp; (try with_reducible rfl))
              (try simp only [Act.put, List.setIfInBounds_toArray, List.set_cons_zero, List.set_cons_succ, List.getElem_toArray, List.getElem_cons_zero, List.getElem_cons_succ])
              refine wpAnyH_ready (rs := [10]) (by kernel_rfl) (by simp) ?_
              refine AllReadyH.cons rfl (fun K hK => ?_) (AllReadyH.nil)
              go_simp
              have hal : Below Wq.heap.size Wq (Wq.alloc (.cells #[.bool false, .slice none 0 0] 27)) := (Below.refl _ _).alloc (Nat.le_refl _) _
              have br := Bx.new Wq 27 (.bool false) (.slice none 0 0)
              have l_br_bw := Lib.hid bw.lt
              have l_br_bz := Lib.hid bz.lt
              have l_br_bm := Lib.hid bm.lt
              have s_br := Lib.hid (show w.heap.size ≤ Wq.heap.size from h0.size)
              replace hz := hz.go hal
              replace bw := bw.go hal
              replace bz := bz.go hal
              replace hx := hx.go hal
              replace hd := hd.go hal
              replace bm := bm.go hal
              replace ht := ht.go hal
              replace hq := hq.go hal
              replace hv := hv.go hal
              replace h0 := bel_go h0 h0.size hal
              clear hal
              generalize Wq.heap.size = Bbr at br s_br l_br_bw l_br_bz l_br_bm ⊢
              generalize Wq.alloc (.cells #[.bool false, .slice none 0 0] 27) = Vbr at hz bw bz hx hd bm ht hq hv br h0 ⊢
              refine hK.out _ _ (⟨bw, bz⟩) (fun _ => ?_)
              clear hK K
              (try simp only [Act.put, List.setIfInBounds_toArray, List.set_cons_zero, List.set_cons_succ, List.getElem_toArray, List.getElem_cons_zero, List.getElem_cons_succ])
              refine wpAnyH_ready (rs := [11]) (by kernel_rfl) (by simp) ?_
              refine AllReadyH.cons rfl (fun K hK => ?_) (AllReadyH.nil)
              have hq0 := bm.c0
              have hq1 := bm.c1
              have hr0 := bm.f0
              have hr1 := bm.f1
              go_simp
              clear hq0 hq1 hr0 hr1
              have hP := put2 Vbr Bbm (.bool gq) (.slice pq nq cq)
              have hN := bm.stored (.bool gq) (.slice pq nq cq)
              generalize (Vbr.setCell ⟨Bbm, 0, none⟩ (.bool gq)).setCell ⟨Bbm, 1, none⟩ (.slice pq nq cq) = WZ at hP hN ⊢
              replace hz := hz.put bm (by decide) hP
              replace hx := hx.put bm (by decide) hP
              replace hd := hd.put bm (by decide) hP
              replace ht := ht.put bm (by decide) hP
              replace hq := hq.put bm (by decide) hP
              replace hv := hv.put bm (by decide) hP
              replace bw := bw.put hP (by have := l_bm_bw.out; omega)
              replace bz := bz.put hP (by have := l_bm_bz.out; omega)
              replace br := br.put hP (by have := l_br_bm.out; omega)
              replace h0 := bel_put h0 (by have := s_bm.out; omega) hP
              clear hP bm
              have bm := hN
              clear hN
              refine hK.out _ _ (⟨bw, bz⟩) (fun _ => ?_)
              clear hK K
              (try simp only [Act.put, List.setIfInBounds_toArray, List.set_cons_zero, List.set_cons_succ, List.getElem_toArray, List.getElem_cons_zero, List.getElem_cons_succ])
              refine wpAnyH_done (by kernel_rfl) ?_ _
              refine still1_step rfl (fun K hK => ?_)
              have hq0 := br.c0
              have hq1 := br.c1
              have hr0 := br.f0
              have hr1 := br.f1
              go_simp
              clear hq0 hq1 hr0 hr1
              have hP := put2 WZ Bbr (.bool gv) (.slice pv nv cv)
              have hN := br.stored (.bool gv) (.slice pv nv cv)
              generalize (WZ.setCell ⟨Bbr, 0, none⟩ (.bool gv)).setCell ⟨Bbr, 1, none⟩ (.slice pv nv cv) = WK at hP hN ⊢
              replace hz := hz.put br (by decide) hP
              replace hx := hx.put br (by decide) hP
              replace hd := hd.put br (by decide) hP
              replace ht := ht.put br (by decide) hP
              replace hq := hq.put br (by decide) hP
              replace hv := hv.put br (by decide) hP
              replace bw := bw.put hP (by have := l_br_bw.out; omega)
              replace bz := bz.put hP (by have := l_br_bz.out; omega)
              replace bm := bm.put hP (by have := l_br_bm.out; omega)
              replace h0 := bel_put h0 (by have := s_br.out; omega) hP
              clear hP br
              have br := hN
              clear hN
              refine hK.out _ _ ?_
              clear hK K
              (try simp only [Act.put, List.setIfInBounds_toArray, List.set_cons_zero, List.set_cons_succ, List.getElem_toArray, List.getElem_cons_zero, List.getElem_cons_succ])
              go_wp2_with fail
              go_meet
              case rel => exact ⟨gv, pv, nv, cv, Bbr, rfl, br, hv, h0⟩
            · go_simp
              have hal : Below Wt.heap.size Wt (Wt.alloc (.cells #[.bool false, .slice none 0 0] 27)) := (Below.refl _ _).alloc (Nat.le_refl _) _
              have br := Bx.new Wt 27 (.bool false) (.slice none 0 0)
              have l_br_bw := Lib.hid bw.lt
              have l_br_bz := Lib.hid bz.lt
              have l_br_bm := Lib.hid bm.lt
              have s_br := Lib.hid (show w.heap.size ≤ Wt.heap.size from h0.size)
              replace hz := hz.go hal
              replace bw := bw.go hal
              replace bz := bz.go hal
              replace hx := hx.go hal
              replace hd := hd.go hal
              replace bm := bm.go hal
              replace ht := ht.go hal
              replace h0 := bel_go h0 h0.size hal
              clear hal
              generalize Wt.heap.size = Bbr at br s_br l_br_bw l_br_bz l_br_bm ⊢
              generalize Wt.alloc (.cells #[.bool false, .slice none 0 0] 27) = Vbr at hz bw bz hx hd bm ht br h0 ⊢
              refine hK.out _ _ (⟨bw, bz⟩) (fun _ => ?_)
              clear hK K
              (try simp only [Act.put, List.setIfInBounds_toArray, List.set_cons_zero, List.set_cons_succ, List.getElem_toArray, List.getElem_cons_zero, List.getElem_cons_succ])
              refine wpAnyH_ready (rs := [5]) (by kernel_rfl) (by simp) ?_
              refine AllReadyH.cons rfl (fun K hK => ?_) (AllReadyH.nil)
              go_simp
              go_at_call 33; refine (zsplit_any _ _ (n - z) (2 ^ (16 * 8)) h20 hl1 hl2 _ hd ht).mono ?_
              rintro e Wq ⟨u, v, rfl, hq, hv, hb⟩
              obtain ⟨gq, pq, nq, cq, rfl⟩ := hq.shape
              obtain ⟨gv, pv, nv, cv, rfl⟩ := hv.shape
              replace hz := hz.go hb
              replace bw := bw.go hb
              replace bz := bz.go hb
              replace hx := hx.go hb
              replace hd := hd.go hb
              replace bm := bm.go hb
              replace ht := ht.go hb
              replace br := br.go hb
              replace h0 := bel_go h0 h0.size hb
              clear hb
              refine hK.out _ _ (⟨bw, bz⟩) (fun _ => ?_)
              clear hK K
              (try simp only [Act.put, List.setIfInBounds_toArray, List.set_cons_zero, List.set_cons_succ, List.getElem_toArray, List.getElem_cons_zero, List.getElem_cons_succ])
              refine wpAnyH_take (i := 6) (v := ?_) rfl (by kernel_rfl) (by kernel_rfl) (by kernel_rfl) (fun _ _ _ h => h) (Or.inl ⟨by kernel_rfl, ?_⟩) (⟨bw, bz⟩) ?_
              rotate_left
              focus (intro W' hSw; obtain ⟨hx0, hx1⟩ := hSw; have hc0 := hx0.c0; have hc1 := hx0.c1; have hc2 := hx1.c0; have hc3 := hx1.c1; clear hx0 hx1; go_simp; (try with_reducible rfl))
              (try simp only [Act.put, List.setIfInBounds_toArray, List.set_cons_zero, List.set_cons_succ, List.getElem_toArray, List.getElem_cons_zero, List.getElem_cons_succ])
              refine wpAnyH_take (i := 7) (v := ?_) rfl (by kernel_rfl) (by kernel_rfl) (by kernel_rfl) (fun _ _ _ h => h) (Or.inl ⟨by kernel_rfl, ?_⟩) (⟨bw, bz⟩) ?_
              rotate_left
              focus (intro W' hSw; obtain ⟨hx0, hx1⟩ := hSw; have hc0 := hx0.c0; have hc1 := hx0.c1; have hc2 := hx1.c0; have hc3 := hx1.c1; clear hx0 hx1; go_simp; (try with_reducible rfl))
              (try simp only [Act.put, List.setIfInBounds_toArray, List.set_cons_zero, List.set_cons_succ, List.getElem_toArray, List.getElem_cons_zero, List.getElem_cons_succ])
              refine wpAnyH_take (i := 8) (v := ?_) rfl (by kernel_rfl) (by kernel_rfl) (by kernel_rfl) (fun _ _ _ h => h) (Or.inl ⟨by kernel_rfl, ?_⟩) (⟨bw, bz⟩) ?_
              rotate_left
              focus (intro W' hSw; obtain ⟨hx0, hx1⟩ := hSw; have hc0 := hx0.c0; have hc1 := hx0.c1; have hc2 := hx1.c0; have hc3 := hx1.c1; clear hx0 hx1; go_simp; (try with_reducible rfl))
              (try simp only [Act.put, List.setIfInBounds_toArray, List.set_cons_zero, List.set_cons_succ, List.getElem_toArray, List.getElem_cons_zero, List.getElem_cons_succ])
              refine wpAnyH_ready (rs := [11]) (by kernel_rfl) (by simp) ?_
              refine AllReadyH.cons rfl (fun K hK => ?_) (AllReadyH.nil)
              have hq0 := bm.c0
              have hq1 := bm.c1
              have hr0 := bm.f0
              have hr1 := bm.f1
              go_simp
              clear hq0 hq1 hr0 hr1
              have hP := put2 Wq Bbm (.bool gq) (.slice pq nq cq)
              have hN := bm.stored (.bool gq) (.slice pq nq cq)
              generalize (Wq.setCell ⟨Bbm, 0, none⟩ (.bool gq)).setCell ⟨Bbm, 1, none⟩ (.slice pq nq cq) = WZ at hP hN ⊢
              replace hz := hz.put bm (by decide) hP
              replace hx := hx.put bm (by decide) hP
              replace hd := hd.put bm (by decide) hP
              replace ht := ht.put bm (by decide) hP
              replace hq := hq.put bm (by decide) hP
              replace hv := hv.put bm (by decide) hP
              replace bw := bw.put hP (by have := l_bm_bw.out; omega)
              replace bz := bz.put hP (by have := l_bm_bz.out; omega)
              replace br := br.put hP (by have := l_br_bm.out; omega)
              replace h0 := bel_put h0 (by have := s_bm.out; omega) hP
              clear hP bm
              have bm := hN
              clear hN
              refine hK.out _ _ (⟨bw, bz⟩) (fun _ => ?_)
              clear hK K
              (try simp only [Act.put, List.setIfInBounds_toArray, List.set_cons_zero, List.set_cons_succ, List.getElem_toArray, List.getElem_cons_zero, List.getElem_cons_succ])
              refine wpAnyH_done (by kernel_rfl) ?_ _
              refine still1_step rfl (fun K hK => ?_)
              have hq0 := br.c0
              have hq1 := br.c1
              have hr0 := br.f0
              have hr1 := br.f1
              go_simp
              clear hq0 hq1 hr0 hr1
              have hP := put2 WZ Bbr (.bool gv) (.slice pv nv cv)
              have hN := br.stored (.bool gv) (.slice pv nv cv)
              generalize (WZ.setCell ⟨Bbr, 0, none⟩ (.bool gv)).setCell ⟨Bbr, 1, none⟩ (.slice pv nv cv) = WK at hP hN ⊢
              replace hz := hz.put br (by decide) hP
              replace hx := hx.put br (by decide) hP
              replace hd := hd.put br (by decide) hP
              replace ht := ht.put br (by decide) hP
              replace hq := hq.put br (by decide) hP
              replace hv := hv.put br (by decide) hP
              replace bw := bw.put hP (by have := l_br_bw.out; omega)
              replace bz := bz.put hP (by have := l_br_bz.out; omega)
              replace bm := bm.put hP (by have := l_br_bm.out; omega)
              replace h0 := bel_put h0 (by have := s_br.out; omega) hP
              clear hP br
              have br := hN
              clear hN
              refine hK.out _ _ ?_
              clear hK K
              (try simp only [Act.put, List.setIfInBounds_toArray, List.set_cons_zero, List.set_cons_succ, List.getElem_toArray, List.getElem_cons_zero, List.getElem_cons_succ])
              go_wp2_with fail
              go_meet
              case rel => exact ⟨gv, pv, nv, cv, Bbr, rfl, br, hv, h0⟩
          · go_simp
            have hal : Below Vbm.heap.size Vbm (Vbm.alloc (.cells #[.bool false, .slice none 0 0] 27)) := (Below.refl _ _).alloc (Nat.le_refl _) _
            have br := Bx.new Vbm 27 (.bool false) (.slice none 0 0)
            have l_br_bw := Lib.hid bw.lt
            have l_br_bz := Lib.hid bz.lt
            have l_br_bm := Lib.hid bm.lt
            have s_br := Lib.hid (show w.heap.size ≤ Vbm.heap.size from h0.size)
            replace hz := hz.go hal
            replace bw := bw.go hal
            replace bz := bz.go hal
            replace hx := hx.go hal
            replace hd := hd.go hal
            replace bm := bm.go hal
            replace h0 := bel_go h0 h0.size hal
            clear hal
            generalize Vbm.heap.size = Bbr at br s_br l_br_bw l_br_bz l_br_bm ⊢
            generalize Vbm.alloc (.cells #[.bool false, .slice none 0 0] 27) = Vbr at hz bw bz hx hd bm br h0 ⊢
            refine hK.out _ _ (⟨bw, bz⟩) (fun _ => ?_)
            clear hK K
            (try simp only [Act.put, List.setIfInBounds_toArray, List.set_cons_zero, List.set_cons_succ, List.getElem_toArray, List.getElem_cons_zero, List.getElem_cons_succ])
            refine wpAnyH_ready (rs := [4]) (by kernel_rfl) (by simp) ?_
            refine AllReadyH.cons rfl (fun K hK => ?_) (AllReadyH.nil)
            go_simp
            go_at_call 48; refine (two_any 8 (by omega) _).mono ?_
            rintro e Wt ⟨u, rfl, ht, hb⟩
            obtain ⟨gt, pt, nt, ct, rfl⟩ := ht.shape
            replace hz := hz.go hb
            replace bw := bw.go hb
            replace bz := bz.go hb
            replace hx := hx.go hb
            replace hd := hd.go hb
            replace bm := bm.go hb
            replace br := br.go hb
            replace h0 := bel_go h0 h0.size hb
            clear hb
            refine hK.out _ _ (⟨bw, bz⟩) (fun _ => ?_)
            clear hK K
            (try simp only [Act.put, List.setIfInBounds_toArray, List.set_cons_zero, List.set_cons_succ, List.getElem_toArray, List.getElem_cons_zero, List.getElem_cons_succ])
            refine wpAnyH_ready (rs := [5]) (by kernel_rfl) (by simp) ?_
            refine AllReadyH.cons rfl (fun K hK => ?_) (AllReadyH.nil)
            go_simp
            go_at_call 33; refine (zsplit_any _ _ (n - z) (2 ^ (16 * 8)) h20 hl1 hl2 _ hd ht).mono ?_
            rintro e Wq ⟨u, v, rfl, hq, hv, hb⟩
            obtain ⟨gq, pq, nq, cq, rfl⟩ := hq.shape
            obtain ⟨gv, pv, nv, cv, rfl⟩ := hv.shape
            replace hz := hz.go hb
            replace bw := bw.go hb
            replace bz := bz.go hb
            replace hx := hx.go hb
            replace hd := hd.go hb
            replace bm := bm.go hb
            replace br := br.go hb
            replace ht := ht.go hb
            replace h0 := bel_go h0 h0.size hb
            clear hb
            refine hK.out _ _ (⟨bw, bz⟩) (fun _ => ?_)
            clear hK K
            (try simp only [Act.put, List.setIfInBounds_toArray, List.set_cons_zero, List.set_cons_succ, List.getElem_toArray, List.getElem_cons_zero, List.getElem_cons_succ])
            refine wpAnyH_take (i := 6) (v := ?_) rfl (by kernel_rfl) (by kernel_rfl) (by kernel_rfl) (fun _ _ _ h => h) (Or.inl ⟨by kernel_rfl, ?_⟩) (⟨bw, bz⟩) ?_
            rotate_left
            focus (intro W' hSw; obtain ⟨hx0, hx1⟩ := hSw; have hc0 := hx0.c0; have hc1 := hx0.c1; have hc2 := hx1.c0; have hc3 := hx1.c1; clear hx0 hx1; go_simp; (try with_reducible rfl))
            (try simp only [Act.put, List.setIfInBounds_toArray, List.set_cons_zero, List.set_cons_succ, List.getElem_toArray, List.getElem_cons_zero, List.getElem_cons_succ])
            refine wpAnyH_take (i := 7) (v := ?_) rfl (by kernel_rfl) (by kernel_rfl) (by kernel_rfl) (fun _ _ _ h => h) (Or.inl ⟨by kernel_rfl, ?_⟩) (⟨bw, bz⟩) ?_
            rotate_left
            focus (intro W' hSw; obtain ⟨hx0, hx1⟩ := hSw; have hc0 := hx0.c0; have hc1 := hx0.c1; have hc2 := hx1.c0; have hc3 := hx1.c1; clear hx0 hx1; go_simp; (try with_reducible rfl))
            (try simp only [Act.put, List.setIfInBounds_toArray, List.set_cons_zero, List.set_cons_succ, List.getElem_toArray, List.getElem_cons_zero, List.getElem_cons_succ])
            refine wpAnyH_take (i := 8) (v := ?_) rfl (by kernel_rfl) (by kernel_rfl) (by kernel_rfl) (fun _ _ _ h => h) (Or.inl ⟨by kernel_rfl, ?_⟩) (⟨bw, bz⟩) ?_
            rotate_left
            focus (intro W' hSw; obtain ⟨hx0, hx1⟩ := hSw; have hc0 := hx0.c0; have hc1 := hx0.c1; have hc2 := hx1.c0; have hc3 := hx1.c1; clear hx0 hx1; go_simp; (try with_reducible rfl))
            (try simp only [Act.put, List.setIfInBounds_toArray, List.set_cons_zero, List.set_cons_succ, List.getElem_toArray, List.getElem_cons_zero, List.getElem_cons_succ])
            refine wpAnyH_ready (rs := [11]) (by kernel_rfl) (by simp) ?_
            refine AllReadyH.cons rfl (fun K hK => ?_) (AllReadyH.nil)
            have hq0 := bm.c0
            have hq1 := bm.c1
            have hr0 := bm.f0
            have hr1 := bm.f1
            go_simp
            clear hq0 hq1 hr0 hr1
            have hP := put2 Wq Bbm (.bool gq) (.slice pq nq cq)
            have hN := bm.stored (.bool gq) (.slice pq nq cq)
            generalize (Wq.setCell ⟨Bbm, 0, none⟩ (.bool gq)).setCell ⟨Bbm, 1, none⟩ (.slice pq nq cq) = WZ at hP hN ⊢
            replace hz := hz.put bm (by decide) hP
            replace hx := hx.put bm (by decide) hP
            replace hd := hd.put bm (by decide) hP
            replace ht := ht.put bm (by decide) hP
            replace hq := hq.put bm (by decide) hP
            replace hv := hv.put bm (by decide) hP
            replace bw := bw.put hP (by have := l_bm_bw.out; omega)
            replace bz := bz.put hP (by have := l_bm_bz.out; omega)
            replace br := br.put hP (by have := l_br_bm.out; omega)
            replace h0 := bel_put h0 (by have := s_bm.out; omega) hP
            clear hP bm
            have bm := hN
            clear hN
            refine hK.out _ _ (⟨bw, bz⟩) (fun _ => ?_)
            clear hK K
            (try simp only [Act.put, List.setIfInBounds_toArray, List.set_cons_zero, List.set_cons_succ, List.getElem_toArray, List.getElem_cons_zero, List.getElem_cons_succ])
            refine wpAnyH_done (by kernel_rfl) ?_ _
            refine still1_step rfl (fun K hK => ?_)
            have hq0 := br.c0
            have hq1 := br.c1
            have hr0 := br.f0
            have hr1 := br.f1
            go_simp
            clear hq0 hq1 hr0 hr1
            have hP := put2 WZ Bbr (.bool gv) (.slice pv nv cv)
            have hN := br.stored (.bool gv) (.slice pv nv cv)
            generalize (WZ.setCell ⟨Bbr, 0, none⟩ (.bool gv)).setCell ⟨Bbr, 1, none⟩ (.slice pv nv cv) = WK at hP hN ⊢
            replace hz := hz.put br (by decide) hP
            replace hx := hx.put br (by decide) hP
            replace hd := hd.put br (by decide) hP
            replace ht := ht.put br (by decide) hP
            replace hq := hq.put br (by decide) hP
            replace hv := hv.put br (by decide) hP
            replace bw := bw.put hP (by have := l_br_bw.out; omega)
            replace bz := bz.put hP (by have := l_br_bz.out; omega)
            replace bm := bm.put hP (by have := l_br_bm.out; omega)
            replace h0 := bel_put h0 (by have := s_br.out; omega) hP
            clear hP br
            have br := hN
            clear hN
            refine hK.out _ _ ?_
            clear hK K
            (try simp only [Act.put, List.setIfInBounds_toArray, List.set_cons_zero, List.set_cons_succ, List.getElem_toArray, List.getElem_cons_zero, List.getElem_cons_succ])
            go_wp2_with fail
            go_meet
            case rel => exact ⟨gv, pv, nv, cv, Bbr, rfl, br, hv, h0⟩
        · go_simp
          have hal : Below Wd.heap.size Wd (Wd.alloc (.cells #[.bool false, .slice none 0 0] 27)) := (Below.refl _ _).alloc (Nat.le_refl _) _
          have br := Bx.new Wd 27 (.bool false) (.slice none 0 0)
          have l_br_bw := Lib.hid bw.lt
          have l_br_bz := Lib.hid bz.lt
          have s_br := Lib.hid (show w.heap.size ≤ Wd.heap.size from h0.size)
          replace hz := hz.go hal
          replace bw := bw.go hal
          replace bz := bz.go hal
          replace hx := hx.go hal
          replace hd := hd.go hal
          replace h0 := bel_go h0 h0.size hal
          clear hal
          generalize Wd.heap.size = Bbr at br s_br l_br_bw l_br_bz ⊢
          generalize Wd.alloc (.cells #[.bool false, .slice none 0 0] 27) = Vbr at hz bw bz hx hd br h0 ⊢
          refine hK.out _ _ (⟨bw, bz⟩) (fun _ => ?_)
          clear hK K
          (try simp only [Act.put, List.setIfInBounds_toArray, List.set_cons_zero, List.set_cons_succ, List.getElem_toArray, List.getElem_cons_zero, List.getElem_cons_succ])
          refine wpAnyH_ready (rs := [4, 9]) (by kernel_rfl) (by simp) ?_
          refine AllReadyH.cons rfl (fun K hK => ?_) (AllReadyH.cons rfl (fun K hK => ?_) (AllReadyH.nil))
          · go_simp
            go_at_call 48; refine (two_any 8 (by omega) _).mono ?_
            rintro e Wt ⟨u, rfl, ht, hb⟩
            obtain ⟨gt, pt, nt, ct, rfl⟩ := ht.shape
            replace hz := hz.go hb
            replace bw := bw.go hb
            replace bz := bz.go hb
            replace hx := hx.go hb
            replace hd := hd.go hb
            replace br := br.go hb
            replace h0 := bel_go h0 h0.size hb
            clear hb
            refine hK.out _ _ (⟨bw, bz⟩) (fun _ => ?_)
            clear hK K
            (try simp only [Act.put, List.setIfInBounds_toArray, List.set_cons_zero, List.set_cons_succ, List.getElem_toArray, List.getElem_cons_zero, List.getElem_cons_succ])
            refine wpAnyH_ready (rs := [5, 9]) (by kernel_rfl) (by simp) ?_
            refine AllReadyH.cons rfl (fun K hK => ?_) (AllReadyH.cons rfl (fun K hK => ?_) (AllReadyH.nil))
            · go_simp
              go_at_call 33; refine (zsplit_any _ _ (n - z) (2 ^ (16 * 8)) h20 hl1 hl2 _ hd ht).mono ?_
              rintro e Wq ⟨u, v, rfl, hq, hv, hb⟩
              obtain ⟨gq, pq, nq, cq, rfl⟩ := hq.shape
              obtain ⟨gv, pv, nv, cv, rfl⟩ := hv.shape
              replace hz := hz.go hb
              replace bw := bw.go hb
              replace bz := bz.go hb
              replace hx := hx.go hb
              replace hd := hd.go hb
              replace br := br.go hb
              replace ht := ht.go hb
              replace h0 := bel_go h0 h0.size hb
              clear hb
              refine hK.out _ _ (⟨bw, bz⟩) (fun _ => ?_)
              clear hK K
              (try simp only [Act.put, List.setIfInBounds_toArray, List.set_cons_zero, List.set_cons_succ, List.getElem_toArray, List.getElem_cons_zero, List.getElem_cons_succ])
              refine wpAnyH_take (i := 6) (v := ?_) rfl (by kernel_rfl) (by kernel_rfl) (by kernel_rfl) (fun _ _ _ h => h) (Or.inl ⟨by kernel_rfl, ?_⟩) (⟨bw, bz⟩) ?_
              rotate_left
              focus (intro W' hSw; obtain ⟨hx0, hx1⟩ := hSw; have hc0 := hx0.c0; have hc1 := hx0.c1; have hc2 := hx1.c0; have hc3 := hx1.c1; clear hx0 hx1; go_simp; (try with_reducible rfl))
              (try simp only [Act.put, List.setIfInBounds_toArray, List.set_cons_zero, List.set_cons_succ, List.getElem_toArray, List.getElem_cons_zero, List.getElem_cons_succ])
              refine wpAnyH_take (i := 7) (v := ?_) rfl (by kernel_rfl) (by kernel_rfl) (by kernel_rfl) (fun _ _ _ h => h) (Or.inl ⟨by kernel_rfl, ?_⟩) (⟨bw, bz⟩) ?_
              rotate_left
              focus (intro W' hSw; obtain ⟨hx0, hx1⟩ := hSw; have hc0 := hx0.c0; have hc1 := hx0.c1; have hc2 := hx1.c0; have hc3 := hx1.c1; clear hx0 hx1; go_simp; (try with_reducible rfl))
              (try simp only [Act.put, List.setIfInBounds_toArray, List.set_cons_zero, List.set_cons_succ, List.getElem_toArray, List.getElem_cons_zero, List.getElem_cons_succ])
              refine wpAnyH_take (i := 8) (v := ?_) rfl (by kernel_rfl) (by kernel_rfl) (by kernel_rfl) (fun _ _ _ h => h) (Or.inl ⟨by kernel_rfl, ?_⟩) (⟨bw, bz⟩) ?_
              rotate_left
              focus (intro W' hSw; obtain ⟨hx0, hx1⟩ := hSw; have hc0 := hx0.c0; have hc1 := hx0.c1; have hc2 := hx1.c0; have hc3 := hx1.c1; clear hx0 hx1; go_simp; (try with_reducible rfl))
              (try simp only [Act.put, List.setIfInBounds_toArray, List.set_cons_zero, List.set_cons_succ, List.getElem_toArray, List.getElem_cons_zero, List.getElem_cons_succ])
              refine wpAnyH_ready (rs := [9]) (by kernel_rfl) (by simp) ?_
              refine AllReadyH.cons rfl (fun K hK => ?_) (AllReadyH.nil)
              go_simp
              have hal : Below Wq.heap.size Wq (Wq.alloc (.cells #[.bool false, .slice none 0 0] 27)) := (Below.refl _ _).alloc (Nat.le_refl _) _
              have bm := Bx.new Wq 27 (.bool false) (.slice none 0 0)
              have l_bm_bw := Lib.hid bw.lt
              have l_bm_bz := Lib.hid bz.lt
              have l_bm_br := Lib.hid br.lt
              have s_bm := Lib.hid (show w.heap.size ≤ Wq.heap.size from h0.size)
              replace hz := hz.go hal
              replace bw := bw.go hal
              replace bz := bz.go hal
              replace hx := hx.go hal
              replace hd := hd.go hal
              replace br := br.go hal
              replace ht := ht.go hal
              replace hq := hq.go hal
              replace hv := hv.go hal
              replace h0 := bel_go h0 h0.size hal
              clear hal
              generalize Wq.heap.size = Bbm at bm s_bm l_bm_bw l_bm_bz l_bm_br ⊢
              generalize Wq.alloc (.cells #[.bool false, .slice none 0 0] 27) = Vbm at hz bw bz hx hd br ht hq hv bm h0 ⊢
              refine hK.out _ _ (⟨bw, bz⟩) (fun _ => ?_)
              clear hK K
              (try simp only [Act.put, List.setIfInBounds_toArray, List.set_cons_zero, List.set_cons_succ, List.getElem_toArray, List.getElem_cons_zero, List.getElem_cons_succ])
              refine wpAnyH_ready (rs := [11]) (by kernel_rfl) (by simp) ?_
              refine AllReadyH.cons rfl (fun K hK => ?_) (AllReadyH.nil)
              have hq0 := bm.c0
              have hq1 := bm.c1
              have hr0 := bm.f0
              have hr1 := bm.f1
              go_simp
              clear hq0 hq1 hr0 hr1
              have hP := put2 Vbm Bbm (.bool gq) (.slice pq nq cq)
              have hN := bm.stored (.bool gq) (.slice pq nq cq)
              generalize (Vbm.setCell ⟨Bbm, 0, none⟩ (.bool gq)).setCell ⟨Bbm, 1, none⟩ (.slice pq nq cq) = WZ at hP hN ⊢
              replace hz := hz.put bm (by decide) hP
              replace hx := hx.put bm (by decide) hP
              replace hd := hd.put bm (by decide) hP
              replace ht := ht.put bm (by decide) hP
              replace hq := hq.put bm (by decide) hP
              replace hv := hv.put bm (by decide) hP
              replace bw := bw.put hP (by have := l_bm_bw.out; omega)
              replace bz := bz.put hP (by have := l_bm_bz.out; omega)
              replace br := br.put hP (by have := l_bm_br.out; omega)
              replace h0 := bel_put h0 (by have := s_bm.out; omega) hP
              clear hP bm
              have bm := hN
              clear hN
              refine hK.out _ _ (⟨bw, bz⟩) (fun _ => ?_)
              clear hK K
              (try simp only [Act.put, List.setIfInBounds_toArray, List.set_cons_zero, List.set_cons_succ, List.getElem_toArray, List.getElem_cons_zero, List.getElem_cons_succ])
              refine wpAnyH_done (by kernel_rfl) ?_ _
              refine still1_step rfl (fun K hK => ?_)
              have hq0 := br.c0
              have hq1 := br.c1
              have hr0 := br.f0
              have hr1 := br.f1
              go_simp
              clear hq0 hq1 hr0 hr1
              have hP := put2 WZ Bbr (.bool gv) (.slice pv nv cv)
              have hN := br.stored (.bool gv) (.slice pv nv cv)
              generalize (WZ.setCell ⟨Bbr, 0, none⟩ (.bool gv)).setCell ⟨Bbr, 1, none⟩ (.slice pv nv cv) = WK at hP hN ⊢
              replace hz := hz.put br (by decide) hP
              replace hx := hx.put br (by decide) hP
              replace hd := hd.put br (by decide) hP
              replace ht := ht.put br (by decide) hP
              replace hq := hq.put br (by decide) hP
              replace hv := hv.put br (by decide) hP
              replace bw := bw.put hP (by have := l_br_bw.out; omega)
              replace bz := bz.put hP (by have := l_br_bz.out; omega)
              replace bm := bm.put hP (by have := l_bm_br.out; omega)
              replace h0 := bel_put h0 (by have := s_br.out; omega) hP
              clear hP br
              have br := hN
              clear hN
              refine hK.out _ _ ?_
              clear hK K
              (try simp only [Act.put, List.setIfInBounds_toArray, List.set_cons_zero, List.set_cons_succ, List.getElem_toArray, List.getElem_cons_zero, List.getElem_cons_succ])
              go_wp2_with fail
              go_meet
              case rel => exact ⟨gv, pv, nv, cv, Bbr, rfl, br, hv, h0⟩
            · go_simp
              have hal : Below Wt.heap.size Wt (Wt.alloc (.cells #[.bool false, .slice none 0 0] 27)) := (Below.refl _ _).alloc (Nat.le_refl _) _
              have bm := Bx.new Wt 27 (.bool false) (.slice none 0 0)
              have l_bm_bw := Lib.hid bw.lt
              have l_bm_bz := Lib.hid bz.lt
              have l_bm_br := Lib.hid br.lt
              have s_bm := Lib.hid (show w.heap.size ≤ Wt.heap.size from h0.size)
              replace hz := hz.go hal
              replace bw := bw.go hal
              replace bz := bz.go hal
              replace hx := hx.go hal
              replace hd := hd.go hal
              replace br := br.go hal
              replace ht := ht.go hal
              replace h0 := bel_go h0 h0.size hal
              clear hal
              generalize Wt.heap.size = Bbm at bm s_bm l_bm_bw l_bm_bz l_bm_br ⊢
              generalize Wt.alloc (.cells #[.bool false, .slice none 0 0] 27) = Vbm at hz bw bz hx hd br ht bm h0 ⊢
              refine hK.out _ _ (⟨bw, bz⟩) (fun _ => ?_)
              clear hK K
              (try simp only [Act.put, List.setIfInBounds_toArray, List.set_cons_zero, List.set_cons_succ, List.getElem_toArray, List.getElem_cons_zero, List.getElem_cons_succ])
              refine wpAnyH_ready (rs := [5]) (by kernel_rfl) (by simp) ?_
              refine AllReadyH.cons rfl (fun K hK => ?_) (AllReadyH.nil)
              go_simp
              go_at_call 33; refine (zsplit_any _ _ (n - z) (2 ^ (16 * 8)) h20 hl1 hl2 _ hd ht).mono ?_
              rintro e Wq ⟨u, v, rfl, hq, hv, hb⟩
              obtain ⟨gq, pq, nq, cq, rfl⟩ := hq.shape
              obtain ⟨gv, pv, nv, cv, rfl⟩ := hv.shape
              replace hz := hz.go hb
              replace bw := bw.go hb
              replace bz := bz.go hb
              replace hx := hx.go hb
              replace hd := hd.go hb
              replace br := br.go hb
              replace ht := ht.go hb
              replace bm := bm.go hb
              replace h0 := bel_go h0 h0.size hb
              clear hb
              refine hK.out _ _ (⟨bw, bz⟩) (fun _ => ?_)
              clear hK K
              (try simp only [Act.put, List.setIfInBounds_toArray, List.set_cons_zero, List.set_cons_succ, List.getElem_toArray, List.getElem_cons_zero, List.getElem_cons_succ])
              refine wpAnyH_take (i := 6) (v := ?_) rfl (by kernel_rfl) (by kernel_rfl) (by kernel_rfl) (fun _ _ _ h => h) (Or.inl ⟨by kernel_rfl, ?_⟩) (⟨bw, bz⟩) ?_
              rotate_left
              focus (intro W' hSw; obtain ⟨hx0, hx1⟩ := hSw; have hc0 := hx0.c0; have hc1 := hx0.c1; have hc2 := hx1.c0; have hc3 := hx1.c1; clear hx0 hx1; go_simp; (try with_reducible rfl))
              (try simp only [Act.put, List.setIfInBounds_toArray, List.set_cons_zero, List.set_cons_succ, List.getElem_toArray, List.getElem_cons_zero, List.getElem_cons_succ])
              refine wpAnyH_take (i := 7) (v := ?_) rfl (by kernel_rfl) (by kernel_rfl) (by kernel_rfl) (fun _ _ _ h => h) (Or.inl ⟨by kernel_rfl, ?_⟩) (⟨bw, bz⟩) ?_
              rotate_left
              focus (intro W' hSw; obtain ⟨hx0, hx1⟩ := hSw; have hc0 := hx0.c0; have hc1 := hx0.c1; have hc2 := hx1.c0; have hc3 := hx1.c1; clear hx0 hx1; go_simp; (try with_reducible rfl))
              (try simp only [Act.put, List.setIfInBounds_toArray, List.set_cons_zero, List.set_cons_succ, List.getElem_toArray, List.getElem_cons_zero, List.getElem_cons_succ])
              refine wpAnyH_take (i := 8) (v := ?_) rfl (by kernel_rfl) (by kernel_rfl) (by kernel_rfl) (fun _ _ _ h => h) (Or.inl ⟨by kernel_rfl, ?_⟩) (⟨bw, bz⟩) ?_
              rotate_left
              focus (intro W' hSw; obtain ⟨hx0, hx1⟩ := hSw; have hc0 := hx0.c0; have hc1 := hx0.c1; have hc2 := hx1.c0; have hc3 := hx1.c1; clear hx0 hx1; go_simp; (try with_reducible rfl))
              (try simp only [Act.put, List.setIfInBounds_toArray, List.set_cons_zero, List.set_cons_succ, List.getElem_toArray, List.getElem_cons_zero, List.getElem_cons_succ])
              refine wpAnyH_ready (rs := [11]) (by kernel_rfl) (by simp) ?_
              refine AllReadyH.cons rfl (fun K hK => ?_) (AllReadyH.nil)
              have hq0 := bm.c0
              have hq1 := bm.c1
              have hr0 := bm.f0
              have hr1 := bm.f1
              go_simp
              clear hq0 hq1 hr0 hr1
              have hP := put2 Wq Bbm (.bool gq) (.slice pq nq cq)
              have hN := bm.stored (.bool gq) (.slice pq nq cq)
              generalize (Wq.setCell ⟨Bbm, 0, none⟩ (.bool gq)).setCell ⟨Bbm, 1, none⟩ (.slice pq nq cq) = WZ at hP hN ⊢
              replace hz := hz.put bm (by decide) hP
              replace hx := hx.put bm (by decide) hP
              replace hd := hd.put bm (by decide) hP
              replace ht := ht.put bm (by decide) hP
              replace hq := hq.put bm (by decide) hP
              replace hv := hv.put bm (by decide) hP
              replace bw := bw.put hP (by have := l_bm_bw.out; omega)
              replace bz := bz.put hP (by have := l_bm_bz.out; omega)
              replace br := br.put hP (by have := l_bm_br.out; omega)
              replace h0 := bel_put h0 (by have := s_bm.out; omega) hP
              clear hP bm
              have bm := hN
              clear hN
              refine hK.out _ _ (⟨bw, bz⟩) (fun _ => ?_)
              clear hK K
              (try simp only [Act.put, List.setIfInBounds_toArray, List.set_cons_zero, List.set_cons_succ, List.getElem_toArray, List.getElem_cons_zero, List.getElem_cons_succ])
              refine wpAnyH_done (by kernel_rfl) ?_ _
              refine still1_step rfl (fun K hK => ?_)
              have hq0 := br.c0
              have hq1 := br.c1
              have hr0 := br.f0
              have hr1 := br.f1
              go_simp
              clear hq0 hq1 hr0 hr1
              have hP := put2 WZ Bbr (.bool gv) (.slice pv nv cv)
              have hN := br.stored (.bool gv) (.slice pv nv cv)
              generalize (WZ.setCell ⟨Bbr, 0, none⟩ (.bool gv)).setCell ⟨Bbr, 1, none⟩ (.slice pv nv cv) = WK at hP hN ⊢
              replace hz := hz.put br (by decide) hP
              replace hx := hx.put br (by decide) hP
              replace hd := hd.put br (by decide) hP
              replace ht := ht.put br (by decide) hP
              replace hq := hq.put br (by decide) hP
              replace hv := hv.put br (by decide) hP
              replace bw := bw.put hP (by have := l_br_bw.out; omega)
              replace bz := bz.put hP (by have := l_br_bz.out; omega)
              replace bm := bm.put hP (by have := l_bm_br.out; omega)
              replace h0 := bel_put h0 (by have := s_br.out; omega) hP
              clear hP br
              have br := hN
              clear hN
              refine hK.out _ _ ?_
              clear hK K
              (try simp only [Act.put, List.setIfInBounds_toArray, List.set_cons_zero, List.set_cons_succ, List.getElem_toArray, List.getElem_cons_zero, List.getElem_cons_succ])
              go_wp2_with fail
              go_meet
              case rel => exact ⟨gv, pv, nv, cv, Bbr, rfl, br, hv, h0⟩
          · go_simp
            have hal : Below Vbr.heap.size Vbr (Vbr.alloc (.cells #[.bool false, .slice none 0 0] 27)) := (Below.refl _ _).alloc (Nat.le_refl _) _
            have bm := Bx.new Vbr 27 (.bool false) (.slice none 0 0)
            have l_bm_bw := Lib.hid bw.lt
            have l_bm_bz := Lib.hid bz.lt
            have l_bm_br := Lib.hid br.lt
            have s_bm := Lib.hid (show w.heap.size ≤ Vbr.heap.size from h0.size)
            replace hz := hz.go hal
            replace bw := bw.go hal
            replace bz := bz.go hal
            replace hx := hx.go hal
            replace hd := hd.go hal
            replace br := br.go hal
            replace h0 := bel_go h0 h0.size hal
            clear hal
            generalize Vbr.heap.size = Bbm at bm s_bm l_bm_bw l_bm_bz l_bm_br ⊢
            generalize Vbr.alloc (.cells #[.bool false, .slice none 0 0] 27) = Vbm at hz bw bz hx hd br bm h0 ⊢
            refine hK.out _ _ (⟨bw, bz⟩) (fun _ => ?_)
            clear hK K
            (try simp only [Act.put, List.setIfInBounds_toArray, List.set_cons_zero, List.set_cons_succ, List.getElem_toArray, List.getElem_cons_zero, List.getElem_cons_succ])
            refine wpAnyH_ready (rs := [4]) (by kernel_rfl) (by simp) ?_
            refine AllReadyH.cons rfl (fun K hK => ?_) (AllReadyH.nil)
            go_simp
            go_at_call 48; refine (two_any 8 (by omega) _).mono ?_
            rintro e Wt ⟨u, rfl, ht, hb⟩
            obtain ⟨gt, pt, nt, ct, rfl⟩ := ht.shape
            replace hz := hz.go hb
            replace bw := bw.go hb
            replace bz := bz.go hb
            replace hx := hx.go hb
            replace hd := hd.go hb
            replace br := br.go hb
            replace bm := bm.go hb
            replace h0 := bel_go h0 h0.size hb
            clear hb
            refine hK.out _ _ (⟨bw, bz⟩) (fun _ => ?_)
            clear hK K
            (try simp only [Act.put, List.setIfInBounds_toArray, List.set_cons_zero, List.set_cons_succ, List.getElem_toArray, List.getElem_cons_zero, List.getElem_cons_succ])
            refine wpAnyH_ready (rs := [5]) (by kernel_rfl) (by simp) ?_
            refine AllReadyH.cons rfl (fun K hK => ?_) (AllReadyH.nil)
            go_simp
            go_at_call 33; refine (zsplit_any _ _ (n - z) (2 ^ (16 * 8)) h20 hl1 hl2 _ hd ht).mono ?_
            rintro e Wq ⟨u, v, rfl, hq, hv, hb⟩
            obtain ⟨gq, pq, nq, cq, rfl⟩ := hq.shape
            obtain ⟨gv, pv, nv, cv, rfl⟩ := hv.shape
            replace hz := hz.go hb
            replace bw := bw.go hb
            replace bz := bz.go hb
            replace hx := hx.go hb
            replace hd := hd.go hb
            replace br := br.go hb
            replace bm := bm.go hb
            replace ht := ht.go hb
            replace h0 := bel_go h0 h0.size hb
            clear hb
            refine hK.out _ _ (⟨bw, bz⟩) (fun _ => ?_)
            clear hK K
            (try simp only [Act.put, List.setIfInBounds_toArray, List.set_cons_zero, List.set_cons_succ, List.getElem_toArray, List.getElem_cons_zero, List.getElem_cons_succ])
            refine wpAnyH_take (i := 6) (v := ?_) rfl (by kernel_rfl) (by kernel_rfl) (by kernel_rfl) (fun _ _ _ h => h) (Or.inl ⟨by kernel_rfl, ?_⟩) (⟨bw, bz⟩) ?_
            rotate_left
            focus (intro W' hSw; obtain ⟨hx0, hx1⟩ := hSw; have hc0 := hx0.c0; have hc1 := hx0.c1; have hc2 := hx1.c0; have hc3 := hx1.c1; clear hx0 hx1; go_simp; (try with_reducible rfl))
            (try simp only [Act.put, List.setIfInBounds_toArray, List.set_cons_zero, List.set_cons_succ, List.getElem_toArray, List.getElem_cons_zero, List.getElem_cons_succ])
            refine wpAnyH_take (i := 7) (v := ?_) rfl (by kernel_rfl) (by kernel_rfl) (by kernel_rfl) (fun _ _ _ h => h) (Or.inl ⟨by kernel_rfl, ?_⟩) (⟨bw, bz⟩) ?_
            rotate_left
            focus (intro W' hSw; obtain ⟨hx0, hx1⟩ := hSw; have hc0 := hx0.c0; have hc1 := hx0.c1; have hc2 := hx1.c0; have hc3 := hx1.c1; clear hx0 hx1; go_simp; (try with_reducible rfl))
            (try simp only [Act.put, List.setIfInBounds_toArray, List.set_cons_zero, List.set_cons_succ, List.getElem_toArray, List.getElem_cons_zero, List.getElem_cons_succ])
            refine wpAnyH_take (i := 8) (v := ?_) rfl (by kernel_rfl) (by kernel_rfl) (by kernel_rfl) (fun _ _ _ h => h) (Or.inl ⟨by kernel_rfl, ?_⟩) (⟨bw, bz⟩) ?_
            rotate_left
            focus (intro W' hSw; obtain ⟨hx0, hx1⟩ := hSw; have hc0 := hx0.c0; have hc1 := hx0.c1; have hc2 := hx1.c0; have hc3 := hx1.c1; clear hx0 hx1; go_simp; (try with_reducible rfl))
            (try simp only [Act.put, List.setIfInBounds_toArray, List.set_cons_zero, List.set_cons_succ, List.getElem_toArray, List.getElem_cons_zero, List.getElem_cons_succ])
            refine wpAnyH_ready (rs := [11]) (by kernel_rfl) (by simp) ?_
            refine AllReadyH.cons rfl (fun K hK => ?_) (AllReadyH.nil)
            have hq0 := bm.c0
            have hq1 := bm.c1
            have hr0 := bm.f0
            have hr1 := bm.f1
            go_simp
            clear hq0 hq1 hr0 hr1
            have hP := put2 Wq Bbm (.bool gq) (.slice pq nq cq)
            have hN := bm.stored (.bool gq) (.slice pq nq cq)
            generalize (Wq.setCell ⟨Bbm, 0, none⟩ (.bool gq)).setCell ⟨Bbm, 1, none⟩ (.slice pq nq cq) = WZ at hP hN ⊢
            replace hz := hz.put bm (by decide) hP
            replace hx := hx.put bm (by decide) hP
            replace hd := hd.put bm (by decide) hP
            replace ht := ht.put bm (by decide) hP
            replace hq := hq.put bm (by decide) hP
            replace hv := hv.put bm (by decide) hP
            replace bw := bw.put hP (by have := l_bm_bw.out; omega)
            replace bz := bz.put hP (by have := l_bm_bz.out; omega)
            replace br := br.put hP (by have := l_bm_br.out; omega)
            replace h0 := bel_put h0 (by have := s_bm.out; omega) hP
            clear hP bm
            have bm := hN
            clear hN
            refine hK.out _ _ (⟨bw, bz⟩) (fun _ => ?_)
            clear hK K
            (try simp only [Act.put, List.setIfInBounds_toArray, List.set_cons_zero, List.set_cons_succ, List.getElem_toArray, List.getElem_cons_zero, List.getElem_cons_succ])
            refine wpAnyH_done (by kernel_rfl) ?_ _
            refine still1_step rfl (fun K hK => ?_)
            have hq0 := br.c0
            have hq1 := br.c1
            have hr0 := br.f0
            have hr1 := br.f1
            go_simp
            clear hq0 hq1 hr0 hr1
            have hP := put2 WZ Bbr (.bool gv) (.slice pv nv cv)
            have hN := br.stored (.bool gv) (.slice pv nv cv)
            generalize (WZ.setCell ⟨Bbr, 0, none⟩ (.bool gv)).setCell ⟨Bbr, 1, none⟩ (.slice pv nv cv) = WK at hP hN ⊢
            replace hz := hz.put br (by decide) hP
            replace hx := hx.put br (by decide) hP
            replace hd := hd.put br (by decide) hP
            replace ht := ht.put br (by decide) hP
            replace hq := hq.put br (by decide) hP
            replace hv := hv.put br (by decide) hP
            replace bw := bw.put hP (by have := l_br_bw.out; omega)
            replace bz := bz.put hP (by have := l_br_bz.out; omega)
            replace bm := bm.put hP (by have := l_bm_br.out; omega)
            replace h0 := bel_put h0 (by have := s_br.out; omega) hP
            clear hP br
            have br := hN
            clear hN
            refine hK.out _ _ ?_
            clear hK K
            (try simp only [Act.put, List.setIfInBounds_toArray, List.set_cons_zero, List.set_cons_succ, List.getElem_toArray, List.getElem_cons_zero, List.getElem_cons_succ])
            go_wp2_with fail
            go_meet
            case rel => exact ⟨gv, pv, nv, cv, Bbr, rfl, br, hv, h0⟩
      · go_simp
        have hal : Below Wx.heap.size Wx (Wx.alloc (.cells #[.bool false, .slice none 0 0] 27)) := (Below.refl _ _).alloc (Nat.le_refl _) _
        have bm := Bx.new Wx 27 (.bool false) (.slice none 0 0)
        have l_bm_bw := Lib.hid bw.lt
        have l_bm_bz := Lib.hid bz.lt
        have s_bm := Lib.hid (show w.heap.size ≤ Wx.heap.size from h0.size)
        replace hz := hz.go hal
        replace bw := bw.go hal
        replace bz := bz.go hal
        replace hx := hx.go hal
        replace h0 := bel_go h0 h0.size hal
        clear hal
        generalize Wx.heap.size = Bbm at bm s_bm l_bm_bw l_bm_bz ⊢
        generalize Wx.alloc (.cells #[.bool false, .slice none 0 0] 27) = Vbm at hz bw bz hx bm h0 ⊢
        refine hK.out _ _ (⟨bw, bz⟩) (fun _ => ?_)
        clear hK K
        (try simp only [Act.put, List.setIfInBounds_toArray, List.set_cons_zero, List.set_cons_succ, List.getElem_toArray, List.getElem_cons_zero, List.getElem_cons_succ])
        refine wpAnyH_ready (rs := [3, 10]) (by kernel_rfl) (by simp) ?_
        refine AllReadyH.cons rfl (fun K hK => ?_) (AllReadyH.cons rfl (fun K hK => ?_) (AllReadyH.nil))
        · go_simp
          go_at_call 27; refine (zless_any _ _ n z sn sz _ hx hz).mono ?_
          rintro e Wd ⟨u, rfl, hd, hb⟩
          obtain ⟨gd, pd, nd, cd, rfl⟩ := hd.shape
          replace hz := hz.go hb
          replace bw := bw.go hb
          replace bz := bz.go hb
          replace hx := hx.go hb
          replace bm := bm.go hb
          replace h0 := bel_go h0 h0.size hb
          clear hb
          refine hK.out _ _ (⟨bw, bz⟩) (fun _ => ?_)
          clear hK K
          (try simp only [Act.put, List.setIfInBounds_toArray, List.set_cons_zero, List.set_cons_succ, List.getElem_toArray, List.getElem_cons_zero, List.getElem_cons_succ])
          refine wpAnyH_ready (rs := [4, 10]) (by kernel_rfl) (by simp) ?_
          refine AllReadyH.cons rfl (fun K hK => ?_) (AllReadyH.cons rfl (fun K hK => ?_) (AllReadyH.nil))
          · go_simp
            go_at_call 48; refine (two_any 8 (by omega) _).mono ?_
            rintro e Wt ⟨u, rfl, ht, hb⟩
            obtain ⟨gt, pt, nt, ct, rfl⟩ := ht.shape
            replace hz := hz.go hb
            replace bw := bw.go hb
            replace bz := bz.go hb
            replace hx := hx.go hb
            replace bm := bm.go hb
            replace hd := hd.go hb
            replace h0 := bel_go h0 h0.size hb
            clear hb
            refine hK.out _ _ (⟨bw, bz⟩) (fun _ => ?_)
            clear hK K
            (try simp only [Act.put, List.setIfInBounds_toArray, List.set_cons_zero, List.set_cons_succ, List.getElem_toArray, List.getElem_cons_zero, List.getElem_cons_succ])
            refine wpAnyH_ready (rs := [5, 10]) (by kernel_rfl) (by simp) ?_
            refine AllReadyH.cons rfl (fun K hK => ?_) (AllReadyH.cons rfl (fun K hK => ?_) (AllReadyH.nil))
            · go_simp
              go_at_call 33; refine (zsplit_any _ _ (n - z) (2 ^ (16 * 8)) h20 hl1 hl2 _ hd ht).mono ?_
              rintro e Wq ⟨u, v, rfl, hq, hv, hb⟩
              obtain ⟨gq, pq, nq, cq, rfl⟩ := hq.shape
              obtain ⟨gv, pv, nv, cv, rfl⟩ := hv.shape
              replace hz := hz.go hb
              replace bw := bw.go hb
              replace bz := bz.go hb
              replace hx := hx.go hb
              replace bm := bm.go hb
              replace hd := hd.go hb
              replace ht := ht.go hb
              replace h0 := bel_go h0 h0.size hb
              clear hb
              refine hK.out _ _ (⟨bw, bz⟩) (fun _ => ?_)
              clear hK K
              (try simp only [Act.put, List.setIfInBounds_toArray, List.set_cons_zero, List.set_cons_succ, List.getElem_toArray, List.getElem_cons_zero, List.getElem_cons_succ])
              refine wpAnyH_take (i := 6) (v := ?_) rfl (by kernel_rfl) (by kernel_rfl) (by kernel_rfl) (fun _ _ _ h => h) (Or.inl ⟨by kernel_rfl, ?_⟩) (⟨bw, bz⟩) ?_
              rotate_left
              focus (intro W' hSw; obtain ⟨hx0, hx1⟩ := hSw; have hc0 := hx0.c0; have hc1 := hx0.c1; have hc2 := hx1.c0; have hc3 := hx1.c1; clear hx0 hx1; go_simp; (try with_reducible rfl))
              (try simp only [Act.put, List.setIfInBounds_toArray, List.set_cons_zero, List.set_cons_succ, List.getElem_toArray, List.getElem_cons_zero, List.getElem_cons_succ])
              refine wpAnyH_take (i := 7) (v := ?_) rfl (by kernel_rfl) (by kernel_rfl) (by kernel_rfl) (fun _ _ _ h => h) (Or.inl ⟨by kernel_rfl, ?_⟩) (⟨bw, bz⟩) ?_
              rotate_left
              focus (intro W' hSw; obtain ⟨hx0, hx1⟩ := hSw; have hc0 := hx0.c0; have hc1 := hx0.c1; have hc2 := hx1.c0; have hc3 := hx1.c1; clear hx0 hx1; go_simp; (try with_reducible rfl))
              (try simp only [Act.put, List.setIfInBounds_toArray, List.set_cons_zero, List.set_cons_succ, List.getElem_toArray, List.getElem_cons_zero, List.getElem_cons_succ])
              refine wpAnyH_take (i := 8) (v := ?_) rfl (by kernel_rfl) (by kernel_rfl) (by kernel_rfl) (fun _ _ _ h => h) (Or.inl ⟨by kernel_rfl, ?_⟩) (⟨bw, bz⟩) ?_
              rotate_left
              focus (intro W' hSw; obtain ⟨hx0, hx1⟩ := hSw; have hc0 := hx0.c0; have hc1 := hx0.c1; have hc2 := hx1.c0; have hc3 := hx1.c1; clear hx0 hx1; go_simp; (try with_reducible rfl))
              (try simp only [Act.put, List.setIfInBounds_toArray, List.set_cons_zero, List.set_cons_succ, List.getElem_toArray, List.getElem_cons_zero, List.getElem_cons_succ])
              refine wpAnyH_ready (rs := [10]) (by kernel_rfl) (by simp) ?_
              refine AllReadyH.cons rfl (fun K hK => ?_) (AllReadyH.nil)
              go_simp
              have hal : Below Wq.heap.size Wq (Wq.alloc (.cells #[.bool false, .slice none 0 0] 27)) := (Below.refl _ _).alloc (Nat.le_refl _) _
              have br := Bx.new Wq 27 (.bool false) (.slice none 0 0)
              have l_br_bw := Lib.hid bw.lt
              have l_br_bz := Lib.hid bz.lt
              have l_br_bm := Lib.hid bm.lt
              have s_br := Lib.hid (show w.heap.size ≤ Wq.heap.size from h0.size)
              replace hz := hz.go hal
              replace bw := bw.go hal
              replace bz := bz.go hal
              replace hx := hx.go hal
              replace bm := bm.go hal
              replace hd := hd.go hal
              replace ht := ht.go hal
              replace hq := hq.go hal
              replace hv := hv.go hal
              replace h0 := bel_go h0 h0.size hal
              clear hal
              generalize Wq.heap.size = Bbr at br s_br l_br_bw l_br_bz l_br_bm ⊢
              generalize Wq.alloc (.cells #[.bool false, .slice none 0 0] 27) = Vbr at hz bw bz hx bm hd ht hq hv br h0 ⊢
              refine hK.out _ _ (⟨bw, bz⟩) (fun _ => ?_)
              clear hK K
              (try simp only [Act.put, List.setIfInBounds_toArray, List.set_cons_zero, List.set_cons_succ, List.getElem_toArray, List.getElem_cons_zero, List.getElem_cons_succ])
              refine wpAnyH_ready (rs := [11]) (by kernel_rfl) (by simp) ?_
              refine AllReadyH.cons rfl (fun K hK => ?_) (AllReadyH.nil)
              have hq0 := bm.c0
              have hq1 := bm.c1
              have hr0 := bm.f0
              have hr1 := bm.f1
              go_simp
              clear hq0 hq1 hr0 hr1
              have hP := put2 Vbr Bbm (.bool gq) (.slice pq nq cq)
              have hN := bm.stored (.bool gq) (.slice pq nq cq)
              generalize (Vbr.setCell ⟨Bbm, 0, none⟩ (.bool gq)).setCell ⟨Bbm, 1, none⟩ (.slice pq nq cq) = WZ at hP hN ⊢
              replace hz := hz.put bm (by decide) hP
              replace hx := hx.put bm (by decide) hP
              replace hd := hd.put bm (by decide) hP
              replace ht := ht.put bm (by decide) hP
              replace hq := hq.put bm (by decide) hP
              replace hv := hv.put bm (by decide) hP
              replace bw := bw.put hP (by have := l_bm_bw.out; omega)
              replace bz := bz.put hP (by have := l_bm_bz.out; omega)
              replace br := br.put hP (by have := l_br_bm.out; omega)
              replace h0 := bel_put h0 (by have := s_bm.out; omega) hP
              clear hP bm
              have bm := hN
              clear hN
              refine hK.out _ _ (⟨bw, bz⟩) (fun _ => ?_)
              clear hK K
              (try simp only [Act.put, List.setIfInBounds_toArray, List.set_cons_zero, List.set_cons_succ, List.getElem_toArray, List.getElem_cons_zero, List.getElem_cons_succ])
              refine wpAnyH_done (by kernel_rfl) ?_ _
              refine still1_step rfl (fun K hK => ?_)
              have hq0 := br.c0
              have hq1 := br.c1
              have hr0 := br.f0
              have hr1 := br.f1
              go_simp
              clear hq0 hq1 hr0 hr1
              have hP := put2 WZ Bbr (.bool gv) (.slice pv nv cv)
              have hN := br.stored (.bool gv) (.slice pv nv cv)
              generalize (WZ.setCell ⟨Bbr, 0, none⟩ (.bool gv)).setCell ⟨Bbr, 1, none⟩ (.slice pv nv cv) = WK at hP hN ⊢
              replace hz := hz.put br (by decide) hP
              replace hx := hx.put br (by decide) hP
              replace hd := hd.put br (by decide) hP
              replace ht := ht.put br (by decide) hP
              replace hq := hq.put br (by decide) hP
              replace hv := hv.put br (by decide) hP
              replace bw := bw.put hP (by have := l_br_bw.out; omega)
              replace bz := bz.put hP (by have := l_br_bz.out; omega)
              replace bm := bm.put hP (by have := l_br_bm.out; omega)
              replace h0 := bel_put h0 (by have := s_br.out; omega) hP
              clear hP br
              have br := hN
              clear hN
              refine hK.out _ _ ?_
              clear hK K
              (try simp only [Act.put, List.setIfInBounds_toArray, List.set_cons_zero, List.set_cons_succ, List.getElem_toArray, List.getElem_cons_zero, List.getElem_cons_succ])
              go_wp2_with fail
              go_meet
              case rel => exact ⟨gv, pv, nv, cv, Bbr, rfl, br, hv, h0⟩
            · go_simp
              have hal : Below Wt.heap.size Wt (Wt.alloc (.cells #[.bool false, .slice none 0 0] 27)) := (Below.refl _ _).alloc (Nat.le_refl _) _
              have br := Bx.new Wt 27 (.bool false) (.slice none 0 0)
              have l_br_bw := Lib.hid bw.lt
              have l_br_bz := Lib.hid bz.lt
              have l_br_bm := Lib.hid bm.lt
              have s_br := Lib.hid (show w.heap.size ≤ Wt.heap.size from h0.size)
              replace hz := hz.go hal
              replace bw := bw.go hal
              replace bz := bz.go hal
              replace hx := hx.go hal
              replace bm := bm.go hal
              replace hd := hd.go hal
              replace ht := ht.go hal
              replace h0 := bel_go h0 h0.size hal
              clear hal
              generalize Wt.heap.size = Bbr at br s_br l_br_bw l_br_bz l_br_bm ⊢
              generalize Wt.alloc (.cells #[.bool false, .slice none 0 0] 27) = Vbr at hz bw bz hx bm hd ht br h0 ⊢
              refine hK.out _ _ (⟨bw, bz⟩) (fun _ => ?_)
              clear hK K
              (try simp only [Act.put, List.setIfInBounds_toArray, List.set_cons_zero, List.set_cons_succ, List.getElem_toArray, List.getElem_cons_zero, List.getElem_cons_succ])
              refine wpAnyH_ready (rs := [5]) (by kernel_rfl) (by simp) ?_
              refine AllReadyH.cons rfl (fun K hK => ?_) (AllReadyH.nil)
              go_simp
              go_at_call 33; refine (zsplit_any _ _ (n - z) (2 ^ (16 * 8)) h20 hl1 hl2 _ hd ht).mono ?_
              rintro e Wq ⟨u, v, rfl, hq, hv, hb⟩
              obtain ⟨gq, pq, nq, cq, rfl⟩ := hq.shape
              obtain ⟨gv, pv, nv, cv, rfl⟩ := hv.shape
              replace hz := hz.go hb
              replace bw := bw.go hb
              replace bz := bz.go hb
              replace hx := hx.go hb
              replace bm := bm.go hb
              replace hd := hd.go hb
              replace ht := ht.go hb
              replace br := br.go hb
              replace h0 := bel_go h0 h0.size hb
              clear hb
              refine hK.out _ _ (⟨bw, bz⟩) (fun _ => ?_)
              clear hK K
              (try simp only [Act.put, List.setIfInBounds_toArray, List.set_cons_zero, List.set_cons_succ, List.getElem_toArray, List.getElem_cons_zero, List.getElem_cons_succ])
              refine wpAnyH_take (i := 6) (v := ?_) rfl (by kernel_rfl) (by kernel_rfl) (by kernel_rfl) (fun _ _ _ h => h) (Or.inl ⟨by kernel_rfl, ?_⟩) (⟨bw, bz⟩) ?_
              rotate_left
              focus (intro W' hSw; obtain ⟨hx0, hx1⟩ := hSw; have hc0 := hx0.c0; have hc1 := hx0.c1; have hc2 := hx1.c0; have hc3 := hx1.c1; clear hx0 hx1; go_simp; (try with_reducible rfl))
              (try simp only [Act.put, List.setIfInBounds_toArray, List.set_cons_zero, List.set_cons_succ, List.getElem_toArray, List.getElem_cons_zero, List.getElem_cons_succ])
              refine wpAnyH_take (i := 7) (v := ?_) rfl (by kernel_rfl) (by kernel_rfl) (by kernel_rfl) (fun _ _ _ h => h) (Or.inl ⟨by kernel_rfl, ?_⟩) (⟨bw, bz⟩) ?_
              rotate_left
              focus (intro W' hSw; obtain ⟨hx0, hx1⟩ := hSw; have hc0 := hx0.c0; have hc1 := hx0.c1; have hc2 := hx1.c0; have hc3 := hx1.c1; clear hx0 hx1; go_simp; (try with_reducible rfl))
              (try simp only [Act.put, List.setIfInBounds_toArray, List.set_cons_zero, List.set_cons_succ, List.getElem_toArray, List.getElem_cons_zero, List.getElem_cons_succ])
              refine wpAnyH_take (i := 8) (v := ?_) rfl (by kernel_rfl) (by kernel_rfl) (by kernel_rfl) (fun _ _ _ h => h) (Or.inl ⟨by kernel_rfl, ?_⟩) (⟨bw, bz⟩) ?_
              rotate_left
              focus (intro W' hSw; obtain ⟨hx0, hx1⟩ := hSw; have hc0 := hx0.c0; have hc1 := hx0.c1; have hc2 := hx1.c0; have hc3 := hx1.c1; clear hx0 hx1; go_simp; (try with_reducible rfl))
              (try simp only [Act.put, List.setIfInBounds_toArray, List.set_cons_zero, List.set_cons_succ, List.getElem_toArray, List.getElem_cons_zero, List.getElem_cons_succ])
              refine wpAnyH_ready (rs := [11]) (by kernel_rfl) (by simp) ?_
              refine AllReadyH.cons rfl (fun K hK => ?_) (AllReadyH.nil)
              have hq0 := bm.c0
              have hq1 := bm.c1
              have hr0 := bm.f0
              have hr1 := bm.f1
              go_simp
              clear hq0 hq1 hr0 hr1
              have hP := put2 Wq Bbm (.bool gq) (.slice pq nq cq)
              have hN := bm.stored (.bool gq) (.slice pq nq cq)
              generalize (Wq.setCell ⟨Bbm, 0, none⟩ (.bool gq)).setCell ⟨Bbm, 1, none⟩ (.slice pq nq cq) = WZ at hP hN ⊢
              replace hz := hz.put bm (by decide) hP
              replace hx := hx.put bm (by decide) hP
              replace hd := hd.put bm (by decide) hP
              replace ht := ht.put bm (by decide) hP
              replace hq := hq.put bm (by decide) hP
              replace hv := hv.put bm (by decide) hP
              replace bw := bw.put hP (by have := l_bm_bw.out; omega)
              replace bz := bz.put hP (by have := l_bm_bz.out; omega)
              replace br := br.put hP (by have := l_br_bm.out; omega)
              replace h0 := bel_put h0 (by have := s_bm.out; omega) hP
              clear hP bm
              have bm := hN
              clear hN
              refine hK.out _ _ (⟨bw, bz⟩) (fun _ => ?_)
              clear hK K
              (try simp only [Act.put, List.setIfInBounds_toArray, List.set_cons_zero, List.set_cons_succ, List.getElem_toArray, List.getElem_cons_zero, List.getElem_cons_succ])
              refine wpAnyH_done (by kernel_rfl) ?_ _
              refine still1_step rfl (fun K hK => ?_)
              have hq0 := br.c0
              have hq1 := br.c1
              have hr0 := br.f0
              have hr1 := br.f1
              go_simp
              clear hq0 hq1 hr0 hr1
              have hP := put2 WZ Bbr (.bool gv) (.slice pv nv cv)
              have hN := br.stored (.bool gv) (.slice pv nv cv)
              generalize (WZ.setCell ⟨Bbr, 0, none⟩ (.bool gv)).setCell ⟨Bbr, 1, none⟩ (.slice pv nv cv) = WK at hP hN ⊢
              replace hz := hz.put br (by decide) hP
              replace hx := hx.put br (by decide) hP
              replace hd := hd.put br (by decide) hP
              replace ht := ht.put br (by decide) hP
              replace hq := hq.put br (by decide) hP
              replace hv := hv.put br (by decide) hP
              replace bw := bw.put hP (by have := l_br_bw.out; omega)
              replace bz := bz.put hP (by have := l_br_bz.out; omega)
              replace bm := bm.put hP (by have := l_br_bm.out; omega)
              replace h0 := bel_put h0 (by have := s_br.out; omega) hP
              clear hP br
              have br := hN
              clear hN
              refine hK.out _ _ ?_
              clear hK K
              (try simp only [Act.put, List.setIfInBounds_toArray, List.set_cons_zero, List.set_cons_succ, List.getElem_toArray, List.getElem_cons_zero, List.getElem_cons_succ])
              go_wp2_with fail
              go_meet
              case rel => exact ⟨gv, pv, nv, cv, Bbr, rfl, br, hv, h0⟩
          · go_simp
            have hal : Below Wd.heap.size Wd (Wd.alloc (.cells #[.bool false, .slice none 0 0] 27)) := (Below.refl _ _).alloc (Nat.le_refl _) _
            have br := Bx.new Wd 27 (.bool false) (.slice none 0 0)
            have l_br_bw := Lib.hid bw.lt
            have l_br_bz := Lib.hid bz.lt
            have l_br_bm := Lib.hid bm.lt
            have s_br := Lib.hid (show w.heap.size ≤ Wd.heap.size from h0.size)
            replace hz := hz.go hal
            replace bw := bw.go hal
            replace bz := bz.go hal
            replace hx := hx.go hal
            replace bm := bm.go hal
            replace hd := hd.go hal
            replace h0 := bel_go h0 h0.size hal
            clear hal
            generalize Wd.heap.size = Bbr at br s_br l_br_bw l_br_bz l_br_bm ⊢
            generalize Wd.alloc (.cells #[.bool false, .slice none 0 0] 27) = Vbr at hz bw bz hx bm hd br h0 ⊢
            refine hK.out _ _ (⟨bw, bz⟩) (fun _ => ?_)
            clear hK K
            (try simp only [Act.put, List.setIfInBounds_toArray, List.set_cons_zero, List.set_cons_succ, List.getElem_toArray, List.getElem_cons_zero, List.getElem_cons_succ])
            refine wpAnyH_ready (rs := [4]) (by kernel_rfl) (by simp) ?_
            refine AllReadyH.cons rfl (fun K hK => ?_) (AllReadyH.nil)
            go_simp
            go_at_call 48; refine (two_any 8 (by omega) _).mono ?_
            rintro e Wt ⟨u, rfl, ht, hb⟩
            obtain ⟨gt, pt, nt, ct, rfl⟩ := ht.shape
            replace hz := hz.go hb
            replace bw := bw.go hb
            replace bz := bz.go hb
            replace hx := hx.go hb
            replace bm := bm.go hb
            replace hd := hd.go hb
            replace br := br.go hb
            replace h0 := bel_go h0 h0.size hb
            clear hb
            refine hK.out _ _ (⟨bw, bz⟩) (fun _ => ?_)
            clear hK K
            (try simp only [Act.put, List.setIfInBounds_toArray, List.set_cons_zero, List.set_cons_succ, List.getElem_toArray, List.getElem_cons_zero, List.getElem_cons_succ])
            refine wpAnyH_ready (rs := [5]) (by kernel_rfl) (by simp) ?_
            refine AllReadyH.cons rfl (fun K hK => ?_) (AllReadyH.nil)
            go_simp
            go_at_call 33; refine (zsplit_any _ _ (n - z) (2 ^ (16 * 8)) h20 hl1 hl2 _ hd ht).mono ?_
            rintro e Wq ⟨u, v, rfl, hq, hv, hb⟩
            obtain ⟨gq, pq, nq, cq, rfl⟩ := hq.shape
            obtain ⟨gv, pv, nv, cv, rfl⟩ := hv.shape
            replace hz := hz.go hb
            replace bw := bw.go hb
            replace bz := bz.go hb
            replace hx := hx.go hb
            replace bm := bm.go hb
            replace hd := hd.go hb
            replace br := br.go hb
            replace ht := ht.go hb
            replace h0 := bel_go h0 h0.size hb
            clear hb
            refine hK.out _ _ (⟨bw, bz⟩) (fun _ => ?_)
            clear hK K
            (try simp only [Act.put, List.setIfInBounds_toArray, List.set_cons_zero, List.set_cons_succ, List.getElem_toArray, List.getElem_cons_zero, List.getElem_cons_succ])
            refine wpAnyH_take (i := 6) (v := ?_) rfl (by kernel_rfl) (by kernel_rfl) (by kernel_rfl) (fun _ _ _ h => h) (Or.inl ⟨by kernel_rfl, ?_⟩) (⟨bw, bz⟩) ?_
            rotate_left
            focus (intro W' hSw; obtain ⟨hx0, hx1⟩ := hSw; have hc0 := hx0.c0; have hc1 := hx0.c1; have hc2 := hx1.c0; have hc3 := hx1.c1; clear hx0 hx1; go_simp; (try with_reducible rfl))
            (try simp only [Act.put, List.setIfInBounds_toArray, List.set_cons_zero, List.set_cons_succ, List.getElem_toArray, List.getElem_cons_zero, List.getElem_cons_succ])
            refine wpAnyH_take (i := 7) (v := ?_) rfl (by kernel_rfl) (by kernel_rfl) (by kernel_rfl) (fun _ _ _ h => h) (Or.inl ⟨by kernel_rfl, ?_⟩) (⟨bw, bz⟩) ?_
            rotate_left
            focus (intro W' hSw; obtain ⟨hx0, hx1⟩ := hSw; have hc0 := hx0.c0; have hc1 := hx0.c1; have hc2 := hx1.c0; have hc3 := hx1.c1; clear hx0 hx1; go_simp; (try with_reducible rfl))
            (try simp only [Act.put, List.setIfInBounds_toArray, List.set_cons_zero, List.set_cons_succ, List.getElem_toArray, List.getElem_cons_zero, List.getElem_cons_succ])
            refine wpAnyH_take (i := 8) (v := ?_) rfl (by kernel_rfl) (by kernel_rfl) (by kernel_rfl) (fun _ _ _ h => h) (Or.inl ⟨by kernel_rfl, ?_⟩) (⟨bw, bz⟩) ?_
            rotate_left
            focus (intro W' hSw; obtain ⟨hx0, hx1⟩ := hSw; have hc0 := hx0.c0; have hc1 := hx0.c1; have hc2 := hx1.c0; have hc3 := hx1.c1; clear hx0 hx1; go_simp; (try with_reducible rfl))
            (try simp only [Act.put, List.setIfInBounds_toArray, List.set_cons_zero, List.set_cons_succ, List.getElem_toArray, List.getElem_cons_zero, List.getElem_cons_succ])
            refine wpAnyH_ready (rs := [11]) (by kernel_rfl) (by simp) ?_
            refine AllReadyH.cons rfl (fun K hK => ?_) (AllReadyH.nil)
            have hq0 := bm.c0
            have hq1 := bm.c1
            have hr0 := bm.f0
            have hr1 := bm.f1
            go_simp
            clear hq0 hq1 hr0 hr1
            have hP := put2 Wq Bbm (.bool gq) (.slice pq nq cq)
            have hN := bm.stored (.bool gq) (.slice pq nq cq)
            generalize (Wq.setCell ⟨Bbm, 0, none⟩ (.bool gq)).setCell ⟨Bbm, 1, none⟩ (.slice pq nq cq) = WZ at hP hN ⊢
            replace hz := hz.put bm (by decide) hP
            replace hx := hx.put bm (by decide) hP
            replace hd := hd.put bm (by decide) hP
            replace ht := ht.put bm (by decide) hP
            replace hq := hq.put bm (by decide) hP
            replace hv := hv.put bm (by decide) hP
            replace bw := bw.put hP (by have := l_bm_bw.out; omega)
            replace bz := bz.put hP (by have := l_bm_bz.out; omega)
            replace br := br.put hP (by have := l_br_bm.out; omega)
            replace h0 := bel_put h0 (by have := s_bm.out; omega) hP
            clear hP bm
            have bm := hN
            clear hN
            refine hK.out _ _ (⟨bw, bz⟩) (fun _ => ?_)
            clear hK K
            (try simp only [Act.put, List.setIfInBounds_toArray, List.set_cons_zero, List.set_cons_succ, List.getElem_toArray, List.getElem_cons_zero, List.getElem_cons_succ])
            refine wpAnyH_done (by kernel_rfl) ?_ _
            refine still1_step rfl (fun K hK => ?_)
            have hq0 := br.c0
            have hq1 := br.c1
            have hr0 := br.f0
            have hr1 := br.f1
            go_simp
            clear hq0 hq1 hr0 hr1
            have hP := put2 WZ Bbr (.bool gv) (.slice pv nv cv)
            have hN := br.stored (.bool gv) (.slice pv nv cv)
            generalize (WZ.setCell ⟨Bbr, 0, none⟩ (.bool gv)).setCell ⟨Bbr, 1, none⟩ (.slice pv nv cv) = WK at hP hN ⊢
            replace hz := hz.put br (by decide) hP
            replace hx := hx.put br (by decide) hP
            replace hd := hd.put br (by decide) hP
            replace ht := ht.put br (by decide) hP
            replace hq := hq.put br (by decide) hP
            replace hv := hv.put br (by decide) hP
            replace bw := bw.put hP (by have := l_br_bw.out; omega)
            replace bz := bz.put hP (by have := l_br_bz.out; omega)
            replace bm := bm.put hP (by have := l_br_bm.out; omega)
            replace h0 := bel_put h0 (by have := s_br.out; omega) hP
            clear hP br
            have br := hN
            clear hN
            refine hK.out _ _ ?_
            clear hK K
            (try simp only [Act.put, List.setIfInBounds_toArray, List.set_cons_zero, List.set_cons_succ, List.getElem_toArray, List.getElem_cons_zero, List.getElem_cons_succ])
            go_wp2_with fail
            go_meet
            case rel => exact ⟨gv, pv, nv, cv, Bbr, rfl, br, hv, h0⟩
        · go_simp
          have hal : Below Vbm.heap.size Vbm (Vbm.alloc (.cells #[.bool false, .slice none 0 0] 27)) := (Below.refl _ _).alloc (Nat.le_refl _) _
          have br := Bx.new Vbm 27 (.bool false) (.slice none 0 0)
          have l_br_bw := Lib.hid bw.lt
          have l_br_bz := Lib.hid bz.lt
          have l_br_bm := Lib.hid bm.lt
          have s_br := Lib.hid (show w.heap.size ≤ Vbm.heap.size from h0.size)
          replace hz := hz.go hal
          replace bw := bw.go hal
          replace bz := bz.go hal
          replace hx := hx.go hal
          replace bm := bm.go hal
          replace h0 := bel_go h0 h0.size hal
          clear hal
          generalize Vbm.heap.size = Bbr at br s_br l_br_bw l_br_bz l_br_bm ⊢
          generalize Vbm.alloc (.cells #[.bool false, .slice none 0 0] 27) = Vbr at hz bw bz hx bm br h0 ⊢
          refine hK.out _ _ (⟨bw, bz⟩) (fun _ => ?_)
          clear hK K
          (try simp only [Act.put, List.setIfInBounds_toArray, List.set_cons_zero, List.set_cons_succ, List.getElem_toArray, List.getElem_cons_zero, List.getElem_cons_succ])
          refine wpAnyH_ready (rs := [3]) (by kernel_rfl) (by simp) ?_
          refine AllReadyH.cons rfl (fun K hK => ?_) (AllReadyH.nil)
          go_simp
          go_at_call 27; refine (zless_any _ _ n z sn sz _ hx hz).mono ?_
          rintro e Wd ⟨u, rfl, hd, hb⟩
          obtain ⟨gd, pd, nd, cd, rfl⟩ := hd.shape
          replace hz := hz.go hb
          replace bw := bw.go hb
          replace bz := bz.go hb
          replace hx := hx.go hb
          replace bm := bm.go hb
          replace br := br.go hb
          replace h0 := bel_go h0 h0.size hb
          clear hb
          refine hK.out _ _ (⟨bw, bz⟩) (fun _ => ?_)
          clear hK K
          (try simp only [Act.put, List.setIfInBounds_toArray, List.set_cons_zero, List.set_cons_succ, List.getElem_toArray, List.getElem_cons_zero, List.getElem_cons_succ])
          refine wpAnyH_ready (rs := [4]) (by kernel_rfl) (by simp) ?_
          refine AllReadyH.cons rfl (fun K hK => ?_) (AllReadyH.nil)
          go_simp
          go_at_call 48; refine (two_any 8 (by omega) _).mono ?_
          rintro e Wt ⟨u, rfl, ht, hb⟩
          obtain ⟨gt, pt, nt, ct, rfl⟩ := ht.shape
          replace hz := hz.go hb
          replace bw := bw.go hb
          replace bz := bz.go hb
          replace hx := hx.go hb
          replace bm := bm.go hb
          replace br := br.go hb
          replace hd := hd.go hb
          replace h0 := bel_go h0 h0.size hb
          clear hb
          refine hK.out _ _ (⟨bw, bz⟩) (fun _ => ?_)
          clear hK K
          (try simp only [Act.put, List.setIfInBounds_toArray, List.set_cons_zero, List.set_cons_succ, List.getElem_toArray, List.getElem_cons_zero, List.getElem_cons_succ])
          refine wpAnyH_ready (rs := [5]) (by kernel_rfl) (by simp) ?_
          refine AllReadyH.cons rfl (fun K hK => ?_) (AllReadyH.nil)
          go_simp
          go_at_call 33; refine (zsplit_any _ _ (n - z) (2 ^ (16 * 8)) h20 hl1 hl2 _ hd ht).mono ?_
          rintro e Wq ⟨u, v, rfl, hq, hv, hb⟩
          obtain ⟨gq, pq, nq, cq, rfl⟩ := hq.shape
          obtain ⟨gv, pv, nv, cv, rfl⟩ := hv.shape
          replace hz := hz.go hb
          replace bw := bw.go hb
          replace bz := bz.go hb
          replace hx := hx.go hb
          replace bm := bm.go hb
          replace br := br.go hb
          replace hd := hd.go hb
          replace ht := ht.go hb
          replace h0 := bel_go h0 h0.size hb
          clear hb
          refine hK.out _ _ (⟨bw, bz⟩) (fun _ => ?_)
          clear hK K
          (try simp only [Act.put, List.setIfInBounds_toArray, List.set_cons_zero, List.set_cons_succ, List.getElem_toArray, List.getElem_cons_zero, List.getElem_cons_succ])
          refine wpAnyH_take (i := 6) (v := ?_) rfl (by kernel_rfl) (by kernel_rfl) (by kernel_rfl) (fun _ _ _ h => h) (Or.inl ⟨by kernel_rfl, ?_⟩) (⟨bw, bz⟩) ?_
          rotate_left
          focus (intro W' hSw; obtain ⟨hx0, hx1⟩ := hSw; have hc0 := hx0.c0; have hc1 := hx0.c1; have hc2 := hx1.c0; have hc3 := hx1.c1; clear hx0 hx1; go_simp; (try with_reducible rfl))
          (try simp only [Act.put, List.setIfInBounds_toArray, List.set_cons_zero, List.set_cons_succ, List.getElem_toArray, List.getElem_cons_zero, List.getElem_cons_succ])
          refine wpAnyH_take (i := 7) (v := ?_) rfl (by kernel_rfl) (by kernel_rfl) (by kernel_rfl) (fun _ _ _ h => h) (Or.inl ⟨by kernel_rfl, ?_⟩) (⟨bw, bz⟩) ?_
          rotate_left
          focus (intro W' hSw; obtain ⟨hx0, hx1⟩ := hSw; have hc0 := hx0.c0; have hc1 := hx0.c1; have hc2 := hx1.c0; have hc3 := hx1.c1; clear hx0 hx1; go_simp; (try with_reducible rfl))
          (try simp only [Act.put, List.setIfInBounds_toArray, List.set_cons_zero, List.set_cons_succ, List.getElem_toArray, List.getElem_cons_zero, List.getElem_cons_succ])
          refine wpAnyH_take (i := 8) (v := ?_) rfl (by kernel_rfl) (by kernel_rfl) (by kernel_rfl) (fun _ _ _ h => h) (Or.inl ⟨by kernel_rfl, ?_⟩) (⟨bw, bz⟩) ?_
          rotate_left
          focus (intro W' hSw; obtain ⟨hx0, hx1⟩ := hSw; have hc0 := hx0.c0; have hc1 := hx0.c1; have hc2 := hx1.c0; have hc3 := hx1.c1; clear hx0 hx1; go_simp; (try with_reducible rfl))
          (try simp only [Act.put, List.setIfInBounds_toArray, List.set_cons_zero, List.set_cons_succ, List.getElem_toArray, List.getElem_cons_zero, List.getElem_cons_succ])
          refine wpAnyH_ready (rs := [11]) (by kernel_rfl) (by simp) ?_
          refine AllReadyH.cons rfl (fun K hK => ?_) (AllReadyH.nil)
          have hq0 := bm.c0
          have hq1 := bm.c1
          have hr0 := bm.f0
          have hr1 := bm.f1
          go_simp
          clear hq0 hq1 hr0 hr1
          have hP := put2 Wq Bbm (.bool gq) (.slice pq nq cq)
          have hN := bm.stored (.bool gq) (.slice pq nq cq)
          generalize (Wq.setCell ⟨Bbm, 0, none⟩ (.bool gq)).setCell ⟨Bbm, 1, none⟩ (.slice pq nq cq) = WZ at hP hN ⊢
          replace hz := hz.put bm (by decide) hP
          replace hx := hx.put bm (by decide) hP
          replace hd := hd.put bm (by decide) hP
          replace ht := ht.put bm (by decide) hP
          replace hq := hq.put bm (by decide) hP
          replace hv := hv.put bm (by decide) hP
          replace bw := bw.put hP (by have := l_bm_bw.out; omega)
          replace bz := bz.put hP (by have := l_bm_bz.out; omega)
          replace br := br.put hP (by have := l_br_bm.out; omega)
          replace h0 := bel_put h0 (by have := s_bm.out; omega) hP
          clear hP bm
          have bm := hN
          clear hN
          refine hK.out _ _ (⟨bw, bz⟩) (fun _ => ?_)
          clear hK K
          (try simp only [Act.put, List.setIfInBounds_toArray, List.set_cons_zero, List.set_cons_succ, List.getElem_toArray, List.getElem_cons_zero, List.getElem_cons_succ])
          refine wpAnyH_done (by kernel_rfl) ?_ _
          refine still1_step rfl (fun K hK => ?_)
          have hq0 := br.c0
          have hq1 := br.c1
          have hr0 := br.f0
          have hr1 := br.f1
          go_simp
          clear hq0 hq1 hr0 hr1
          have hP := put2 WZ Bbr (.bool gv) (.slice pv nv cv)
          have hN := br.stored (.bool gv) (.slice pv nv cv)
          generalize (WZ.setCell ⟨Bbr, 0, none⟩ (.bool gv)).setCell ⟨Bbr, 1, none⟩ (.slice pv nv cv) = WK at hP hN ⊢
          replace hz := hz.put br (by decide) hP
          replace hx := hx.put br (by decide) hP
          replace hd := hd.put br (by decide) hP
          replace ht := ht.put br (by decide) hP
          replace hq := hq.put br (by decide) hP
          replace hv := hv.put br (by decide) hP
          replace bw := bw.put hP (by have := l_br_bw.out; omega)
          replace bz := bz.put hP (by have := l_br_bz.out; omega)
          replace bm := bm.put hP (by have := l_br_bm.out; omega)
          replace h0 := bel_put h0 (by have := s_br.out; omega) hP
          clear hP br
          have br := hN
          clear hN
          refine hK.out _ _ ?_
          clear hK K
          (try simp only [Act.put, List.setIfInBounds_toArray, List.set_cons_zero, List.set_cons_succ, List.getElem_toArray, List.getElem_cons_zero, List.getElem_cons_succ])
          go_wp2_with fail
          go_meet
          case rel => exact ⟨gv, pv, nv, cv, Bbr, rfl, br, hv, h0⟩
      · go_simp
        have hal : Below Wx.heap.size Wx (Wx.alloc (.cells #[.bool false, .slice none 0 0] 27)) := (Below.refl _ _).alloc (Nat.le_refl _) _
        have br := Bx.new Wx 27 (.bool false) (.slice none 0 0)
        have l_br_bw := Lib.hid bw.lt
        have l_br_bz := Lib.hid bz.lt
        have s_br := Lib.hid (show w.heap.size ≤ Wx.heap.size from h0.size)
        replace hz := hz.go hal
        replace bw := bw.go hal
        replace bz := bz.go hal
        replace hx := hx.go hal
        replace h0 := bel_go h0 h0.size hal
        clear hal
        generalize Wx.heap.size = Bbr at br s_br l_br_bw l_br_bz ⊢
        generalize Wx.alloc (.cells #[.bool false, .slice none 0 0] 27) = Vbr at hz bw bz hx br h0 ⊢
        refine hK.out _ _ (⟨bw, bz⟩) (fun _ => ?_)
        clear hK K
        (try simp only [Act.put, List.setIfInBounds_toArray, List.set_cons_zero, List.set_cons_succ, List.getElem_toArray, List.getElem_cons_zero, List.getElem_cons_succ])
        refine wpAnyH_ready (rs := [3, 9]) (by kernel_rfl) (by simp) ?_
        refine AllReadyH.cons rfl (fun K hK => ?_) (AllReadyH.cons rfl (fun K hK => ?_) (AllReadyH.nil))
        · go_simp
          go_at_call 27; refine (zless_any _ _ n z sn sz _ hx hz).mono ?_
          rintro e Wd ⟨u, rfl, hd, hb⟩
          obtain ⟨gd, pd, nd, cd, rfl⟩ := hd.shape
          replace hz := hz.go hb
          replace bw := bw.go hb
          replace bz := bz.go hb
          replace hx := hx.go hb
          replace br := br.go hb
          replace h0 := bel_go h0 h0.size hb
          clear hb
          refine hK.out _ _ (⟨bw, bz⟩) (fun _ => ?_)
          clear hK K
          (try simp only [Act.put, List.setIfInBounds_toArray, List.set_cons_zero, List.set_cons_succ, List.getElem_toArray, List.getElem_cons_zero, List.getElem_cons_succ])
          refine wpAnyH_ready (rs := [4, 9]) (by kernel_rfl) (by simp) ?_
          refine AllReadyH.cons rfl (fun K hK => ?_) (AllReadyH.cons rfl (fun K hK => ?_) (AllReadyH.nil))
          · go_simp
            go_at_call 48; refine (two_any 8 (by omega) _).mono ?_
            rintro e Wt ⟨u, rfl, ht, hb⟩
            obtain ⟨gt, pt, nt, ct, rfl⟩ := ht.shape
            replace hz := hz.go hb
            replace bw := bw.go hb
            replace bz := bz.go hb
            replace hx := hx.go hb
            replace br := br.go hb
            replace hd := hd.go hb
            replace h0 := bel_go h0 h0.size hb
            clear hb
            refine hK.out _ _ (⟨bw, bz⟩) (fun _ => ?_)
            clear hK K
            (try simp only [Act.put, List.setIfInBounds_toArray, List.set_cons_zero, List.set_cons_succ, List.getElem_toArray, List.getElem_cons_zero, List.getElem_cons_succ])
            refine wpAnyH_ready (rs := [5, 9]) (by kernel_rfl) (by simp) ?_
            refine AllReadyH.cons rfl (fun K hK => ?_) (AllReadyH.cons rfl (fun K hK => ?_) (AllReadyH.nil))
            · go_simp
              go_at_call 33; refine (zsplit_any _ _ (n - z) (2 ^ (16 * 8)) h20 hl1 hl2 _ hd ht).mono ?_
              rintro e Wq ⟨u, v, rfl, hq, hv, hb⟩
              obtain ⟨gq, pq, nq, cq, rfl⟩ := hq.shape
              obtain ⟨gv, pv, nv, cv, rfl⟩ := hv.shape
              replace hz := hz.go hb
              replace bw := bw.go hb
              replace bz := bz.go hb
              replace hx := hx.go hb
              replace br := br.go hb
              replace hd := hd.go hb
              replace ht := ht.go hb
              replace h0 := bel_go h0 h0.size hb
              clear hb
              refine hK.out _ _ (⟨bw, bz⟩) (fun _ => ?_)
              clear hK K
              (try simp only [Act.put, List.setIfInBounds_toArray, List.set_cons_zero, List.set_cons_succ, List.getElem_toArray, List.getElem_cons_zero, List.getElem_cons_succ])
              refine wpAnyH_take (i := 6) (v := ?_) rfl (by kernel_rfl) (by kernel_rfl) (by kernel_rfl) (fun _ _ _ h => h) (Or.inl ⟨by kernel_rfl, ?_⟩) (⟨bw, bz⟩) ?_
              rotate_left
              focus (intro W' hSw; obtain ⟨hx0, hx1⟩ := hSw; have hc0 := hx0.c0; have hc1 := hx0.c1; have hc2 := hx1.c0; have hc3 := hx1.c1; clear hx0 hx1; go_simp; (try with_reducible rfl))
              (try simp only [Act.put, List.setIfInBounds_toArray, List.set_cons_zero, List.set_cons_succ, List.getElem_toArray, List.getElem_cons_zero, List.getElem_cons_succ])
              refine wpAnyH_take (i := 7) (v := ?_) rfl (by kernel_rfl) (by kernel_rfl) (by kernel_rfl) (fun _ _ _ h => h) (Or.inl ⟨by kernel_rfl, ?_⟩) (⟨bw, bz⟩) ?_
              rotate_left
              focus (intro W' hSw; obtain ⟨hx0, hx1⟩ := hSw; have hc0 := hx0.c0; have hc1 := hx0.c1; have hc2 := hx1.c0; have hc3 := hx1.c1; clear hx0 hx1; go_simp; (try with_reducible rfl))
              (try simp only [Act.put, List.setIfInBounds_toArray, List.set_cons_zero, List.set_cons_succ, List.getElem_toArray, List.getElem_cons_zero, List.getElem_cons_succ])
              refine wpAnyH_take (i := 8) (v := ?_) rfl (by kernel_rfl) (by kernel_rfl) (by kernel_rfl) (fun _ _ _ h => h) (Or.inl ⟨by kernel_rfl, ?_⟩) (⟨bw, bz⟩) ?_
              rotate_left
              focus (intro W' hSw; obtain ⟨hx0, hx1⟩ := hSw; have hc0 := hx0.c0; have hc1 := hx0.c1; have hc2 := hx1.c0; have hc3 := hx1.c1; clear hx0 hx1; go_simp; (try with_reducible rfl))
              (try simp only [Act.put, List.setIfInBounds_toArray, List.set_cons_zero, List.set_cons_succ, List.getElem_toArray, List.getElem_cons_zero, List.getElem_cons_succ])
              refine wpAnyH_ready (rs := [9]) (by kernel_rfl) (by simp) ?_
              refine AllReadyH.cons rfl (fun K hK => ?_) (AllReadyH.nil)
              go_simp
              have hal : Below Wq.heap.size Wq (Wq.alloc (.cells #[.bool false, .slice none 0 0] 27)) := (Below.refl _ _).alloc (Nat.le_refl _) _
              have bm := Bx.new Wq 27 (.bool false) (.slice none 0 0)
              have l_bm_bw := Lib.hid bw.lt
              have l_bm_bz := Lib.hid bz.lt
              have l_bm_br := Lib.hid br.lt
              have s_bm := Lib.hid (show w.heap.size ≤ Wq.heap.size from h0.size)
              replace hz := hz.go hal
              replace bw := bw.go hal
              replace bz := bz.go hal
              replace hx := hx.go hal
              replace br := br.go hal
              replace hd := hd.go hal
              replace ht := ht.go hal
              replace hq := hq.go hal
              replace hv := hv.go hal
              replace h0 := bel_go h0 h0.size hal
              clear hal
              generalize Wq.heap.size = Bbm at bm s_bm l_bm_bw l_bm_bz l_bm_br ⊢
              generalize Wq.alloc (.cells #[.bool false, .slice none 0 0] 27) = Vbm at hz bw bz hx br hd ht hq hv bm h0 ⊢
              refine hK.out _ _ (⟨bw, bz⟩) (fun _ => ?_)
              clear hK K
              (try simp only [Act.put, List.setIfInBounds_toArray, List.set_cons_zero, List.set_cons_succ, List.getElem_toArray, List.getElem_cons_zero, List.getElem_cons_succ])
              refine wpAnyH_ready (rs := [11]) (by kernel_rfl) (by simp) ?_
              refine AllReadyH.cons rfl (fun K hK => ?_) (AllReadyH.nil)
              have hq0 := bm.c0
              have hq1 := bm.c1
              have hr0 := bm.f0
              have hr1 := bm.f1
              go_simp
              clear hq0 hq1 hr0 hr1
              have hP := put2 Vbm Bbm (.bool gq) (.slice pq nq cq)
              have hN := bm.stored (.bool gq) (.slice pq nq cq)
              generalize (Vbm.setCell ⟨Bbm, 0, none⟩ (.bool gq)).setCell ⟨Bbm, 1, none⟩ (.slice pq nq cq) = WZ at hP hN ⊢
              replace hz := hz.put bm (by decide) hP
              replace hx := hx.put bm (by decide) hP
              replace hd := hd.put bm (by decide) hP
              replace ht := ht.put bm (by decide) hP
              replace hq := hq.put bm (by decide) hP
              replace hv := hv.put bm (by decide) hP
              replace bw := bw.put hP (by have := l_bm_bw.out; omega)
              replace bz := bz.put hP (by have := l_bm_bz.out; omega)
              replace br := br.put hP (by have := l_bm_br.out; omega)
              replace h0 := bel_put h0 (by have := s_bm.out; omega) hP
              clear hP bm
              have bm := hN
              clear hN
              refine hK.out _ _ (⟨bw, bz⟩) (fun _ => ?_)
              clear hK K
              (try simp only [Act.put, List.setIfInBounds_toArray, List.set_cons_zero, List.set_cons_succ, List.getElem_toArray, List.getElem_cons_zero, List.getElem_cons_succ])
              refine wpAnyH_done (by kernel_rfl) ?_ _
              refine still1_step rfl (fun K hK => ?_)
              have hq0 := br.c0
              have hq1 := br.c1
              have hr0 := br.f0
              have hr1 := br.f1
              go_simp
              clear hq0 hq1 hr0 hr1
              have hP := put2 WZ Bbr (.bool gv) (.slice pv nv cv)
              have hN := br.stored (.bool gv) (.slice pv nv cv)
              generalize (WZ.setCell ⟨Bbr, 0, none⟩ (.bool gv)).setCell ⟨Bbr, 1, none⟩ (.slice pv nv cv) = WK at hP hN ⊢
              replace hz := hz.put br (by decide) hP
              replace hx := hx.put br (by decide) hP
              replace hd := hd.put br (by decide) hP
              replace ht := ht.put br (by decide) hP
              replace hq := hq.put br (by decide) hP
              replace hv := hv.put br (by decide) hP
              replace bw := bw.put hP (by have := l_br_bw.out; omega)
              replace bz := bz.put hP (by have := l_br_bz.out; omega)
              replace bm := bm.put hP (by have := l_bm_br.out; omega)
              replace h0 := bel_put h0 (by have := s_br.out; omega) hP
              clear hP br
              have br := hN
              clear hN
              refine hK.out _ _ ?_
              clear hK K
              (try simp only [Act.put, List.setIfInBounds_toArray, List.set_cons_zero, List.set_cons_succ, List.getElem_toArray, List.getElem_cons_zero, List.getElem_cons_succ])
              go_wp2_with fail
              go_meet
              case rel => exact ⟨gv, pv, nv, cv, Bbr, rfl, br, hv, h0⟩
            · go_simp
              have hal : Below Wt.heap.size Wt (Wt.alloc (.cells #[.bool false, .slice none 0 0] 27)) := (Below.refl _ _).alloc (Nat.le_refl _) _
              have bm := Bx.new Wt 27 (.bool false) (.slice none 0 0)
              have l_bm_bw := Lib.hid bw.lt
              have l_bm_bz := Lib.hid bz.lt
              have l_bm_br := Lib.hid br.lt
              have s_bm := Lib.hid (show w.heap.size ≤ Wt.heap.size from h0.size)
              replace hz := hz.go hal
              replace bw := bw.go hal
              replace bz := bz.go hal
              replace hx := hx.go hal
              replace br := br.go hal
              replace hd := hd.go hal
              replace ht := ht.go hal
              replace h0 := bel_go h0 h0.size hal
              clear hal
              generalize Wt.heap.size = Bbm at bm s_bm l_bm_bw l_bm_bz l_bm_br ⊢
              generalize Wt.alloc (.cells #[.bool false, .slice none 0 0] 27) = Vbm at hz bw bz hx br hd ht bm h0 ⊢
              refine hK.out _ _ (⟨bw, bz⟩) (fun _ => ?_)
              clear hK K
              (try simp only [Act.put, List.setIfInBounds_toArray, List.set_cons_zero, List.set_cons_succ, List.getElem_toArray, List.getElem_cons_zero, List.getElem_cons_succ])
              refine wpAnyH_ready (rs := [5]) (by kernel_rfl) (by simp) ?_
              refine AllReadyH.cons rfl (fun K hK => ?_) (AllReadyH.nil)
              go_simp
              go_at_call 33; refine (zsplit_any _ _ (n - z) (2 ^ (16 * 8)) h20 hl1 hl2 _ hd ht).mono ?_
              rintro e Wq ⟨u, v, rfl, hq, hv, hb⟩
              obtain ⟨gq, pq, nq, cq, rfl⟩ := hq.shape
              obtain ⟨gv, pv, nv, cv, rfl⟩ := hv.shape
              replace hz := hz.go hb
              replace bw := bw.go hb
              replace bz := bz.go hb
              replace hx := hx.go hb
              replace br := br.go hb
              replace hd := hd.go hb
              replace ht := ht.go hb
              replace bm := bm.go hb
              replace h0 := bel_go h0 h0.size hb
              clear hb
              refine hK.out _ _ (⟨bw, bz⟩) (fun _ => ?_)
              clear hK K
              (try simp only [Act.put, List.setIfInBounds_toArray, List.set_cons_zero, List.set_cons_succ, List.getElem_toArray, List.getElem_cons_zero, List.getElem_cons_succ])
              refine wpAnyH_take (i := 6) (v := ?_) rfl (by kernel_rfl) (by kernel_rfl) (by kernel_rfl) (fun _ _ _ h => h) (Or.inl ⟨by kernel_rfl, ?_⟩) (⟨bw, bz⟩) ?_
              rotate_left
              focus (intro W' hSw; obtain ⟨hx0, hx1⟩ := hSw; have hc0 := hx0.c0; have hc1 := hx0.c1; have hc2 := hx1.c0; have hc3 := hx1.c1; clear hx0 hx1; go_simp; (try with_reducible rfl))
              (try simp only [Act.put, List.setIfInBounds_toArray, List.set_cons_zero, List.set_cons_succ, List.getElem_toArray, List.getElem_cons_zero, List.getElem_cons_succ])
              refine wpAnyH_take (i := 7) (v := ?_) rfl (by kernel_rfl) (by kernel_rfl) (by kernel_rfl) (fun _ _ _ h => h) (Or.inl ⟨by kernel_rfl, ?_⟩) (⟨bw, bz⟩) ?_
              rotate_left
              focus (intro W' hSw; obtain ⟨hx0, hx1⟩ := hSw; have hc0 := hx0.c0; have hc1 := hx0.c1; have hc2 := hx1.c0; have hc3 := hx1.c1; clear hx0 hx1; go_simp; (try with_reducible rfl))
              (try simp only [Act.put, List.setIfInBounds_toArray, List.set_cons_zero, List.set_cons_succ, List.getElem_toArray, List.getElem_cons_zero, List.getElem_cons_succ])
              refine wpAnyH_take (i := 8) (v := ?_) rfl (by kernel_rfl) (by kernel_rfl) (by kernel_rfl) (fun _ _ _ h => h) (Or.inl ⟨by kernel_rfl, ?_⟩) (⟨bw, bz⟩) ?_
              rotate_left
              focus (intro W' hSw; obtain ⟨hx0, hx1⟩ := hSw; have hc0 := hx0.c0; have hc1 := hx0.c1; have hc2 := hx1.c0; have hc3 := hx1.c1; clear hx0 hx1; go_simp; (try with_reducible rfl))
              (try simp only [Act.put, List.setIfInBounds_toArray, List.set_cons_zero, List.set_cons_succ, List.getElem_toArray, List.getElem_cons_zero, List.getElem_cons_succ])
              refine wpAnyH_ready (rs := [11]) (by kernel_rfl) (by simp) ?_
              refine AllReadyH.cons rfl (fun K hK => ?_) (AllReadyH.nil)
              have hq0 := bm.c0
              have hq1 := bm.c1
              have hr0 := bm.f0
              have hr1 := bm.f1
              go_simp
              clear hq0 hq1 hr0 hr1
              have hP := put2 Wq Bbm (.bool gq) (.slice pq nq cq)
              have hN := bm.stored (.bool gq) (.slice pq nq cq)
              generalize (Wq.setCell ⟨Bbm, 0, none⟩ (.bool gq)).setCell ⟨Bbm, 1, none⟩ (.slice pq nq cq) = WZ at hP hN ⊢
              replace hz := hz.put bm (by decide) hP
              replace hx := hx.put bm (by decide) hP
              replace hd := hd.put bm (by decide) hP
              replace ht := ht.put bm (by decide) hP
              replace hq := hq.put bm (by decide) hP
              replace hv := hv.put bm (by decide) hP
              replace bw := bw.put hP (by have := l_bm_bw.out; omega)
              replace bz := bz.put hP (by have := l_bm_bz.out; omega)
              replace br := br.put hP (by have := l_bm_br.out; omega)
              replace h0 := bel_put h0 (by have := s_bm.out; omega) hP
              clear hP bm
              have bm := hN
              clear hN
              refine hK.out _ _ (⟨bw, bz⟩) (fun _ => ?_)
              clear hK K
              (try simp only [Act.put, List.setIfInBounds_toArray, List.set_cons_zero, List.set_cons_succ, List.getElem_toArray, List.getElem_cons_zero, List.getElem_cons_succ])
              refine wpAnyH_done (by kernel_rfl) ?_ _
              refine still1_step rfl (fun K hK => ?_)
              have hq0 := br.c0
              have hq1 := br.c1
              have hr0 := br.f0
              have hr1 := br.f1
              go_simp
              clear hq0 hq1 hr0 hr1
              have hP := put2 WZ Bbr (.bool gv) (.slice pv nv cv)
              have hN := br.stored (.bool gv) (.slice pv nv cv)
              generalize (WZ.setCell ⟨Bbr, 0, none⟩ (.bool gv)).setCell ⟨Bbr, 1, none⟩ (.slice pv nv cv) = WK at hP hN ⊢
              replace hz := hz.put br (by decide) hP
              replace hx := hx.put br (by decide) hP
              replace hd := hd.put br (by decide) hP
              replace ht := ht.put br (by decide) hP
              replace hq := hq.put br (by decide) hP
              replace hv := hv.put br (by decide) hP
              replace bw := bw.put hP (by have := l_br_bw.out; omega)
              replace bz := bz.put hP (by have := l_br_bz.out; omega)
              replace bm := bm.put hP (by have := l_bm_br.out; omega)
              replace h0 := bel_put h0 (by have := s_br.out; omega) hP
              clear hP br
              have br := hN
              clear hN
              refine hK.out _ _ ?_
              clear hK K
              (try simp only [Act.put, List.setIfInBounds_toArray, List.set_cons_zero, List.set_cons_succ, List.getElem_toArray, List.getElem_cons_zero, List.getElem_cons_succ])
              go_wp2_with fail
              go_meet
              case rel => exact ⟨gv, pv, nv, cv, Bbr, rfl, br, hv, h0⟩
          · go_simp
            have hal : Below Wd.heap.size Wd (Wd.alloc (.cells #[.bool false, .slice none 0 0] 27)) := (Below.refl _ _).alloc (Nat.le_refl _) _
            have bm := Bx.new Wd 27 (.bool false) (.slice none 0 0)
            have l_bm_bw := Lib.hid bw.lt
            have l_bm_bz := Lib.hid bz.lt
            have l_bm_br := Lib.hid br.lt
            have s_bm := Lib.hid (show w.heap.size ≤ Wd.heap.size from h0.size)
            replace hz := hz.go hal
            replace bw := bw.go hal
            replace bz := bz.go hal
            replace hx := hx.go hal
            replace br := br.go hal
            replace hd := hd.go hal
            replace h0 := bel_go h0 h0.size hal
            clear hal
            generalize Wd.heap.size = Bbm at bm s_bm l_bm_bw l_bm_bz l_bm_br ⊢
            generalize Wd.alloc (.cells #[.bool false, .slice none 0 0] 27) = Vbm at hz bw bz hx br hd bm h0 ⊢
            refine hK.out _ _ (⟨bw, bz⟩) (fun _ => ?_)
            clear hK K
            (try simp only [Act.put, List.setIfInBounds_toArray, List.set_cons_zero, List.set_cons_succ, List.getElem_toArray, List.getElem_cons_zero, List.getElem_cons_succ])
            refine wpAnyH_ready (rs := [4]) (by kernel_rfl) (by simp) ?_
            refine AllReadyH.cons rfl (fun K hK => ?_) (AllReadyH.nil)
            go_simp
            go_at_call 48; refine (two_any 8 (by omega) _).mono ?_
            rintro e Wt ⟨u, rfl, ht, hb⟩
            obtain ⟨gt, pt, nt, ct, rfl⟩ := ht.shape
            replace hz := hz.go hb
            replace bw := bw.go hb
            replace bz := bz.go hb
            replace hx := hx.go hb
            replace br := br.go hb
            replace hd := hd.go hb
            replace bm := bm.go hb
            replace h0 := bel_go h0 h0.size hb
            clear hb
            refine hK.out _ _ (⟨bw, bz⟩) (fun _ => ?_)
            clear hK K
            (try simp only [Act.put, List.setIfInBounds_toArray, List.set_cons_zero, List.set_cons_succ, List.getElem_toArray, List.getElem_cons_zero, List.getElem_cons_succ])
            refine wpAnyH_ready (rs := [5]) (by kernel_rfl) (by simp) ?_
            refine AllReadyH.cons rfl (fun K hK => ?_) (AllReadyH.nil)
            go_simp
            go_at_call 33; refine (zsplit_any _ _ (n - z) (2 ^ (16 * 8)) h20 hl1 hl2 _ hd ht).mono ?_
            rintro e Wq ⟨u, v, rfl, hq, hv, hb⟩
            obtain ⟨gq, pq, nq, cq, rfl⟩ := hq.shape
            obtain ⟨gv, pv, nv, cv, rfl⟩ := hv.shape
            replace hz := hz.go hb
            replace bw := bw.go hb
            replace bz := bz.go hb
            replace hx := hx.go hb
            replace br := br.go hb
            replace hd := hd.go hb
            replace bm := bm.go hb
            replace ht := ht.go hb
            replace h0 := bel_go h0 h0.size hb
            clear hb
            refine hK.out _ _ (⟨bw, bz⟩) (fun _ => ?_)
            clear hK K
            (try simp only [Act.put, List.setIfInBounds_toArray, List.set_cons_zero, List.set_cons_succ, List.getElem_toArray, List.getElem_cons_zero, List.getElem_cons_succ])
            refine wpAnyH_take (i := 6) (v := ?_) rfl (by kernel_rfl) (by kernel_rfl) (by kernel_rfl) (fun _ _ _ h => h) (Or.inl ⟨by kernel_rfl, ?_⟩) (⟨bw, bz⟩) ?_
            rotate_left
            focus (intro W' hSw; obtain ⟨hx0, hx1⟩ := hSw; have hc0 := hx0.c0; have hc1 := hx0.c1; have hc2 := hx1.c0; have hc3 := hx1.c1; clear hx0 hx1; go_simp; (try with_reducible rfl))
            (try simp only [Act.put, List.setIfInBounds_toArray, List.set_cons_zero, List.set_cons_succ, List.getElem_toArray, List.getElem_cons_zero, List.getElem_cons_succ])
            refine wpAnyH_take (i := 7) (v := ?_) rfl (by kernel_rfl) (by kernel_rfl) (by kernel_rfl) (fun _ _ _ h => h) (Or.inl ⟨by kernel_rfl, ?_⟩) (⟨bw, bz⟩) ?_
            rotate_left
            focus (intro W' hSw; obtain ⟨hx0, hx1⟩ := hSw; have hc0 := hx0.c0; have hc1 := hx0.c1; have hc2 := hx1.c0; have hc3 := hx1.c1; clear hx0 hx1; go_simp; (try with_reducible rfl))
            (try simp only [Act.put, List.setIfInBounds_toArray, List.set_cons_zero, List.set_cons_succ, List.getElem_toArray, List.getElem_cons_zero, List.getElem_cons_succ])
            refine wpAnyH_take (i := 8) (v := ?_) rfl (by kernel_rfl) (by kernel_rfl) (by kernel_rfl) (fun _ _ _ h => h) (Or.inl ⟨by kernel_rfl, ?_⟩) (⟨bw, bz⟩) ?_
            rotate_left
            focus (intro W' hSw; obtain ⟨hx0, hx1⟩ := hSw; have hc0 := hx0.c0; have hc1 := hx0.c1; have hc2 := hx1.c0; have hc3 := hx1.c1; clear hx0 hx1; go_simp; (try with_reducible rfl))
            (try simp only [Act.put, List.setIfInBounds_toArray, List.set_cons_zero, List.set_cons_succ, List.getElem_toArray, List.getElem_cons_zero, List.getElem_cons_succ])
            refine wpAnyH_ready (rs := [11]) (by kernel_rfl) (by simp) ?_
            refine AllReadyH.cons rfl (fun K hK => ?_) (AllReadyH.nil)
            have hq0 := bm.c0
            have hq1 := bm.c1
            have hr0 := bm.f0
            have hr1 := bm.f1
            go_simp
            clear hq0 hq1 hr0 hr1
            have hP := put2 Wq Bbm (.bool gq) (.slice pq nq cq)
            have hN := bm.stored (.bool gq) (.slice pq nq cq)
            generalize (Wq.setCell ⟨Bbm, 0, none⟩ (.bool gq)).setCell ⟨Bbm, 1, none⟩ (.slice pq nq cq) = WZ at hP hN ⊢
            replace hz := hz.put bm (by decide) hP
            replace hx := hx.put bm (by decide) hP
            replace hd := hd.put bm (by decide) hP
            replace ht := ht.put bm (by decide) hP
            replace hq := hq.put bm (by decide) hP
            replace hv := hv.put bm (by decide) hP
            replace bw := bw.put hP (by have := l_bm_bw.out; omega)
            replace bz := bz.put hP (by have := l_bm_bz.out; omega)
            replace br := br.put hP (by have := l_bm_br.out; omega)
            replace h0 := bel_put h0 (by have := s_bm.out; omega) hP
            clear hP bm
            have bm := hN
            clear hN
            refine hK.out _ _ (⟨bw, bz⟩) (fun _ => ?_)
            clear hK K
            (try simp only [Act.put, List.setIfInBounds_toArray, List.set_cons_zero, List.set_cons_succ, List.getElem_toArray, List.getElem_cons_zero, List.getElem_cons_succ])
            refine wpAnyH_done (by kernel_rfl) ?_ _
            refine still1_step rfl (fun K hK => ?_)
            have hq0 := br.c0
            have hq1 := br.c1
            have hr0 := br.f0
            have hr1 := br.f1
            go_simp
            clear hq0 hq1 hr0 hr1
            have hP := put2 WZ Bbr (.bool gv) (.slice pv nv cv)
            have hN := br.stored (.bool gv) (.slice pv nv cv)
            generalize (WZ.setCell ⟨Bbr, 0, none⟩ (.bool gv)).setCell ⟨Bbr, 1, none⟩ (.slice pv nv cv) = WK at hP hN ⊢
            replace hz := hz.put br (by decide) hP
            replace hx := hx.put br (by decide) hP
            replace hd := hd.put br (by decide) hP
            replace ht := ht.put br (by decide) hP
            replace hq := hq.put br (by decide) hP
            replace hv := hv.put br (by decide) hP
            replace bw := bw.put hP (by have := l_br_bw.out; omega)
            replace bz := bz.put hP (by have := l_br_bz.out; omega)
            replace bm := bm.put hP (by have := l_bm_br.out; omega)
            replace h0 := bel_put h0 (by have := s_br.out; omega) hP
            clear hP br
            have br := hN
            clear hN
            refine hK.out _ _ ?_
            clear hK K
            (try simp only [Act.put, List.setIfInBounds_toArray, List.set_cons_zero, List.set_cons_succ, List.getElem_toArray, List.getElem_cons_zero, List.getElem_cons_succ])
            go_wp2_with fail
            go_meet
            case rel => exact ⟨gv, pv, nv, cv, Bbr, rfl, br, hv, h0⟩
        · go_simp
          have hal : Below Vbr.heap.size Vbr (Vbr.alloc (.cells #[.bool false, .slice none 0 0] 27)) := (Below.refl _ _).alloc (Nat.le_refl _) _
          have bm := Bx.new Vbr 27 (.bool false) (.slice none 0 0)
          have l_bm_bw := Lib.hid bw.lt
          have l_bm_bz := Lib.hid bz.lt
          have l_bm_br := Lib.hid br.lt
          have s_bm := Lib.hid (show w.heap.size ≤ Vbr.heap.size from h0.size)
          replace hz := hz.go hal
          replace bw := bw.go hal
          replace bz := bz.go hal
          replace hx := hx.go hal
          replace br := br.go hal
          replace h0 := bel_go h0 h0.size hal
          clear hal
          generalize Vbr.heap.size = Bbm at bm s_bm l_bm_bw l_bm_bz l_bm_br ⊢
          generalize Vbr.alloc (.cells #[.bool false, .slice none 0 0] 27) = Vbm at hz bw bz hx br bm h0 ⊢
          refine hK.out _ _ (⟨bw, bz⟩) (fun _ => ?_)
          clear hK K
          (try simp only [Act.put, List.setIfInBounds_toArray, List.set_cons_zero, List.set_cons_succ, List.getElem_toArray, List.getElem_cons_zero, List.getElem_cons_succ])
          refine wpAnyH_ready (rs := [3]) (by kernel_rfl) (by simp) ?_
          refine AllReadyH.cons rfl (fun K hK => ?_) (AllReadyH.nil)
          go_simp
          go_at_call 27; refine (zless_any _ _ n z sn sz _ hx hz).mono ?_
          rintro e Wd ⟨u, rfl, hd, hb⟩
          obtain ⟨gd, pd, nd, cd, rfl⟩ := hd.shape
          replace hz := hz.go hb
          replace bw := bw.go hb
          replace bz := bz.go hb
          replace hx := hx.go hb
          replace br := br.go hb
          replace bm := bm.go hb
          replace h0 := bel_go h0 h0.size hb
          clear hb
          refine hK.out _ _ (⟨bw, bz⟩) (fun _ => ?_)
          clear hK K
          (try simp only [Act.put, List.setIfInBounds_toArray, List.set_cons_zero, List.set_cons_succ, List.getElem_toArray, List.getElem_cons_zero, List.getElem_cons_succ])
          refine wpAnyH_ready (rs := [4]) (by kernel_rfl) (by simp) ?_
          refine AllReadyH.cons rfl (fun K hK => ?_) (AllReadyH.nil)
          go_simp
          go_at_call 48; refine (two_any 8 (by omega) _).mono ?_
          rintro e Wt ⟨u, rfl, ht, hb⟩
          obtain ⟨gt, pt, nt, ct, rfl⟩ := ht.shape
          replace hz := hz.go hb
          replace bw := bw.go hb
          replace bz := bz.go hb
          replace hx := hx.go hb
          replace br := br.go hb
          replace bm := bm.go hb
          replace hd := hd.go hb
          replace h0 := bel_go h0 h0.size hb
          clear hb
          refine hK.out _ _ (⟨bw, bz⟩) (fun _ => ?_)
          clear hK K
          (try simp only [Act.put, List.setIfInBounds_toArray, List.set_cons_zero, List.set_cons_succ, List.getElem_toArray, List.getElem_cons_zero, List.getElem_cons_succ])
          refine wpAnyH_ready (rs := [5]) (by kernel_rfl) (by simp) ?_
          refine AllReadyH.cons rfl (fun K hK => ?_) (AllReadyH.nil)
          go_simp
          go_at_call 33; refine (zsplit_any _ _ (n - z) (2 ^ (16 * 8)) h20 hl1 hl2 _ hd ht).mono ?_
          rintro e Wq ⟨u, v, rfl, hq, hv, hb⟩
          obtain ⟨gq, pq, nq, cq, rfl⟩ := hq.shape
          obtain ⟨gv, pv, nv, cv, rfl⟩ := hv.shape
          replace hz := hz.go hb
          replace bw := bw.go hb
          replace bz := bz.go hb
          replace hx := hx.go hb
          replace br := br.go hb
          replace bm := bm.go hb
          replace hd := hd.go hb
          replace ht := ht.go hb
          replace h0 := bel_go h0 h0.size hb
          clear hb
          refine hK.out _ _ (⟨bw, bz⟩) (fun _ => ?_)
          clear hK K
          (try simp only [Act.put, List.setIfInBounds_toArray, List.set_cons_zero, List.set_cons_succ, List.getElem_toArray, List.getElem_cons_zero, List.getElem_cons_succ])
          refine wpAnyH_take (i := 6) (v := ?_) rfl (by kernel_rfl) (by kernel_rfl) (by kernel_rfl) (fun _ _ _ h => h) (Or.inl ⟨by kernel_rfl, ?_⟩) (⟨bw, bz⟩) ?_
          rotate_left
          focus (intro W' hSw; obtain ⟨hx0, hx1⟩ := hSw; have hc0 := hx0.c0; have hc1 := hx0.c1; have hc2 := hx1.c0; have hc3 := hx1.c1; clear hx0 hx1; go_simp; (try with_reducible rfl))
          (try simp only [Act.put, List.setIfInBounds_toArray, List.set_cons_zero, List.set_cons_succ, List.getElem_toArray, List.getElem_cons_zero, List.getElem_cons_succ])
          refine wpAnyH_take (i := 7) (v := ?_) rfl (by kernel_rfl) (by kernel_rfl) (by kernel_rfl) (fun _ _ _ h => h) (Or.inl ⟨by kernel_rfl, ?_⟩) (⟨bw, bz⟩) ?_
          rotate_left
          focus (intro W' hSw; obtain ⟨hx0, hx1⟩ := hSw; have hc0 := hx0.c0; have hc1 := hx0.c1; have hc2 := hx1.c0; have hc3 := hx1.c1; clear hx0 hx1; go_simp; (try with_reducible rfl))
          (try simp only [Act.put, List.setIfInBounds_toArray, List.set_cons_zero, List.set_cons_succ, List.getElem_toArray, List.getElem_cons_zero, List.getElem_cons_succ])
          refine wpAnyH_take (i := 8) (v := ?_) rfl (by kernel_rfl) (by kernel_rfl) (by kernel_rfl) (fun _ _ _ h => h) (Or.inl ⟨by kernel_rfl, ?_⟩) (⟨bw, bz⟩) ?_
          rotate_left
          focus (intro W' hSw; obtain ⟨hx0, hx1⟩ := hSw; have hc0 := hx0.c0; have hc1 := hx0.c1; have hc2 := hx1.c0; have hc3 := hx1.c1; clear hx0 hx1; go_simp; (try with_reducible rfl))
          (try simp only [Act.put, List.setIfInBounds_toArray, List.set_cons_zero, List.set_cons_succ, List.getElem_toArray, List.getElem_cons_zero, List.getElem_cons_succ])
          refine wpAnyH_ready (rs := [11]) (by kernel_rfl) (by simp) ?_
          refine AllReadyH.cons rfl (fun K hK => ?_) (AllReadyH.nil)
          have hq0 := bm.c0
          have hq1 := bm.c1
          have hr0 := bm.f0
          have hr1 := bm.f1
          go_simp
          clear hq0 hq1 hr0 hr1
          have hP := put2 Wq Bbm (.bool gq) (.slice pq nq cq)
          have hN := bm.stored (.bool gq) (.slice pq nq cq)
          generalize (Wq.setCell ⟨Bbm, 0, none⟩ (.bool gq)).setCell ⟨Bbm, 1, none⟩ (.slice pq nq cq) = WZ at hP hN ⊢
          replace hz := hz.put bm (by decide) hP
          replace hx := hx.put bm (by decide) hP
          replace hd := hd.put bm (by decide) hP
          replace ht := ht.put bm (by decide) hP
          replace hq := hq.put bm (by decide) hP
          replace hv := hv.put bm (by decide) hP
          replace bw := bw.put hP (by have := l_bm_bw.out; omega)
          replace bz := bz.put hP (by have := l_bm_bz.out; omega)
          replace br := br.put hP (by have := l_bm_br.out; omega)
          replace h0 := bel_put h0 (by have := s_bm.out; omega) hP
          clear hP bm
          have bm := hN
          clear hN
          refine hK.out _ _ (⟨bw, bz⟩) (fun _ => ?_)
          clear hK K
          (try simp only [Act.put, List.setIfInBounds_toArray, List.set_cons_zero, List.set_cons_succ, List.getElem_toArray, List.getElem_cons_zero, List.getElem_cons_succ])
          refine wpAnyH_done (by kernel_rfl) ?_ _
          refine still1_step rfl (fun K hK => ?_)
          have hq0 := br.c0
          have hq1 := br.c1
          have hr0 := br.f0
          have hr1 := br.f1
          go_simp
          clear hq0 hq1 hr0 hr1
          have hP := put2 WZ Bbr (.bool gv) (.slice pv nv cv)
          have hN := br.stored (.bool gv) (.slice pv nv cv)
          generalize (WZ.setCell ⟨Bbr, 0, none⟩ (.bool gv)).setCell ⟨Bbr, 1, none⟩ (.slice pv nv cv) = WK at hP hN ⊢
          replace hz := hz.put br (by decide) hP
          replace hx := hx.put br (by decide) hP
          replace hd := hd.put br (by decide) hP
          replace ht := ht.put br (by decide) hP
          replace hq := hq.put br (by decide) hP
          replace hv := hv.put br (by decide) hP
          replace bw := bw.put hP (by have := l_br_bw.out; omega)
          replace bz := bz.put hP (by have := l_br_bz.out; omega)
          replace bm := bm.put hP (by have := l_bm_br.out; omega)
          replace h0 := bel_put h0 (by have := s_br.out; omega) hP
          clear hP br
          have br := hN
          clear hN
          refine hK.out _ _ ?_
          clear hK K
          (try simp only [Act.put, List.setIfInBounds_toArray, List.set_cons_zero, List.set_cons_succ, List.getElem_toArray, List.getElem_cons_zero, List.getElem_cons_succ])
          go_wp2_with fail
          go_meet
          case rel => exact ⟨gv, pv, nv, cv, Bbr, rfl, br, hv, h0⟩
    · go_simp
      have hal : Below W.heap.size W (W.alloc (.cells #[.bool false, .slice none 0 0] 27)) := (Below.refl _ _).alloc (Nat.le_refl _) _
      have bm := Bx.new W 27 (.bool false) (.slice none 0 0)
      have l_bm_bw := Lib.hid bw.lt
      have l_bm_bz := Lib.hid bz.lt
      have s_bm := Lib.hid (show w.heap.size ≤ W.heap.size from h0.size)
      replace hz := hz.go hal
      replace bw := bw.go hal
      replace bz := bz.go hal
      replace h0 := bel_go h0 h0.size hal
      clear hal
      generalize W.heap.size = Bbm at bm s_bm l_bm_bw l_bm_bz ⊢
      generalize W.alloc (.cells #[.bool false, .slice none 0 0] 27) = Vbm at hz bw bz bm h0 ⊢
      refine hK.out _ _ (⟨bw, bz⟩) (fun _ => ?_)
      clear hK K
      (try simp only [Act.put, List.setIfInBounds_toArray, List.set_cons_zero, List.set_cons_succ, List.getElem_toArray, List.getElem_cons_zero, List.getElem_cons_succ])
      refine wpAnyH_ready (rs := [1, 10]) (by kernel_rfl) (by simp) ?_
      refine AllReadyH.cons rfl (fun K hK => ?_) (AllReadyH.cons rfl (fun K hK => ?_) (AllReadyH.nil))
      · go_simp
        go_at_call 47; refine (hwoA.out _).mono ?_
        rintro e Wx ⟨u, rfl, hx, hb⟩
        obtain ⟨gx, px, nx, cx, rfl⟩ := hx.shape
        replace hz := hz.go hb
        replace bw := bw.go hb
        replace bz := bz.go hb
        replace bm := bm.go hb
        replace h0 := bel_go h0 h0.size hb
        clear hb
        refine hK.out _ _ (⟨bw, bz⟩) (fun _ => ?_)
        clear hK K
        (try simp only [Act.put, List.setIfInBounds_toArray, List.set_cons_zero, List.set_cons_succ, List.getElem_toArray, List.getElem_cons_zero, List.getElem_cons_succ])
        refine wpAnyH_ready (rs := [3, 10]) (by kernel_rfl) (by simp) ?_
        refine AllReadyH.cons rfl (fun K hK => ?_) (AllReadyH.cons rfl (fun K hK => ?_) (AllReadyH.nil))
        · go_simp
          go_at_call 27; refine (zless_any _ _ n z sn sz _ hx hz).mono ?_
          rintro e Wd ⟨u, rfl, hd, hb⟩
          obtain ⟨gd, pd, nd, cd, rfl⟩ := hd.shape
          replace hz := hz.go hb
          replace bw := bw.go hb
          replace bz := bz.go hb
          replace bm := bm.go hb
          replace hx := hx.go hb
          replace h0 := bel_go h0 h0.size hb
          clear hb
          refine hK.out _ _ (⟨bw, bz⟩) (fun _ => ?_)
          clear hK K
          (try simp only [Act.put, List.setIfInBounds_toArray, List.set_cons_zero, List.set_cons_succ, List.getElem_toArray, List.getElem_cons_zero, List.getElem_cons_succ])
          refine wpAnyH_ready (rs := [4, 10]) (by kernel_rfl) (by simp) ?_
          refine AllReadyH.cons rfl (fun K hK => ?_) (AllReadyH.cons rfl (fun K hK => ?_) (AllReadyH.nil))
          · go_simp
            go_at_call 48; refine (two_any 8 (by omega) _).mono ?_
            rintro e Wt ⟨u, rfl, ht, hb⟩
            obtain ⟨gt, pt, nt, ct, rfl⟩ := ht.shape
            replace hz := hz.go hb
            replace bw := bw.go hb
            replace bz := bz.go hb
            replace bm := bm.go hb
            replace hx := hx.go hb
            replace hd := hd.go hb
            replace h0 := bel_go h0 h0.size hb
            clear hb
            refine hK.out _ _ (⟨bw, bz⟩) (fun _ => ?_)
            clear hK K
            (try simp only [Act.put, List.setIfInBounds_toArray, List.set_cons_zero, List.set_cons_succ, List.getElem_toArray, List.getElem_cons_zero, List.getElem_cons_succ])
            refine wpAnyH_ready (rs := [5, 10]) (by kernel_rfl) (by simp) ?_
            refine AllReadyH.cons rfl (fun K hK => ?_) (AllReadyH.cons rfl (fun K hK => ?_) (AllReadyH.nil))
            · go_simp
              go_at_call 33; refine (zsplit_any _ _ (n - z) (2 ^ (16 * 8)) h20 hl1 hl2 _ hd ht).mono ?_
              rintro e Wq ⟨u, v, rfl, hq, hv, hb⟩
              obtain ⟨gq, pq, nq, cq, rfl⟩ := hq.shape
              obtain ⟨gv, pv, nv, cv, rfl⟩ := hv.shape
              replace hz := hz.go hb
              replace bw := bw.go hb
              replace bz := bz.go hb
              replace bm := bm.go hb
              replace hx := hx.go hb
              replace hd := hd.go hb
              replace ht := ht.go hb
              replace h0 := bel_go h0 h0.size hb
              clear hb
              refine hK.out _ _ (⟨bw, bz⟩) (fun _ => ?_)
              clear hK K
              (try simp only [Act.put, List.setIfInBounds_toArray, List.set_cons_zero, List.set_cons_succ, List.getElem_toArray, List.getElem_cons_zero, List.getElem_cons_succ])
              refine wpAnyH_take (i := 6) (v := ?_) rfl (by kernel_rfl) (by kernel_rfl) (by kernel_rfl) (fun _ _ _ h => h) (Or.inl ⟨by kernel_rfl, ?_⟩) (⟨bw, bz⟩) ?_
              rotate_left
              focus (intro W' hSw; obtain ⟨hx0, hx1⟩ := hSw; have hc0 := hx0.c0; have hc1 := hx0.c1; have hc2 := hx1.c0; have hc3 := hx1.c1; clear hx0 hx1; go_simp; (try with_reducible rfl))
              (try simp only [Act.put, List.setIfInBounds_toArray, List.set_cons_zero, List.set_cons_succ, List.getElem_toArray, List.getElem_cons_zero, List.getElem_cons_succ])
              refine wpAnyH_take (i := 7) (v := ?_) rfl (by kernel_rfl) (by kernel_rfl) (by kernel_rfl) (fun _ _ _ h => h) (Or.inl ⟨by kernel_rfl, ?_⟩) (⟨bw, bz⟩) ?_
              rotate_left
              focus (intro W' hSw; obtain ⟨hx0, hx1⟩ := hSw; have hc0 := hx0.c0; have hc1 := hx0.c1; have hc2 := hx1.c0; have hc3 := hx1.c1; clear hx0 hx1; go_simp; (try with_reducible rfl))
              (try simp only [Act.put, List.setIfInBounds_toArray, List.set_cons_zero, List.set_cons_succ, List.getElem_toArray, List.getElem_cons_zero, List.getElem_cons_succ])
              refine wpAnyH_take (i := 8) (v := ?_) rfl (by kernel_rfl) (by kernel_rfl) (by kernel_rfl) (fun _ _ _ h => h) (Or.inl ⟨by kernel_rfl, ?_⟩) (⟨bw, bz⟩) ?_
              rotate_left
              focus (intro W' hSw; obtain ⟨hx0, hx1⟩ := hSw; have hc0 := hx0.c0; have hc1 := hx0.c1; have hc2 := hx1.c0; have hc3 := hx1.c1; clear hx0 hx1; go_simp; (try with_reducible rfl))
              (try simp only [Act.put, List.setIfInBounds_toArray, List.set_cons_zero, List.set_cons_succ, List.getElem_toArray, List.getElem_cons_zero, List.getElem_cons_succ])
              refine wpAnyH_ready (rs := [10]) (by kernel_rfl) (by simp) ?_
              refine AllReadyH.cons rfl (fun K hK => ?_) (AllReadyH.nil)
              go_simp
              have hal : Below Wq.heap.size Wq (Wq.alloc (.cells #[.bool false, .slice none 0 0] 27)) := (Below.refl _ _).alloc (Nat.le_refl _) _
              have br := Bx.new Wq 27 (.bool false) (.slice none 0 0)
              have l_br_bw := Lib.hid bw.lt
              have l_br_bz := Lib.hid bz.lt
              have l_br_bm := Lib.hid bm.lt
              have s_br := Lib.hid (show w.heap.size ≤ Wq.heap.size from h0.size)
              replace hz := hz.go hal
              replace bw := bw.go hal
              replace bz := bz.go hal
              replace bm := bm.go hal
              replace hx := hx.go hal
              replace hd := hd.go hal
              replace ht := ht.go hal
              replace hq := hq.go hal
              replace hv := hv.go hal
              replace h0 := bel_go h0 h0.size hal
              clear hal
              generalize Wq.heap.size = Bbr at br s_br l_br_bw l_br_bz l_br_bm ⊢
              generalize Wq.alloc (.cells #[.bool false, .slice none 0 0] 27) = Vbr at hz bw bz bm hx hd ht hq hv br h0 ⊢
              refine hK.out _ _ (⟨bw, bz⟩) (fun _ => ?_)
              clear hK K
              (try simp only [Act.put, List.setIfInBounds_toArray, List.set_cons_zero, List.set_cons_succ, List.getElem_toArray, List.getElem_cons_zero, List.getElem_cons_succ])
              refine wpAnyH_ready (rs := [11]) (by kernel_rfl) (by simp) ?_
              refine AllReadyH.cons rfl (fun K hK => ?_) (AllReadyH.nil)
              have hq0 := bm.c0
              have hq1 := bm.c1
              have hr0 := bm.f0
              have hr1 := bm.f1
              go_simp
              clear hq0 hq1 hr0 hr1
              have hP := put2 Vbr Bbm (.bool gq) (.slice pq nq cq)
              have hN := bm.stored (.bool gq) (.slice pq nq cq)
              generalize (Vbr.setCell ⟨Bbm, 0, none⟩ (.bool gq)).setCell ⟨Bbm, 1, none⟩ (.slice pq nq cq) = WZ at hP hN ⊢
              replace hz := hz.put bm (by decide) hP
              replace hx := hx.put bm (by decide) hP
              replace hd := hd.put bm (by decide) hP
              replace ht := ht.put bm (by decide) hP
              replace hq := hq.put bm (by decide) hP
              replace hv := hv.put bm (by decide) hP
              replace bw := bw.put hP (by have := l_bm_bw.out; omega)
              replace bz := bz.put hP (by have := l_bm_bz.out; omega)
              replace br := br.put hP (by have := l_br_bm.out; omega)
              replace h0 := bel_put h0 (by have := s_bm.out; omega) hP
              clear hP bm
              have bm := hN
              clear hN
              refine hK.out _ _ (⟨bw, bz⟩) (fun _ => ?_)
              clear hK K
              (try simp only [Act.put, List.setIfInBounds_toArray, List.set_cons_zero, List.set_cons_succ, List.getElem_toArray, List.getElem_cons_zero, List.getElem_cons_succ])
              refine wpAnyH_done (by kernel_rfl) ?_ _
              refine still1_step rfl (fun K hK => ?_)
              have hq0 := br.c0
              have hq1 := br.c1
              have hr0 := br.f0
              have hr1 := br.f1
              go_simp
              clear hq0 hq1 hr0 hr1
              have hP := put2 WZ Bbr (.bool gv) (.slice pv nv cv)
              have hN := br.stored (.bool gv) (.slice pv nv cv)
              generalize (WZ.setCell ⟨Bbr, 0, none⟩ (.bool gv)).setCell ⟨Bbr, 1, none⟩ (.slice pv nv cv) = WK at hP hN ⊢
              replace hz := hz.put br (by decide) hP
              replace hx := hx.put br (by decide) hP
              replace hd := hd.put br (by decide) hP
              replace ht := ht.put br (by decide) hP
              replace hq := hq.put br (by decide) hP
              replace hv := hv.put br (by decide) hP
              replace bw := bw.put hP (by have := l_br_bw.out; omega)
              replace bz := bz.put hP (by have := l_br_bz.out; omega)
              replace bm := bm.put hP (by have := l_br_bm.out; omega)
              replace h0 := bel_put h0 (by have := s_br.out; omega) hP
              clear hP br
              have br := hN
              clear hN
              refine hK.out _ _ ?_
              clear hK K
              (try simp only [Act.put, List.setIfInBounds_toArray, List.set_cons_zero, List.set_cons_succ, List.getElem_toArray, List.getElem_cons_zero, List.getElem_cons_succ])
              go_wp2_with fail
              go_meet
              case rel => exact ⟨gv, pv, nv, cv, Bbr, rfl, br, hv, h0⟩
            · go_simp
              have hal : Below Wt.heap.size Wt (Wt.alloc (.cells #[.bool false, .slice none 0 0] 27)) := (Below.refl _ _).alloc (Nat.le_refl _) _
              have br := Bx.new Wt 27 (.bool false) (.slice none 0 0)
              have l_br_bw := Lib.hid bw.lt
              have l_br_bz := Lib.hid bz.lt
              have l_br_bm := Lib.hid bm.lt
              have s_br := Lib.hid (show w.heap.size ≤ Wt.heap.size from h0.size)
              replace hz := hz.go hal
              replace bw := bw.go hal
              replace bz := bz.go hal
              replace bm := bm.go hal
              replace hx := hx.go hal
              replace hd := hd.go hal
              replace ht := ht.go hal
              replace h0 := bel_go h0 h0.size hal
              clear hal
              generalize Wt.heap.size = Bbr at br s_br l_br_bw l_br_bz l_br_bm ⊢
              generalize Wt.alloc (.cells #[.bool false, .slice none 0 0] 27) = Vbr at hz bw bz bm hx hd ht br h0 ⊢
              refine hK.out _ _ (⟨bw, bz⟩) (fun _ => ?_)
              clear hK K
              (try simp only [Act.put, List.setIfInBounds_toArray, List.set_cons_zero, List.set_cons_succ, List.getElem_toArray, List.getElem_cons_zero, List.getElem_cons_succ])
              refine wpAnyH_ready (rs := [5]) (by kernel_rfl) (by simp) ?_
              refine AllReadyH.cons rfl (fun K hK => ?_) (AllReadyH.nil)
              go_simp
              go_at_call 33; refine (zsplit_any _ _ (n - z) (2 ^ (16 * 8)) h20 hl1 hl2 _ hd ht).mono ?_
              rintro e Wq ⟨u, v, rfl, hq, hv, hb⟩
              obtain ⟨gq, pq, nq, cq, rfl⟩ := hq.shape
              obtain ⟨gv, pv, nv, cv, rfl⟩ := hv.shape
              replace hz := hz.go hb
              replace bw := bw.go hb
              replace bz := bz.go hb
              replace bm := bm.go hb
              replace hx := hx.go hb
              replace hd := hd.go hb
              replace ht := ht.go hb
              replace br := br.go hb
              replace h0 := bel_go h0 h0.size hb
              clear hb
              refine hK.out _ _ (⟨bw, bz⟩) (fun _ => ?_)
              clear hK K
              (try simp only [Act.put, List.setIfInBounds_toArray, List.set_cons_zero, List.set_cons_succ, List.getElem_toArray, List.getElem_cons_zero, List.getElem_cons_succ])
              refine wpAnyH_take (i := 6) (v := ?_) rfl (by kernel_rfl) (by kernel_rfl) (by kernel_rfl) (fun _ _ _ h => h) (Or.inl ⟨by kernel_rfl, ?_⟩) (⟨bw, bz⟩) ?_
              rotate_left
              focus (intro W' hSw; obtain ⟨hx0, hx1⟩ := hSw; have hc0 := hx0.c0; have hc1 := hx0.c1; have hc2 := hx1.c0; have hc3 := hx1.c1; clear hx0 hx1; go_simp; (try with_reducible rfl))
              (try simp only [Act.put, List.setIfInBounds_toArray, List.set_cons_zero, List.set_cons_succ, List.getElem_toArray, List.getElem_cons_zero, List.getElem_cons_succ])
              refine wpAnyH_take (i := 7) (v := ?_) rfl (by kernel_rfl) (by kernel_rfl) (by kernel_rfl) (fun _ _ _ h => h) (Or.inl ⟨by kernel_rfl, ?_⟩) (⟨bw, bz⟩) ?_
              rotate_left
              focus (intro W' hSw; obtain ⟨hx0, hx1⟩ := hSw; have hc0 := hx0.c0; have hc1 := hx0.c1; have hc2 := hx1.c0; have hc3 := hx1.c1; clear hx0 hx1; go_simp; (try with_reducible rfl))
              (try simp only [Act.put, List.setIfInBounds_toArray, List.set_cons_zero, List.set_cons_succ, List.getElem_toArray, List.getElem_cons_zero, List.getElem_cons_succ])
              refine wpAnyH_take (i := 8) (v := ?_) rfl (by kernel_rfl) (by kernel_rfl) (by kernel_rfl) (fun _ _ _ h => h) (Or.inl ⟨by kernel_rfl, ?_⟩) (⟨bw, bz⟩) ?_
              rotate_left
              focus (intro W' hSw; obtain ⟨hx0, hx1⟩ := hSw; have hc0 := hx0.c0; have hc1 := hx0.c1; have hc2 := hx1.c0; have hc3 := hx1.c1; clear hx0 hx1; go_simp; (try with_reducible rfl))
              (try simp only [Act.put, List.setIfInBounds_toArray, List.set_cons_zero, List.set_cons_succ, List.getElem_toArray, List.getElem_cons_zero, List.getElem_cons_succ])
              refine wpAnyH_ready (rs := [11]) (by kernel_rfl) (by simp) ?_
              refine AllReadyH.cons rfl (fun K hK => ?_) (AllReadyH.nil)
              have hq0 := bm.c0
              have hq1 := bm.c1
              have hr0 := bm.f0
              have hr1 := bm.f1
              go_simp
              clear hq0 hq1 hr0 hr1
              have hP := put2 Wq Bbm (.bool gq) (.slice pq nq cq)
              have hN := bm.stored (.bool gq) (.slice pq nq cq)
              generalize (Wq.setCell ⟨Bbm, 0, none⟩ (.bool gq)).setCell ⟨Bbm, 1, none⟩ (.slice pq nq cq) = WZ at hP hN ⊢
              replace hz := hz.put bm (by decide) hP
              replace hx := hx.put bm (by decide) hP
              replace hd := hd.put bm (by decide) hP
              replace ht := ht.put bm (by decide) hP
              replace hq := hq.put bm (by decide) hP
              replace hv := hv.put bm (by decide) hP
              replace bw := bw.put hP (by have := l_bm_bw.out; omega)
              replace bz := bz.put hP (by have := l_bm_bz.out; omega)
              replace br := br.put hP (by have := l_br_bm.out; omega)
              replace h0 := bel_put h0 (by have := s_bm.out; omega) hP
              clear hP bm
              have bm := hN
              clear hN
              refine hK.out _ _ (⟨bw, bz⟩) (fun _ => ?_)
              clear hK K
              (try simp only [Act.put, List.setIfInBounds_toArray, List.set_cons_zero, List.set_cons_succ, List.getElem_toArray, List.getElem_cons_zero, List.getElem_cons_succ])
              refine wpAnyH_done (by kernel_rfl) ?_ _
              refine still1_step rfl (fun K hK => ?_)
              have hq0 := br.c0
              have hq1 := br.c1
              have hr0 := br.f0
              have hr1 := br.f1
              go_simp
              clear hq0 hq1 hr0 hr1
              have hP := put2 WZ Bbr (.bool gv) (.slice pv nv cv)
              have hN := br.stored (.bool gv) (.slice pv nv cv)
              generalize (WZ.setCell ⟨Bbr, 0, none⟩ (.bool gv)).setCell ⟨Bbr, 1, none⟩ (.slice pv nv cv) = WK at hP hN ⊢
              replace hz := hz.put br (by decide) hP
              replace hx := hx.put br (by decide) hP
              replace hd := hd.put br (by decide) hP
              replace ht := ht.put br (by decide) hP
              replace hq := hq.put br (by decide) hP
              replace hv := hv.put br (by decide) hP
              replace bw := bw.put hP (by have := l_br_bw.out; omega)
              replace bz := bz.put hP (by have := l_br_bz.out; omega)
              replace bm := bm.put hP (by have := l_br_bm.out; omega)
              replace h0 := bel_put h0 (by have := s_br.out; omega) hP
              clear hP br
              have br := hN
              clear hN
              refine hK.out _ _ ?_
              clear hK K
              (try simp only [Act.put, List.setIfInBounds_toArray, List.set_cons_zero, List.set_cons_succ, List.getElem_toArray, List.getElem_cons_zero, List.getElem_cons_succ])
              go_wp2_with fail
              go_meet
              case rel => exact ⟨gv, pv, nv, cv, Bbr, rfl, br, hv, h0⟩
          · go_simp
            have hal : Below Wd.heap.size Wd (Wd.alloc (.cells #[.bool false, .slice none 0 0] 27)) := (Below.refl _ _).alloc (Nat.le_refl _) _
            have br := Bx.new Wd 27 (.bool false) (.slice none 0 0)
            have l_br_bw := Lib.hid bw.lt
            have l_br_bz := Lib.hid bz.lt
            have l_br_bm := Lib.hid bm.lt
            have s_br := Lib.hid (show w.heap.size ≤ Wd.heap.size from h0.size)
            replace hz := hz.go hal
            replace bw := bw.go hal
            replace bz := bz.go hal
            replace bm := bm.go hal
            replace hx := hx.go hal
            replace hd := hd.go hal
            replace h0 := bel_go h0 h0.size hal
            clear hal
            generalize Wd.heap.size = Bbr at br s_br l_br_bw l_br_bz l_br_bm ⊢
            generalize Wd.alloc (.cells #[.bool false, .slice none 0 0] 27) = Vbr at hz bw bz bm hx hd br h0 ⊢
            refine hK.out _ _ (⟨bw, bz⟩) (fun _ => ?_)
            clear hK K
            (try simp only [Act.put, List.setIfInBounds_toArray, List.set_cons_zero, List.set_cons_succ, List.getElem_toArray, List.getElem_cons_zero, List.getElem_cons_succ])
            refine wpAnyH_ready (rs := [4]) (by kernel_rfl) (by simp) ?_
            refine AllReadyH.cons rfl (fun K hK => ?_) (AllReadyH.nil)
            go_simp
            go_at_call 48; refine (two_any 8 (by omega) _).mono ?_
            rintro e Wt ⟨u, rfl, ht, hb⟩
            obtain ⟨gt, pt, nt, ct, rfl⟩ := ht.shape
            replace hz := hz.go hb
            replace bw := bw.go hb
            replace bz := bz.go hb
            replace bm := bm.go hb
            replace hx := hx.go hb
            replace hd := hd.go hb
            replace br := br.go hb
            replace h0 := bel_go h0 h0.size hb
            clear hb
            refine hK.out _ _ (⟨bw, bz⟩) (fun _ => ?_)
            clear hK K
            (try simp only [Act.put, List.setIfInBounds_toArray, List.set_cons_zero, List.set_cons_succ, List.getElem_toArray, List.getElem_cons_zero, List.getElem_cons_succ])
            refine wpAnyH_ready (rs := [5]) (by kernel_rfl) (by simp) ?_
            refine AllReadyH.cons rfl (fun K hK => ?_) (AllReadyH.nil)
            go_simp
            go_at_call 33; refine (zsplit_any _ _ (n - z) (2 ^ (16 * 8)) h20 hl1 hl2 _ hd ht).mono ?_
            rintro e Wq ⟨u, v, rfl, hq, hv, hb⟩
            obtain ⟨gq, pq, nq, cq, rfl⟩ := hq.shape
            obtain ⟨gv, pv, nv, cv, rfl⟩ := hv.shape
            replace hz := hz.go hb
            replace bw := bw.go hb
            replace bz := bz.go hb
            replace bm := bm.go hb
            replace hx := hx.go hb
            replace hd := hd.go hb
            replace br := br.go hb
            replace ht := ht.go hb
            replace h0 := bel_go h0 h0.size hb
            clear hb
            refine hK.out _ _ (⟨bw, bz⟩) (fun _ => ?_)
            clear hK K
            (try simp only [Act.put, List.setIfInBounds_toArray, List.set_cons_zero, List.set_cons_succ, List.getElem_toArray, List.getElem_cons_zero, List.getElem_cons_succ])
            refine wpAnyH_take (i := 6) (v := ?_) rfl (by kernel_rfl) (by kernel_rfl) (by kernel_rfl) (fun _ _ _ h => h) (Or.inl ⟨by kernel_rfl, ?_⟩) (⟨bw, bz⟩) ?_
            rotate_left
            focus (intro W' hSw; obtain ⟨hx0, hx1⟩ := hSw; have hc0 := hx0.c0; have hc1 := hx0.c1; have hc2 := hx1.c0; have hc3 := hx1.c1; clear hx0 hx1; go_simp; (try with_reducible rfl))
            (try simp only [Act.put, List.setIfInBounds_toArray, List.set_cons_zero, List.set_cons_succ, List.getElem_toArray, List.getElem_cons_zero, List.getElem_cons_succ])
            refine wpAnyH_take (i := 7) (v := ?_) rfl (by kernel_rfl) (by kernel_rfl) (by kernel_rfl) (fun _ _ _ h => h) (Or.inl ⟨by kernel_rfl, ?_⟩) (⟨bw, bz⟩) ?_
            rotate_left
            focus (intro W' hSw; obtain ⟨hx0, hx1⟩ := hSw; have hc0 := hx0.c0; have hc1 := hx0.c1; have hc2 := hx1.c0; have hc3 := hx1.c1; clear hx0 hx1; go_simp; (try with_reducible rfl))
            (try simp only [Act.put, List.setIfInBounds_toArray, List.set_cons_zero, List.set_cons_succ, List.getElem_toArray, List.getElem_cons_zero, List.getElem_cons_succ])
            refine wpAnyH_take (i := 8) (v := ?_) rfl (by kernel_rfl) (by kernel_rfl) (by kernel_rfl) (fun _ _ _ h => h) (Or.inl ⟨by kernel_rfl, ?_⟩) (⟨bw, bz⟩) ?_
            rotate_left
            focus (intro W' hSw; obtain ⟨hx0, hx1⟩ := hSw; have hc0 := hx0.c0; have hc1 := hx0.c1; have hc2 := hx1.c0; have hc3 := hx1.c1; clear hx0 hx1; go_simp; (try with_reducible rfl))
            (try simp only [Act.put, List.setIfInBounds_toArray, List.set_cons_zero, List.set_cons_succ, List.getElem_toArray, List.getElem_cons_zero, List.getElem_cons_succ])
            refine wpAnyH_ready (rs := [11]) (by kernel_rfl) (by simp) ?_
            refine AllReadyH.cons rfl (fun K hK => ?_) (AllReadyH.nil)
            have hq0 := bm.c0
            have hq1 := bm.c1
            have hr0 := bm.f0
            have hr1 := bm.f1
            go_simp
            clear hq0 hq1 hr0 hr1
            have hP := put2 Wq Bbm (.bool gq) (.slice pq nq cq)
            have hN := bm.stored (.bool gq) (.slice pq nq cq)
            generalize (Wq.setCell ⟨Bbm, 0, none⟩ (.bool gq)).setCell ⟨Bbm, 1, none⟩ (.slice pq nq cq) = WZ at hP hN ⊢
            replace hz := hz.put bm (by decide) hP
            replace hx := hx.put bm (by decide) hP
            replace hd := hd.put bm (by decide) hP
            replace ht := ht.put bm (by decide) hP
            replace hq := hq.put bm (by decide) hP
            replace hv := hv.put bm (by decide) hP
            replace bw := bw.put hP (by have := l_bm_bw.out; omega)
            replace bz := bz.put hP (by have := l_bm_bz.out; omega)
            replace br := br.put hP (by have := l_br_bm.out; omega)
            replace h0 := bel_put h0 (by have := s_bm.out; omega) hP
            clear hP bm
            have bm := hN
            clear hN
            refine hK.out _ _ (⟨bw, bz⟩) (fun _ => ?_)
            clear hK K
            (try simp only [Act.put, List.setIfInBounds_toArray, List.set_cons_zero, List.set_cons_succ, List.getElem_toArray, List.getElem_cons_zero, List.getElem_cons_succ])
            refine wpAnyH_done (by kernel_rfl) ?_ _
            refine still1_step rfl (fun K hK => ?_)
            have hq0 := br.c0
            have hq1 := br.c1
            have hr0 := br.f0
            have hr1 := br.f1
            go_simp
            clear hq0 hq1 hr0 hr1
            have hP := put2 WZ Bbr (.bool gv) (.slice pv nv cv)
            have hN := br.stored (.bool gv) (.slice pv nv cv)
            generalize (WZ.setCell ⟨Bbr, 0, none⟩ (.bool gv)).setCell ⟨Bbr, 1, none⟩ (.slice pv nv cv) = WK at hP hN ⊢
            replace hz := hz.put br (by decide) hP
            replace hx := hx.put br (by decide) hP
            replace hd := hd.put br (by decide) hP
            replace ht := ht.put br (by decide) hP
            replace hq := hq.put br (by decide) hP
            replace hv := hv.put br (by decide) hP
            replace bw := bw.put hP (by have := l_br_bw.out; omega)
            replace bz := bz.put hP (by have := l_br_bz.out; omega)
            replace bm := bm.put hP (by have := l_br_bm.out; omega)
            replace h0 := bel_put h0 (by have := s_br.out; omega) hP
            clear hP br
            have br := hN
            clear hN
            refine hK.out _ _ ?_
            clear hK K
            (try simp only [Act.put, List.setIfInBounds_toArray, List.set_cons_zero, List.set_cons_succ, List.getElem_toArray, List.getElem_cons_zero, List.getElem_cons_succ])
            go_wp2_with fail
            go_meet
            case rel => exact ⟨gv, pv, nv, cv, Bbr, rfl, br, hv, h0⟩
        · go_simp
          have hal : Below Wx.heap.size Wx (Wx.alloc (.cells #[.bool false, .slice none 0 0] 27)) := (Below.refl _ _).alloc (Nat.le_refl _) _
          have br := Bx.new Wx 27 (.bool false) (.slice none 0 0)
          have l_br_bw := Lib.hid bw.lt
          have l_br_bz := Lib.hid bz.lt
          have l_br_bm := Lib.hid bm.lt
          have s_br := Lib.hid (show w.heap.size ≤ Wx.heap.size from h0.size)
          replace hz := hz.go hal
          replace bw := bw.go hal
          replace bz := bz.go hal
          replace bm := bm.go hal
          replace hx := hx.go hal
          replace h0 := bel_go h0 h0.size hal
          clear hal
          generalize Wx.heap.size = Bbr at br s_br l_br_bw l_br_bz l_br_bm ⊢
          generalize Wx.alloc (.cells #[.bool false, .slice none 0 0] 27) = Vbr at hz bw bz bm hx br h0 ⊢
          refine hK.out _ _ (⟨bw, bz⟩) (fun _ => ?_)
          clear hK K
          (try simp only [Act.put, List.setIfInBounds_toArray, List.set_cons_zero, List.set_cons_succ, List.getElem_toArray, List.getElem_cons_zero, List.getElem_cons_succ])
          refine wpAnyH_ready (rs := [3]) (by kernel_rfl) (by simp) ?_
          refine AllReadyH.cons rfl (fun K hK => ?_) (AllReadyH.nil)
          go_simp
          go_at_call 27; refine (zless_any _ _ n z sn sz _ hx hz).mono ?_
          rintro e Wd ⟨u, rfl, hd, hb⟩
          obtain ⟨gd, pd, nd, cd, rfl⟩ := hd.shape
          replace hz := hz.go hb
          replace bw := bw.go hb
          replace bz := bz.go hb
          replace bm := bm.go hb
          replace hx := hx.go hb
          replace br := br.go hb
          replace h0 := bel_go h0 h0.size hb
          clear hb
          refine hK.out _ _ (⟨bw, bz⟩) (fun _ => ?_)
          clear hK K
          (try simp only [Act.put, List.setIfInBounds_toArray, List.set_cons_zero, List.set_cons_succ, List.getElem_toArray, List.getElem_cons_zero, List.getElem_cons_succ])
          refine wpAnyH_ready (rs := [4]) (by kernel_rfl) (by simp) ?_
          refine AllReadyH.cons rfl (fun K hK => ?_) (AllReadyH.nil)
          go_simp
          go_at_call 48; refine (two_any 8 (by omega) _).mono ?_
          rintro e Wt ⟨u, rfl, ht, hb⟩
          obtain ⟨gt, pt, nt, ct, rfl⟩ := ht.shape
          replace hz := hz.go hb
          replace bw := bw.go hb
          replace bz := bz.go hb
          replace bm := bm.go hb
          replace hx := hx.go hb
          replace br := br.go hb
          replace hd := hd.go hb
          replace h0 := bel_go h0 h0.size hb
          clear hb
          refine hK.out _ _ (⟨bw, bz⟩) (fun _ => ?_)
          clear hK K
          (try simp only [Act.put, List.setIfInBounds_toArray, List.set_cons_zero, List.set_cons_succ, List.getElem_toArray, List.getElem_cons_zero, List.getElem_cons_succ])
          refine wpAnyH_ready (rs := [5]) (by kernel_rfl) (by simp) ?_
          refine AllReadyH.cons rfl (fun K hK => ?_) (AllReadyH.nil)
          go_simp
          go_at_call 33; refine (zsplit_any _ _ (n - z) (2 ^ (16 * 8)) h20 hl1 hl2 _ hd ht).mono ?_
          rintro e Wq ⟨u, v, rfl, hq, hv, hb⟩
          obtain ⟨gq, pq, nq, cq, rfl⟩ := hq.shape
          obtain ⟨gv, pv, nv, cv, rfl⟩ := hv.shape
          replace hz := hz.go hb
          replace bw := bw.go hb
          replace bz := bz.go hb
          replace bm := bm.go hb
          replace hx := hx.go hb
          replace br := br.go hb
          replace hd := hd.go hb
          replace ht := ht.go hb
          replace h0 := bel_go h0 h0.size hb
          clear hb
          refine hK.out _ _ (⟨bw, bz⟩) (fun _ => ?_)
          clear hK K
          (try simp only [Act.put, List.setIfInBounds_toArray, List.set_cons_zero, List.set_cons_succ, List.getElem_toArray, List.getElem_cons_zero, List.getElem_cons_succ])
          refine wpAnyH_take (i := 6) (v := ?_) rfl (by kernel_rfl) (by kernel_rfl) (by kernel_rfl) (fun _ _ _ h => h) (Or.inl ⟨by kernel_rfl, ?_⟩) (⟨bw, bz⟩) ?_
          rotate_left
          focus (intro W' hSw; obtain ⟨hx0, hx1⟩ := hSw; have hc0 := hx0.c0; have hc1 := hx0.c1; have hc2 := hx1.c0; have hc3 := hx1.c1; clear hx0 hx1; go_simp; (try with_reducible rfl))
          (try simp only [Act.put, List.setIfInBounds_toArray, List.set_cons_zero, List.set_cons_succ, List.getElem_toArray, List.getElem_cons_zero, List.getElem_cons_succ])
          refine wpAnyH_take (i := 7) (v := ?_) rfl (by kernel_rfl) (by kernel_rfl) (by kernel_rfl) (fun _ _ _ h => h) (Or.inl ⟨by kernel_rfl, ?_⟩) (⟨bw, bz⟩) ?_
          rotate_left
          focus (intro W' hSw; obtain ⟨hx0, hx1⟩ := hSw; have hc0 := hx0.c0; have hc1 := hx0.c1; have hc2 := hx1.c0; have hc3 := hx1.c1; clear hx0 hx1; go_simp; (try with_reducible rfl))
          (try simp only [Act.put, List.setIfInBounds_toArray, List.set_cons_zero, List.set_cons_succ, List.getElem_toArray, List.getElem_cons_zero, List.getElem_cons_succ])
          refine wpAnyH_take (i := 8) (v := ?_) rfl (by kernel_rfl) (by kernel_rfl) (by kernel_rfl) (fun _ _ _ h => h) (Or.inl ⟨by kernel_rfl, ?_⟩) (⟨bw, bz⟩) ?_
          rotate_left
          focus (intro W' hSw; obtain ⟨hx0, hx1⟩ := hSw; have hc0 := hx0.c0; have hc1 := hx0.c1; have hc2 := hx1.c0; have hc3 := hx1.c1; clear hx0 hx1; go_simp; (try with_reducible rfl))
          (try simp only [Act.put, List.setIfInBounds_toArray, List.set_cons_zero, List.set_cons_succ, List.getElem_toArray, List.getElem_cons_zero, List.getElem_cons_succ])
          refine wpAnyH_ready (rs := [11]) (by kernel_rfl) (by simp) ?_
          refine AllReadyH.cons rfl (fun K hK => ?_) (AllReadyH.nil)
          have hq0 := bm.c0
          have hq1 := bm.c1
          have hr0 := bm.f0
          have hr1 := bm.f1
          go_simp
          clear hq0 hq1 hr0 hr1
          have hP := put2 Wq Bbm (.bool gq) (.slice pq nq cq)
          have hN := bm.stored (.bool gq) (.slice pq nq cq)
          generalize (Wq.setCell ⟨Bbm, 0, none⟩ (.bool gq)).setCell ⟨Bbm, 1, none⟩ (.slice pq nq cq) = WZ at hP hN ⊢
          replace hz := hz.put bm (by decide) hP
          replace hx := hx.put bm (by decide) hP
          replace hd := hd.put bm (by decide) hP
          replace ht := ht.put bm (by decide) hP
          replace hq := hq.put bm (by decide) hP
          replace hv := hv.put bm (by decide) hP
          replace bw := bw.put hP (by have := l_bm_bw.out; omega)
          replace bz := bz.put hP (by have := l_bm_bz.out; omega)
          replace br := br.put hP (by have := l_br_bm.out; omega)
          replace h0 := bel_put h0 (by have := s_bm.out; omega) hP
          clear hP bm
          have bm := hN
          clear hN
          refine hK.out _ _ (⟨bw, bz⟩) (fun _ => ?_)
          clear hK K
          (try simp only [Act.put, List.setIfInBounds_toArray, List.set_cons_zero, List.set_cons_succ, List.getElem_toArray, List.getElem_cons_zero, List.getElem_cons_succ])
          refine wpAnyH_done (by kernel_rfl) ?_ _
          refine still1_step rfl (fun K hK => ?_)
          have hq0 := br.c0
          have hq1 := br.c1
          have hr0 := br.f0
          have hr1 := br.f1
          go_simp
          clear hq0 hq1 hr0 hr1
          have hP := put2 WZ Bbr (.bool gv) (.slice pv nv cv)
          have hN := br.stored (.bool gv) (.slice pv nv cv)
          generalize (WZ.setCell ⟨Bbr, 0, none⟩ (.bool gv)).setCell ⟨Bbr, 1, none⟩ (.slice pv nv cv) = WK at hP hN ⊢
          replace hz := hz.put br (by decide) hP
          replace hx := hx.put br (by decide) hP
          replace hd := hd.put br (by decide) hP
          replace ht := ht.put br (by decide) hP
          replace hq := hq.put br (by decide) hP
          replace hv := hv.put br (by decide) hP
          replace bw := bw.put hP (by have := l_br_bw.out; omega)
          replace bz := bz.put hP (by have := l_br_bz.out; omega)
          replace bm := bm.put hP (by have := l_br_bm.out; omega)
          replace h0 := bel_put h0 (by have := s_br.out; omega) hP
          clear hP br
          have br := hN
          clear hN
          refine hK.out _ _ ?_
          clear hK K
          (try simp only [Act.put, List.setIfInBounds_toArray, List.set_cons_zero, List.set_cons_succ, List.getElem_toArray, List.getElem_cons_zero, List.getElem_cons_succ])
          go_wp2_with fail
          go_meet
          case rel => exact ⟨gv, pv, nv, cv, Bbr, rfl, br, hv, h0⟩
      · go_simp
        have hal : Below Vbm.heap.size Vbm (Vbm.alloc (.cells #[.bool false, .slice none 0 0] 27)) := (Below.refl _ _).alloc (Nat.le_refl _) _
        have br := Bx.new Vbm 27 (.bool false) (.slice none 0 0)
        have l_br_bw := Lib.hid bw.lt
        have l_br_bz := Lib.hid bz.lt
        have l_br_bm := Lib.hid bm.lt
        have s_br := Lib.hid (show w.heap.size ≤ Vbm.heap.size from h0.size)
        replace hz := hz.go hal
        replace bw := bw.go hal
        replace bz := bz.go hal
        replace bm := bm.go hal
        replace h0 := bel_go h0 h0.size hal
        clear hal
        generalize Vbm.heap.size = Bbr at br s_br l_br_bw l_br_bz l_br_bm ⊢
        generalize Vbm.alloc (.cells #[.bool false, .slice none 0 0] 27) = Vbr at hz bw bz bm br h0 ⊢
        refine hK.out _ _ (⟨bw, bz⟩) (fun _ => ?_)
        clear hK K
        (try simp only [Act.put, List.setIfInBounds_toArray, List.set_cons_zero, List.set_cons_succ, List.getElem_toArray, List.getElem_cons_zero, List.getElem_cons_succ])
        refine wpAnyH_ready (rs := [1]) (by kernel_rfl) (by simp) ?_
        refine AllReadyH.cons rfl (fun K hK => ?_) (AllReadyH.nil)
        go_simp
        go_at_call 47; refine (hwoA.out _).mono ?_
        rintro e Wx ⟨u, rfl, hx, hb⟩
        obtain ⟨gx, px, nx, cx, rfl⟩ := hx.shape
        replace hz := hz.go hb
        replace bw := bw.go hb
        replace bz := bz.go hb
        replace bm := bm.go hb
        replace br := br.go hb
        replace h0 := bel_go h0 h0.size hb
        clear hb
        refine hK.out _ _ (⟨bw, bz⟩) (fun _ => ?_)
        clear hK K
        (try simp only [Act.put, List.setIfInBounds_toArray, List.set_cons_zero, List.set_cons_succ, List.getElem_toArray, List.getElem_cons_zero, List.getElem_cons_succ])
        refine wpAnyH_ready (rs := [3]) (by kernel_rfl) (by simp) ?_
        refine AllReadyH.cons rfl (fun K hK => ?_) (AllReadyH.nil)
        go_simp
        go_at_call 27; refine (zless_any _ _ n z sn sz _ hx hz).mono ?_
        rintro e Wd ⟨u, rfl, hd, hb⟩
        obtain ⟨gd, pd, nd, cd, rfl⟩ := hd.shape
        replace hz := hz.go hb
        replace bw := bw.go hb
        replace bz := bz.go hb
        replace bm := bm.go hb
        replace br := br.go hb
        replace hx := hx.go hb
        replace h0 := bel_go h0 h0.size hb
        clear hb
        refine hK.out _ _ (⟨bw, bz⟩) (fun _ => ?_)
        clear hK K
        (try simp only [Act.put, List.setIfInBounds_toArray, List.set_cons_zero, List.set_cons_succ, List.getElem_toArray, List.getElem_cons_zero, List.getElem_cons_succ])
        refine wpAnyH_ready (rs := [4]) (by kernel_rfl) (by simp) ?_
        refine AllReadyH.cons rfl (fun K hK => ?_) (AllReadyH.nil)
        go_simp
        go_at_call 48; refine (two_any 8 (by omega) _).mono ?_
        rintro e Wt ⟨u, rfl, ht, hb⟩
        obtain ⟨gt, pt, nt, ct, rfl⟩ := ht.shape
        replace hz := hz.go hb
        replace bw := bw.go hb
        replace bz := bz.go hb
        replace bm := bm.go hb
        replace br := br.go hb
        replace hx := hx.go hb
        replace hd := hd.go hb
        replace h0 := bel_go h0 h0.size hb
        clear hb
        refine hK.out _ _ (⟨bw, bz⟩) (fun _ => ?_)
        clear hK K
        (try simp only [Act.put, List.setIfInBounds_toArray, List.set_cons_zero, List.set_cons_succ, List.getElem_toArray, List.getElem_cons_zero, List.getElem_cons_succ])
        refine wpAnyH_ready (rs := [5]) (by kernel_rfl) (by simp) ?_
        refine AllReadyH.cons rfl (fun K hK => ?_) (AllReadyH.nil)
        go_simp
        go_at_call 33; refine (zsplit_any _ _ (n - z) (2 ^ (16 * 8)) h20 hl1 hl2 _ hd ht).mono ?_
        rintro e Wq ⟨u, v, rfl, hq, hv, hb⟩
        obtain ⟨gq, pq, nq, cq, rfl⟩ := hq.shape
        obtain ⟨gv, pv, nv, cv, rfl⟩ := hv.shape
        replace hz := hz.go hb
        replace bw := bw.go hb
        replace bz := bz.go hb
        replace bm := bm.go hb
        replace br := br.go hb
        replace hx := hx.go hb
        replace hd := hd.go hb
        replace ht := ht.go hb
        replace h0 := bel_go h0 h0.size hb
        clear hb
        refine hK.out _ _ (⟨bw, bz⟩) (fun _ => ?_)
        clear hK K
        (try simp only [Act.put, List.setIfInBounds_toArray, List.set_cons_zero, List.set_cons_succ, List.getElem_toArray, List.getElem_cons_zero, List.getElem_cons_succ])
        refine wpAnyH_take (i := 6) (v := ?_) rfl (by kernel_rfl) (by kernel_rfl) (by kernel_rfl) (fun _ _ _ h => h) (Or.inl ⟨by kernel_rfl, ?_⟩) (⟨bw, bz⟩) ?_
        rotate_left
        focus (intro W' hSw; obtain ⟨hx0, hx1⟩ := hSw; have hc0 := hx0.c0; have hc1 := hx0.c1; have hc2 := hx1.c0; have hc3 := hx1.c1; clear hx0 hx1; go_simp; (try with_reducible rfl))
        (try simp only [Act.put, List.setIfInBounds_toArray, List.set_cons_zero, List.set_cons_succ, List.getElem_toArray, List.getElem_cons_zero, List.getElem_cons_succ])
        refine wpAnyH_take (i := 7) (v := ?_) rfl (by kernel_rfl) (by kernel_rfl) (by kernel_rfl) (fun _ _ _ h => h) (Or.inl ⟨by kernel_rfl, ?_⟩) (⟨bw, bz⟩) ?_
        rotate_left
        focus (intro W' hSw; obtain ⟨hx0, hx1⟩ := hSw; have hc0 := hx0.c0; have hc1 := hx0.c1; have hc2 := hx1.c0; have hc3 := hx1.c1; clear hx0 hx1; go_simp; (try with_reducible rfl))
        (try simp only [Act.put, List.setIfInBounds_toArray, List.set_cons_zero, List.set_cons_succ, List.getElem_toArray, List.getElem_cons_zero, List.getElem_cons_succ])
        refine wpAnyH_take (i := 8) (v := ?_) rfl (by kernel_rfl) (by kernel_rfl) (by kernel_rfl) (fun _ _ _ h => h) (Or.inl ⟨by kernel_rfl, ?_⟩) (⟨bw, bz⟩) ?_
        rotate_left
        focus (intro W' hSw; obtain ⟨hx0, hx1⟩ := hSw; have hc0 := hx0.c0; have hc1 := hx0.c1; have hc2 := hx1.c0; have hc3 := hx1.c1; clear hx0 hx1; go_simp; (try with_reducible rfl))
        (try simp only [Act.put, List.setIfInBounds_toArray, List.set_cons_zero, List.set_cons_succ, List.getElem_toArray, List.getElem_cons_zero, List.getElem_cons_succ])
        refine wpAnyH_ready (rs := [11]) (by kernel_rfl) (by simp) ?_
        refine AllReadyH.cons rfl (fun K hK => ?_) (AllReadyH.nil)
        have hq0 := bm.c0
        have hq1 := bm.c1
        have hr0 := bm.f0
        have hr1 := bm.f1
        go_simp
        clear hq0 hq1 hr0 hr1
        have hP := put2 Wq Bbm (.bool gq) (.slice pq nq cq)
        have hN := bm.stored (.bool gq) (.slice pq nq cq)
        generalize (Wq.setCell ⟨Bbm, 0, none⟩ (.bool gq)).setCell ⟨Bbm, 1, none⟩ (.slice pq nq cq) = WZ at hP hN ⊢
        replace hz := hz.put bm (by decide) hP
        replace hx := hx.put bm (by decide) hP
        replace hd := hd.put bm (by decide) hP
        replace ht := ht.put bm (by decide) hP
        replace hq := hq.put bm (by decide) hP
        replace hv := hv.put bm (by decide) hP
        replace bw := bw.put hP (by have := l_bm_bw.out; omega)
        replace bz := bz.put hP (by have := l_bm_bz.out; omega)
        replace br := br.put hP (by have := l_br_bm.out; omega)
        replace h0 := bel_put h0 (by have := s_bm.out; omega) hP
        clear hP bm
        have bm := hN
        clear hN
        refine hK.out _ _ (⟨bw, bz⟩) (fun _ => ?_)
        clear hK K
        (try simp only [Act.put, List.setIfInBounds_toArray, List.set_cons_zero, List.set_cons_succ, List.getElem_toArray, List.getElem_cons_zero, List.getElem_cons_succ])
        refine wpAnyH_done (by kernel_rfl) ?_ _
        refine still1_step rfl (fun K hK => ?_)
        have hq0 := br.c0
        have hq1 := br.c1
        have hr0 := br.f0
        have hr1 := br.f1
        go_simp
        clear hq0 hq1 hr0 hr1
        have hP := put2 WZ Bbr (.bool gv) (.slice pv nv cv)
        have hN := br.stored (.bool gv) (.slice pv nv cv)
        generalize (WZ.setCell ⟨Bbr, 0, none⟩ (.bool gv)).setCell ⟨Bbr, 1, none⟩ (.slice pv nv cv) = WK at hP hN ⊢
        replace hz := hz.put br (by decide) hP
        replace hx := hx.put br (by decide) hP
        replace hd := hd.put br (by decide) hP
        replace ht := ht.put br (by decide) hP
        replace hq := hq.put br (by decide) hP
        replace hv := hv.put br (by decide) hP
        replace bw := bw.put hP (by have := l_br_bw.out; omega)
        replace bz := bz.put hP (by have := l_br_bz.out; omega)
        replace bm := bm.put hP (by have := l_br_bm.out; omega)
        replace h0 := bel_put h0 (by have := s_br.out; omega) hP
        clear hP br
        have br := hN
        clear hN
        refine hK.out _ _ ?_
        clear hK K
        (try simp only [Act.put, List.setIfInBounds_toArray, List.set_cons_zero, List.set_cons_succ, List.getElem_toArray, List.getElem_cons_zero, List.getElem_cons_succ])
        go_wp2_with fail
        go_meet
        case rel => exact ⟨gv, pv, nv, cv, Bbr, rfl, br, hv, h0⟩
    · go_simp
      have hal : Below W.heap.size W (W.alloc (.cells #[.bool false, .slice none 0 0] 27)) := (Below.refl _ _).alloc (Nat.le_refl _) _
      have br := Bx.new W 27 (.bool false) (.slice none 0 0)
      have l_br_bw := Lib.hid bw.lt
      have l_br_bz := Lib.hid bz.lt
      have s_br := Lib.hid (show w.heap.size ≤ W.heap.size from h0.size)
      replace hz := hz.go hal
      replace bw := bw.go hal
      replace bz := bz.go hal
      replace h0 := bel_go h0 h0.size hal
      clear hal
      generalize W.heap.size = Bbr at br s_br l_br_bw l_br_bz ⊢
      generalize W.alloc (.cells #[.bool false, .slice none 0 0] 27) = Vbr at hz bw bz br h0 ⊢
      refine hK.out _ _ (⟨bw, bz⟩) (fun _ => ?_)
      clear hK K
      (try simp only [Act.put, List.setIfInBounds_toArray, List.set_cons_zero, List.set_cons_succ, List.getElem_toArray, List.getElem_cons_zero, List.getElem_cons_succ])
      refine wpAnyH_ready (rs := [1, 9]) (by kernel_rfl) (by simp) ?_
      refine AllReadyH.cons rfl (fun K hK => ?_) (AllReadyH.cons rfl (fun K hK => ?_) (AllReadyH.nil))
      · go_simp
        go_at_call 47; refine (hwoA.out _).mono ?_
        rintro e Wx ⟨u, rfl, hx, hb⟩
        obtain ⟨gx, px, nx, cx, rfl⟩ := hx.shape
        replace hz := hz.go hb
        replace bw := bw.go hb
        replace bz := bz.go hb
        replace br := br.go hb
        replace h0 := bel_go h0 h0.size hb
        clear hb
        refine hK.out _ _ (⟨bw, bz⟩) (fun _ => ?_)
        clear hK K
        (try simp only [Act.put, List.setIfInBounds_toArray, List.set_cons_zero, List.set_cons_succ, List.getElem_toArray, List.getElem_cons_zero, List.getElem_cons_succ])
        refine wpAnyH_ready (rs := [3, 9]) (by kernel_rfl) (by simp) ?_
        refine AllReadyH.cons rfl (fun K hK => ?_) (AllReadyH.cons rfl (fun K hK => ?_) (AllReadyH.nil))
        · go_simp
          go_at_call 27; refine (zless_any _ _ n z sn sz _ hx hz).mono ?_
          rintro e Wd ⟨u, rfl, hd, hb⟩
          obtain ⟨gd, pd, nd, cd, rfl⟩ := hd.shape
          replace hz := hz.go hb
          replace bw := bw.go hb
          replace bz := bz.go hb
          replace br := br.go hb
          replace hx := hx.go hb
          replace h0 := bel_go h0 h0.size hb
          clear hb
          refine hK.out _ _ (⟨bw, bz⟩) (fun _ => ?_)
          clear hK K
          (try simp only [Act.put, List.setIfInBounds_toArray, List.set_cons_zero, List.set_cons_succ, List.getElem_toArray, List.getElem_cons_zero, List.getElem_cons_succ])
          refine wpAnyH_ready (rs := [4, 9]) (by kernel_rfl) (by simp) ?_
          refine AllReadyH.cons rfl (fun K hK => ?_) (AllReadyH.cons rfl (fun K hK => ?_) (AllReadyH.nil))
          · go_simp
            go_at_call 48; refine (two_any 8 (by omega) _).mono ?_
            rintro e Wt ⟨u, rfl, ht, hb⟩
            obtain ⟨gt, pt, nt, ct, rfl⟩ := ht.shape
            replace hz := hz.go hb
            replace bw := bw.go hb
            replace bz := bz.go hb
            replace br := br.go hb
            replace hx := hx.go hb
            replace hd := hd.go hb
            replace h0 := bel_go h0 h0.size hb
            clear hb
            refine hK.out _ _ (⟨bw, bz⟩) (fun _ => ?_)
            clear hK K
            (try simp only [Act.put, List.setIfInBounds_toArray, List.set_cons_zero, List.set_cons_succ, List.getElem_toArray, List.getElem_cons_zero, List.getElem_cons_succ])
            refine wpAnyH_ready (rs := [5, 9]) (by kernel_rfl) (by simp) ?_
            refine AllReadyH.cons rfl (fun K hK => ?_) (AllReadyH.cons rfl (fun K hK => ?_) (AllReadyH.nil))
            · go_simp
              go_at_call 33; refine (zsplit_any _ _ (n - z) (2 ^ (16 * 8)) h20 hl1 hl2 _ hd ht).mono ?_
              rintro e Wq ⟨u, v, rfl, hq, hv, hb⟩
              obtain ⟨gq, pq, nq, cq, rfl⟩ := hq.shape
              obtain ⟨gv, pv, nv, cv, rfl⟩ := hv.shape
              replace hz := hz.go hb
              replace bw := bw.go hb
              replace bz := bz.go hb
              replace br := br.go hb
              replace hx := hx.go hb
              replace hd := hd.go hb
              replace ht := ht.go hb
              replace h0 := bel_go h0 h0.size hb
              clear hb
              refine hK.out _ _ (⟨bw, bz⟩) (fun _ => ?_)
              clear hK K
              (try simp only [Act.put, List.setIfInBounds_toArray, List.set_cons_zero, List.set_cons_succ, List.getElem_toArray, List.getElem_cons_zero, List.getElem_cons_succ])
              refine wpAnyH_take (i := 6) (v := ?_) rfl (by kernel_rfl) (by kernel_rfl) (by kernel_rfl) (fun _ _ _ h => h) (Or.inl ⟨by kernel_rfl, ?_⟩) (⟨bw, bz⟩) ?_
              rotate_left
              focus (intro W' hSw; obtain ⟨hx0, hx1⟩ := hSw; have hc0 := hx0.c0; have hc1 := hx0.c1; have hc2 := hx1.c0; have hc3 := hx1.c1; clear hx0 hx1; go_simp; (try with_reducible rfl))
              (try simp only [Act.put, List.setIfInBounds_toArray, List.set_cons_zero, List.set_cons_succ, List.getElem_toArray, List.getElem_cons_zero, List.getElem_cons_succ])
              refine wpAnyH_take (i := 7) (v := ?_) rfl (by kernel_rfl) (by kernel_rfl) (by kernel_rfl) (fun _ _ _ h => h) (Or.inl ⟨by kernel_rfl, ?_⟩) (⟨bw, bz⟩) ?_
              rotate_left
              focus (intro W' hSw; obtain ⟨hx0, hx1⟩ := hSw; have hc0 := hx0.c0; have hc1 := hx0.c1; have hc2 := hx1.c0; have hc3 := hx1.c1; clear hx0 hx1; go_simp; (try with_reducible rfl))
              (try simp only [Act.put, List.setIfInBounds_toArray, List.set_cons_zero, List.set_cons_succ, List.getElem_toArray, List.getElem_cons_zero, List.getElem_cons_succ])
              refine wpAnyH_take (i := 8) (v := ?_) rfl (by kernel_rfl) (by kernel_rfl) (by kernel_rfl) (fun _ _ _ h => h) (Or.inl ⟨by kernel_rfl, ?_⟩) (⟨bw, bz⟩) ?_
              rotate_left
              focus (intro W' hSw; obtain ⟨hx0, hx1⟩ := hSw; have hc0 := hx0.c0; have hc1 := hx0.c1; have hc2 := hx1.c0; have hc3 := hx1.c1; clear hx0 hx1; go_simp; (try with_reducible rfl))
              (try simp only [Act.put, List.setIfInBounds_toArray, List.set_cons_zero, List.set_cons_succ, List.getElem_toArray, List.getElem_cons_zero, List.getElem_cons_succ])
              refine wpAnyH_ready (rs := [9]) (by kernel_rfl) (by simp) ?_
              refine AllReadyH.cons rfl (fun K hK => ?_) (AllReadyH.nil)
              go_simp
              have hal : Below Wq.heap.size Wq (Wq.alloc (.cells #[.bool false, .slice none 0 0] 27)) := (Below.refl _ _).alloc (Nat.le_refl _) _
              have bm := Bx.new Wq 27 (.bool false) (.slice none 0 0)
              have l_bm_bw := Lib.hid bw.lt
              have l_bm_bz := Lib.hid bz.lt
              have l_bm_br := Lib.hid br.lt
              have s_bm := Lib.hid (show w.heap.size ≤ Wq.heap.size from h0.size)
              replace hz := hz.go hal
              replace bw := bw.go hal
              replace bz := bz.go hal
              replace br := br.go hal
              replace hx := hx.go hal
              replace hd := hd.go hal
              replace ht := ht.go hal
              replace hq := hq.go hal
              replace hv := hv.go hal
              replace h0 := bel_go h0 h0.size hal
              clear hal
              generalize Wq.heap.size = Bbm at bm s_bm l_bm_bw l_bm_bz l_bm_br ⊢
              generalize Wq.alloc (.cells #[.bool false, .slice none 0 0] 27) = Vbm at hz bw bz br hx hd ht hq hv bm h0 ⊢
              refine hK.out _ _ (⟨bw, bz⟩) (fun _ => ?_)
              clear hK K
              (try simp only [Act.put, List.setIfInBounds_toArray, List.set_cons_zero, List.set_cons_succ, List.getElem_toArray, List.getElem_cons_zero, List.getElem_cons_succ])
              refine wpAnyH_ready (rs := [11]) (by kernel_rfl) (by simp) ?_
              refine AllReadyH.cons rfl (fun K hK => ?_) (AllReadyH.nil)
              have hq0 := bm.c0
              have hq1 := bm.c1
              have hr0 := bm.f0
              have hr1 := bm.f1
              go_simp
              clear hq0 hq1 hr0 hr1
              have hP := put2 Vbm Bbm (.bool gq) (.slice pq nq cq)
              have hN := bm.stored (.bool gq) (.slice pq nq cq)
              generalize (Vbm.setCell ⟨Bbm, 0, none⟩ (.bool gq)).setCell ⟨Bbm, 1, none⟩ (.slice pq nq cq) = WZ at hP hN ⊢
              replace hz := hz.put bm (by decide) hP
              replace hx := hx.put bm (by decide) hP
              replace hd := hd.put bm (by decide) hP
              replace ht := ht.put bm (by decide) hP
              replace hq := hq.put bm (by decide) hP
              replace hv := hv.put bm (by decide) hP
              replace bw := bw.put hP (by have := l_bm_bw.out; omega)
              replace bz := bz.put hP (by have := l_bm_bz.out; omega)
              replace br := br.put hP (by have := l_bm_br.out; omega)
              replace h0 := bel_put h0 (by have := s_bm.out; omega) hP
              clear hP bm
              have bm := hN
              clear hN
              refine hK.out _ _ (⟨bw, bz⟩) (fun _ => ?_)
              clear hK K
              (try simp only [Act.put, List.setIfInBounds_toArray, List.set_cons_zero, List.set_cons_succ, List.getElem_toArray, List.getElem_cons_zero, List.getElem_cons_succ])
              refine wpAnyH_done (by kernel_rfl) ?_ _
              refine still1_step rfl (fun K hK => ?_)
              have hq0 := br.c0
              have hq1 := br.c1
              have hr0 := br.f0
              have hr1 := br.f1
              go_simp
              clear hq0 hq1 hr0 hr1
              have hP := put2 WZ Bbr (.bool gv) (.slice pv nv cv)
              have hN := br.stored (.bool gv) (.slice pv nv cv)
              generalize (WZ.setCell ⟨Bbr, 0, none⟩ (.bool gv)).setCell ⟨Bbr, 1, none⟩ (.slice pv nv cv) = WK at hP hN ⊢
              replace hz := hz.put br (by decide) hP
              replace hx := hx.put br (by decide) hP
              replace hd := hd.put br (by decide) hP
              replace ht := ht.put br (by decide) hP
              replace hq := hq.put br (by decide) hP
              replace hv := hv.put br (by decide) hP
              replace bw := bw.put hP (by have := l_br_bw.out; omega)
              replace bz := bz.put hP (by have := l_br_bz.out; omega)
              replace bm := bm.put hP (by have := l_bm_br.out; omega)
              replace h0 := bel_put h0 (by have := s_br.out; omega) hP
              clear hP br
              have br := hN
              clear hN
              refine hK.out _ _ ?_
              clear hK K
              (try simp only [Act.put, List.setIfInBounds_toArray, List.set_cons_zero, List.set_cons_succ, List.getElem_toArray, List.getElem_cons_zero, List.getElem_cons_succ])
              go_wp2_with fail
              go_meet
              case rel => exact ⟨gv, pv, nv, cv, Bbr, rfl, br, hv, h0⟩
            · go_simp
              have hal : Below Wt.heap.size Wt (Wt.alloc (.cells #[.bool false, .slice none 0 0] 27)) := (Below.refl _ _).alloc (Nat.le_refl _) _
              have bm := Bx.new Wt 27 (.bool false) (.slice none 0 0)
              have l_bm_bw := Lib.hid bw.lt
              have l_bm_bz := Lib.hid bz.lt
              have l_bm_br := Lib.hid br.lt
              have s_bm := Lib.hid (show w.heap.size ≤ Wt.heap.size from h0.size)
              replace hz := hz.go hal
              replace bw := bw.go hal
              replace bz := bz.go hal
              replace br := br.go hal
              replace hx := hx.go hal
              replace hd := hd.go hal
              replace ht := ht.go hal
              replace h0 := bel_go h0 h0.size hal
              clear hal
              generalize Wt.heap.size = Bbm at bm s_bm l_bm_bw l_bm_bz l_bm_br ⊢
              generalize Wt.alloc (.cells #[.bool false, .slice none 0 0] 27) = Vbm at hz bw bz br hx hd ht bm h0 ⊢
              refine hK.out _ _ (⟨bw, bz⟩) (fun _ => ?_)
              clear hK K
              (try simp only [Act.put, List.setIfInBounds_toArray, List.set_cons_zero, List.set_cons_succ, List.getElem_toArray, List.getElem_cons_zero, List.getElem_cons_succ])
              refine wpAnyH_ready (rs := [5]) (by kernel_rfl) (by simp) ?_
              refine AllReadyH.cons rfl (fun K hK => ?_) (AllReadyH.nil)
              go_simp
              go_at_call 33; refine (zsplit_any _ _ (n - z) (2 ^ (16 * 8)) h20 hl1 hl2 _ hd ht).mono ?_
              rintro e Wq ⟨u, v, rfl, hq, hv, hb⟩
              obtain ⟨gq, pq, nq, cq, rfl⟩ := hq.shape
              obtain ⟨gv, pv, nv, cv, rfl⟩ := hv.shape
              replace hz := hz.go hb
              replace bw := bw.go hb
              replace bz := bz.go hb
              replace br := br.go hb
              replace hx := hx.go hb
              replace hd := hd.go hb
              replace ht := ht.go hb
              replace bm := bm.go hb
              replace h0 := bel_go h0 h0.size hb
              clear hb
              refine hK.out _ _ (⟨bw, bz⟩) (fun _ => ?_)
              clear hK K
              (try simp only [Act.put, List.setIfInBounds_toArray, List.set_cons_zero, List.set_cons_succ, List.getElem_toArray, List.getElem_cons_zero, List.getElem_cons_succ])
              refine wpAnyH_take (i := 6) (v := ?_) rfl (by kernel_rfl) (by kernel_rfl) (by kernel_rfl) (fun _ _ _ h => h) (Or.inl ⟨by kernel_rfl, ?_⟩) (⟨bw, bz⟩) ?_
              rotate_left
              focus (intro W' hSw; obtain ⟨hx0, hx1⟩ := hSw; have hc0 := hx0.c0; have hc1 := hx0.c1; have hc2 := hx1.c0; have hc3 := hx1.c1; clear hx0 hx1; go_simp; (try with_reducible rfl))
              (try simp only [Act.put, List.setIfInBounds_toArray, List.set_cons_zero, List.set_cons_succ, List.getElem_toArray, List.getElem_cons_zero, List.getElem_cons_succ])
              refine wpAnyH_take (i := 7) (v := ?_) rfl (by kernel_rfl) (by kernel_rfl) (by kernel_rfl) (fun _ _ _ h => h) (Or.inl ⟨by kernel_rfl, ?_⟩) (⟨bw, bz⟩) ?_
              rotate_left
              focus (intro W' hSw; obtain ⟨hx0, hx1⟩ := hSw; have hc0 := hx0.c0; have hc1 := hx0.c1; have hc2 := hx1.c0; have hc3 := hx1.c1; clear hx0 hx1; go_simp; (try with_reducible rfl))
              (try simp only [Act.put, List.setIfInBounds_toArray, List.set_cons_zero, List.set_cons_succ, List.getElem_toArray, List.getElem_cons_zero, List.getElem_cons_succ])
              refine wpAnyH_take (i := 8) (v := ?_) rfl (by kernel_rfl) (by kernel_rfl) (by kernel_rfl) (fun _ _ _ h => h) (Or.inl ⟨by kernel_rfl, ?_⟩) (⟨bw, bz⟩) ?_
              rotate_left
              focus (intro W' hSw; obtain ⟨hx0, hx1⟩ := hSw; have hc0 := hx0.c0; have hc1 := hx0.c1; have hc2 := hx1.c0; have hc3 := hx1.c1; clear hx0 hx1; go_simp; (try with_reducible rfl))
              (try simp only [Act.put, List.setIfInBounds_toArray, List.set_cons_zero, List.set_cons_succ, List.getElem_toArray, List.getElem_cons_zero, List.getElem_cons_succ])
              refine wpAnyH_ready (rs := [11]) (by kernel_rfl) (by simp) ?_
              refine AllReadyH.cons rfl (fun K hK => ?_) (AllReadyH.nil)
              have hq0 := bm.c0
              have hq1 := bm.c1
              have hr0 := bm.f0
              have hr1 := bm.f1
              go_simp
              clear hq0 hq1 hr0 hr1
              have hP := put2 Wq Bbm (.bool gq) (.slice pq nq cq)
              have hN := bm.stored (.bool gq) (.slice pq nq cq)
              generalize (Wq.setCell ⟨Bbm, 0, none⟩ (.bool gq)).setCell ⟨Bbm, 1, none⟩ (.slice pq nq cq) = WZ at hP hN ⊢
              replace hz := hz.put bm (by decide) hP
              replace hx := hx.put bm (by decide) hP
              replace hd := hd.put bm (by decide) hP
              replace ht := ht.put bm (by decide) hP
              replace hq := hq.put bm (by decide) hP
              replace hv := hv.put bm (by decide) hP
              replace bw := bw.put hP (by have := l_bm_bw.out; omega)
              replace bz := bz.put hP (by have := l_bm_bz.out; omega)
              replace br := br.put hP (by have := l_bm_br.out; omega)
              replace h0 := bel_put h0 (by have := s_bm.out; omega) hP
              clear hP bm
              have bm := hN
              clear hN
              refine hK.out _ _ (⟨bw, bz⟩) (fun _ => ?_)
              clear hK K
              (try simp only [Act.put, List.setIfInBounds_toArray, List.set_cons_zero, List.set_cons_succ, List.getElem_toArray, List.getElem_cons_zero, List.getElem_cons_succ])
              refine wpAnyH_done (by kernel_rfl) ?_ _
              refine still1_step rfl (fun K hK => ?_)
              have hq0 := br.c0
              have hq1 := br.c1
              have hr0 := br.f0
              have hr1 := br.f1
              go_simp
              clear hq0 hq1 hr0 hr1
              have hP := put2 WZ Bbr (.bool gv) (.slice pv nv cv)
              have hN := br.stored (.bool gv) (.slice pv nv cv)
              generalize (WZ.setCell ⟨Bbr, 0, none⟩ (.bool gv)).setCell ⟨Bbr, 1, none⟩ (.slice pv nv cv) = WK at hP hN ⊢
              replace hz := hz.put br (by decide) hP
              replace hx := hx.put br (by decide) hP
              replace hd := hd.put br (by decide) hP
              replace ht := ht.put br (by decide) hP
              replace hq := hq.put br (by decide) hP
              replace hv := hv.put br (by decide) hP
              replace bw := bw.put hP (by have := l_br_bw.out; omega)
              replace bz := bz.put hP (by have := l_br_bz.out; omega)
              replace bm := bm.put hP (by have := l_bm_br.out; omega)
              replace h0 := bel_put h0 (by have := s_br.out; omega) hP
              clear hP br
              have br := hN
              clear hN
              refine hK.out _ _ ?_
              clear hK K
              (try simp only [Act.put, List.setIfInBounds_toArray, List.set_cons_zero, List.set_cons_succ, List.getElem_toArray, List.getElem_cons_zero, List.getElem_cons_succ])
              go_wp2_with fail
              go_meet
              case rel => exact ⟨gv, pv, nv, cv, Bbr, rfl, br, hv, h0⟩
          · go_simp
            have hal : Below Wd.heap.size Wd (Wd.alloc (.cells #[.bool false, .slice none 0 0] 27)) := (Below.refl _ _).alloc (Nat.le_refl _) _
            have bm := Bx.new Wd 27 (.bool false) (.slice none 0 0)
            have l_bm_bw := Lib.hid bw.lt
            have l_bm_bz := Lib.hid bz.lt
            have l_bm_br := Lib.hid br.lt
            have s_bm := Lib.hid (show w.heap.size ≤ Wd.heap.size from h0.size)
            replace hz := hz.go hal
            replace bw := bw.go hal
            replace bz := bz.go hal
            replace br := br.go hal
            replace hx := hx.go hal
            replace hd := hd.go hal
            replace h0 := bel_go h0 h0.size hal
            clear hal
            generalize Wd.heap.size = Bbm at bm s_bm l_bm_bw l_bm_bz l_bm_br ⊢
            generalize Wd.alloc (.cells #[.bool false, .slice none 0 0] 27) = Vbm at hz bw bz br hx hd bm h0 ⊢
            refine hK.out _ _ (⟨bw, bz⟩) (fun _ => ?_)
            clear hK K
            (try simp only [Act.put, List.setIfInBounds_toArray, List.set_cons_zero, List.set_cons_succ, List.getElem_toArray, List.getElem_cons_zero, List.getElem_cons_succ])
            refine wpAnyH_ready (rs := [4]) (by kernel_rfl) (by simp) ?_
            refine AllReadyH.cons rfl (fun K hK => ?_) (AllReadyH.nil)
            go_simp
            go_at_call 48; refine (two_any 8 (by omega) _).mono ?_
            rintro e Wt ⟨u, rfl, ht, hb⟩
            obtain ⟨gt, pt, nt, ct, rfl⟩ := ht.shape
            replace hz := hz.go hb
            replace bw := bw.go hb
            replace bz := bz.go hb
            replace br := br.go hb
            replace hx := hx.go hb
            replace hd := hd.go hb
            replace bm := bm.go hb
            replace h0 := bel_go h0 h0.size hb
            clear hb
            refine hK.out _ _ (⟨bw, bz⟩) (fun _ => ?_)
            clear hK K
            (try simp only [Act.put, List.setIfInBounds_toArray, List.set_cons_zero, List.set_cons_succ, List.getElem_toArray, List.getElem_cons_zero, List.getElem_cons_succ])
            refine wpAnyH_ready (rs := [5]) (by kernel_rfl) (by simp) ?_
            refine AllReadyH.cons rfl (fun K hK => ?_) (AllReadyH.nil)
            go_simp
            go_at_call 33; refine (zsplit_any _ _ (n - z) (2 ^ (16 * 8)) h20 hl1 hl2 _ hd ht).mono ?_
            rintro e Wq ⟨u, v, rfl, hq, hv, hb⟩
            obtain ⟨gq, pq, nq, cq, rfl⟩ := hq.shape
            obtain ⟨gv, pv, nv, cv, rfl⟩ := hv.shape
            replace hz := hz.go hb
            replace bw := bw.go hb
            replace bz := bz.go hb
            replace br := br.go hb
            replace hx := hx.go hb
            replace hd := hd.go hb
            replace bm := bm.go hb
            replace ht := ht.go hb
            replace h0 := bel_go h0 h0.size hb
            clear hb
            refine hK.out _ _ (⟨bw, bz⟩) (fun _ => ?_)
            clear hK K
            (try simp only [Act.put, List.setIfInBounds_toArray, List.set_cons_zero, List.set_cons_succ, List.getElem_toArray, List.getElem_cons_zero, List.getElem_cons_succ])
            refine wpAnyH_take (i := 6) (v := ?_) rfl (by kernel_rfl) (by kernel_rfl) (by kernel_rfl) (fun _ _ _ h => h) (Or.inl ⟨by kernel_rfl, ?_⟩) (⟨bw, bz⟩) ?_
            rotate_left
            focus (intro W' hSw; obtain ⟨hx0, hx1⟩ := hSw; have hc0 := hx0.c0; have hc1 := hx0.c1; have hc2 := hx1.c0; have hc3 := hx1.c1; clear hx0 hx1; go_simp; (try with_reducible rfl))
            (try simp only [Act.put, List.setIfInBounds_toArray, List.set_cons_zero, List.set_cons_succ, List.getElem_toArray, List.getElem_cons_zero, List.getElem_cons_succ])
            refine wpAnyH_take (i := 7) (v := ?_) rfl (by kernel_rfl) (by kernel_rfl) (by kernel_rfl) (fun _ _ _ h => h) (Or.inl ⟨by kernel_rfl, ?_⟩) (⟨bw, bz⟩) ?_
            rotate_left
            focus (intro W' hSw; obtain ⟨hx0, hx1⟩ := hSw; have hc0 := hx0.c0; have hc1 := hx0.c1; have hc2 := hx1.c0; have hc3 := hx1.c1; clear hx0 hx1; go_simp; (try with_reducible rfl))
            (try simp only [Act.put, List.setIfInBounds_toArray, List.set_cons_zero, List.set_cons_succ, List.getElem_toArray, List.getElem_cons_zero, List.getElem_cons_succ])
            refine wpAnyH_take (i := 8) (v := ?_) rfl (by kernel_rfl) (by kernel_rfl) (by kernel_rfl) (fun _ _ _ h => h) (Or.inl ⟨by kernel_rfl, ?_⟩) (⟨bw, bz⟩) ?_
            rotate_left
            focus (intro W' hSw; obtain ⟨hx0, hx1⟩ := hSw; have hc0 := hx0.c0; have hc1 := hx0.c1; have hc2 := hx1.c0; have hc3 := hx1.c1; clear hx0 hx1; go_simp; (try with_reducible rfl))
            (try simp only [Act.put, List.setIfInBounds_toArray, List.set_cons_zero, List.set_cons_succ, List.getElem_toArray, List.getElem_cons_zero, List.getElem_cons_succ])
            refine wpAnyH_ready (rs := [11]) (by kernel_rfl) (by simp) ?_
            refine AllReadyH.cons rfl (fun K hK => ?_) (AllReadyH.nil)
            have hq0 := bm.c0
            have hq1 := bm.c1
            have hr0 := bm.f0
            have hr1 := bm.f1
            go_simp
            clear hq0 hq1 hr0 hr1
            have hP := put2 Wq Bbm (.bool gq) (.slice pq nq cq)
            have hN := bm.stored (.bool gq) (.slice pq nq cq)
            generalize (Wq.setCell ⟨Bbm, 0, none⟩ (.bool gq)).setCell ⟨Bbm, 1, none⟩ (.slice pq nq cq) = WZ at hP hN ⊢
            replace hz := hz.put bm (by decide) hP
            replace hx := hx.put bm (by decide) hP
            replace hd := hd.put bm (by decide) hP
            replace ht := ht.put bm (by decide) hP
            replace hq := hq.put bm (by decide) hP
            replace hv := hv.put bm (by decide) hP
            replace bw := bw.put hP (by have := l_bm_bw.out; omega)
            replace bz := bz.put hP (by have := l_bm_bz.out; omega)
            replace br := br.put hP (by have := l_bm_br.out; omega)
            replace h0 := bel_put h0 (by have := s_bm.out; omega) hP
            clear hP bm
            have bm := hN
            clear hN
            refine hK.out _ _ (⟨bw, bz⟩) (fun _ => ?_)
            clear hK K
            (try simp only [Act.put, List.setIfInBounds_toArray, List.set_cons_zero, List.set_cons_succ, List.getElem_toArray, List.getElem_cons_zero, List.getElem_cons_succ])
            refine wpAnyH_done (by kernel_rfl) ?_ _
            refine still1_step rfl (fun K hK => ?_)
            have hq0 := br.c0
            have hq1 := br.c1
            have hr0 := br.f0
            have hr1 := br.f1
            go_simp
            clear hq0 hq1 hr0 hr1
            have hP := put2 WZ Bbr (.bool gv) (.slice pv nv cv)
            have hN := br.stored (.bool gv) (.slice pv nv cv)
            generalize (WZ.setCell ⟨Bbr, 0, none⟩ (.bool gv)).setCell ⟨Bbr, 1, none⟩ (.slice pv nv cv) = WK at hP hN ⊢
            replace hz := hz.put br (by decide) hP
            replace hx := hx.put br (by decide) hP
            replace hd := hd.put br (by decide) hP
            replace ht := ht.put br (by decide) hP
            replace hq := hq.put br (by decide) hP
            replace hv := hv.put br (by decide) hP
            replace bw := bw.put hP (by have := l_br_bw.out; omega)
            replace bz := bz.put hP (by have := l_br_bz.out; omega)
            replace bm := bm.put hP (by have := l_bm_br.out; omega)
            replace h0 := bel_put h0 (by have := s_br.out; omega) hP
            clear hP br
            have br := hN
            clear hN
            refine hK.out _ _ ?_
            clear hK K
            (try simp only [Act.put, List.setIfInBounds_toArray, List.set_cons_zero, List.set_cons_succ, List.getElem_toArray, List.getElem_cons_zero, List.getElem_cons_succ])
            go_wp2_with fail
            go_meet
            case rel => exact ⟨gv, pv, nv, cv, Bbr, rfl, br, hv, h0⟩
        · go_simp
          have hal : Below Wx.heap.size Wx (Wx.alloc (.cells #[.bool false, .slice none 0 0] 27)) := (Below.refl _ _).alloc (Nat.le_refl _) _
          have bm := Bx.new Wx 27 (.bool false) (.slice none 0 0)
          have l_bm_bw := Lib.hid bw.lt
          have l_bm_bz := Lib.hid bz.lt
          have l_bm_br := Lib.hid br.lt
          have s_bm := Lib.hid (show w.heap.size ≤ Wx.heap.size from h0.size)
          replace hz := hz.go hal
          replace bw := bw.go hal
          replace bz := bz.go hal
          replace br := br.go hal
          replace hx := hx.go hal
          replace h0 := bel_go h0 h0.size hal
          clear hal
          generalize Wx.heap.size = Bbm at bm s_bm l_bm_bw l_bm_bz l_bm_br ⊢
          generalize Wx.alloc (.cells #[.bool false, .slice none 0 0] 27) = Vbm at hz bw bz br hx bm h0 ⊢
          refine hK.out _ _ (⟨bw, bz⟩) (fun _ => ?_)
          clear hK K
          (try simp only [Act.put, List.setIfInBounds_toArray, List.set_cons_zero, List.set_cons_succ, List.getElem_toArray, List.getElem_cons_zero, List.getElem_cons_succ])
          refine wpAnyH_ready (rs := [3]) (by kernel_rfl) (by simp) ?_
          refine AllReadyH.cons rfl (fun K hK => ?_) (AllReadyH.nil)
          go_simp
          go_at_call 27; refine (zless_any _ _ n z sn sz _ hx hz).mono ?_
          rintro e Wd ⟨u, rfl, hd, hb⟩
          obtain ⟨gd, pd, nd, cd, rfl⟩ := hd.shape
          replace hz := hz.go hb
          replace bw := bw.go hb
          replace bz := bz.go hb
          replace br := br.go hb
          replace hx := hx.go hb
          replace bm := bm.go hb
          replace h0 := bel_go h0 h0.size hb
          clear hb
          refine hK.out _ _ (⟨bw, bz⟩) (fun _ => ?_)
          clear hK K
          (try simp only [Act.put, List.setIfInBounds_toArray, List.set_cons_zero, List.set_cons_succ, List.getElem_toArray, List.getElem_cons_zero, List.getElem_cons_succ])
          refine wpAnyH_ready (rs := [4]) (by kernel_rfl) (by simp) ?_
          refine AllReadyH.cons rfl (fun K hK => ?_) (AllReadyH.nil)
          go_simp
          go_at_call 48; refine (two_any 8 (by omega) _).mono ?_
          rintro e Wt ⟨u, rfl, ht, hb⟩
          obtain ⟨gt, pt, nt, ct, rfl⟩ := ht.shape
          replace hz := hz.go hb
          replace bw := bw.go hb
          replace bz := bz.go hb
          replace br := br.go hb
          replace hx := hx.go hb
          replace bm := bm.go hb
          replace hd := hd.go hb
          replace h0 := bel_go h0 h0.size hb
          clear hb
          refine hK.out _ _ (⟨bw, bz⟩) (fun _ => ?_)
          clear hK K
          (try simp only [Act.put, List.setIfInBounds_toArray, List.set_cons_zero, List.set_cons_succ, List.getElem_toArray, List.getElem_cons_zero, List.getElem_cons_succ])
          refine wpAnyH_ready (rs := [5]) (by kernel_rfl) (by simp) ?_
          refine AllReadyH.cons rfl (fun K hK => ?_) (AllReadyH.nil)
          go_simp
          go_at_call 33; refine (zsplit_any _ _ (n - z) (2 ^ (16 * 8)) h20 hl1 hl2 _ hd ht).mono ?_
          rintro e Wq ⟨u, v, rfl, hq, hv, hb⟩
          obtain ⟨gq, pq, nq, cq, rfl⟩ := hq.shape
          obtain ⟨gv, pv, nv, cv, rfl⟩ := hv.shape
          replace hz := hz.go hb
          replace bw := bw.go hb
          replace bz := bz.go hb
          replace br := br.go hb
          replace hx := hx.go hb
          replace bm := bm.go hb
          replace hd := hd.go hb
          replace ht := ht.go hb
          replace h0 := bel_go h0 h0.size hb
          clear hb
          refine hK.out _ _ (⟨bw, bz⟩) (fun _ => ?_)
          clear hK K
          (try simp only [Act.put, List.setIfInBounds_toArray, List.set_cons_zero, List.set_cons_succ, List.getElem_toArray, List.getElem_cons_zero, List.getElem_cons_succ])
          refine wpAnyH_take (i := 6) (v := ?_) rfl (by kernel_rfl) (by kernel_rfl) (by kernel_rfl) (fun _ _ _ h => h) (Or.inl ⟨by kernel_rfl, ?_⟩) (⟨bw, bz⟩) ?_
          rotate_left
          focus (intro W' hSw; obtain ⟨hx0, hx1⟩ := hSw; have hc0 := hx0.c0; have hc1 := hx0.c1; have hc2 := hx1.c0; have hc3 := hx1.c1; clear hx0 hx1; go_simp; (try with_reducible rfl))
          (try simp only [Act.put, List.setIfInBounds_toArray, List.set_cons_zero, List.set_cons_succ, List.getElem_toArray, List.getElem_cons_zero, List.getElem_cons_succ])
          refine wpAnyH_take (i := 7) (v := ?_) rfl (by kernel_rfl) (by kernel_rfl) (by kernel_rfl) (fun _ _ _ h => h) (Or.inl ⟨by kernel_rfl, ?_⟩) (⟨bw, bz⟩) ?_
          rotate_left
          focus (intro W' hSw; obtain ⟨hx0, hx1⟩ := hSw; have hc0 := hx0.c0; have hc1 := hx0.c1; have hc2 := hx1.c0; have hc3 := hx1.c1; clear hx0 hx1; go_simp; (try with_reducible rfl))
          (try simp only [Act.put, List.setIfInBounds_toArray, List.set_cons_zero, List.set_cons_succ, List.getElem_toArray, List.getElem_cons_zero, List.getElem_cons_succ])
          refine wpAnyH_take (i := 8) (v := ?_) rfl (by kernel_rfl) (by kernel_rfl) (by kernel_rfl) (fun _ _ _ h => h) (Or.inl ⟨by kernel_rfl, ?_⟩) (⟨bw, bz⟩) ?_
          rotate_left
          focus (intro W' hSw; obtain ⟨hx0, hx1⟩ := hSw; have hc0 := hx0.c0; have hc1 := hx0.c1; have hc2 := hx1.c0; have hc3 := hx1.c1; clear hx0 hx1; go_simp; (try with_reducible rfl))
          (try simp only [Act.put, List.setIfInBounds_toArray, List.set_cons_zero, List.set_cons_succ, List.getElem_toArray, List.getElem_cons_zero, List.getElem_cons_succ])
          refine wpAnyH_ready (rs := [11]) (by kernel_rfl) (by simp) ?_
          refine AllReadyH.cons rfl (fun K hK => ?_) (AllReadyH.nil)
          have hq0 := bm.c0
          have hq1 := bm.c1
          have hr0 := bm.f0
          have hr1 := bm.f1
          go_simp
          clear hq0 hq1 hr0 hr1
          have hP := put2 Wq Bbm (.bool gq) (.slice pq nq cq)
          have hN := bm.stored (.bool gq) (.slice pq nq cq)
          generalize (Wq.setCell ⟨Bbm, 0, none⟩ (.bool gq)).setCell ⟨Bbm, 1, none⟩ (.slice pq nq cq) = WZ at hP hN ⊢
          replace hz := hz.put bm (by decide) hP
          replace hx := hx.put bm (by decide) hP
          replace hd := hd.put bm (by decide) hP
          replace ht := ht.put bm (by decide) hP
          replace hq := hq.put bm (by decide) hP
          replace hv := hv.put bm (by decide) hP
          replace bw := bw.put hP (by have := l_bm_bw.out; omega)
          replace bz := bz.put hP (by have := l_bm_bz.out; omega)
          replace br := br.put hP (by have := l_bm_br.out; omega)
          replace h0 := bel_put h0 (by have := s_bm.out; omega) hP
          clear hP bm
          have bm := hN
          clear hN
          refine hK.out _ _ (⟨bw, bz⟩) (fun _ => ?_)
          clear hK K
          (try simp only [Act.put, List.setIfInBounds_toArray, List.set_cons_zero, List.set_cons_succ, List.getElem_toArray, List.getElem_cons_zero, List.getElem_cons_succ])
          refine wpAnyH_done (by kernel_rfl) ?_ _
          refine still1_step rfl (fun K hK => ?_)
          have hq0 := br.c0
          have hq1 := br.c1
          have hr0 := br.f0
          have hr1 := br.f1
          go_simp
          clear hq0 hq1 hr0 hr1
          have hP := put2 WZ Bbr (.bool gv) (.slice pv nv cv)
          have hN := br.stored (.bool gv) (.slice pv nv cv)
          generalize (WZ.setCell ⟨Bbr, 0, none⟩ (.bool gv)).setCell ⟨Bbr, 1, none⟩ (.slice pv nv cv) = WK at hP hN ⊢
          replace hz := hz.put br (by decide) hP
          replace hx := hx.put br (by decide) hP
          replace hd := hd.put br (by decide) hP
          replace ht := ht.put br (by decide) hP
          replace hq := hq.put br (by decide) hP
          replace hv := hv.put br (by decide) hP
          replace bw := bw.put hP (by have := l_br_bw.out; omega)
          replace bz := bz.put hP (by have := l_br_bz.out; omega)
          replace bm := bm.put hP (by have := l_bm_br.out; omega)
          replace h0 := bel_put h0 (by have := s_br.out; omega) hP
          clear hP br
          have br := hN
          clear hN
          refine hK.out _ _ ?_
          clear hK K
          (try simp only [Act.put, List.setIfInBounds_toArray, List.set_cons_zero, List.set_cons_succ, List.getElem_toArray, List.getElem_cons_zero, List.getElem_cons_succ])
          go_wp2_with fail
          go_meet
          case rel => exact ⟨gv, pv, nv, cv, Bbr, rfl, br, hv, h0⟩
      · go_simp
        have hal : Below Vbr.heap.size Vbr (Vbr.alloc (.cells #[.bool false, .slice none 0 0] 27)) := (Below.refl _ _).alloc (Nat.le_refl _) _
        have bm := Bx.new Vbr 27 (.bool false) (.slice none 0 0)
        have l_bm_bw := Lib.hid bw.lt
        have l_bm_bz := Lib.hid bz.lt
        have l_bm_br := Lib.hid br.lt
        have s_bm := Lib.hid (show w.heap.size ≤ Vbr.heap.size from h0.size)
        replace hz := hz.go hal
        replace bw := bw.go hal
        replace bz := bz.go hal
        replace br := br.go hal
        replace h0 := bel_go h0 h0.size hal
        clear hal
        generalize Vbr.heap.size = Bbm at bm s_bm l_bm_bw l_bm_bz l_bm_br ⊢
        generalize Vbr.alloc (.cells #[.bool false, .slice none 0 0] 27) = Vbm at hz bw bz br bm h0 ⊢
        refine hK.out _ _ (⟨bw, bz⟩) (fun _ => ?_)
        clear hK K
        (try simp only [Act.put, List.setIfInBounds_toArray, List.set_cons_zero, List.set_cons_succ, List.getElem_toArray, List.getElem_cons_zero, List.getElem_cons_succ])
        refine wpAnyH_ready (rs := [1]) (by kernel_rfl) (by simp) ?_
        refine AllReadyH.cons rfl (fun K hK => ?_) (AllReadyH.nil)
        go_simp
        go_at_call 47; refine (hwoA.out _).mono ?_
        rintro e Wx ⟨u, rfl, hx, hb⟩
        obtain ⟨gx, px, nx, cx, rfl⟩ := hx.shape
        replace hz := hz.go hb
        replace bw := bw.go hb
        replace bz := bz.go hb
        replace br := br.go hb
        replace bm := bm.go hb
        replace h0 := bel_go h0 h0.size hb
        clear hb
        refine hK.out _ _ (⟨bw, bz⟩) (fun _ => ?_)
        clear hK K
        (try simp only [Act.put, List.setIfInBounds_toArray, List.set_cons_zero, List.set_cons_succ, List.getElem_toArray, List.getElem_cons_zero, List.getElem_cons_succ])
        refine wpAnyH_ready (rs := [3]) (by kernel_rfl) (by simp) ?_
        refine AllReadyH.cons rfl (fun K hK => ?_) (AllReadyH.nil)
        go_simp
        go_at_call 27; refine (zless_any _ _ n z sn sz _ hx hz).mono ?_
        rintro e Wd ⟨u, rfl, hd, hb⟩
        obtain ⟨gd, pd, nd, cd, rfl⟩ := hd.shape
        replace hz := hz.go hb
        replace bw := bw.go hb
        replace bz := bz.go hb
        replace br := br.go hb
        replace bm := bm.go hb
        replace hx := hx.go hb
        replace h0 := bel_go h0 h0.size hb
        clear hb
        refine hK.out _ _ (⟨bw, bz⟩) (fun _ => ?_)
        clear hK K
        (try simp only [Act.put, List.setIfInBounds_toArray, List.set_cons_zero, List.set_cons_succ, List.getElem_toArray, List.getElem_cons_zero, List.getElem_cons_succ])
        refine wpAnyH_ready (rs := [4]) (by kernel_rfl) (by simp) ?_
        refine AllReadyH.cons rfl (fun K hK => ?_) (AllReadyH.nil)
        go_simp
        go_at_call 48; refine (two_any 8 (by omega) _).mono ?_
        rintro e Wt ⟨u, rfl, ht, hb⟩
        obtain ⟨gt, pt, nt, ct, rfl⟩ := ht.shape
        replace hz := hz.go hb
        replace bw := bw.go hb
        replace bz := bz.go hb
        replace br := br.go hb
        replace bm := bm.go hb
        replace hx := hx.go hb
        replace hd := hd.go hb
        replace h0 := bel_go h0 h0.size hb
        clear hb
        refine hK.out _ _ (⟨bw, bz⟩) (fun _ => ?_)
        clear hK K
        (try simp only [Act.put, List.setIfInBounds_toArray, List.set_cons_zero, List.set_cons_succ, List.getElem_toArray, List.getElem_cons_zero, List.getElem_cons_succ])
        refine wpAnyH_ready (rs := [5]) (by kernel_rfl) (by simp) ?_
        refine AllReadyH.cons rfl (fun K hK => ?_) (AllReadyH.nil)
        go_simp
        go_at_call 33; refine (zsplit_any _ _ (n - z) (2 ^ (16 * 8)) h20 hl1 hl2 _ hd ht).mono ?_
        rintro e Wq ⟨u, v, rfl, hq, hv, hb⟩
        obtain ⟨gq, pq, nq, cq, rfl⟩ := hq.shape
        obtain ⟨gv, pv, nv, cv, rfl⟩ := hv.shape
        replace hz := hz.go hb
        replace bw := bw.go hb
        replace bz := bz.go hb
        replace br := br.go hb
        replace bm := bm.go hb
        replace hx := hx.go hb
        replace hd := hd.go hb
        replace ht := ht.go hb
        replace h0 := bel_go h0 h0.size hb
        clear hb
        refine hK.out _ _ (⟨bw, bz⟩) (fun _ => ?_)
        clear hK K
        (try simp only [Act.put, List.setIfInBounds_toArray, List.set_cons_zero, List.set_cons_succ, List.getElem_toArray, List.getElem_cons_zero, List.getElem_cons_succ])
        refine wpAnyH_take (i := 6) (v := ?_) rfl (by kernel_rfl) (by kernel_rfl) (by kernel_rfl) (fun _ _ _ h => h) (Or.inl ⟨by kernel_rfl, ?_⟩) (⟨bw, bz⟩) ?_
        rotate_left
        focus (intro W' hSw; obtain ⟨hx0, hx1⟩ := hSw; have hc0 := hx0.c0; have hc1 := hx0.c1; have hc2 := hx1.c0; have hc3 := hx1.c1; clear hx0 hx1; go_simp; (try with_reducible rfl))
        (try simp only [Act.put, List.setIfInBounds_toArray, List.set_cons_zero, List.set_cons_succ, List.getElem_toArray, List.getElem_cons_zero, List.getElem_cons_succ])
        refine wpAnyH_take (i := 7) (v := ?_) rfl (by kernel_rfl) (by kernel_rfl) (by kernel_rfl) (fun _ _ _ h => h) (Or.inl ⟨by kernel_rfl, ?_⟩) (⟨bw, bz⟩) ?_
        rotate_left
        focus (intro W' hSw; obtain ⟨hx0, hx1⟩ := hSw; have hc0 := hx0.c0; have hc1 := hx0.c1; have hc2 := hx1.c0; have hc3 := hx1.c1; clear hx0 hx1; go_simp; (try with_reducible rfl))
        (try simp only [Act.put, List.setIfInBounds_toArray, List.set_cons_zero, List.set_cons_succ, List.getElem_toArray, List.getElem_cons_zero, List.getElem_cons_succ])
        refine wpAnyH_take (i := 8) (v := ?_) rfl (by kernel_rfl) (by kernel_rfl) (by kernel_rfl) (fun _ _ _ h => h) (Or.inl ⟨by kernel_rfl, ?_⟩) (⟨bw, bz⟩) ?_
        rotate_left
        focus (intro W' hSw; obtain ⟨hx0, hx1⟩ := hSw; have hc0 := hx0.c0; have hc1 := hx0.c1; have hc2 := hx1.c0; have hc3 := hx1.c1; clear hx0 hx1; go_simp; (try with_reducible rfl))
        (try simp only [Act.put, List.setIfInBounds_toArray, List.set_cons_zero, List.set_cons_succ, List.getElem_toArray, List.getElem_cons_zero, List.getElem_cons_succ])
        refine wpAnyH_ready (rs := [11]) (by kernel_rfl) (by simp) ?_
        refine AllReadyH.cons rfl (fun K hK => ?_) (AllReadyH.nil)
        have hq0 := bm.c0
        have hq1 := bm.c1
        have hr0 := bm.f0
        have hr1 := bm.f1
        go_simp
        clear hq0 hq1 hr0 hr1
        have hP := put2 Wq Bbm (.bool gq) (.slice pq nq cq)
        have hN := bm.stored (.bool gq) (.slice pq nq cq)
        generalize (Wq.setCell ⟨Bbm, 0, none⟩ (.bool gq)).setCell ⟨Bbm, 1, none⟩ (.slice pq nq cq) = WZ at hP hN ⊢
        replace hz := hz.put bm (by decide) hP
        replace hx := hx.put bm (by decide) hP
        replace hd := hd.put bm (by decide) hP
        replace ht := ht.put bm (by decide) hP
        replace hq := hq.put bm (by decide) hP
        replace hv := hv.put bm (by decide) hP
        replace bw := bw.put hP (by have := l_bm_bw.out; omega)
        replace bz := bz.put hP (by have := l_bm_bz.out; omega)
        replace br := br.put hP (by have := l_bm_br.out; omega)
        replace h0 := bel_put h0 (by have := s_bm.out; omega) hP
        clear hP bm
        have bm := hN
        clear hN
        refine hK.out _ _ (⟨bw, bz⟩) (fun _ => ?_)
        clear hK K
        (try simp only [Act.put, List.setIfInBounds_toArray, List.set_cons_zero, List.set_cons_succ, List.getElem_toArray, List.getElem_cons_zero, List.getElem_cons_succ])
        refine wpAnyH_done (by kernel_rfl) ?_ _
        refine still1_step rfl (fun K hK => ?_)
        have hq0 := br.c0
        have hq1 := br.c1
        have hr0 := br.f0
        have hr1 := br.f1
        go_simp
        clear hq0 hq1 hr0 hr1
        have hP := put2 WZ Bbr (.bool gv) (.slice pv nv cv)
        have hN := br.stored (.bool gv) (.slice pv nv cv)
        generalize (WZ.setCell ⟨Bbr, 0, none⟩ (.bool gv)).setCell ⟨Bbr, 1, none⟩ (.slice pv nv cv) = WK at hP hN ⊢
        replace hz := hz.put br (by decide) hP
        replace hx := hx.put br (by decide) hP
        replace hd := hd.put br (by decide) hP
        replace ht := ht.put br (by decide) hP
        replace hq := hq.put br (by decide) hP
        replace hv := hv.put br (by decide) hP
        replace bw := bw.put hP (by have := l_br_bw.out; omega)
        replace bz := bz.put hP (by have := l_br_bz.out; omega)
        replace bm := bm.put hP (by have := l_bm_br.out; omega)
        replace h0 := bel_put h0 (by have := s_br.out; omega) hP
        clear hP br
        have br := hN
        clear hN
        refine hK.out _ _ ?_
        clear hK K
        (try simp only [Act.put, List.setIfInBounds_toArray, List.set_cons_zero, List.set_cons_succ, List.getElem_toArray, List.getElem_cons_zero, List.getElem_cons_succ])
        go_wp2_with fail
        go_meet
        case rel => exact ⟨gv, pv, nv, cv, Bbr, rfl, br, hv, h0⟩
  case rest =>
    clear bw bz hz h0
    obtain ⟨gv, pv, nv, cv, Bbr, rfl, br, hv, h0⟩ := hcut
    rw [HD.out] at hv
    have c0 := br.c0
    have c1 := br.c1
    go_wp2_with fail
    go_at_call 49; refine (sign_any _ 0 _ hv).mono ?_
    rw [show cmpI 0 0 = 0 from rfl]
    rintro e WE ⟨rfl, hb⟩
    replace h0 := bel_go h0 h0.size hb
    go_wp2
    go_ret
    exact ⟨rfl, h0⟩
end Go.Proofs.Ytalonppmoimmjaa
