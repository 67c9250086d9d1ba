/-
  The contracts of the reference's Round, and of what NumQuotients asks of each result.
  Conditions: those of each theorem.
-/
import Derived.Test.YtijpjjpndpdjpaaZQ
set_option linter.unusedSimpArgs false
set_option linter.unusedVariables false
namespace Go.Proofs.Ytijpjjpndpdjpaa
open Go.RowKit Go.Shelf Zd Wd

theorem dlen_addZ {a b : Int} {k : Nat} (ha : (digs a.natAbs).length ≤ k) (hb : (digs b.natAbs).length ≤ k) : (digs (a + b).natAbs).length ≤ k + 1 := by
  have h1 := len_le ha
  have h2 := len_le hb
  refine digs_len ?_
  rw [Nat.pow_succ]
  omega

set_option maxRecDepth 100000 in
set_option maxHeartbeats 8000000 in
theorem round_pos (va vb : Value) (a b : Int) (hs : 0 ≤ a) (hb1 : 1 ≤ b) (hla : (digs a.natAbs).length ≤ 100000) (hlb : (digs b.natAbs).length ≤ 100000) (w : World) (hA : IsZ w va a) (hB : IsZ w vb b) :
    Calls Try.prog 72 #[va, vb] w fun e w' => ∃ u, e = .returned u ∧ IsZ w' u (((a.natAbs : Int) * 2 + b) / (b * 2)) ∧ Below w.heap.size w w' := by
  obtain ⟨ga, pa, na, ca, rfl⟩ := hA.shape
  obtain ⟨gb, pb, nb, cb, rfl⟩ := hB.shape
  obtain rfl : ga = false := by rw [hA.neg]; exact decide_eq_false (by omega)
  have h2 : (digs (2 : Int).natAbs).length ≤ 1 := digs_len (by decide)
  have hl1 : (digs ((a.natAbs : Int)).natAbs).length + (digs (2 : Int).natAbs).length ≤ 1999999 := by rw [Int.natAbs_natCast]; omega
  have hl2 : (digs b.natAbs).length + (digs (2 : Int).natAbs).length ≤ 1999999 := by omega
  have k1 : (digs ((a.natAbs : Int) * 2).natAbs).length ≤ 100001 := by
    rw [Int.natAbs_mul, Int.natAbs_natCast]; have := dlen_mul a.natAbs (2 : Int).natAbs; omega
  have k2 : (digs (b * 2).natAbs).length ≤ 100001 := by rw [Int.natAbs_mul]; have := dlen_mul b.natAbs (2 : Int).natAbs; omega
  have hs1 : Sm ((a.natAbs : Int) * 2) := by unfold Sm; omega
  have hsb : Sm b := by unfold Sm; omega
  have hl3 : (digs ((a.natAbs : Int) * 2 + b).natAbs).length ≤ 400000 := Nat.le_trans (dlen_addZ k1 (Nat.le_trans hlb (show 100000 ≤ 100001 by omega))) (by omega)
  have hl4 : (digs (b * 2).natAbs).length ≤ 400000 := by omega
  have hd0 : b * 2 ≠ 0 := by omega
  have hsq : Sm (((a.natAbs : Int) * 2 + b) / (b * 2)) := floor_sm hd0 hl3
  clear k1 k2 h2 hs
  obtain ⟨W, hW, h0, b1, b2, b3⟩ := boot3 w (.bool false) (.slice pa na ca) (.bool gb) (.slice pb nb cb)
  have HW := Lib.hid hW
  clear hW
  replace hA := hA.go h0
  replace hB := hB.go h0
  go_enter Try.func72, Try.ntmps72
  go_wp2
  rw [← HW.out]
  clear HW
  refine wp_region_last (S := fun W' => Bx W' (w.heap.size) 27 (.bool false) (.slice pa na ca) ∧ Bx W' (w.heap.size + 1) 27 (.bool gb) (.slice pb nb cb)) (m := 11) (by kernel_rfl) (by kernel_rfl) (by kernel_rfl) (⟨b1.drew, b2.drew⟩) (fun _ => ?_)
  replace hA := hA.drew
  replace hB := hB.drew
  replace b1 := b1.drew
  replace b2 := b2.drew
  replace b3 := b3.drew
  replace h0 := Below.drew h0
  generalize W.drew = W at hA hB b1 b2 b3 h0 ⊢
  refine wpAnyH_take (i := 0) (v := ?_) rfl (by kernel_rfl) (by kernel_rfl) (by kernel_rfl) (fun _ _ _ h => h) (Or.inl ⟨by kernel_rfl, ?_⟩) (⟨b1, b2⟩) ?_
  rotate_left
  focus (intro W' hSw; obtain ⟨hx0, hx1⟩ := hSw; have hc0 := hx0.c0; have hc1 := hx0.c1; have hc2 := hx1.c0; have hc3 := hx1.c1; clear hx0 hx1; go_simp; (try with_reducible rfl))
  (try simp only [Act.put, List.setIfInBounds_toArray, List.set_cons_zero, List.set_cons_succ, List.getElem_toArray, List.getElem_cons_zero, List.getElem_cons_succ])
  refine wpAnyH_take (i := 4) (v := ?_) rfl (by kernel_rfl) (by kernel_rfl) (by kernel_rfl) (fun _ _ _ h => h) (Or.inl ⟨by kernel_rfl, ?_⟩) (⟨b1, b2⟩) ?_
  rotate_left
  focus (intro W' hSw; obtain ⟨hx0, hx1⟩ := hSw; have hc0 := hx0.c0; have hc1 := hx0.c1; have hc2 := hx1.c0; have hc3 := hx1.c1; clear hx0 hx1; go_simp; (try with_reducible rfl))
  (try simp only [Act.put, List.setIfInBounds_toArray, List.set_cons_zero, List.set_cons_succ, List.getElem_toArray, List.getElem_cons_zero, List.getElem_cons_succ])
  refine wpAnyH_take (i := 6) (v := ?_) rfl (by kernel_rfl) (by kernel_rfl) (by kernel_rfl) (fun _ _ _ h => h) (Or.inl ⟨by kernel_rfl, ?_⟩) (⟨b1, b2⟩) ?_
  rotate_left
  focus (intro W' hSw; obtain ⟨hx0, hx1⟩ := hSw; have hc0 := hx0.c0; have hc1 := hx0.c1; have hc2 := hx1.c0; have hc3 := hx1.c1; clear hx0 hx1; go_simp; (try with_reducible rfl))
  (try simp only [Act.put, List.setIfInBounds_toArray, List.set_cons_zero, List.set_cons_succ, List.getElem_toArray, List.getElem_cons_zero, List.getElem_cons_succ])
  refine wpAnyH_ready (rs := [1, 10]) (by kernel_rfl) (by simp) ?_
  refine AllReadyH.cons rfl (fun K hK => ?_) (AllReadyH.cons rfl (fun K hK => ?_) (AllReadyH.nil))
  · go_simp
    go_at_call 45; refine (zabs_any _ a _ hA).mono ?_
    rintro e Wm ⟨u, rfl, hm, hb⟩
    obtain ⟨gm, pm, nm, cm, rfl⟩ := hm.shape
    replace hA := hA.go hb
    replace hB := hB.go hb
    replace b1 := b1.go hb
    replace b2 := b2.go hb
    replace b3 := b3.go hb
    replace h0 := bel_go h0 h0.size hb
    clear hb
    refine hK.out _ _ (⟨b1, b2⟩) (fun _ => ?_)
    clear hK K
    (try simp only [Act.put, List.setIfInBounds_toArray, List.set_cons_zero, List.set_cons_succ, List.getElem_toArray, List.getElem_cons_zero, List.getElem_cons_succ])
    refine wpAnyH_ready (rs := [2, 10]) (by kernel_rfl) (by simp) ?_
    refine AllReadyH.cons rfl (fun K hK => ?_) (AllReadyH.cons rfl (fun K hK => ?_) (AllReadyH.nil))
    · go_simp
      go_at_call 21; refine (i_any 2 (by omega) (by omega) _).mono ?_
      rintro e Wi ⟨u, rfl, hi, hb⟩
      obtain ⟨gi, pi, ni, ci, rfl⟩ := hi.shape
      replace hA := hA.go hb
      replace hB := hB.go hb
      replace hm := hm.go hb
      replace b1 := b1.go hb
      replace b2 := b2.go hb
      replace b3 := b3.go hb
      replace h0 := bel_go h0 h0.size hb
      clear hb
      refine hK.out _ _ (⟨b1, b2⟩) (fun _ => ?_)
      clear hK K
      (try simp only [Act.put, List.setIfInBounds_toArray, List.set_cons_zero, List.set_cons_succ, List.getElem_toArray, List.getElem_cons_zero, List.getElem_cons_succ])
      refine wpAnyH_ready (rs := [3, 10]) (by kernel_rfl) (by simp) ?_
      refine AllReadyH.cons rfl (fun K hK => ?_) (AllReadyH.cons rfl (fun K hK => ?_) (AllReadyH.nil))
      · go_simp
        go_at_call 52; refine (ztimes_any _ _ (a.natAbs : Int) 2 hl1 _ hm hi).mono ?_
        rintro e Wt ⟨u, rfl, ht, hb⟩
        obtain ⟨gt, pt, nt, ct, rfl⟩ := ht.shape
        replace hA := hA.go hb
        replace hB := hB.go hb
        replace hm := hm.go hb
        replace hi := hi.go hb
        replace b1 := b1.go hb
        replace b2 := b2.go hb
        replace b3 := b3.go hb
        replace h0 := bel_go h0 h0.size hb
        clear hb
        refine hK.out _ _ (⟨b1, b2⟩) (fun _ => ?_)
        clear hK K
        (try simp only [Act.put, List.setIfInBounds_toArray, List.set_cons_zero, List.set_cons_succ, List.getElem_toArray, List.getElem_cons_zero, List.getElem_cons_succ])
        refine wpAnyH_ready (rs := [5, 10]) (by kernel_rfl) (by simp) ?_
        refine AllReadyH.cons rfl (fun K hK => ?_) (AllReadyH.cons rfl (fun K hK => ?_) (AllReadyH.nil))
        · go_simp
          go_at_call 34; refine (zplus_any _ _ ((a.natAbs : Int) * 2) b hs1 hsb _ ht hB).mono ?_
          rintro e Ws ⟨u, rfl, hs, hb⟩
          obtain ⟨gs, ps, ns, cs, rfl⟩ := hs.shape
          replace hA := hA.go hb
          replace hB := hB.go hb
          replace hm := hm.go hb
          replace hi := hi.go hb
          replace ht := ht.go hb
          replace b1 := b1.go hb
          replace b2 := b2.go hb
          replace b3 := b3.go hb
          replace h0 := bel_go h0 h0.size hb
          clear hb
          refine hK.out _ _ (⟨b1, b2⟩) (fun _ => ?_)
          clear hK K
          (try simp only [Act.put, List.setIfInBounds_toArray, List.set_cons_zero, List.set_cons_succ, List.getElem_toArray, List.getElem_cons_zero, List.getElem_cons_succ])
          refine wpAnyH_ready (rs := [7, 10]) (by kernel_rfl) (by simp) ?_
          refine AllReadyH.cons rfl (fun K hK => ?_) (AllReadyH.cons rfl (fun K hK => ?_) (AllReadyH.nil))
          · go_simp
            go_at_call 21; refine (i_any 2 (by omega) (by omega) _).mono ?_
            rintro e Wj ⟨u, rfl, hj, hb⟩
            obtain ⟨gj, pj, nj, cj, rfl⟩ := hj.shape
            replace hA := hA.go hb
            replace hB := hB.go hb
            replace hm := hm.go hb
            replace hi := hi.go hb
            replace ht := ht.go hb
            replace hs := hs.go hb
            replace b1 := b1.go hb
            replace b2 := b2.go hb
            replace b3 := b3.go hb
            replace h0 := bel_go h0 h0.size hb
            clear hb
            refine hK.out _ _ (⟨b1, b2⟩) (fun _ => ?_)
            clear hK K
            (try simp only [Act.put, List.setIfInBounds_toArray, List.set_cons_zero, List.set_cons_succ, List.getElem_toArray, List.getElem_cons_zero, List.getElem_cons_succ])
            refine wpAnyH_ready (rs := [8, 10]) (by kernel_rfl) (by simp) ?_
            refine AllReadyH.cons rfl (fun K hK => ?_) (AllReadyH.cons rfl (fun K hK => ?_) (AllReadyH.nil))
            · go_simp
              go_at_call 52; refine (ztimes_any _ _ b 2 hl2 _ hB hj).mono ?_
              rintro e Wd ⟨u, rfl, hd, hb⟩
              obtain ⟨gd, pd, nd, cd, rfl⟩ := hd.shape
              replace hA := hA.go hb
              replace hB := hB.go hb
              replace hm := hm.go hb
              replace hi := hi.go hb
              replace ht := ht.go hb
              replace hs := hs.go hb
              replace hj := hj.go hb
              replace b1 := b1.go hb
              replace b2 := b2.go hb
              replace b3 := b3.go hb
              replace h0 := bel_go h0 h0.size hb
              clear hb
              refine hK.out _ _ (⟨b1, b2⟩) (fun _ => ?_)
              clear hK K
              (try simp only [Act.put, List.setIfInBounds_toArray, List.set_cons_zero, List.set_cons_succ, List.getElem_toArray, List.getElem_cons_zero, List.getElem_cons_succ])
              refine wpAnyH_ready (rs := [9, 10]) (by kernel_rfl) (by simp) ?_
              refine AllReadyH.cons rfl (fun K hK => ?_) (AllReadyH.cons rfl (fun K hK => ?_) (AllReadyH.nil))
              · go_simp
                go_at_call 70; refine (zfloor_any _ _ ((a.natAbs : Int) * 2 + b) (b * 2) hd0 hl3 hl4 _ hs hd).mono ?_
                rintro e Wq ⟨u, rfl, hq, hb⟩
                obtain ⟨gq, pq, nq, cq, rfl⟩ := hq.shape
                replace hA := hA.go hb
                replace hB := hB.go hb
                replace hm := hm.go hb
                replace hi := hi.go hb
                replace ht := ht.go hb
                replace hs := hs.go hb
                replace hj := hj.go hb
                replace hd := hd.go hb
                replace b1 := b1.go hb
                replace b2 := b2.go hb
                replace b3 := b3.go hb
                replace h0 := bel_go h0 h0.size hb
                clear hb
                refine hK.out _ _ (⟨b1, b2⟩) (fun _ => ?_)
                clear hK K
                (try simp only [Act.put, List.setIfInBounds_toArray, List.set_cons_zero, List.set_cons_succ, List.getElem_toArray, List.getElem_cons_zero, List.getElem_cons_succ])
                refine wpAnyH_ready (rs := [10]) (by kernel_rfl) (by simp) ?_
                refine AllReadyH.cons rfl (fun K hK => ?_) (AllReadyH.nil)
                go_simp
                have hal : Below Wq.heap.size Wq (Wq.alloc (.cells #[.bool false, .slice none 0 0] 27)) := (Below.refl _ _).alloc (Nat.le_refl _) _
                have bq := Bx.new Wq 27 (.bool false) (.slice none 0 0)
                have sl_bq := Lib.hid (show w.heap.size ≤ Wq.heap.size from h0.size)
                have l_bq_b1 := Lib.hid b1.lt
                have l_bq_b2 := Lib.hid b2.lt
                have l_bq_b3 := Lib.hid b3.lt
                replace hA := hA.go hal
                replace hB := hB.go hal
                replace hm := hm.go hal
                replace hi := hi.go hal
                replace ht := ht.go hal
                replace hs := hs.go hal
                replace hj := hj.go hal
                replace hd := hd.go hal
                replace hq := hq.go hal
                replace b1 := b1.go hal
                replace b2 := b2.go hal
                replace b3 := b3.go hal
                replace h0 := bel_go h0 h0.size hal
                clear hal
                generalize Wq.heap.size = Bbq at bq sl_bq l_bq_b1 l_bq_b2 l_bq_b3 ⊢
                generalize Wq.alloc (.cells #[.bool false, .slice none 0 0] 27) = Vbq at hA hB hm hi ht hs hj hd hq b1 b2 b3 bq h0 ⊢
                refine hK.out _ _ (⟨b1, b2⟩) (fun _ => ?_)
                clear hK K
                (try simp only [Act.put, List.setIfInBounds_toArray, List.set_cons_zero, List.set_cons_succ, List.getElem_toArray, List.getElem_cons_zero, List.getElem_cons_succ])
                refine wpAnyH_done (by kernel_rfl) ?_ _
                refine still1_step rfl (fun K hK => ?_)
                have hq0 := bq.c0
                have hq1 := bq.c1
                have hr0 := bq.f0
                have hr1 := bq.f1
                go_simp
                clear hq0 hq1 hr0 hr1
                have hP := put2 Vbq (Bbq) (.bool gq) (.slice pq nq cq)
                have hN := bq.stored (.bool gq) (.slice pq nq cq)
                generalize (Vbq.setCell ⟨Bbq, 0, none⟩ (.bool gq)).setCell ⟨Bbq, 1, none⟩ (.slice pq nq cq) = VS at hP hN ⊢
                replace hA := hA.put bq (by decide) hP
                replace hB := hB.put bq (by decide) hP
                replace hm := hm.put bq (by decide) hP
                replace hi := hi.put bq (by decide) hP
                replace ht := ht.put bq (by decide) hP
                replace hs := hs.put bq (by decide) hP
                replace hj := hj.put bq (by decide) hP
                replace hd := hd.put bq (by decide) hP
                replace hq := hq.put bq (by decide) hP
                replace h0 := bel_put h0 (by have := sl_bq.out; omega) hP
                replace b1 := b1.put hP (by have := l_bq_b1.out; omega)
                replace b2 := b2.put hP (by have := l_bq_b2.out; omega)
                replace b3 := b3.put hP (by have := l_bq_b3.out; omega)
                clear hP bq
                have bq := hN
                clear hN
                refine hK.out _ _ ?_
                clear hK K
                (try simp only [Act.put, List.setIfInBounds_toArray, List.set_cons_zero, List.set_cons_succ, List.getElem_toArray, List.getElem_cons_zero, List.getElem_cons_succ])
                have c10 := b1.c0
                have hq0 := bq.c0
                have hq1 := bq.c1
                have cr0 := b3.c0
                have cr1 := b3.c1
                have fr0 := b3.f0
                have fr1 := b3.f1
                go_wp2
                clear c10 cr0 cr1 fr0 fr1
                have e0 := (b3.stored (.bool gq) (.slice pq nq cq)).c0
                have e1 := (b3.stored (.bool gq) (.slice pq nq cq)).c1
                refine bodyPost_ret (v := .agg #[.bool gq, .slice pq nq cq]) (by simp [results, Try.results72, go_sem, e0, e1]) rfl ⟨_, rfl, ?_, ?_⟩
                · exact hq.put b3 (by decide) (put2 _ _ _ _)
                · exact bel_put h0 (by omega) (put2 _ _ _ _)
              · go_simp
                have hal : Below Wd.heap.size Wd (Wd.alloc (.cells #[.bool false, .slice none 0 0] 27)) := (Below.refl _ _).alloc (Nat.le_refl _) _
                have bq := Bx.new Wd 27 (.bool false) (.slice none 0 0)
                have sl_bq := Lib.hid (show w.heap.size ≤ Wd.heap.size from h0.size)
                have l_bq_b1 := Lib.hid b1.lt
                have l_bq_b2 := Lib.hid b2.lt
                have l_bq_b3 := Lib.hid b3.lt
                replace hA := hA.go hal
                replace hB := hB.go hal
                replace hm := hm.go hal
                replace hi := hi.go hal
                replace ht := ht.go hal
                replace hs := hs.go hal
                replace hj := hj.go hal
                replace hd := hd.go hal
                replace b1 := b1.go hal
                replace b2 := b2.go hal
                replace b3 := b3.go hal
                replace h0 := bel_go h0 h0.size hal
                clear hal
                generalize Wd.heap.size = Bbq at bq sl_bq l_bq_b1 l_bq_b2 l_bq_b3 ⊢
                generalize Wd.alloc (.cells #[.bool false, .slice none 0 0] 27) = Vbq at hA hB hm hi ht hs hj hd b1 b2 b3 bq h0 ⊢
                refine hK.out _ _ (⟨b1, b2⟩) (fun _ => ?_)
                clear hK K
                (try simp only [Act.put, List.setIfInBounds_toArray, List.set_cons_zero, List.set_cons_succ, List.getElem_toArray, List.getElem_cons_zero, List.getElem_cons_succ])
                refine wpAnyH_ready (rs := [9]) (by kernel_rfl) (by simp) ?_
                refine AllReadyH.cons rfl (fun K hK => ?_) (AllReadyH.nil)
                go_simp
                go_at_call 70; refine (zfloor_any _ _ ((a.natAbs : Int) * 2 + b) (b * 2) hd0 hl3 hl4 _ hs hd).mono ?_
                rintro e Wq ⟨u, rfl, hq, hb⟩
                obtain ⟨gq, pq, nq, cq, rfl⟩ := hq.shape
                replace hA := hA.go hb
                replace hB := hB.go hb
                replace hm := hm.go hb
                replace hi := hi.go hb
                replace ht := ht.go hb
                replace hs := hs.go hb
                replace hj := hj.go hb
                replace hd := hd.go hb
                replace b1 := b1.go hb
                replace b2 := b2.go hb
                replace b3 := b3.go hb
                replace bq := bq.go hb
                replace h0 := bel_go h0 h0.size hb
                clear hb
                refine hK.out _ _ (⟨b1, b2⟩) (fun _ => ?_)
                clear hK K
                (try simp only [Act.put, List.setIfInBounds_toArray, List.set_cons_zero, List.set_cons_succ, List.getElem_toArray, List.getElem_cons_zero, List.getElem_cons_succ])
                refine wpAnyH_done (by kernel_rfl) ?_ _
                refine still1_step rfl (fun K hK => ?_)
                have hq0 := bq.c0
                have hq1 := bq.c1
                have hr0 := bq.f0
                have hr1 := bq.f1
                go_simp
                clear hq0 hq1 hr0 hr1
                have hP := put2 Wq (Bbq) (.bool gq) (.slice pq nq cq)
                have hN := bq.stored (.bool gq) (.slice pq nq cq)
                generalize (Wq.setCell ⟨Bbq, 0, none⟩ (.bool gq)).setCell ⟨Bbq, 1, none⟩ (.slice pq nq cq) = VS at hP hN ⊢
                replace hA := hA.put bq (by decide) hP
                replace hB := hB.put bq (by decide) hP
                replace hm := hm.put bq (by decide) hP
                replace hi := hi.put bq (by decide) hP
                replace ht := ht.put bq (by decide) hP
                replace hs := hs.put bq (by decide) hP
                replace hj := hj.put bq (by decide) hP
                replace hd := hd.put bq (by decide) hP
                replace hq := hq.put bq (by decide) hP
                replace h0 := bel_put h0 (by have := sl_bq.out; omega) hP
                replace b1 := b1.put hP (by have := l_bq_b1.out; omega)
                replace b2 := b2.put hP (by have := l_bq_b2.out; omega)
                replace b3 := b3.put hP (by have := l_bq_b3.out; omega)
                clear hP bq
                have bq := hN
                clear hN
                refine hK.out _ _ ?_
                clear hK K
                (try simp only [Act.put, List.setIfInBounds_toArray, List.set_cons_zero, List.set_cons_succ, List.getElem_toArray, List.getElem_cons_zero, List.getElem_cons_succ])
                have c10 := b1.c0
                have hq0 := bq.c0
                have hq1 := bq.c1
                have cr0 := b3.c0
                have cr1 := b3.c1
                have fr0 := b3.f0
                have fr1 := b3.f1
                go_wp2
                clear c10 cr0 cr1 fr0 fr1
                have e0 := (b3.stored (.bool gq) (.slice pq nq cq)).c0
                have e1 := (b3.stored (.bool gq) (.slice pq nq cq)).c1
                refine bodyPost_ret (v := .agg #[.bool gq, .slice pq nq cq]) (by simp [results, Try.results72, go_sem, e0, e1]) rfl ⟨_, rfl, ?_, ?_⟩
                · exact hq.put b3 (by decide) (put2 _ _ _ _)
                · exact bel_put h0 (by omega) (put2 _ _ _ _)
            · go_simp
              have hal : Below Wj.heap.size Wj (Wj.alloc (.cells #[.bool false, .slice none 0 0] 27)) := (Below.refl _ _).alloc (Nat.le_refl _) _
              have bq := Bx.new Wj 27 (.bool false) (.slice none 0 0)
              have sl_bq := Lib.hid (show w.heap.size ≤ Wj.heap.size from h0.size)
              have l_bq_b1 := Lib.hid b1.lt
              have l_bq_b2 := Lib.hid b2.lt
              have l_bq_b3 := Lib.hid b3.lt
              replace hA := hA.go hal
              replace hB := hB.go hal
              replace hm := hm.go hal
              replace hi := hi.go hal
              replace ht := ht.go hal
              replace hs := hs.go hal
              replace hj := hj.go hal
              replace b1 := b1.go hal
              replace b2 := b2.go hal
              replace b3 := b3.go hal
              replace h0 := bel_go h0 h0.size hal
              clear hal
              generalize Wj.heap.size = Bbq at bq sl_bq l_bq_b1 l_bq_b2 l_bq_b3 ⊢
              generalize Wj.alloc (.cells #[.bool false, .slice none 0 0] 27) = Vbq at hA hB hm hi ht hs hj b1 b2 b3 bq h0 ⊢
              refine hK.out _ _ (⟨b1, b2⟩) (fun _ => ?_)
              clear hK K
              (try simp only [Act.put, List.setIfInBounds_toArray, List.set_cons_zero, List.set_cons_succ, List.getElem_toArray, List.getElem_cons_zero, List.getElem_cons_succ])
              refine wpAnyH_ready (rs := [8]) (by kernel_rfl) (by simp) ?_
              refine AllReadyH.cons rfl (fun K hK => ?_) (AllReadyH.nil)
              go_simp
              go_at_call 52; refine (ztimes_any _ _ b 2 hl2 _ hB hj).mono ?_
              rintro e Wd ⟨u, rfl, hd, hb⟩
              obtain ⟨gd, pd, nd, cd, rfl⟩ := hd.shape
              replace hA := hA.go hb
              replace hB := hB.go hb
              replace hm := hm.go hb
              replace hi := hi.go hb
              replace ht := ht.go hb
              replace hs := hs.go hb
              replace hj := hj.go hb
              replace b1 := b1.go hb
              replace b2 := b2.go hb
              replace b3 := b3.go hb
              replace bq := bq.go hb
              replace h0 := bel_go h0 h0.size hb
              clear hb
              refine hK.out _ _ (⟨b1, b2⟩) (fun _ => ?_)
              clear hK K
              (try simp only [Act.put, List.setIfInBounds_toArray, List.set_cons_zero, List.set_cons_succ, List.getElem_toArray, List.getElem_cons_zero, List.getElem_cons_succ])
              refine wpAnyH_ready (rs := [9]) (by kernel_rfl) (by simp) ?_
              refine AllReadyH.cons rfl (fun K hK => ?_) (AllReadyH.nil)
              go_simp
              go_at_call 70; refine (zfloor_any _ _ ((a.natAbs : Int) * 2 + b) (b * 2) hd0 hl3 hl4 _ hs hd).mono ?_
              rintro e Wq ⟨u, rfl, hq, hb⟩
              obtain ⟨gq, pq, nq, cq, rfl⟩ := hq.shape
              replace hA := hA.go hb
              replace hB := hB.go hb
              replace hm := hm.go hb
              replace hi := hi.go hb
              replace ht := ht.go hb
              replace hs := hs.go hb
              replace hj := hj.go hb
              replace hd := hd.go hb
              replace b1 := b1.go hb
              replace b2 := b2.go hb
              replace b3 := b3.go hb
              replace bq := bq.go hb
              replace h0 := bel_go h0 h0.size hb
              clear hb
              refine hK.out _ _ (⟨b1, b2⟩) (fun _ => ?_)
              clear hK K
              (try simp only [Act.put, List.setIfInBounds_toArray, List.set_cons_zero, List.set_cons_succ, List.getElem_toArray, List.getElem_cons_zero, List.getElem_cons_succ])
              refine wpAnyH_done (by kernel_rfl) ?_ _
              refine still1_step rfl (fun K hK => ?_)
              have hq0 := bq.c0
              have hq1 := bq.c1
              have hr0 := bq.f0
              have hr1 := bq.f1
              go_simp
              clear hq0 hq1 hr0 hr1
              have hP := put2 Wq (Bbq) (.bool gq) (.slice pq nq cq)
              have hN := bq.stored (.bool gq) (.slice pq nq cq)
              generalize (Wq.setCell ⟨Bbq, 0, none⟩ (.bool gq)).setCell ⟨Bbq, 1, none⟩ (.slice pq nq cq) = VS at hP hN ⊢
              replace hA := hA.put bq (by decide) hP
              replace hB := hB.put bq (by decide) hP
              replace hm := hm.put bq (by decide) hP
              replace hi := hi.put bq (by decide) hP
              replace ht := ht.put bq (by decide) hP
              replace hs := hs.put bq (by decide) hP
              replace hj := hj.put bq (by decide) hP
              replace hd := hd.put bq (by decide) hP
              replace hq := hq.put bq (by decide) hP
              replace h0 := bel_put h0 (by have := sl_bq.out; omega) hP
              replace b1 := b1.put hP (by have := l_bq_b1.out; omega)
              replace b2 := b2.put hP (by have := l_bq_b2.out; omega)
              replace b3 := b3.put hP (by have := l_bq_b3.out; omega)
              clear hP bq
              have bq := hN
              clear hN
              refine hK.out _ _ ?_
              clear hK K
              (try simp only [Act.put, List.setIfInBounds_toArray, List.set_cons_zero, List.set_cons_succ, List.getElem_toArray, List.getElem_cons_zero, List.getElem_cons_succ])
              have c10 := b1.c0
              have hq0 := bq.c0
              have hq1 := bq.c1
              have cr0 := b3.c0
              have cr1 := b3.c1
              have fr0 := b3.f0
              have fr1 := b3.f1
              go_wp2
              clear c10 cr0 cr1 fr0 fr1
              have e0 := (b3.stored (.bool gq) (.slice pq nq cq)).c0
              have e1 := (b3.stored (.bool gq) (.slice pq nq cq)).c1
              refine bodyPost_ret (v := .agg #[.bool gq, .slice pq nq cq]) (by simp [results, Try.results72, go_sem, e0, e1]) rfl ⟨_, rfl, ?_, ?_⟩
              · exact hq.put b3 (by decide) (put2 _ _ _ _)
              · exact bel_put h0 (by omega) (put2 _ _ _ _)
          · go_simp
            have hal : Below Ws.heap.size Ws (Ws.alloc (.cells #[.bool false, .slice none 0 0] 27)) := (Below.refl _ _).alloc (Nat.le_refl _) _
            have bq := Bx.new Ws 27 (.bool false) (.slice none 0 0)
            have sl_bq := Lib.hid (show w.heap.size ≤ Ws.heap.size from h0.size)
            have l_bq_b1 := Lib.hid b1.lt
            have l_bq_b2 := Lib.hid b2.lt
            have l_bq_b3 := Lib.hid b3.lt
            replace hA := hA.go hal
            replace hB := hB.go hal
            replace hm := hm.go hal
            replace hi := hi.go hal
            replace ht := ht.go hal
            replace hs := hs.go hal
            replace b1 := b1.go hal
            replace b2 := b2.go hal
            replace b3 := b3.go hal
            replace h0 := bel_go h0 h0.size hal
            clear hal
            generalize Ws.heap.size = Bbq at bq sl_bq l_bq_b1 l_bq_b2 l_bq_b3 ⊢
            generalize Ws.alloc (.cells #[.bool false, .slice none 0 0] 27) = Vbq at hA hB hm hi ht hs b1 b2 b3 bq h0 ⊢
            refine hK.out _ _ (⟨b1, b2⟩) (fun _ => ?_)
            clear hK K
            (try simp only [Act.put, List.setIfInBounds_toArray, List.set_cons_zero, List.set_cons_succ, List.getElem_toArray, List.getElem_cons_zero, List.getElem_cons_succ])
            refine wpAnyH_ready (rs := [7]) (by kernel_rfl) (by simp) ?_
            refine AllReadyH.cons rfl (fun K hK => ?_) (AllReadyH.nil)
            go_simp
            go_at_call 21; refine (i_any 2 (by omega) (by omega) _).mono ?_
            rintro e Wj ⟨u, rfl, hj, hb⟩
            obtain ⟨gj, pj, nj, cj, rfl⟩ := hj.shape
            replace hA := hA.go hb
            replace hB := hB.go hb
            replace hm := hm.go hb
            replace hi := hi.go hb
            replace ht := ht.go hb
            replace hs := hs.go hb
            replace b1 := b1.go hb
            replace b2 := b2.go hb
            replace b3 := b3.go hb
            replace bq := bq.go hb
            replace h0 := bel_go h0 h0.size hb
            clear hb
            refine hK.out _ _ (⟨b1, b2⟩) (fun _ => ?_)
            clear hK K
            (try simp only [Act.put, List.setIfInBounds_toArray, List.set_cons_zero, List.set_cons_succ, List.getElem_toArray, List.getElem_cons_zero, List.getElem_cons_succ])
            refine wpAnyH_ready (rs := [8]) (by kernel_rfl) (by simp) ?_
            refine AllReadyH.cons rfl (fun K hK => ?_) (AllReadyH.nil)
            go_simp
            go_at_call 52; refine (ztimes_any _ _ b 2 hl2 _ hB hj).mono ?_
            rintro e Wd ⟨u, rfl, hd, hb⟩
            obtain ⟨gd, pd, nd, cd, rfl⟩ := hd.shape
            replace hA := hA.go hb
            replace hB := hB.go hb
            replace hm := hm.go hb
            replace hi := hi.go hb
            replace ht := ht.go hb
            replace hs := hs.go hb
            replace hj := hj.go hb
            replace b1 := b1.go hb
            replace b2 := b2.go hb
            replace b3 := b3.go hb
            replace bq := bq.go hb
            replace h0 := bel_go h0 h0.size hb
            clear hb
            refine hK.out _ _ (⟨b1, b2⟩) (fun _ => ?_)
            clear hK K
            (try simp only [Act.put, List.setIfInBounds_toArray, List.set_cons_zero, List.set_cons_succ, List.getElem_toArray, List.getElem_cons_zero, List.getElem_cons_succ])
            refine wpAnyH_ready (rs := [9]) (by kernel_rfl) (by simp) ?_
            refine AllReadyH.cons rfl (fun K hK => ?_) (AllReadyH.nil)
            go_simp
            go_at_call 70; refine (zfloor_any _ _ ((a.natAbs : Int) * 2 + b) (b * 2) hd0 hl3 hl4 _ hs hd).mono ?_
            rintro e Wq ⟨u, rfl, hq, hb⟩
            obtain ⟨gq, pq, nq, cq, rfl⟩ := hq.shape
            replace hA := hA.go hb
            replace hB := hB.go hb
            replace hm := hm.go hb
            replace hi := hi.go hb
            replace ht := ht.go hb
            replace hs := hs.go hb
            replace hj := hj.go hb
            replace hd := hd.go hb
            replace b1 := b1.go hb
            replace b2 := b2.go hb
            replace b3 := b3.go hb
            replace bq := bq.go hb
            replace h0 := bel_go h0 h0.size hb
            clear hb
            refine hK.out _ _ (⟨b1, b2⟩) (fun _ => ?_)
            clear hK K
            (try simp only [Act.put, List.setIfInBounds_toArray, List.set_cons_zero, List.set_cons_succ, List.getElem_toArray, List.getElem_cons_zero, List.getElem_cons_succ])
            refine wpAnyH_done (by kernel_rfl) ?_ _
            refine still1_step rfl (fun K hK => ?_)
            have hq0 := bq.c0
            have hq1 := bq.c1
            have hr0 := bq.f0
            have hr1 := bq.f1
            go_simp
            clear hq0 hq1 hr0 hr1
            have hP := put2 Wq (Bbq) (.bool gq) (.slice pq nq cq)
            have hN := bq.stored (.bool gq) (.slice pq nq cq)
            generalize (Wq.setCell ⟨Bbq, 0, none⟩ (.bool gq)).setCell ⟨Bbq, 1, none⟩ (.slice pq nq cq) = VS at hP hN ⊢
            replace hA := hA.put bq (by decide) hP
            replace hB := hB.put bq (by decide) hP
            replace hm := hm.put bq (by decide) hP
            replace hi := hi.put bq (by decide) hP
            replace ht := ht.put bq (by decide) hP
            replace hs := hs.put bq (by decide) hP
            replace hj := hj.put bq (by decide) hP
            replace hd := hd.put bq (by decide) hP
            replace hq := hq.put bq (by decide) hP
            replace h0 := bel_put h0 (by have := sl_bq.out; omega) hP
            replace b1 := b1.put hP (by have := l_bq_b1.out; omega)
            replace b2 := b2.put hP (by have := l_bq_b2.out; omega)
            replace b3 := b3.put hP (by have := l_bq_b3.out; omega)
            clear hP bq
            have bq := hN
            clear hN
            refine hK.out _ _ ?_
            clear hK K
            (try simp only [Act.put, List.setIfInBounds_toArray, List.set_cons_zero, List.set_cons_succ, List.getElem_toArray, List.getElem_cons_zero, List.getElem_cons_succ])
            have c10 := b1.c0
            have hq0 := bq.c0
            have hq1 := bq.c1
            have cr0 := b3.c0
            have cr1 := b3.c1
            have fr0 := b3.f0
            have fr1 := b3.f1
            go_wp2
            clear c10 cr0 cr1 fr0 fr1
            have e0 := (b3.stored (.bool gq) (.slice pq nq cq)).c0
            have e1 := (b3.stored (.bool gq) (.slice pq nq cq)).c1
            refine bodyPost_ret (v := .agg #[.bool gq, .slice pq nq cq]) (by simp [results, Try.results72, go_sem, e0, e1]) rfl ⟨_, rfl, ?_, ?_⟩
            · exact hq.put b3 (by decide) (put2 _ _ _ _)
            · exact bel_put h0 (by omega) (put2 _ _ _ _)
        · go_simp
          have hal : Below Wt.heap.size Wt (Wt.alloc (.cells #[.bool false, .slice none 0 0] 27)) := (Below.refl _ _).alloc (Nat.le_refl _) _
          have bq := Bx.new Wt 27 (.bool false) (.slice none 0 0)
          have sl_bq := Lib.hid (show w.heap.size ≤ Wt.heap.size from h0.size)
          have l_bq_b1 := Lib.hid b1.lt
          have l_bq_b2 := Lib.hid b2.lt
          have l_bq_b3 := Lib.hid b3.lt
          replace hA := hA.go hal
          replace hB := hB.go hal
          replace hm := hm.go hal
          replace hi := hi.go hal
          replace ht := ht.go hal
          replace b1 := b1.go hal
          replace b2 := b2.go hal
          replace b3 := b3.go hal
          replace h0 := bel_go h0 h0.size hal
          clear hal
          generalize Wt.heap.size = Bbq at bq sl_bq l_bq_b1 l_bq_b2 l_bq_b3 ⊢
          generalize Wt.alloc (.cells #[.bool false, .slice none 0 0] 27) = Vbq at hA hB hm hi ht b1 b2 b3 bq h0 ⊢
          refine hK.out _ _ (⟨b1, b2⟩) (fun _ => ?_)
          clear hK K
          (try simp only [Act.put, List.setIfInBounds_toArray, List.set_cons_zero, List.set_cons_succ, List.getElem_toArray, List.getElem_cons_zero, List.getElem_cons_succ])
          refine wpAnyH_ready (rs := [5]) (by kernel_rfl) (by simp) ?_
          refine AllReadyH.cons rfl (fun K hK => ?_) (AllReadyH.nil)
          go_simp
          go_at_call 34; refine (zplus_any _ _ ((a.natAbs : Int) * 2) b hs1 hsb _ ht hB).mono ?_
          rintro e Ws ⟨u, rfl, hs, hb⟩
          obtain ⟨gs, ps, ns, cs, rfl⟩ := hs.shape
          replace hA := hA.go hb
          replace hB := hB.go hb
          replace hm := hm.go hb
          replace hi := hi.go hb
          replace ht := ht.go hb
          replace b1 := b1.go hb
          replace b2 := b2.go hb
          replace b3 := b3.go hb
          replace bq := bq.go hb
          replace h0 := bel_go h0 h0.size hb
          clear hb
          refine hK.out _ _ (⟨b1, b2⟩) (fun _ => ?_)
          clear hK K
          (try simp only [Act.put, List.setIfInBounds_toArray, List.set_cons_zero, List.set_cons_succ, List.getElem_toArray, List.getElem_cons_zero, List.getElem_cons_succ])
          refine wpAnyH_ready (rs := [7]) (by kernel_rfl) (by simp) ?_
          refine AllReadyH.cons rfl (fun K hK => ?_) (AllReadyH.nil)
          go_simp
          go_at_call 21; refine (i_any 2 (by omega) (by omega) _).mono ?_
          rintro e Wj ⟨u, rfl, hj, hb⟩
          obtain ⟨gj, pj, nj, cj, rfl⟩ := hj.shape
          replace hA := hA.go hb
          replace hB := hB.go hb
          replace hm := hm.go hb
          replace hi := hi.go hb
          replace ht := ht.go hb
          replace hs := hs.go hb
          replace b1 := b1.go hb
          replace b2 := b2.go hb
          replace b3 := b3.go hb
          replace bq := bq.go hb
          replace h0 := bel_go h0 h0.size hb
          clear hb
          refine hK.out _ _ (⟨b1, b2⟩) (fun _ => ?_)
          clear hK K
          (try simp only [Act.put, List.setIfInBounds_toArray, List.set_cons_zero, List.set_cons_succ, List.getElem_toArray, List.getElem_cons_zero, List.getElem_cons_succ])
          refine wpAnyH_ready (rs := [8]) (by kernel_rfl) (by simp) ?_
          refine AllReadyH.cons rfl (fun K hK => ?_) (AllReadyH.nil)
          go_simp
          go_at_call 52; refine (ztimes_any _ _ b 2 hl2 _ hB hj).mono ?_
          rintro e Wd ⟨u, rfl, hd, hb⟩
          obtain ⟨gd, pd, nd, cd, rfl⟩ := hd.shape
          replace hA := hA.go hb
          replace hB := hB.go hb
          replace hm := hm.go hb
          replace hi := hi.go hb
          replace ht := ht.go hb
          replace hs := hs.go hb
          replace hj := hj.go hb
          replace b1 := b1.go hb
          replace b2 := b2.go hb
          replace b3 := b3.go hb
          replace bq := bq.go hb
          replace h0 := bel_go h0 h0.size hb
          clear hb
          refine hK.out _ _ (⟨b1, b2⟩) (fun _ => ?_)
          clear hK K
          (try simp only [Act.put, List.setIfInBounds_toArray, List.set_cons_zero, List.set_cons_succ, List.getElem_toArray, List.getElem_cons_zero, List.getElem_cons_succ])
          refine wpAnyH_ready (rs := [9]) (by kernel_rfl) (by simp) ?_
          refine AllReadyH.cons rfl (fun K hK => ?_) (AllReadyH.nil)
          go_simp
          go_at_call 70; refine (zfloor_any _ _ ((a.natAbs : Int) * 2 + b) (b * 2) hd0 hl3 hl4 _ hs hd).mono ?_
          rintro e Wq ⟨u, rfl, hq, hb⟩
          obtain ⟨gq, pq, nq, cq, rfl⟩ := hq.shape
          replace hA := hA.go hb
          replace hB := hB.go hb
          replace hm := hm.go hb
          replace hi := hi.go hb
          replace ht := ht.go hb
          replace hs := hs.go hb
          replace hj := hj.go hb
          replace hd := hd.go hb
          replace b1 := b1.go hb
          replace b2 := b2.go hb
          replace b3 := b3.go hb
          replace bq := bq.go hb
          replace h0 := bel_go h0 h0.size hb
          clear hb
          refine hK.out _ _ (⟨b1, b2⟩) (fun _ => ?_)
          clear hK K
          (try simp only [Act.put, List.setIfInBounds_toArray, List.set_cons_zero, List.set_cons_succ, List.getElem_toArray, List.getElem_cons_zero, List.getElem_cons_succ])
          refine wpAnyH_done (by kernel_rfl) ?_ _
          refine still1_step rfl (fun K hK => ?_)
          have hq0 := bq.c0
          have hq1 := bq.c1
          have hr0 := bq.f0
          have hr1 := bq.f1
          go_simp
          clear hq0 hq1 hr0 hr1
          have hP := put2 Wq (Bbq) (.bool gq) (.slice pq nq cq)
          have hN := bq.stored (.bool gq) (.slice pq nq cq)
          generalize (Wq.setCell ⟨Bbq, 0, none⟩ (.bool gq)).setCell ⟨Bbq, 1, none⟩ (.slice pq nq cq) = VS at hP hN ⊢
          replace hA := hA.put bq (by decide) hP
          replace hB := hB.put bq (by decide) hP
          replace hm := hm.put bq (by decide) hP
          replace hi := hi.put bq (by decide) hP
          replace ht := ht.put bq (by decide) hP
          replace hs := hs.put bq (by decide) hP
          replace hj := hj.put bq (by decide) hP
          replace hd := hd.put bq (by decide) hP
          replace hq := hq.put bq (by decide) hP
          replace h0 := bel_put h0 (by have := sl_bq.out; omega) hP
          replace b1 := b1.put hP (by have := l_bq_b1.out; omega)
          replace b2 := b2.put hP (by have := l_bq_b2.out; omega)
          replace b3 := b3.put hP (by have := l_bq_b3.out; omega)
          clear hP bq
          have bq := hN
          clear hN
          refine hK.out _ _ ?_
          clear hK K
          (try simp only [Act.put, List.setIfInBounds_toArray, List.set_cons_zero, List.set_cons_succ, List.getElem_toArray, List.getElem_cons_zero, List.getElem_cons_succ])
          have c10 := b1.c0
          have hq0 := bq.c0
          have hq1 := bq.c1
          have cr0 := b3.c0
          have cr1 := b3.c1
          have fr0 := b3.f0
          have fr1 := b3.f1
          go_wp2
          clear c10 cr0 cr1 fr0 fr1
          have e0 := (b3.stored (.bool gq) (.slice pq nq cq)).c0
          have e1 := (b3.stored (.bool gq) (.slice pq nq cq)).c1
          refine bodyPost_ret (v := .agg #[.bool gq, .slice pq nq cq]) (by simp [results, Try.results72, go_sem, e0, e1]) rfl ⟨_, rfl, ?_, ?_⟩
          · exact hq.put b3 (by decide) (put2 _ _ _ _)
          · exact bel_put h0 (by omega) (put2 _ _ _ _)
      · go_simp
        have hal : Below Wi.heap.size Wi (Wi.alloc (.cells #[.bool false, .slice none 0 0] 27)) := (Below.refl _ _).alloc (Nat.le_refl _) _
        have bq := Bx.new Wi 27 (.bool false) (.slice none 0 0)
        have sl_bq := Lib.hid (show w.heap.size ≤ Wi.heap.size from h0.size)
        have l_bq_b1 := Lib.hid b1.lt
        have l_bq_b2 := Lib.hid b2.lt
        have l_bq_b3 := Lib.hid b3.lt
        replace hA := hA.go hal
        replace hB := hB.go hal
        replace hm := hm.go hal
        replace hi := hi.go hal
        replace b1 := b1.go hal
        replace b2 := b2.go hal
        replace b3 := b3.go hal
        replace h0 := bel_go h0 h0.size hal
        clear hal
        generalize Wi.heap.size = Bbq at bq sl_bq l_bq_b1 l_bq_b2 l_bq_b3 ⊢
        generalize Wi.alloc (.cells #[.bool false, .slice none 0 0] 27) = Vbq at hA hB hm hi b1 b2 b3 bq h0 ⊢
        refine hK.out _ _ (⟨b1, b2⟩) (fun _ => ?_)
        clear hK K
        (try simp only [Act.put, List.setIfInBounds_toArray, List.set_cons_zero, List.set_cons_succ, List.getElem_toArray, List.getElem_cons_zero, List.getElem_cons_succ])
        refine wpAnyH_ready (rs := [3]) (by kernel_rfl) (by simp) ?_
        refine AllReadyH.cons rfl (fun K hK => ?_) (AllReadyH.nil)
        go_simp
        go_at_call 52; refine (ztimes_any _ _ (a.natAbs : Int) 2 hl1 _ hm hi).mono ?_
        rintro e Wt ⟨u, rfl, ht, hb⟩
        obtain ⟨gt, pt, nt, ct, rfl⟩ := ht.shape
        replace hA := hA.go hb
        replace hB := hB.go hb
        replace hm := hm.go hb
        replace hi := hi.go hb
        replace b1 := b1.go hb
        replace b2 := b2.go hb
        replace b3 := b3.go hb
        replace bq := bq.go hb
        replace h0 := bel_go h0 h0.size hb
        clear hb
        refine hK.out _ _ (⟨b1, b2⟩) (fun _ => ?_)
        clear hK K
        (try simp only [Act.put, List.setIfInBounds_toArray, List.set_cons_zero, List.set_cons_succ, List.getElem_toArray, List.getElem_cons_zero, List.getElem_cons_succ])
        refine wpAnyH_ready (rs := [5]) (by kernel_rfl) (by simp) ?_
        refine AllReadyH.cons rfl (fun K hK => ?_) (AllReadyH.nil)
        go_simp
        go_at_call 34; refine (zplus_any _ _ ((a.natAbs : Int) * 2) b hs1 hsb _ ht hB).mono ?_
        rintro e Ws ⟨u, rfl, hs, hb⟩
        obtain ⟨gs, ps, ns, cs, rfl⟩ := hs.shape
        replace hA := hA.go hb
        replace hB := hB.go hb
        replace hm := hm.go hb
        replace hi := hi.go hb
        replace ht := ht.go hb
        replace b1 := b1.go hb
        replace b2 := b2.go hb
        replace b3 := b3.go hb
        replace bq := bq.go hb
        replace h0 := bel_go h0 h0.size hb
        clear hb
        refine hK.out _ _ (⟨b1, b2⟩) (fun _ => ?_)
        clear hK K
        (try simp only [Act.put, List.setIfInBounds_toArray, List.set_cons_zero, List.set_cons_succ, List.getElem_toArray, List.getElem_cons_zero, List.getElem_cons_succ])
        refine wpAnyH_ready (rs := [7]) (by kernel_rfl) (by simp) ?_
        refine AllReadyH.cons rfl (fun K hK => ?_) (AllReadyH.nil)
        go_simp
        go_at_call 21; refine (i_any 2 (by omega) (by omega) _).mono ?_
        rintro e Wj ⟨u, rfl, hj, hb⟩
        obtain ⟨gj, pj, nj, cj, rfl⟩ := hj.shape
        replace hA := hA.go hb
        replace hB := hB.go hb
        replace hm := hm.go hb
        replace hi := hi.go hb
        replace ht := ht.go hb
        replace hs := hs.go hb
        replace b1 := b1.go hb
        replace b2 := b2.go hb
        replace b3 := b3.go hb
        replace bq := bq.go hb
        replace h0 := bel_go h0 h0.size hb
        clear hb
        refine hK.out _ _ (⟨b1, b2⟩) (fun _ => ?_)
        clear hK K
        (try simp only [Act.put, List.setIfInBounds_toArray, List.set_cons_zero, List.set_cons_succ, List.getElem_toArray, List.getElem_cons_zero, List.getElem_cons_succ])
        refine wpAnyH_ready (rs := [8]) (by kernel_rfl) (by simp) ?_
        refine AllReadyH.cons rfl (fun K hK => ?_) (AllReadyH.nil)
        go_simp
        go_at_call 52; refine (ztimes_any _ _ b 2 hl2 _ hB hj).mono ?_
        rintro e Wd ⟨u, rfl, hd, hb⟩
        obtain ⟨gd, pd, nd, cd, rfl⟩ := hd.shape
        replace hA := hA.go hb
        replace hB := hB.go hb
        replace hm := hm.go hb
        replace hi := hi.go hb
        replace ht := ht.go hb
        replace hs := hs.go hb
        replace hj := hj.go hb
        replace b1 := b1.go hb
        replace b2 := b2.go hb
        replace b3 := b3.go hb
        replace bq := bq.go hb
        replace h0 := bel_go h0 h0.size hb
        clear hb
        refine hK.out _ _ (⟨b1, b2⟩) (fun _ => ?_)
        clear hK K
        (try simp only [Act.put, List.setIfInBounds_toArray, List.set_cons_zero, List.set_cons_succ, List.getElem_toArray, List.getElem_cons_zero, List.getElem_cons_succ])
        refine wpAnyH_ready (rs := [9]) (by kernel_rfl) (by simp) ?_
        refine AllReadyH.cons rfl (fun K hK => ?_) (AllReadyH.nil)
        go_simp
        go_at_call 70; refine (zfloor_any _ _ ((a.natAbs : Int) * 2 + b) (b * 2) hd0 hl3 hl4 _ hs hd).mono ?_
        rintro e Wq ⟨u, rfl, hq, hb⟩
        obtain ⟨gq, pq, nq, cq, rfl⟩ := hq.shape
        replace hA := hA.go hb
        replace hB := hB.go hb
        replace hm := hm.go hb
        replace hi := hi.go hb
        replace ht := ht.go hb
        replace hs := hs.go hb
        replace hj := hj.go hb
        replace hd := hd.go hb
        replace b1 := b1.go hb
        replace b2 := b2.go hb
        replace b3 := b3.go hb
        replace bq := bq.go hb
        replace h0 := bel_go h0 h0.size hb
        clear hb
        refine hK.out _ _ (⟨b1, b2⟩) (fun _ => ?_)
        clear hK K
        (try simp only [Act.put, List.setIfInBounds_toArray, List.set_cons_zero, List.set_cons_succ, List.getElem_toArray, List.getElem_cons_zero, List.getElem_cons_succ])
        refine wpAnyH_done (by kernel_rfl) ?_ _
        refine still1_step rfl (fun K hK => ?_)
        have hq0 := bq.c0
        have hq1 := bq.c1
        have hr0 := bq.f0
        have hr1 := bq.f1
        go_simp
        clear hq0 hq1 hr0 hr1
        have hP := put2 Wq (Bbq) (.bool gq) (.slice pq nq cq)
        have hN := bq.stored (.bool gq) (.slice pq nq cq)
        generalize (Wq.setCell ⟨Bbq, 0, none⟩ (.bool gq)).setCell ⟨Bbq, 1, none⟩ (.slice pq nq cq) = VS at hP hN ⊢
        replace hA := hA.put bq (by decide) hP
        replace hB := hB.put bq (by decide) hP
        replace hm := hm.put bq (by decide) hP
        replace hi := hi.put bq (by decide) hP
        replace ht := ht.put bq (by decide) hP
        replace hs := hs.put bq (by decide) hP
        replace hj := hj.put bq (by decide) hP
        replace hd := hd.put bq (by decide) hP
        replace hq := hq.put bq (by decide) hP
        replace h0 := bel_put h0 (by have := sl_bq.out; omega) hP
        replace b1 := b1.put hP (by have := l_bq_b1.out; omega)
        replace b2 := b2.put hP (by have := l_bq_b2.out; omega)
        replace b3 := b3.put hP (by have := l_bq_b3.out; omega)
        clear hP bq
        have bq := hN
        clear hN
        refine hK.out _ _ ?_
        clear hK K
        (try simp only [Act.put, List.setIfInBounds_toArray, List.set_cons_zero, List.set_cons_succ, List.getElem_toArray, List.getElem_cons_zero, List.getElem_cons_succ])
        have c10 := b1.c0
        have hq0 := bq.c0
        have hq1 := bq.c1
        have cr0 := b3.c0
        have cr1 := b3.c1
        have fr0 := b3.f0
        have fr1 := b3.f1
        go_wp2
        clear c10 cr0 cr1 fr0 fr1
        have e0 := (b3.stored (.bool gq) (.slice pq nq cq)).c0
        have e1 := (b3.stored (.bool gq) (.slice pq nq cq)).c1
        refine bodyPost_ret (v := .agg #[.bool gq, .slice pq nq cq]) (by simp [results, Try.results72, go_sem, e0, e1]) rfl ⟨_, rfl, ?_, ?_⟩
        · exact hq.put b3 (by decide) (put2 _ _ _ _)
        · exact bel_put h0 (by omega) (put2 _ _ _ _)
    · go_simp
      have hal : Below Wm.heap.size Wm (Wm.alloc (.cells #[.bool false, .slice none 0 0] 27)) := (Below.refl _ _).alloc (Nat.le_refl _) _
      have bq := Bx.new Wm 27 (.bool false) (.slice none 0 0)
      have sl_bq := Lib.hid (show w.heap.size ≤ Wm.heap.size from h0.size)
      have l_bq_b1 := Lib.hid b1.lt
      have l_bq_b2 := Lib.hid b2.lt
      have l_bq_b3 := Lib.hid b3.lt
      replace hA := hA.go hal
      replace hB := hB.go hal
      replace hm := hm.go hal
      replace b1 := b1.go hal
      replace b2 := b2.go hal
      replace b3 := b3.go hal
      replace h0 := bel_go h0 h0.size hal
      clear hal
      generalize Wm.heap.size = Bbq at bq sl_bq l_bq_b1 l_bq_b2 l_bq_b3 ⊢
      generalize Wm.alloc (.cells #[.bool false, .slice none 0 0] 27) = Vbq at hA hB hm b1 b2 b3 bq h0 ⊢
      refine hK.out _ _ (⟨b1, b2⟩) (fun _ => ?_)
      clear hK K
      (try simp only [Act.put, List.setIfInBounds_toArray, List.set_cons_zero, List.set_cons_succ, List.getElem_toArray, List.getElem_cons_zero, List.getElem_cons_succ])
      refine wpAnyH_ready (rs := [2]) (by kernel_rfl) (by simp) ?_
      refine AllReadyH.cons rfl (fun K hK => ?_) (AllReadyH.nil)
      go_simp
      go_at_call 21; refine (i_any 2 (by omega) (by omega) _).mono ?_
      rintro e Wi ⟨u, rfl, hi, hb⟩
      obtain ⟨gi, pi, ni, ci, rfl⟩ := hi.shape
      replace hA := hA.go hb
      replace hB := hB.go hb
      replace hm := hm.go hb
      replace b1 := b1.go hb
      replace b2 := b2.go hb
      replace b3 := b3.go hb
      replace bq := bq.go hb
      replace h0 := bel_go h0 h0.size hb
      clear hb
      refine hK.out _ _ (⟨b1, b2⟩) (fun _ => ?_)
      clear hK K
      (try simp only [Act.put, List.setIfInBounds_toArray, List.set_cons_zero, List.set_cons_succ, List.getElem_toArray, List.getElem_cons_zero, List.getElem_cons_succ])
      refine wpAnyH_ready (rs := [3]) (by kernel_rfl) (by simp) ?_
      refine AllReadyH.cons rfl (fun K hK => ?_) (AllReadyH.nil)
      go_simp
      go_at_call 52; refine (ztimes_any _ _ (a.natAbs : Int) 2 hl1 _ hm hi).mono ?_
      rintro e Wt ⟨u, rfl, ht, hb⟩
      obtain ⟨gt, pt, nt, ct, rfl⟩ := ht.shape
      replace hA := hA.go hb
      replace hB := hB.go hb
      replace hm := hm.go hb
      replace hi := hi.go hb
      replace b1 := b1.go hb
      replace b2 := b2.go hb
      replace b3 := b3.go hb
      replace bq := bq.go hb
      replace h0 := bel_go h0 h0.size hb
      clear hb
      refine hK.out _ _ (⟨b1, b2⟩) (fun _ => ?_)
      clear hK K
      (try simp only [Act.put, List.setIfInBounds_toArray, List.set_cons_zero, List.set_cons_succ, List.getElem_toArray, List.getElem_cons_zero, List.getElem_cons_succ])
      refine wpAnyH_ready (rs := [5]) (by kernel_rfl) (by simp) ?_
      refine AllReadyH.cons rfl (fun K hK => ?_) (AllReadyH.nil)
      go_simp
      go_at_call 34; refine (zplus_any _ _ ((a.natAbs : Int) * 2) b hs1 hsb _ ht hB).mono ?_
      rintro e Ws ⟨u, rfl, hs, hb⟩
      obtain ⟨gs, ps, ns, cs, rfl⟩ := hs.shape
      replace hA := hA.go hb
      replace hB := hB.go hb
      replace hm := hm.go hb
      replace hi := hi.go hb
      replace ht := ht.go hb
      replace b1 := b1.go hb
      replace b2 := b2.go hb
      replace b3 := b3.go hb
      replace bq := bq.go hb
      replace h0 := bel_go h0 h0.size hb
      clear hb
      refine hK.out _ _ (⟨b1, b2⟩) (fun _ => ?_)
      clear hK K
      (try simp only [Act.put, List.setIfInBounds_toArray, List.set_cons_zero, List.set_cons_succ, List.getElem_toArray, List.getElem_cons_zero, List.getElem_cons_succ])
      refine wpAnyH_ready (rs := [7]) (by kernel_rfl) (by simp) ?_
      refine AllReadyH.cons rfl (fun K hK => ?_) (AllReadyH.nil)
      go_simp
      go_at_call 21; refine (i_any 2 (by omega) (by omega) _).mono ?_
      rintro e Wj ⟨u, rfl, hj, hb⟩
      obtain ⟨gj, pj, nj, cj, rfl⟩ := hj.shape
      replace hA := hA.go hb
      replace hB := hB.go hb
      replace hm := hm.go hb
      replace hi := hi.go hb
      replace ht := ht.go hb
      replace hs := hs.go hb
      replace b1 := b1.go hb
      replace b2 := b2.go hb
      replace b3 := b3.go hb
      replace bq := bq.go hb
      replace h0 := bel_go h0 h0.size hb
      clear hb
      refine hK.out _ _ (⟨b1, b2⟩) (fun _ => ?_)
      clear hK K
      (try simp only [Act.put, List.setIfInBounds_toArray, List.set_cons_zero, List.set_cons_succ, List.getElem_toArray, List.getElem_cons_zero, List.getElem_cons_succ])
      refine wpAnyH_ready (rs := [8]) (by kernel_rfl) (by simp) ?_
      refine AllReadyH.cons rfl (fun K hK => ?_) (AllReadyH.nil)
      go_simp
      go_at_call 52; refine (ztimes_any _ _ b 2 hl2 _ hB hj).mono ?_
      rintro e Wd ⟨u, rfl, hd, hb⟩
      obtain ⟨gd, pd, nd, cd, rfl⟩ := hd.shape
      replace hA := hA.go hb
      replace hB := hB.go hb
      replace hm := hm.go hb
      replace hi := hi.go hb
      replace ht := ht.go hb
      replace hs := hs.go hb
      replace hj := hj.go hb
      replace b1 := b1.go hb
      replace b2 := b2.go hb
      replace b3 := b3.go hb
      replace bq := bq.go hb
      replace h0 := bel_go h0 h0.size hb
      clear hb
      refine hK.out _ _ (⟨b1, b2⟩) (fun _ => ?_)
      clear hK K
      (try simp only [Act.put, List.setIfInBounds_toArray, List.set_cons_zero, List.set_cons_succ, List.getElem_toArray, List.getElem_cons_zero, List.getElem_cons_succ])
      refine wpAnyH_ready (rs := [9]) (by kernel_rfl) (by simp) ?_
      refine AllReadyH.cons rfl (fun K hK => ?_) (AllReadyH.nil)
      go_simp
      go_at_call 70; refine (zfloor_any _ _ ((a.natAbs : Int) * 2 + b) (b * 2) hd0 hl3 hl4 _ hs hd).mono ?_
      rintro e Wq ⟨u, rfl, hq, hb⟩
      obtain ⟨gq, pq, nq, cq, rfl⟩ := hq.shape
      replace hA := hA.go hb
      replace hB := hB.go hb
      replace hm := hm.go hb
      replace hi := hi.go hb
      replace ht := ht.go hb
      replace hs := hs.go hb
      replace hj := hj.go hb
      replace hd := hd.go hb
      replace b1 := b1.go hb
      replace b2 := b2.go hb
      replace b3 := b3.go hb
      replace bq := bq.go hb
      replace h0 := bel_go h0 h0.size hb
      clear hb
      refine hK.out _ _ (⟨b1, b2⟩) (fun _ => ?_)
      clear hK K
      (try simp only [Act.put, List.setIfInBounds_toArray, List.set_cons_zero, List.set_cons_succ, List.getElem_toArray, List.getElem_cons_zero, List.getElem_cons_succ])
      refine wpAnyH_done (by kernel_rfl) ?_ _
      refine still1_step rfl (fun K hK => ?_)
      have hq0 := bq.c0
      have hq1 := bq.c1
      have hr0 := bq.f0
      have hr1 := bq.f1
      go_simp
      clear hq0 hq1 hr0 hr1
      have hP := put2 Wq (Bbq) (.bool gq) (.slice pq nq cq)
      have hN := bq.stored (.bool gq) (.slice pq nq cq)
      generalize (Wq.setCell ⟨Bbq, 0, none⟩ (.bool gq)).setCell ⟨Bbq, 1, none⟩ (.slice pq nq cq) = VS at hP hN ⊢
      replace hA := hA.put bq (by decide) hP
      replace hB := hB.put bq (by decide) hP
      replace hm := hm.put bq (by decide) hP
      replace hi := hi.put bq (by decide) hP
      replace ht := ht.put bq (by decide) hP
      replace hs := hs.put bq (by decide) hP
      replace hj := hj.put bq (by decide) hP
      replace hd := hd.put bq (by decide) hP
      replace hq := hq.put bq (by decide) hP
      replace h0 := bel_put h0 (by have := sl_bq.out; omega) hP
      replace b1 := b1.put hP (by have := l_bq_b1.out; omega)
      replace b2 := b2.put hP (by have := l_bq_b2.out; omega)
      replace b3 := b3.put hP (by have := l_bq_b3.out; omega)
      clear hP bq
      have bq := hN
      clear hN
      refine hK.out _ _ ?_
      clear hK K
      (try simp only [Act.put, List.setIfInBounds_toArray, List.set_cons_zero, List.set_cons_succ, List.getElem_toArray, List.getElem_cons_zero, List.getElem_cons_succ])
      have c10 := b1.c0
      have hq0 := bq.c0
      have hq1 := bq.c1
      have cr0 := b3.c0
      have cr1 := b3.c1
      have fr0 := b3.f0
      have fr1 := b3.f1
      go_wp2
      clear c10 cr0 cr1 fr0 fr1
      have e0 := (b3.stored (.bool gq) (.slice pq nq cq)).c0
      have e1 := (b3.stored (.bool gq) (.slice pq nq cq)).c1
      refine bodyPost_ret (v := .agg #[.bool gq, .slice pq nq cq]) (by simp [results, Try.results72, go_sem, e0, e1]) rfl ⟨_, rfl, ?_, ?_⟩
      · exact hq.put b3 (by decide) (put2 _ _ _ _)
      · exact bel_put h0 (by omega) (put2 _ _ _ _)
  · go_simp
    have hal : Below W.heap.size W (W.alloc (.cells #[.bool false, .slice none 0 0] 27)) := (Below.refl _ _).alloc (Nat.le_refl _) _
    have bq := Bx.new W 27 (.bool false) (.slice none 0 0)
    have sl_bq := Lib.hid (show w.heap.size ≤ W.heap.size from h0.size)
    have l_bq_b1 := Lib.hid b1.lt
    have l_bq_b2 := Lib.hid b2.lt
    have l_bq_b3 := Lib.hid b3.lt
    replace hA := hA.go hal
    replace hB := hB.go hal
    replace b1 := b1.go hal
    replace b2 := b2.go hal
    replace b3 := b3.go hal
    replace h0 := bel_go h0 h0.size hal
    clear hal
    generalize W.heap.size = Bbq at bq sl_bq l_bq_b1 l_bq_b2 l_bq_b3 ⊢
    generalize W.alloc (.cells #[.bool false, .slice none 0 0] 27) = Vbq at hA hB b1 b2 b3 bq h0 ⊢
    refine hK.out _ _ (⟨b1, b2⟩) (fun _ => ?_)
    clear hK K
    (try simp only [Act.put, List.setIfInBounds_toArray, List.set_cons_zero, List.set_cons_succ, List.getElem_toArray, List.getElem_cons_zero, List.getElem_cons_succ])
    refine wpAnyH_ready (rs := [1]) (by kernel_rfl) (by simp) ?_
    refine AllReadyH.cons rfl (fun K hK => ?_) (AllReadyH.nil)
    go_simp
    go_at_call 45; refine (zabs_any _ a _ hA).mono ?_
    rintro e Wm ⟨u, rfl, hm, hb⟩
    obtain ⟨gm, pm, nm, cm, rfl⟩ := hm.shape
    replace hA := hA.go hb
    replace hB := hB.go hb
    replace b1 := b1.go hb
    replace b2 := b2.go hb
    replace b3 := b3.go hb
    replace bq := bq.go hb
    replace h0 := bel_go h0 h0.size hb
    clear hb
    refine hK.out _ _ (⟨b1, b2⟩) (fun _ => ?_)
    clear hK K
    (try simp only [Act.put, List.setIfInBounds_toArray, List.set_cons_zero, List.set_cons_succ, List.getElem_toArray, List.getElem_cons_zero, List.getElem_cons_succ])
    refine wpAnyH_ready (rs := [2]) (by kernel_rfl) (by simp) ?_
    refine AllReadyH.cons rfl (fun K hK => ?_) (AllReadyH.nil)
    go_simp
    go_at_call 21; refine (i_any 2 (by omega) (by omega) _).mono ?_
    rintro e Wi ⟨u, rfl, hi, hb⟩
    obtain ⟨gi, pi, ni, ci, rfl⟩ := hi.shape
    replace hA := hA.go hb
    replace hB := hB.go hb
    replace hm := hm.go hb
    replace b1 := b1.go hb
    replace b2 := b2.go hb
    replace b3 := b3.go hb
    replace bq := bq.go hb
    replace h0 := bel_go h0 h0.size hb
    clear hb
    refine hK.out _ _ (⟨b1, b2⟩) (fun _ => ?_)
    clear hK K
    (try simp only [Act.put, List.setIfInBounds_toArray, List.set_cons_zero, List.set_cons_succ, List.getElem_toArray, List.getElem_cons_zero, List.getElem_cons_succ])
    refine wpAnyH_ready (rs := [3]) (by kernel_rfl) (by simp) ?_
    refine AllReadyH.cons rfl (fun K hK => ?_) (AllReadyH.nil)
    go_simp
    go_at_call 52; refine (ztimes_any _ _ (a.natAbs : Int) 2 hl1 _ hm hi).mono ?_
    rintro e Wt ⟨u, rfl, ht, hb⟩
    obtain ⟨gt, pt, nt, ct, rfl⟩ := ht.shape
    replace hA := hA.go hb
    replace hB := hB.go hb
    replace hm := hm.go hb
    replace hi := hi.go hb
    replace b1 := b1.go hb
    replace b2 := b2.go hb
    replace b3 := b3.go hb
    replace bq := bq.go hb
    replace h0 := bel_go h0 h0.size hb
    clear hb
    refine hK.out _ _ (⟨b1, b2⟩) (fun _ => ?_)
    clear hK K
    (try simp only [Act.put, List.setIfInBounds_toArray, List.set_cons_zero, List.set_cons_succ, List.getElem_toArray, List.getElem_cons_zero, List.getElem_cons_succ])
    refine wpAnyH_ready (rs := [5]) (by kernel_rfl) (by simp) ?_
    refine AllReadyH.cons rfl (fun K hK => ?_) (AllReadyH.nil)
    go_simp
    go_at_call 34; refine (zplus_any _ _ ((a.natAbs : Int) * 2) b hs1 hsb _ ht hB).mono ?_
    rintro e Ws ⟨u, rfl, hs, hb⟩
    obtain ⟨gs, ps, ns, cs, rfl⟩ := hs.shape
    replace hA := hA.go hb
    replace hB := hB.go hb
    replace hm := hm.go hb
    replace hi := hi.go hb
    replace ht := ht.go hb
    replace b1 := b1.go hb
    replace b2 := b2.go hb
    replace b3 := b3.go hb
    replace bq := bq.go hb
    replace h0 := bel_go h0 h0.size hb
    clear hb
    refine hK.out _ _ (⟨b1, b2⟩) (fun _ => ?_)
    clear hK K
    (try simp only [Act.put, List.setIfInBounds_toArray, List.set_cons_zero, List.set_cons_succ, List.getElem_toArray, List.getElem_cons_zero, List.getElem_cons_succ])
    refine wpAnyH_ready (rs := [7]) (by kernel_rfl) (by simp) ?_
    refine AllReadyH.cons rfl (fun K hK => ?_) (AllReadyH.nil)
    go_simp
    go_at_call 21; refine (i_any 2 (by omega) (by omega) _).mono ?_
    rintro e Wj ⟨u, rfl, hj, hb⟩
    obtain ⟨gj, pj, nj, cj, rfl⟩ := hj.shape
    replace hA := hA.go hb
    replace hB := hB.go hb
    replace hm := hm.go hb
    replace hi := hi.go hb
    replace ht := ht.go hb
    replace hs := hs.go hb
    replace b1 := b1.go hb
    replace b2 := b2.go hb
    replace b3 := b3.go hb
    replace bq := bq.go hb
    replace h0 := bel_go h0 h0.size hb
    clear hb
    refine hK.out _ _ (⟨b1, b2⟩) (fun _ => ?_)
    clear hK K
    (try simp only [Act.put, List.setIfInBounds_toArray, List.set_cons_zero, List.set_cons_succ, List.getElem_toArray, List.getElem_cons_zero, List.getElem_cons_succ])
    refine wpAnyH_ready (rs := [8]) (by kernel_rfl) (by simp) ?_
    refine AllReadyH.cons rfl (fun K hK => ?_) (AllReadyH.nil)
    go_simp
    go_at_call 52; refine (ztimes_any _ _ b 2 hl2 _ hB hj).mono ?_
    rintro e Wd ⟨u, rfl, hd, hb⟩
    obtain ⟨gd, pd, nd, cd, rfl⟩ := hd.shape
    replace hA := hA.go hb
    replace hB := hB.go hb
    replace hm := hm.go hb
    replace hi := hi.go hb
    replace ht := ht.go hb
    replace hs := hs.go hb
    replace hj := hj.go hb
    replace b1 := b1.go hb
    replace b2 := b2.go hb
    replace b3 := b3.go hb
    replace bq := bq.go hb
    replace h0 := bel_go h0 h0.size hb
    clear hb
    refine hK.out _ _ (⟨b1, b2⟩) (fun _ => ?_)
    clear hK K
    (try simp only [Act.put, List.setIfInBounds_toArray, List.set_cons_zero, List.set_cons_succ, List.getElem_toArray, List.getElem_cons_zero, List.getElem_cons_succ])
    refine wpAnyH_ready (rs := [9]) (by kernel_rfl) (by simp) ?_
    refine AllReadyH.cons rfl (fun K hK => ?_) (AllReadyH.nil)
    go_simp
    go_at_call 70; refine (zfloor_any _ _ ((a.natAbs : Int) * 2 + b) (b * 2) hd0 hl3 hl4 _ hs hd).mono ?_
    rintro e Wq ⟨u, rfl, hq, hb⟩
    obtain ⟨gq, pq, nq, cq, rfl⟩ := hq.shape
    replace hA := hA.go hb
    replace hB := hB.go hb
    replace hm := hm.go hb
    replace hi := hi.go hb
    replace ht := ht.go hb
    replace hs := hs.go hb
    replace hj := hj.go hb
    replace hd := hd.go hb
    replace b1 := b1.go hb
    replace b2 := b2.go hb
    replace b3 := b3.go hb
    replace bq := bq.go hb
    replace h0 := bel_go h0 h0.size hb
    clear hb
    refine hK.out _ _ (⟨b1, b2⟩) (fun _ => ?_)
    clear hK K
    (try simp only [Act.put, List.setIfInBounds_toArray, List.set_cons_zero, List.set_cons_succ, List.getElem_toArray, List.getElem_cons_zero, List.getElem_cons_succ])
    refine wpAnyH_done (by kernel_rfl) ?_ _
    refine still1_step rfl (fun K hK => ?_)
    have hq0 := bq.c0
    have hq1 := bq.c1
    have hr0 := bq.f0
    have hr1 := bq.f1
    go_simp
    clear hq0 hq1 hr0 hr1
    have hP := put2 Wq (Bbq) (.bool gq) (.slice pq nq cq)
    have hN := bq.stored (.bool gq) (.slice pq nq cq)
    generalize (Wq.setCell ⟨Bbq, 0, none⟩ (.bool gq)).setCell ⟨Bbq, 1, none⟩ (.slice pq nq cq) = VS at hP hN ⊢
    replace hA := hA.put bq (by decide) hP
    replace hB := hB.put bq (by decide) hP
    replace hm := hm.put bq (by decide) hP
    replace hi := hi.put bq (by decide) hP
    replace ht := ht.put bq (by decide) hP
    replace hs := hs.put bq (by decide) hP
    replace hj := hj.put bq (by decide) hP
    replace hd := hd.put bq (by decide) hP
    replace hq := hq.put bq (by decide) hP
    replace h0 := bel_put h0 (by have := sl_bq.out; omega) hP
    replace b1 := b1.put hP (by have := l_bq_b1.out; omega)
    replace b2 := b2.put hP (by have := l_bq_b2.out; omega)
    replace b3 := b3.put hP (by have := l_bq_b3.out; omega)
    clear hP bq
    have bq := hN
    clear hN
    refine hK.out _ _ ?_
    clear hK K
    (try simp only [Act.put, List.setIfInBounds_toArray, List.set_cons_zero, List.set_cons_succ, List.getElem_toArray, List.getElem_cons_zero, List.getElem_cons_succ])
    have c10 := b1.c0
    have hq0 := bq.c0
    have hq1 := bq.c1
    have cr0 := b3.c0
    have cr1 := b3.c1
    have fr0 := b3.f0
    have fr1 := b3.f1
    go_wp2
    clear c10 cr0 cr1 fr0 fr1
    have e0 := (b3.stored (.bool gq) (.slice pq nq cq)).c0
    have e1 := (b3.stored (.bool gq) (.slice pq nq cq)).c1
    refine bodyPost_ret (v := .agg #[.bool gq, .slice pq nq cq]) (by simp [results, Try.results72, go_sem, e0, e1]) rfl ⟨_, rfl, ?_, ?_⟩
    · exact hq.put b3 (by decide) (put2 _ _ _ _)
    · exact bel_put h0 (by omega) (put2 _ _ _ _)

set_option maxRecDepth 100000 in
set_option maxHeartbeats 8000000 in
theorem round_neg (va vb : Value) (a b : Int) (hs : a < 0) (hb1 : 1 ≤ b) (hla : (digs a.natAbs).length ≤ 100000) (hlb : (digs b.natAbs).length ≤ 100000) (w : World) (hA : IsZ w va a) (hB : IsZ w vb b) :
    Calls Try.prog 72 #[va, vb] w fun e w' => ∃ u, e = .returned u ∧ IsZ w' u (-(((a.natAbs : Int) * 2 + b) / (b * 2))) ∧ Below w.heap.size w w' := by
  obtain ⟨ga, pa, na, ca, rfl⟩ := hA.shape
  obtain ⟨gb, pb, nb, cb, rfl⟩ := hB.shape
  obtain rfl : ga = true := by rw [hA.neg]; exact decide_eq_true hs
  have h2 : (digs (2 : Int).natAbs).length ≤ 1 := digs_len (by decide)
  have hl1 : (digs ((a.natAbs : Int)).natAbs).length + (digs (2 : Int).natAbs).length ≤ 1999999 := by rw [Int.natAbs_natCast]; omega
  have hl2 : (digs b.natAbs).length + (digs (2 : Int).natAbs).length ≤ 1999999 := by omega
  have k1 : (digs ((a.natAbs : Int) * 2).natAbs).length ≤ 100001 := by
    rw [Int.natAbs_mul, Int.natAbs_natCast]; have := dlen_mul a.natAbs (2 : Int).natAbs; omega
  have k2 : (digs (b * 2).natAbs).length ≤ 100001 := by rw [Int.natAbs_mul]; have := dlen_mul b.natAbs (2 : Int).natAbs; omega
  have hs1 : Sm ((a.natAbs : Int) * 2) := by unfold Sm; omega
  have hsb : Sm b := by unfold Sm; omega
  have hl3 : (digs ((a.natAbs : Int) * 2 + b).natAbs).length ≤ 400000 := Nat.le_trans (dlen_addZ k1 (Nat.le_trans hlb (show 100000 ≤ 100001 by omega))) (by omega)
  have hl4 : (digs (b * 2).natAbs).length ≤ 400000 := by omega
  have hd0 : b * 2 ≠ 0 := by omega
  have hsq : Sm (((a.natAbs : Int) * 2 + b) / (b * 2)) := floor_sm hd0 hl3
  clear k1 k2 h2 hs
  obtain ⟨W, hW, h0, b1, b2, b3⟩ := boot3 w (.bool true) (.slice pa na ca) (.bool gb) (.slice pb nb cb)
  have HW := Lib.hid hW
  clear hW
  replace hA := hA.go h0
  replace hB := hB.go h0
  go_enter Try.func72, Try.ntmps72
  go_wp2
  rw [← HW.out]
  clear HW
  refine wp_region_last (S := fun W' => Bx W' (w.heap.size) 27 (.bool true) (.slice pa na ca) ∧ Bx W' (w.heap.size + 1) 27 (.bool gb) (.slice pb nb cb)) (m := 11) (by kernel_rfl) (by kernel_rfl) (by kernel_rfl) (⟨b1.drew, b2.drew⟩) (fun _ => ?_)
  replace hA := hA.drew
  replace hB := hB.drew
  replace b1 := b1.drew
  replace b2 := b2.drew
  replace b3 := b3.drew
  replace h0 := Below.drew h0
  generalize W.drew = W at hA hB b1 b2 b3 h0 ⊢
  refine wpAnyH_take (i := 0) (v := ?_) rfl (by kernel_rfl) (by kernel_rfl) (by kernel_rfl) (fun _ _ _ h => h) (Or.inl ⟨by kernel_rfl, ?_⟩) (⟨b1, b2⟩) ?_
  rotate_left
  focus (intro W' hSw; obtain ⟨hx0, hx1⟩ := hSw; have hc0 := hx0.c0; have hc1 := hx0.c1; have hc2 := hx1.c0; have hc3 := hx1.c1; clear hx0 hx1; go_simp; (try with_reducible rfl))
  (try simp only [Act.put, List.setIfInBounds_toArray, List.set_cons_zero, List.set_cons_succ, List.getElem_toArray, List.getElem_cons_zero, List.getElem_cons_succ])
  refine wpAnyH_take (i := 4) (v := ?_) rfl (by kernel_rfl) (by kernel_rfl) (by kernel_rfl) (fun _ _ _ h => h) (Or.inl ⟨by kernel_rfl, ?_⟩) (⟨b1, b2⟩) ?_
  rotate_left
  focus (intro W' hSw; obtain ⟨hx0, hx1⟩ := hSw; have hc0 := hx0.c0; have hc1 := hx0.c1; have hc2 := hx1.c0; have hc3 := hx1.c1; clear hx0 hx1; go_simp; (try with_reducible rfl))
  (try simp only [Act.put, List.setIfInBounds_toArray, List.set_cons_zero, List.set_cons_succ, List.getElem_toArray, List.getElem_cons_zero, List.getElem_cons_succ])
  refine wpAnyH_take (i := 6) (v := ?_) rfl (by kernel_rfl) (by kernel_rfl) (by kernel_rfl) (fun _ _ _ h => h) (Or.inl ⟨by kernel_rfl, ?_⟩) (⟨b1, b2⟩) ?_
  rotate_left
  focus (intro W' hSw; obtain ⟨hx0, hx1⟩ := hSw; have hc0 := hx0.c0; have hc1 := hx0.c1; have hc2 := hx1.c0; have hc3 := hx1.c1; clear hx0 hx1; go_simp; (try with_reducible rfl))
  (try simp only [Act.put, List.setIfInBounds_toArray, List.set_cons_zero, List.set_cons_succ, List.getElem_toArray, List.getElem_cons_zero, List.getElem_cons_succ])
  refine wpAnyH_ready (rs := [1, 10]) (by kernel_rfl) (by simp) ?_
  refine AllReadyH.cons rfl (fun K hK => ?_) (AllReadyH.cons rfl (fun K hK => ?_) (AllReadyH.nil))
  · go_simp
    go_at_call 45; refine (zabs_any _ a _ hA).mono ?_
    rintro e Wm ⟨u, rfl, hm, hb⟩
    obtain ⟨gm, pm, nm, cm, rfl⟩ := hm.shape
    replace hA := hA.go hb
    replace hB := hB.go hb
    replace b1 := b1.go hb
    replace b2 := b2.go hb
    replace b3 := b3.go hb
    replace h0 := bel_go h0 h0.size hb
    clear hb
    refine hK.out _ _ (⟨b1, b2⟩) (fun _ => ?_)
    clear hK K
    (try simp only [Act.put, List.setIfInBounds_toArray, List.set_cons_zero, List.set_cons_succ, List.getElem_toArray, List.getElem_cons_zero, List.getElem_cons_succ])
    refine wpAnyH_ready (rs := [2, 10]) (by kernel_rfl) (by simp) ?_
    refine AllReadyH.cons rfl (fun K hK => ?_) (AllReadyH.cons rfl (fun K hK => ?_) (AllReadyH.nil))
    · go_simp
      go_at_call 21; refine (i_any 2 (by omega) (by omega) _).mono ?_
      rintro e Wi ⟨u, rfl, hi, hb⟩
      obtain ⟨gi, pi, ni, ci, rfl⟩ := hi.shape
      replace hA := hA.go hb
      replace hB := hB.go hb
      replace hm := hm.go hb
      replace b1 := b1.go hb
      replace b2 := b2.go hb
      replace b3 := b3.go hb
      replace h0 := bel_go h0 h0.size hb
      clear hb
      refine hK.out _ _ (⟨b1, b2⟩) (fun _ => ?_)
      clear hK K
      (try simp only [Act.put, List.setIfInBounds_toArray, List.set_cons_zero, List.set_cons_succ, List.getElem_toArray, List.getElem_cons_zero, List.getElem_cons_succ])
      refine wpAnyH_ready (rs := [3, 10]) (by kernel_rfl) (by simp) ?_
      refine AllReadyH.cons rfl (fun K hK => ?_) (AllReadyH.cons rfl (fun K hK => ?_) (AllReadyH.nil))
      · go_simp
        go_at_call 52; refine (ztimes_any _ _ (a.natAbs : Int) 2 hl1 _ hm hi).mono ?_
        rintro e Wt ⟨u, rfl, ht, hb⟩
        obtain ⟨gt, pt, nt, ct, rfl⟩ := ht.shape
        replace hA := hA.go hb
        replace hB := hB.go hb
        replace hm := hm.go hb
        replace hi := hi.go hb
        replace b1 := b1.go hb
        replace b2 := b2.go hb
        replace b3 := b3.go hb
        replace h0 := bel_go h0 h0.size hb
        clear hb
        refine hK.out _ _ (⟨b1, b2⟩) (fun _ => ?_)
        clear hK K
        (try simp only [Act.put, List.setIfInBounds_toArray, List.set_cons_zero, List.set_cons_succ, List.getElem_toArray, List.getElem_cons_zero, List.getElem_cons_succ])
        refine wpAnyH_ready (rs := [5, 10]) (by kernel_rfl) (by simp) ?_
        refine AllReadyH.cons rfl (fun K hK => ?_) (AllReadyH.cons rfl (fun K hK => ?_) (AllReadyH.nil))
        · go_simp
          go_at_call 34; refine (zplus_any _ _ ((a.natAbs : Int) * 2) b hs1 hsb _ ht hB).mono ?_
          rintro e Ws ⟨u, rfl, hs, hb⟩
          obtain ⟨gs, ps, ns, cs, rfl⟩ := hs.shape
          replace hA := hA.go hb
          replace hB := hB.go hb
          replace hm := hm.go hb
          replace hi := hi.go hb
          replace ht := ht.go hb
          replace b1 := b1.go hb
          replace b2 := b2.go hb
          replace b3 := b3.go hb
          replace h0 := bel_go h0 h0.size hb
          clear hb
          refine hK.out _ _ (⟨b1, b2⟩) (fun _ => ?_)
          clear hK K
          (try simp only [Act.put, List.setIfInBounds_toArray, List.set_cons_zero, List.set_cons_succ, List.getElem_toArray, List.getElem_cons_zero, List.getElem_cons_succ])
          refine wpAnyH_ready (rs := [7, 10]) (by kernel_rfl) (by simp) ?_
          refine AllReadyH.cons rfl (fun K hK => ?_) (AllReadyH.cons rfl (fun K hK => ?_) (AllReadyH.nil))
          · go_simp
            go_at_call 21; refine (i_any 2 (by omega) (by omega) _).mono ?_
            rintro e Wj ⟨u, rfl, hj, hb⟩
            obtain ⟨gj, pj, nj, cj, rfl⟩ := hj.shape
            replace hA := hA.go hb
            replace hB := hB.go hb
            replace hm := hm.go hb
            replace hi := hi.go hb
            replace ht := ht.go hb
            replace hs := hs.go hb
            replace b1 := b1.go hb
            replace b2 := b2.go hb
            replace b3 := b3.go hb
            replace h0 := bel_go h0 h0.size hb
            clear hb
            refine hK.out _ _ (⟨b1, b2⟩) (fun _ => ?_)
            clear hK K
            (try simp only [Act.put, List.setIfInBounds_toArray, List.set_cons_zero, List.set_cons_succ, List.getElem_toArray, List.getElem_cons_zero, List.getElem_cons_succ])
            refine wpAnyH_ready (rs := [8, 10]) (by kernel_rfl) (by simp) ?_
            refine AllReadyH.cons rfl (fun K hK => ?_) (AllReadyH.cons rfl (fun K hK => ?_) (AllReadyH.nil))
            · go_simp
              go_at_call 52; refine (ztimes_any _ _ b 2 hl2 _ hB hj).mono ?_
              rintro e Wd ⟨u, rfl, hd, hb⟩
              obtain ⟨gd, pd, nd, cd, rfl⟩ := hd.shape
              replace hA := hA.go hb
              replace hB := hB.go hb
              replace hm := hm.go hb
              replace hi := hi.go hb
              replace ht := ht.go hb
              replace hs := hs.go hb
              replace hj := hj.go hb
              replace b1 := b1.go hb
              replace b2 := b2.go hb
              replace b3 := b3.go hb
              replace h0 := bel_go h0 h0.size hb
              clear hb
              refine hK.out _ _ (⟨b1, b2⟩) (fun _ => ?_)
              clear hK K
              (try simp only [Act.put, List.setIfInBounds_toArray, List.set_cons_zero, List.set_cons_succ, List.getElem_toArray, List.getElem_cons_zero, List.getElem_cons_succ])
              refine wpAnyH_ready (rs := [9, 10]) (by kernel_rfl) (by simp) ?_
              refine AllReadyH.cons rfl (fun K hK => ?_) (AllReadyH.cons rfl (fun K hK => ?_) (AllReadyH.nil))
              · go_simp
                go_at_call 70; refine (zfloor_any _ _ ((a.natAbs : Int) * 2 + b) (b * 2) hd0 hl3 hl4 _ hs hd).mono ?_
                rintro e Wq ⟨u, rfl, hq, hb⟩
                obtain ⟨gq, pq, nq, cq, rfl⟩ := hq.shape
                replace hA := hA.go hb
                replace hB := hB.go hb
                replace hm := hm.go hb
                replace hi := hi.go hb
                replace ht := ht.go hb
                replace hs := hs.go hb
                replace hj := hj.go hb
                replace hd := hd.go hb
                replace b1 := b1.go hb
                replace b2 := b2.go hb
                replace b3 := b3.go hb
                replace h0 := bel_go h0 h0.size hb
                clear hb
                refine hK.out _ _ (⟨b1, b2⟩) (fun _ => ?_)
                clear hK K
                (try simp only [Act.put, List.setIfInBounds_toArray, List.set_cons_zero, List.set_cons_succ, List.getElem_toArray, List.getElem_cons_zero, List.getElem_cons_succ])
                refine wpAnyH_ready (rs := [10]) (by kernel_rfl) (by simp) ?_
                refine AllReadyH.cons rfl (fun K hK => ?_) (AllReadyH.nil)
                go_simp
                have hal : Below Wq.heap.size Wq (Wq.alloc (.cells #[.bool false, .slice none 0 0] 27)) := (Below.refl _ _).alloc (Nat.le_refl _) _
                have bq := Bx.new Wq 27 (.bool false) (.slice none 0 0)
                have sl_bq := Lib.hid (show w.heap.size ≤ Wq.heap.size from h0.size)
                have l_bq_b1 := Lib.hid b1.lt
                have l_bq_b2 := Lib.hid b2.lt
                have l_bq_b3 := Lib.hid b3.lt
                replace hA := hA.go hal
                replace hB := hB.go hal
                replace hm := hm.go hal
                replace hi := hi.go hal
                replace ht := ht.go hal
                replace hs := hs.go hal
                replace hj := hj.go hal
                replace hd := hd.go hal
                replace hq := hq.go hal
                replace b1 := b1.go hal
                replace b2 := b2.go hal
                replace b3 := b3.go hal
                replace h0 := bel_go h0 h0.size hal
                clear hal
                generalize Wq.heap.size = Bbq at bq sl_bq l_bq_b1 l_bq_b2 l_bq_b3 ⊢
                generalize Wq.alloc (.cells #[.bool false, .slice none 0 0] 27) = Vbq at hA hB hm hi ht hs hj hd hq b1 b2 b3 bq h0 ⊢
                refine hK.out _ _ (⟨b1, b2⟩) (fun _ => ?_)
                clear hK K
                (try simp only [Act.put, List.setIfInBounds_toArray, List.set_cons_zero, List.set_cons_succ, List.getElem_toArray, List.getElem_cons_zero, List.getElem_cons_succ])
                refine wpAnyH_done (by kernel_rfl) ?_ _
                refine still1_step rfl (fun K hK => ?_)
                have hq0 := bq.c0
                have hq1 := bq.c1
                have hr0 := bq.f0
                have hr1 := bq.f1
                go_simp
                clear hq0 hq1 hr0 hr1
                have hP := put2 Vbq (Bbq) (.bool gq) (.slice pq nq cq)
                have hN := bq.stored (.bool gq) (.slice pq nq cq)
                generalize (Vbq.setCell ⟨Bbq, 0, none⟩ (.bool gq)).setCell ⟨Bbq, 1, none⟩ (.slice pq nq cq) = VS at hP hN ⊢
                replace hA := hA.put bq (by decide) hP
                replace hB := hB.put bq (by decide) hP
                replace hm := hm.put bq (by decide) hP
                replace hi := hi.put bq (by decide) hP
                replace ht := ht.put bq (by decide) hP
                replace hs := hs.put bq (by decide) hP
                replace hj := hj.put bq (by decide) hP
                replace hd := hd.put bq (by decide) hP
                replace hq := hq.put bq (by decide) hP
                replace h0 := bel_put h0 (by have := sl_bq.out; omega) hP
                replace b1 := b1.put hP (by have := l_bq_b1.out; omega)
                replace b2 := b2.put hP (by have := l_bq_b2.out; omega)
                replace b3 := b3.put hP (by have := l_bq_b3.out; omega)
                clear hP bq
                have bq := hN
                clear hN
                refine hK.out _ _ ?_
                clear hK K
                (try simp only [Act.put, List.setIfInBounds_toArray, List.set_cons_zero, List.set_cons_succ, List.getElem_toArray, List.getElem_cons_zero, List.getElem_cons_succ])
                have c10 := b1.c0
                have hq0 := bq.c0
                have hq1 := bq.c1
                have cr0 := b3.c0
                have cr1 := b3.c1
                have fr0 := b3.f0
                have fr1 := b3.f1
                go_wp2_with (first
                  | (go_at_call 36; (with_reducible refine (zminus_any _ _ hsq _ hq).mono ?_); rintro e WM ⟨u, rfl, hn, hb⟩
                     obtain ⟨gn, pn, nn, cn, rfl⟩ := hn.shape
                     replace h0 := bel_go h0 h0.size hb
                     replace b3 := b3.go hb
                     clear hb hq0 hq1 cr0 cr1 fr0 fr1
                     have cr0 := b3.c0
                     have cr1 := b3.c1
                     have fr0 := b3.f0
                     have fr1 := b3.f1))
                clear c10 cr0 cr1 fr0 fr1
                have e0 := (b3.stored (.bool gn) (.slice pn nn cn)).c0
                have e1 := (b3.stored (.bool gn) (.slice pn nn cn)).c1
                refine bodyPost_ret (v := .agg #[.bool gn, .slice pn nn cn]) (by simp [results, Try.results72, go_sem, e0, e1]) rfl ⟨_, rfl, ?_, ?_⟩
                · exact hn.put b3 (by decide) (put2 _ _ _ _)
                · exact bel_put h0 (by omega) (put2 _ _ _ _)
              · go_simp
                have hal : Below Wd.heap.size Wd (Wd.alloc (.cells #[.bool false, .slice none 0 0] 27)) := (Below.refl _ _).alloc (Nat.le_refl _) _
                have bq := Bx.new Wd 27 (.bool false) (.slice none 0 0)
                have sl_bq := Lib.hid (show w.heap.size ≤ Wd.heap.size from h0.size)
                have l_bq_b1 := Lib.hid b1.lt
                have l_bq_b2 := Lib.hid b2.lt
                have l_bq_b3 := Lib.hid b3.lt
                replace hA := hA.go hal
                replace hB := hB.go hal
                replace hm := hm.go hal
                replace hi := hi.go hal
                replace ht := ht.go hal
                replace hs := hs.go hal
                replace hj := hj.go hal
                replace hd := hd.go hal
                replace b1 := b1.go hal
                replace b2 := b2.go hal
                replace b3 := b3.go hal
                replace h0 := bel_go h0 h0.size hal
                clear hal
                generalize Wd.heap.size = Bbq at bq sl_bq l_bq_b1 l_bq_b2 l_bq_b3 ⊢
                generalize Wd.alloc (.cells #[.bool false, .slice none 0 0] 27) = Vbq at hA hB hm hi ht hs hj hd b1 b2 b3 bq h0 ⊢
                refine hK.out _ _ (⟨b1, b2⟩) (fun _ => ?_)
                clear hK K
                (try simp only [Act.put, List.setIfInBounds_toArray, List.set_cons_zero, List.set_cons_succ, List.getElem_toArray, List.getElem_cons_zero, List.getElem_cons_succ])
                refine wpAnyH_ready (rs := [9]) (by kernel_rfl) (by simp) ?_
                refine AllReadyH.cons rfl (fun K hK => ?_) (AllReadyH.nil)
                go_simp
                go_at_call 70; refine (zfloor_any _ _ ((a.natAbs : Int) * 2 + b) (b * 2) hd0 hl3 hl4 _ hs hd).mono ?_
                rintro e Wq ⟨u, rfl, hq, hb⟩
                obtain ⟨gq, pq, nq, cq, rfl⟩ := hq.shape
                replace hA := hA.go hb
                replace hB := hB.go hb
                replace hm := hm.go hb
                replace hi := hi.go hb
                replace ht := ht.go hb
                replace hs := hs.go hb
                replace hj := hj.go hb
                replace hd := hd.go hb
                replace b1 := b1.go hb
                replace b2 := b2.go hb
                replace b3 := b3.go hb
                replace bq := bq.go hb
                replace h0 := bel_go h0 h0.size hb
                clear hb
                refine hK.out _ _ (⟨b1, b2⟩) (fun _ => ?_)
                clear hK K
                (try simp only [Act.put, List.setIfInBounds_toArray, List.set_cons_zero, List.set_cons_succ, List.getElem_toArray, List.getElem_cons_zero, List.getElem_cons_succ])
                refine wpAnyH_done (by kernel_rfl) ?_ _
                refine still1_step rfl (fun K hK => ?_)
                have hq0 := bq.c0
                have hq1 := bq.c1
                have hr0 := bq.f0
                have hr1 := bq.f1
                go_simp
                clear hq0 hq1 hr0 hr1
                have hP := put2 Wq (Bbq) (.bool gq) (.slice pq nq cq)
                have hN := bq.stored (.bool gq) (.slice pq nq cq)
                generalize (Wq.setCell ⟨Bbq, 0, none⟩ (.bool gq)).setCell ⟨Bbq, 1, none⟩ (.slice pq nq cq) = VS at hP hN ⊢
                replace hA := hA.put bq (by decide) hP
                replace hB := hB.put bq (by decide) hP
                replace hm := hm.put bq (by decide) hP
                replace hi := hi.put bq (by decide) hP
                replace ht := ht.put bq (by decide) hP
                replace hs := hs.put bq (by decide) hP
                replace hj := hj.put bq (by decide) hP
                replace hd := hd.put bq (by decide) hP
                replace hq := hq.put bq (by decide) hP
                replace h0 := bel_put h0 (by have := sl_bq.out; omega) hP
                replace b1 := b1.put hP (by have := l_bq_b1.out; omega)
                replace b2 := b2.put hP (by have := l_bq_b2.out; omega)
                replace b3 := b3.put hP (by have := l_bq_b3.out; omega)
                clear hP bq
                have bq := hN
                clear hN
                refine hK.out _ _ ?_
                clear hK K
                (try simp only [Act.put, List.setIfInBounds_toArray, List.set_cons_zero, List.set_cons_succ, List.getElem_toArray, List.getElem_cons_zero, List.getElem_cons_succ])
                have c10 := b1.c0
                have hq0 := bq.c0
                have hq1 := bq.c1
                have cr0 := b3.c0
                have cr1 := b3.c1
                have fr0 := b3.f0
                have fr1 := b3.f1
                go_wp2_with (first
                  | (go_at_call 36; (with_reducible refine (zminus_any _ _ hsq _ hq).mono ?_); rintro e WM ⟨u, rfl, hn, hb⟩
                     obtain ⟨gn, pn, nn, cn, rfl⟩ := hn.shape
                     replace h0 := bel_go h0 h0.size hb
                     replace b3 := b3.go hb
                     clear hb hq0 hq1 cr0 cr1 fr0 fr1
                     have cr0 := b3.c0
                     have cr1 := b3.c1
                     have fr0 := b3.f0
                     have fr1 := b3.f1))
                clear c10 cr0 cr1 fr0 fr1
                have e0 := (b3.stored (.bool gn) (.slice pn nn cn)).c0
                have e1 := (b3.stored (.bool gn) (.slice pn nn cn)).c1
                refine bodyPost_ret (v := .agg #[.bool gn, .slice pn nn cn]) (by simp [results, Try.results72, go_sem, e0, e1]) rfl ⟨_, rfl, ?_, ?_⟩
                · exact hn.put b3 (by decide) (put2 _ _ _ _)
                · exact bel_put h0 (by omega) (put2 _ _ _ _)
            · go_simp
              have hal : Below Wj.heap.size Wj (Wj.alloc (.cells #[.bool false, .slice none 0 0] 27)) := (Below.refl _ _).alloc (Nat.le_refl _) _
              have bq := Bx.new Wj 27 (.bool false) (.slice none 0 0)
              have sl_bq := Lib.hid (show w.heap.size ≤ Wj.heap.size from h0.size)
              have l_bq_b1 := Lib.hid b1.lt
              have l_bq_b2 := Lib.hid b2.lt
              have l_bq_b3 := Lib.hid b3.lt
              replace hA := hA.go hal
              replace hB := hB.go hal
              replace hm := hm.go hal
              replace hi := hi.go hal
              replace ht := ht.go hal
              replace hs := hs.go hal
              replace hj := hj.go hal
              replace b1 := b1.go hal
              replace b2 := b2.go hal
              replace b3 := b3.go hal
              replace h0 := bel_go h0 h0.size hal
              clear hal
              generalize Wj.heap.size = Bbq at bq sl_bq l_bq_b1 l_bq_b2 l_bq_b3 ⊢
              generalize Wj.alloc (.cells #[.bool false, .slice none 0 0] 27) = Vbq at hA hB hm hi ht hs hj b1 b2 b3 bq h0 ⊢
              refine hK.out _ _ (⟨b1, b2⟩) (fun _ => ?_)
              clear hK K
              (try simp only [Act.put, List.setIfInBounds_toArray, List.set_cons_zero, List.set_cons_succ, List.getElem_toArray, List.getElem_cons_zero, List.getElem_cons_succ])
              refine wpAnyH_ready (rs := [8]) (by kernel_rfl) (by simp) ?_
              refine AllReadyH.cons rfl (fun K hK => ?_) (AllReadyH.nil)
              go_simp
              go_at_call 52; refine (ztimes_any _ _ b 2 hl2 _ hB hj).mono ?_
              rintro e Wd ⟨u, rfl, hd, hb⟩
              obtain ⟨gd, pd, nd, cd, rfl⟩ := hd.shape
              replace hA := hA.go hb
              replace hB := hB.go hb
              replace hm := hm.go hb
              replace hi := hi.go hb
              replace ht := ht.go hb
              replace hs := hs.go hb
              replace hj := hj.go hb
              replace b1 := b1.go hb
              replace b2 := b2.go hb
              replace b3 := b3.go hb
              replace bq := bq.go hb
              replace h0 := bel_go h0 h0.size hb
              clear hb
              refine hK.out _ _ (⟨b1, b2⟩) (fun _ => ?_)
              clear hK K
              (try simp only [Act.put, List.setIfInBounds_toArray, List.set_cons_zero, List.set_cons_succ, List.getElem_toArray, List.getElem_cons_zero, List.getElem_cons_succ])
              refine wpAnyH_ready (rs := [9]) (by kernel_rfl) (by simp) ?_
              refine AllReadyH.cons rfl (fun K hK => ?_) (AllReadyH.nil)
              go_simp
              go_at_call 70; refine (zfloor_any _ _ ((a.natAbs : Int) * 2 + b) (b * 2) hd0 hl3 hl4 _ hs hd).mono ?_
              rintro e Wq ⟨u, rfl, hq, hb⟩
              obtain ⟨gq, pq, nq, cq, rfl⟩ := hq.shape
              replace hA := hA.go hb
              replace hB := hB.go hb
              replace hm := hm.go hb
              replace hi := hi.go hb
              replace ht := ht.go hb
              replace hs := hs.go hb
              replace hj := hj.go hb
              replace hd := hd.go hb
              replace b1 := b1.go hb
              replace b2 := b2.go hb
              replace b3 := b3.go hb
              replace bq := bq.go hb
              replace h0 := bel_go h0 h0.size hb
              clear hb
              refine hK.out _ _ (⟨b1, b2⟩) (fun _ => ?_)
              clear hK K
              (try simp only [Act.put, List.setIfInBounds_toArray, List.set_cons_zero, List.set_cons_succ, List.getElem_toArray, List.getElem_cons_zero, List.getElem_cons_succ])
              refine wpAnyH_done (by kernel_rfl) ?_ _
              refine still1_step rfl (fun K hK => ?_)
              have hq0 := bq.c0
              have hq1 := bq.c1
              have hr0 := bq.f0
              have hr1 := bq.f1
              go_simp
              clear hq0 hq1 hr0 hr1
              have hP := put2 Wq (Bbq) (.bool gq) (.slice pq nq cq)
              have hN := bq.stored (.bool gq) (.slice pq nq cq)
              generalize (Wq.setCell ⟨Bbq, 0, none⟩ (.bool gq)).setCell ⟨Bbq, 1, none⟩ (.slice pq nq cq) = VS at hP hN ⊢
              replace hA := hA.put bq (by decide) hP
              replace hB := hB.put bq (by decide) hP
              replace hm := hm.put bq (by decide) hP
              replace hi := hi.put bq (by decide) hP
              replace ht := ht.put bq (by decide) hP
              replace hs := hs.put bq (by decide) hP
              replace hj := hj.put bq (by decide) hP
              replace hd := hd.put bq (by decide) hP
              replace hq := hq.put bq (by decide) hP
              replace h0 := bel_put h0 (by have := sl_bq.out; omega) hP
              replace b1 := b1.put hP (by have := l_bq_b1.out; omega)
              replace b2 := b2.put hP (by have := l_bq_b2.out; omega)
              replace b3 := b3.put hP (by have := l_bq_b3.out; omega)
              clear hP bq
              have bq := hN
              clear hN
              refine hK.out _ _ ?_
              clear hK K
              (try simp only [Act.put, List.setIfInBounds_toArray, List.set_cons_zero, List.set_cons_succ, List.getElem_toArray, List.getElem_cons_zero, List.getElem_cons_succ])
              have c10 := b1.c0
              have hq0 := bq.c0
              have hq1 := bq.c1
              have cr0 := b3.c0
              have cr1 := b3.c1
              have fr0 := b3.f0
              have fr1 := b3.f1
              go_wp2_with (first
                | (go_at_call 36; (with_reducible refine (zminus_any _ _ hsq _ hq).mono ?_); rintro e WM ⟨u, rfl, hn, hb⟩
                   obtain ⟨gn, pn, nn, cn, rfl⟩ := hn.shape
                   replace h0 := bel_go h0 h0.size hb
                   replace b3 := b3.go hb
                   clear hb hq0 hq1 cr0 cr1 fr0 fr1
                   have cr0 := b3.c0
                   have cr1 := b3.c1
                   have fr0 := b3.f0
                   have fr1 := b3.f1))
              clear c10 cr0 cr1 fr0 fr1
              have e0 := (b3.stored (.bool gn) (.slice pn nn cn)).c0
              have e1 := (b3.stored (.bool gn) (.slice pn nn cn)).c1
              refine bodyPost_ret (v := .agg #[.bool gn, .slice pn nn cn]) (by simp [results, Try.results72, go_sem, e0, e1]) rfl ⟨_, rfl, ?_, ?_⟩
              · exact hn.put b3 (by decide) (put2 _ _ _ _)
              · exact bel_put h0 (by omega) (put2 _ _ _ _)
          · go_simp
            have hal : Below Ws.heap.size Ws (Ws.alloc (.cells #[.bool false, .slice none 0 0] 27)) := (Below.refl _ _).alloc (Nat.le_refl _) _
            have bq := Bx.new Ws 27 (.bool false) (.slice none 0 0)
            have sl_bq := Lib.hid (show w.heap.size ≤ Ws.heap.size from h0.size)
            have l_bq_b1 := Lib.hid b1.lt
            have l_bq_b2 := Lib.hid b2.lt
            have l_bq_b3 := Lib.hid b3.lt
            replace hA := hA.go hal
            replace hB := hB.go hal
            replace hm := hm.go hal
            replace hi := hi.go hal
            replace ht := ht.go hal
            replace hs := hs.go hal
            replace b1 := b1.go hal
            replace b2 := b2.go hal
            replace b3 := b3.go hal
            replace h0 := bel_go h0 h0.size hal
            clear hal
            generalize Ws.heap.size = Bbq at bq sl_bq l_bq_b1 l_bq_b2 l_bq_b3 ⊢
            generalize Ws.alloc (.cells #[.bool false, .slice none 0 0] 27) = Vbq at hA hB hm hi ht hs b1 b2 b3 bq h0 ⊢
            refine hK.out _ _ (⟨b1, b2⟩) (fun _ => ?_)
            clear hK K
            (try simp only [Act.put, List.setIfInBounds_toArray, List.set_cons_zero, List.set_cons_succ, List.getElem_toArray, List.getElem_cons_zero, List.getElem_cons_succ])
            refine wpAnyH_ready (rs := [7]) (by kernel_rfl) (by simp) ?_
            refine AllReadyH.cons rfl (fun K hK => ?_) (AllReadyH.nil)
            go_simp
            go_at_call 21; refine (i_any 2 (by omega) (by omega) _).mono ?_
            rintro e Wj ⟨u, rfl, hj, hb⟩
            obtain ⟨gj, pj, nj, cj, rfl⟩ := hj.shape
            replace hA := hA.go hb
            replace hB := hB.go hb
            replace hm := hm.go hb
            replace hi := hi.go hb
            replace ht := ht.go hb
            replace hs := hs.go hb
            replace b1 := b1.go hb
            replace b2 := b2.go hb
            replace b3 := b3.go hb
            replace bq := bq.go hb
            replace h0 := bel_go h0 h0.size hb
            clear hb
            refine hK.out _ _ (⟨b1, b2⟩) (fun _ => ?_)
            clear hK K
            (try simp only [Act.put, List.setIfInBounds_toArray, List.set_cons_zero, List.set_cons_succ, List.getElem_toArray, List.getElem_cons_zero, List.getElem_cons_succ])
            refine wpAnyH_ready (rs := [8]) (by kernel_rfl) (by simp) ?_
            refine AllReadyH.cons rfl (fun K hK => ?_) (AllReadyH.nil)
            go_simp
            go_at_call 52; refine (ztimes_any _ _ b 2 hl2 _ hB hj).mono ?_
            rintro e Wd ⟨u, rfl, hd, hb⟩
            obtain ⟨gd, pd, nd, cd, rfl⟩ := hd.shape
            replace hA := hA.go hb
            replace hB := hB.go hb
            replace hm := hm.go hb
            replace hi := hi.go hb
            replace ht := ht.go hb
            replace hs := hs.go hb
            replace hj := hj.go hb
            replace b1 := b1.go hb
            replace b2 := b2.go hb
            replace b3 := b3.go hb
            replace bq := bq.go hb
            replace h0 := bel_go h0 h0.size hb
            clear hb
            refine hK.out _ _ (⟨b1, b2⟩) (fun _ => ?_)
            clear hK K
            (try simp only [Act.put, List.setIfInBounds_toArray, List.set_cons_zero, List.set_cons_succ, List.getElem_toArray, List.getElem_cons_zero, List.getElem_cons_succ])
            refine wpAnyH_ready (rs := [9]) (by kernel_rfl) (by simp) ?_
            refine AllReadyH.cons rfl (fun K hK => ?_) (AllReadyH.nil)
            go_simp
            go_at_call 70; refine (zfloor_any _ _ ((a.natAbs : Int) * 2 + b) (b * 2) hd0 hl3 hl4 _ hs hd).mono ?_
            rintro e Wq ⟨u, rfl, hq, hb⟩
            obtain ⟨gq, pq, nq, cq, rfl⟩ := hq.shape
            replace hA := hA.go hb
            replace hB := hB.go hb
            replace hm := hm.go hb
            replace hi := hi.go hb
            replace ht := ht.go hb
            replace hs := hs.go hb
            replace hj := hj.go hb
            replace hd := hd.go hb
            replace b1 := b1.go hb
            replace b2 := b2.go hb
            replace b3 := b3.go hb
            replace bq := bq.go hb
            replace h0 := bel_go h0 h0.size hb
            clear hb
            refine hK.out _ _ (⟨b1, b2⟩) (fun _ => ?_)
            clear hK K
            (try simp only [Act.put, List.setIfInBounds_toArray, List.set_cons_zero, List.set_cons_succ, List.getElem_toArray, List.getElem_cons_zero, List.getElem_cons_succ])
            refine wpAnyH_done (by kernel_rfl) ?_ _
            refine still1_step rfl (fun K hK => ?_)
            have hq0 := bq.c0
            have hq1 := bq.c1
            have hr0 := bq.f0
            have hr1 := bq.f1
            go_simp
            clear hq0 hq1 hr0 hr1
            have hP := put2 Wq (Bbq) (.bool gq) (.slice pq nq cq)
            have hN := bq.stored (.bool gq) (.slice pq nq cq)
            generalize (Wq.setCell ⟨Bbq, 0, none⟩ (.bool gq)).setCell ⟨Bbq, 1, none⟩ (.slice pq nq cq) = VS at hP hN ⊢
            replace hA := hA.put bq (by decide) hP
            replace hB := hB.put bq (by decide) hP
            replace hm := hm.put bq (by decide) hP
            replace hi := hi.put bq (by decide) hP
            replace ht := ht.put bq (by decide) hP
            replace hs := hs.put bq (by decide) hP
            replace hj := hj.put bq (by decide) hP
            replace hd := hd.put bq (by decide) hP
            replace hq := hq.put bq (by decide) hP
            replace h0 := bel_put h0 (by have := sl_bq.out; omega) hP
            replace b1 := b1.put hP (by have := l_bq_b1.out; omega)
            replace b2 := b2.put hP (by have := l_bq_b2.out; omega)
            replace b3 := b3.put hP (by have := l_bq_b3.out; omega)
            clear hP bq
            have bq := hN
            clear hN
            refine hK.out _ _ ?_
            clear hK K
            (try simp only [Act.put, List.setIfInBounds_toArray, List.set_cons_zero, List.set_cons_succ, List.getElem_toArray, List.getElem_cons_zero, List.getElem_cons_succ])
            have c10 := b1.c0
            have hq0 := bq.c0
            have hq1 := bq.c1
            have cr0 := b3.c0
            have cr1 := b3.c1
            have fr0 := b3.f0
            have fr1 := b3.f1
            go_wp2_with (first
              | (go_at_call 36; (with_reducible refine (zminus_any _ _ hsq _ hq).mono ?_); rintro e WM ⟨u, rfl, hn, hb⟩
                 obtain ⟨gn, pn, nn, cn, rfl⟩ := hn.shape
                 replace h0 := bel_go h0 h0.size hb
                 replace b3 := b3.go hb
                 clear hb hq0 hq1 cr0 cr1 fr0 fr1
                 have cr0 := b3.c0
                 have cr1 := b3.c1
                 have fr0 := b3.f0
                 have fr1 := b3.f1))
            clear c10 cr0 cr1 fr0 fr1
            have e0 := (b3.stored (.bool gn) (.slice pn nn cn)).c0
            have e1 := (b3.stored (.bool gn) (.slice pn nn cn)).c1
            refine bodyPost_ret (v := .agg #[.bool gn, .slice pn nn cn]) (by simp [results, Try.results72, go_sem, e0, e1]) rfl ⟨_, rfl, ?_, ?_⟩
            · exact hn.put b3 (by decide) (put2 _ _ _ _)
            · exact bel_put h0 (by omega) (put2 _ _ _ _)
        · go_simp
          have hal : Below Wt.heap.size Wt (Wt.alloc (.cells #[.bool false, .slice none 0 0] 27)) := (Below.refl _ _).alloc (Nat.le_refl _) _
          have bq := Bx.new Wt 27 (.bool false) (.slice none 0 0)
          have sl_bq := Lib.hid (show w.heap.size ≤ Wt.heap.size from h0.size)
          have l_bq_b1 := Lib.hid b1.lt
          have l_bq_b2 := Lib.hid b2.lt
          have l_bq_b3 := Lib.hid b3.lt
          replace hA := hA.go hal
          replace hB := hB.go hal
          replace hm := hm.go hal
          replace hi := hi.go hal
          replace ht := ht.go hal
          replace b1 := b1.go hal
          replace b2 := b2.go hal
          replace b3 := b3.go hal
          replace h0 := bel_go h0 h0.size hal
          clear hal
          generalize Wt.heap.size = Bbq at bq sl_bq l_bq_b1 l_bq_b2 l_bq_b3 ⊢
          generalize Wt.alloc (.cells #[.bool false, .slice none 0 0] 27) = Vbq at hA hB hm hi ht b1 b2 b3 bq h0 ⊢
          refine hK.out _ _ (⟨b1, b2⟩) (fun _ => ?_)
          clear hK K
          (try simp only [Act.put, List.setIfInBounds_toArray, List.set_cons_zero, List.set_cons_succ, List.getElem_toArray, List.getElem_cons_zero, List.getElem_cons_succ])
          refine wpAnyH_ready (rs := [5]) (by kernel_rfl) (by simp) ?_
          refine AllReadyH.cons rfl (fun K hK => ?_) (AllReadyH.nil)
          go_simp
          go_at_call 34; refine (zplus_any _ _ ((a.natAbs : Int) * 2) b hs1 hsb _ ht hB).mono ?_
          rintro e Ws ⟨u, rfl, hs, hb⟩
          obtain ⟨gs, ps, ns, cs, rfl⟩ := hs.shape
          replace hA := hA.go hb
          replace hB := hB.go hb
          replace hm := hm.go hb
          replace hi := hi.go hb
          replace ht := ht.go hb
          replace b1 := b1.go hb
          replace b2 := b2.go hb
          replace b3 := b3.go hb
          replace bq := bq.go hb
          replace h0 := bel_go h0 h0.size hb
          clear hb
          refine hK.out _ _ (⟨b1, b2⟩) (fun _ => ?_)
          clear hK K
          (try simp only [Act.put, List.setIfInBounds_toArray, List.set_cons_zero, List.set_cons_succ, List.getElem_toArray, List.getElem_cons_zero, List.getElem_cons_succ])
          refine wpAnyH_ready (rs := [7]) (by kernel_rfl) (by simp) ?_
          refine AllReadyH.cons rfl (fun K hK => ?_) (AllReadyH.nil)
          go_simp
          go_at_call 21; refine (i_any 2 (by omega) (by omega) _).mono ?_
          rintro e Wj ⟨u, rfl, hj, hb⟩
          obtain ⟨gj, pj, nj, cj, rfl⟩ := hj.shape
          replace hA := hA.go hb
          replace hB := hB.go hb
          replace hm := hm.go hb
          replace hi := hi.go hb
          replace ht := ht.go hb
          replace hs := hs.go hb
          replace b1 := b1.go hb
          replace b2 := b2.go hb
          replace b3 := b3.go hb
          replace bq := bq.go hb
          replace h0 := bel_go h0 h0.size hb
          clear hb
          refine hK.out _ _ (⟨b1, b2⟩) (fun _ => ?_)
          clear hK K
          (try simp only [Act.put, List.setIfInBounds_toArray, List.set_cons_zero, List.set_cons_succ, List.getElem_toArray, List.getElem_cons_zero, List.getElem_cons_succ])
          refine wpAnyH_ready (rs := [8]) (by kernel_rfl) (by simp) ?_
          refine AllReadyH.cons rfl (fun K hK => ?_) (AllReadyH.nil)
          go_simp
          go_at_call 52; refine (ztimes_any _ _ b 2 hl2 _ hB hj).mono ?_
          rintro e Wd ⟨u, rfl, hd, hb⟩
          obtain ⟨gd, pd, nd, cd, rfl⟩ := hd.shape
          replace hA := hA.go hb
          replace hB := hB.go hb
          replace hm := hm.go hb
          replace hi := hi.go hb
          replace ht := ht.go hb
          replace hs := hs.go hb
          replace hj := hj.go hb
          replace b1 := b1.go hb
          replace b2 := b2.go hb
          replace b3 := b3.go hb
          replace bq := bq.go hb
          replace h0 := bel_go h0 h0.size hb
          clear hb
          refine hK.out _ _ (⟨b1, b2⟩) (fun _ => ?_)
          clear hK K
          (try simp only [Act.put, List.setIfInBounds_toArray, List.set_cons_zero, List.set_cons_succ, List.getElem_toArray, List.getElem_cons_zero, List.getElem_cons_succ])
          refine wpAnyH_ready (rs := [9]) (by kernel_rfl) (by simp) ?_
          refine AllReadyH.cons rfl (fun K hK => ?_) (AllReadyH.nil)
          go_simp
          go_at_call 70; refine (zfloor_any _ _ ((a.natAbs : Int) * 2 + b) (b * 2) hd0 hl3 hl4 _ hs hd).mono ?_
          rintro e Wq ⟨u, rfl, hq, hb⟩
          obtain ⟨gq, pq, nq, cq, rfl⟩ := hq.shape
          replace hA := hA.go hb
          replace hB := hB.go hb
          replace hm := hm.go hb
          replace hi := hi.go hb
          replace ht := ht.go hb
          replace hs := hs.go hb
          replace hj := hj.go hb
          replace hd := hd.go hb
          replace b1 := b1.go hb
          replace b2 := b2.go hb
          replace b3 := b3.go hb
          replace bq := bq.go hb
          replace h0 := bel_go h0 h0.size hb
          clear hb
          refine hK.out _ _ (⟨b1, b2⟩) (fun _ => ?_)
          clear hK K
          (try simp only [Act.put, List.setIfInBounds_toArray, List.set_cons_zero, List.set_cons_succ, List.getElem_toArray, List.getElem_cons_zero, List.getElem_cons_succ])
          refine wpAnyH_done (by kernel_rfl) ?_ _
          refine still1_step rfl (fun K hK => ?_)
          have hq0 := bq.c0
          have hq1 := bq.c1
          have hr0 := bq.f0
          have hr1 := bq.f1
          go_simp
          clear hq0 hq1 hr0 hr1
          have hP := put2 Wq (Bbq) (.bool gq) (.slice pq nq cq)
          have hN := bq.stored (.bool gq) (.slice pq nq cq)
          generalize (Wq.setCell ⟨Bbq, 0, none⟩ (.bool gq)).setCell ⟨Bbq, 1, none⟩ (.slice pq nq cq) = VS at hP hN ⊢
          replace hA := hA.put bq (by decide) hP
          replace hB := hB.put bq (by decide) hP
          replace hm := hm.put bq (by decide) hP
          replace hi := hi.put bq (by decide) hP
          replace ht := ht.put bq (by decide) hP
          replace hs := hs.put bq (by decide) hP
          replace hj := hj.put bq (by decide) hP
          replace hd := hd.put bq (by decide) hP
          replace hq := hq.put bq (by decide) hP
          replace h0 := bel_put h0 (by have := sl_bq.out; omega) hP
          replace b1 := b1.put hP (by have := l_bq_b1.out; omega)
          replace b2 := b2.put hP (by have := l_bq_b2.out; omega)
          replace b3 := b3.put hP (by have := l_bq_b3.out; omega)
          clear hP bq
          have bq := hN
          clear hN
          refine hK.out _ _ ?_
          clear hK K
          (try simp only [Act.put, List.setIfInBounds_toArray, List.set_cons_zero, List.set_cons_succ, List.getElem_toArray, List.getElem_cons_zero, List.getElem_cons_succ])
          have c10 := b1.c0
          have hq0 := bq.c0
          have hq1 := bq.c1
          have cr0 := b3.c0
          have cr1 := b3.c1
          have fr0 := b3.f0
          have fr1 := b3.f1
          go_wp2_with (first
            | (go_at_call 36; (with_reducible refine (zminus_any _ _ hsq _ hq).mono ?_); rintro e WM ⟨u, rfl, hn, hb⟩
               obtain ⟨gn, pn, nn, cn, rfl⟩ := hn.shape
               replace h0 := bel_go h0 h0.size hb
               replace b3 := b3.go hb
               clear hb hq0 hq1 cr0 cr1 fr0 fr1
               have cr0 := b3.c0
               have cr1 := b3.c1
               have fr0 := b3.f0
               have fr1 := b3.f1))
          clear c10 cr0 cr1 fr0 fr1
          have e0 := (b3.stored (.bool gn) (.slice pn nn cn)).c0
          have e1 := (b3.stored (.bool gn) (.slice pn nn cn)).c1
          refine bodyPost_ret (v := .agg #[.bool gn, .slice pn nn cn]) (by simp [results, Try.results72, go_sem, e0, e1]) rfl ⟨_, rfl, ?_, ?_⟩
          · exact hn.put b3 (by decide) (put2 _ _ _ _)
          · exact bel_put h0 (by omega) (put2 _ _ _ _)
      · go_simp
        have hal : Below Wi.heap.size Wi (Wi.alloc (.cells #[.bool false, .slice none 0 0] 27)) := (Below.refl _ _).alloc (Nat.le_refl _) _
        have bq := Bx.new Wi 27 (.bool false) (.slice none 0 0)
        have sl_bq := Lib.hid (show w.heap.size ≤ Wi.heap.size from h0.size)
        have l_bq_b1 := Lib.hid b1.lt
        have l_bq_b2 := Lib.hid b2.lt
        have l_bq_b3 := Lib.hid b3.lt
        replace hA := hA.go hal
        replace hB := hB.go hal
        replace hm := hm.go hal
        replace hi := hi.go hal
        replace b1 := b1.go hal
        replace b2 := b2.go hal
        replace b3 := b3.go hal
        replace h0 := bel_go h0 h0.size hal
        clear hal
        generalize Wi.heap.size = Bbq at bq sl_bq l_bq_b1 l_bq_b2 l_bq_b3 ⊢
        generalize Wi.alloc (.cells #[.bool false, .slice none 0 0] 27) = Vbq at hA hB hm hi b1 b2 b3 bq h0 ⊢
        refine hK.out _ _ (⟨b1, b2⟩) (fun _ => ?_)
        clear hK K
        (try simp only [Act.put, List.setIfInBounds_toArray, List.set_cons_zero, List.set_cons_succ, List.getElem_toArray, List.getElem_cons_zero, List.getElem_cons_succ])
        refine wpAnyH_ready (rs := [3]) (by kernel_rfl) (by simp) ?_
        refine AllReadyH.cons rfl (fun K hK => ?_) (AllReadyH.nil)
        go_simp
        go_at_call 52; refine (ztimes_any _ _ (a.natAbs : Int) 2 hl1 _ hm hi).mono ?_
        rintro e Wt ⟨u, rfl, ht, hb⟩
        obtain ⟨gt, pt, nt, ct, rfl⟩ := ht.shape
        replace hA := hA.go hb
        replace hB := hB.go hb
        replace hm := hm.go hb
        replace hi := hi.go hb
        replace b1 := b1.go hb
        replace b2 := b2.go hb
        replace b3 := b3.go hb
        replace bq := bq.go hb
        replace h0 := bel_go h0 h0.size hb
        clear hb
        refine hK.out _ _ (⟨b1, b2⟩) (fun _ => ?_)
        clear hK K
        (try simp only [Act.put, List.setIfInBounds_toArray, List.set_cons_zero, List.set_cons_succ, List.getElem_toArray, List.getElem_cons_zero, List.getElem_cons_succ])
        refine wpAnyH_ready (rs := [5]) (by kernel_rfl) (by simp) ?_
        refine AllReadyH.cons rfl (fun K hK => ?_) (AllReadyH.nil)
        go_simp
        go_at_call 34; refine (zplus_any _ _ ((a.natAbs : Int) * 2) b hs1 hsb _ ht hB).mono ?_
        rintro e Ws ⟨u, rfl, hs, hb⟩
        obtain ⟨gs, ps, ns, cs, rfl⟩ := hs.shape
        replace hA := hA.go hb
        replace hB := hB.go hb
        replace hm := hm.go hb
        replace hi := hi.go hb
        replace ht := ht.go hb
        replace b1 := b1.go hb
        replace b2 := b2.go hb
        replace b3 := b3.go hb
        replace bq := bq.go hb
        replace h0 := bel_go h0 h0.size hb
        clear hb
        refine hK.out _ _ (⟨b1, b2⟩) (fun _ => ?_)
        clear hK K
        (try simp only [Act.put, List.setIfInBounds_toArray, List.set_cons_zero, List.set_cons_succ, List.getElem_toArray, List.getElem_cons_zero, List.getElem_cons_succ])
        refine wpAnyH_ready (rs := [7]) (by kernel_rfl) (by simp) ?_
        refine AllReadyH.cons rfl (fun K hK => ?_) (AllReadyH.nil)
        go_simp
        go_at_call 21; refine (i_any 2 (by omega) (by omega) _).mono ?_
        rintro e Wj ⟨u, rfl, hj, hb⟩
        obtain ⟨gj, pj, nj, cj, rfl⟩ := hj.shape
        replace hA := hA.go hb
        replace hB := hB.go hb
        replace hm := hm.go hb
        replace hi := hi.go hb
        replace ht := ht.go hb
        replace hs := hs.go hb
        replace b1 := b1.go hb
        replace b2 := b2.go hb
        replace b3 := b3.go hb
        replace bq := bq.go hb
        replace h0 := bel_go h0 h0.size hb
        clear hb
        refine hK.out _ _ (⟨b1, b2⟩) (fun _ => ?_)
        clear hK K
        (try simp only [Act.put, List.setIfInBounds_toArray, List.set_cons_zero, List.set_cons_succ, List.getElem_toArray, List.getElem_cons_zero, List.getElem_cons_succ])
        refine wpAnyH_ready (rs := [8]) (by kernel_rfl) (by simp) ?_
        refine AllReadyH.cons rfl (fun K hK => ?_) (AllReadyH.nil)
        go_simp
        go_at_call 52; refine (ztimes_any _ _ b 2 hl2 _ hB hj).mono ?_
        rintro e Wd ⟨u, rfl, hd, hb⟩
        obtain ⟨gd, pd, nd, cd, rfl⟩ := hd.shape
        replace hA := hA.go hb
        replace hB := hB.go hb
        replace hm := hm.go hb
        replace hi := hi.go hb
        replace ht := ht.go hb
        replace hs := hs.go hb
        replace hj := hj.go hb
        replace b1 := b1.go hb
        replace b2 := b2.go hb
        replace b3 := b3.go hb
        replace bq := bq.go hb
        replace h0 := bel_go h0 h0.size hb
        clear hb
        refine hK.out _ _ (⟨b1, b2⟩) (fun _ => ?_)
        clear hK K
        (try simp only [Act.put, List.setIfInBounds_toArray, List.set_cons_zero, List.set_cons_succ, List.getElem_toArray, List.getElem_cons_zero, List.getElem_cons_succ])
        refine wpAnyH_ready (rs := [9]) (by kernel_rfl) (by simp) ?_
        refine AllReadyH.cons rfl (fun K hK => ?_) (AllReadyH.nil)
        go_simp
        go_at_call 70; refine (zfloor_any _ _ ((a.natAbs : Int) * 2 + b) (b * 2) hd0 hl3 hl4 _ hs hd).mono ?_
        rintro e Wq ⟨u, rfl, hq, hb⟩
        obtain ⟨gq, pq, nq, cq, rfl⟩ := hq.shape
        replace hA := hA.go hb
        replace hB := hB.go hb
        replace hm := hm.go hb
        replace hi := hi.go hb
        replace ht := ht.go hb
        replace hs := hs.go hb
        replace hj := hj.go hb
        replace hd := hd.go hb
        replace b1 := b1.go hb
        replace b2 := b2.go hb
        replace b3 := b3.go hb
        replace bq := bq.go hb
        replace h0 := bel_go h0 h0.size hb
        clear hb
        refine hK.out _ _ (⟨b1, b2⟩) (fun _ => ?_)
        clear hK K
        (try simp only [Act.put, List.setIfInBounds_toArray, List.set_cons_zero, List.set_cons_succ, List.getElem_toArray, List.getElem_cons_zero, List.getElem_cons_succ])
        refine wpAnyH_done (by kernel_rfl) ?_ _
        refine still1_step rfl (fun K hK => ?_)
        have hq0 := bq.c0
        have hq1 := bq.c1
        have hr0 := bq.f0
        have hr1 := bq.f1
        go_simp
        clear hq0 hq1 hr0 hr1
        have hP := put2 Wq (Bbq) (.bool gq) (.slice pq nq cq)
        have hN := bq.stored (.bool gq) (.slice pq nq cq)
        generalize (Wq.setCell ⟨Bbq, 0, none⟩ (.bool gq)).setCell ⟨Bbq, 1, none⟩ (.slice pq nq cq) = VS at hP hN ⊢
        replace hA := hA.put bq (by decide) hP
        replace hB := hB.put bq (by decide) hP
        replace hm := hm.put bq (by decide) hP
        replace hi := hi.put bq (by decide) hP
        replace ht := ht.put bq (by decide) hP
        replace hs := hs.put bq (by decide) hP
        replace hj := hj.put bq (by decide) hP
        replace hd := hd.put bq (by decide) hP
        replace hq := hq.put bq (by decide) hP
        replace h0 := bel_put h0 (by have := sl_bq.out; omega) hP
        replace b1 := b1.put hP (by have := l_bq_b1.out; omega)
        replace b2 := b2.put hP (by have := l_bq_b2.out; omega)
        replace b3 := b3.put hP (by have := l_bq_b3.out; omega)
        clear hP bq
        have bq := hN
        clear hN
        refine hK.out _ _ ?_
        clear hK K
        (try simp only [Act.put, List.setIfInBounds_toArray, List.set_cons_zero, List.set_cons_succ, List.getElem_toArray, List.getElem_cons_zero, List.getElem_cons_succ])
        have c10 := b1.c0
        have hq0 := bq.c0
        have hq1 := bq.c1
        have cr0 := b3.c0
        have cr1 := b3.c1
        have fr0 := b3.f0
        have fr1 := b3.f1
        go_wp2_with (first
          | (go_at_call 36; (with_reducible refine (zminus_any _ _ hsq _ hq).mono ?_); rintro e WM ⟨u, rfl, hn, hb⟩
             obtain ⟨gn, pn, nn, cn, rfl⟩ := hn.shape
             replace h0 := bel_go h0 h0.size hb
             replace b3 := b3.go hb
             clear hb hq0 hq1 cr0 cr1 fr0 fr1
             have cr0 := b3.c0
             have cr1 := b3.c1
             have fr0 := b3.f0
             have fr1 := b3.f1))
        clear c10 cr0 cr1 fr0 fr1
        have e0 := (b3.stored (.bool gn) (.slice pn nn cn)).c0
        have e1 := (b3.stored (.bool gn) (.slice pn nn cn)).c1
        refine bodyPost_ret (v := .agg #[.bool gn, .slice pn nn cn]) (by simp [results, Try.results72, go_sem, e0, e1]) rfl ⟨_, rfl, ?_, ?_⟩
        · exact hn.put b3 (by decide) (put2 _ _ _ _)
        · exact bel_put h0 (by omega) (put2 _ _ _ _)
    · go_simp
      have hal : Below Wm.heap.size Wm (Wm.alloc (.cells #[.bool false, .slice none 0 0] 27)) := (Below.refl _ _).alloc (Nat.le_refl _) _
      have bq := Bx.new Wm 27 (.bool false) (.slice none 0 0)
      have sl_bq := Lib.hid (show w.heap.size ≤ Wm.heap.size from h0.size)
      have l_bq_b1 := Lib.hid b1.lt
      have l_bq_b2 := Lib.hid b2.lt
      have l_bq_b3 := Lib.hid b3.lt
      replace hA := hA.go hal
      replace hB := hB.go hal
      replace hm := hm.go hal
      replace b1 := b1.go hal
      replace b2 := b2.go hal
      replace b3 := b3.go hal
      replace h0 := bel_go h0 h0.size hal
      clear hal
      generalize Wm.heap.size = Bbq at bq sl_bq l_bq_b1 l_bq_b2 l_bq_b3 ⊢
      generalize Wm.alloc (.cells #[.bool false, .slice none 0 0] 27) = Vbq at hA hB hm b1 b2 b3 bq h0 ⊢
      refine hK.out _ _ (⟨b1, b2⟩) (fun _ => ?_)
      clear hK K
      (try simp only [Act.put, List.setIfInBounds_toArray, List.set_cons_zero, List.set_cons_succ, List.getElem_toArray, List.getElem_cons_zero, List.getElem_cons_succ])
      refine wpAnyH_ready (rs := [2]) (by kernel_rfl) (by simp) ?_
      refine AllReadyH.cons rfl (fun K hK => ?_) (AllReadyH.nil)
      go_simp
      go_at_call 21; refine (i_any 2 (by omega) (by omega) _).mono ?_
      rintro e Wi ⟨u, rfl, hi, hb⟩
      obtain ⟨gi, pi, ni, ci, rfl⟩ := hi.shape
      replace hA := hA.go hb
      replace hB := hB.go hb
      replace hm := hm.go hb
      replace b1 := b1.go hb
      replace b2 := b2.go hb
      replace b3 := b3.go hb
      replace bq := bq.go hb
      replace h0 := bel_go h0 h0.size hb
      clear hb
      refine hK.out _ _ (⟨b1, b2⟩) (fun _ => ?_)
      clear hK K
      (try simp only [Act.put, List.setIfInBounds_toArray, List.set_cons_zero, List.set_cons_succ, List.getElem_toArray, List.getElem_cons_zero, List.getElem_cons_succ])
      refine wpAnyH_ready (rs := [3]) (by kernel_rfl) (by simp) ?_
      refine AllReadyH.cons rfl (fun K hK => ?_) (AllReadyH.nil)
      go_simp
      go_at_call 52; refine (ztimes_any _ _ (a.natAbs : Int) 2 hl1 _ hm hi).mono ?_
      rintro e Wt ⟨u, rfl, ht, hb⟩
      obtain ⟨gt, pt, nt, ct, rfl⟩ := ht.shape
      replace hA := hA.go hb
      replace hB := hB.go hb
      replace hm := hm.go hb
      replace hi := hi.go hb
      replace b1 := b1.go hb
      replace b2 := b2.go hb
      replace b3 := b3.go hb
      replace bq := bq.go hb
      replace h0 := bel_go h0 h0.size hb
      clear hb
      refine hK.out _ _ (⟨b1, b2⟩) (fun _ => ?_)
      clear hK K
      (try simp only [Act.put, List.setIfInBounds_toArray, List.set_cons_zero, List.set_cons_succ, List.getElem_toArray, List.getElem_cons_zero, List.getElem_cons_succ])
      refine wpAnyH_ready (rs := [5]) (by kernel_rfl) (by simp) ?_
      refine AllReadyH.cons rfl (fun K hK => ?_) (AllReadyH.nil)
      go_simp
      go_at_call 34; refine (zplus_any _ _ ((a.natAbs : Int) * 2) b hs1 hsb _ ht hB).mono ?_
      rintro e Ws ⟨u, rfl, hs, hb⟩
      obtain ⟨gs, ps, ns, cs, rfl⟩ := hs.shape
      replace hA := hA.go hb
      replace hB := hB.go hb
      replace hm := hm.go hb
      replace hi := hi.go hb
      replace ht := ht.go hb
      replace b1 := b1.go hb
      replace b2 := b2.go hb
      replace b3 := b3.go hb
      replace bq := bq.go hb
      replace h0 := bel_go h0 h0.size hb
      clear hb
      refine hK.out _ _ (⟨b1, b2⟩) (fun _ => ?_)
      clear hK K
      (try simp only [Act.put, List.setIfInBounds_toArray, List.set_cons_zero, List.set_cons_succ, List.getElem_toArray, List.getElem_cons_zero, List.getElem_cons_succ])
      refine wpAnyH_ready (rs := [7]) (by kernel_rfl) (by simp) ?_
      refine AllReadyH.cons rfl (fun K hK => ?_) (AllReadyH.nil)
      go_simp
      go_at_call 21; refine (i_any 2 (by omega) (by omega) _).mono ?_
      rintro e Wj ⟨u, rfl, hj, hb⟩
      obtain ⟨gj, pj, nj, cj, rfl⟩ := hj.shape
      replace hA := hA.go hb
      replace hB := hB.go hb
      replace hm := hm.go hb
      replace hi := hi.go hb
      replace ht := ht.go hb
      replace hs := hs.go hb
      replace b1 := b1.go hb
      replace b2 := b2.go hb
      replace b3 := b3.go hb
      replace bq := bq.go hb
      replace h0 := bel_go h0 h0.size hb
      clear hb
      refine hK.out _ _ (⟨b1, b2⟩) (fun _ => ?_)
      clear hK K
      (try simp only [Act.put, List.setIfInBounds_toArray, List.set_cons_zero, List.set_cons_succ, List.getElem_toArray, List.getElem_cons_zero, List.getElem_cons_succ])
      refine wpAnyH_ready (rs := [8]) (by kernel_rfl) (by simp) ?_
      refine AllReadyH.cons rfl (fun K hK => ?_) (AllReadyH.nil)
      go_simp
      go_at_call 52; refine (ztimes_any _ _ b 2 hl2 _ hB hj).mono ?_
      rintro e Wd ⟨u, rfl, hd, hb⟩
      obtain ⟨gd, pd, nd, cd, rfl⟩ := hd.shape
      replace hA := hA.go hb
      replace hB := hB.go hb
      replace hm := hm.go hb
      replace hi := hi.go hb
      replace ht := ht.go hb
      replace hs := hs.go hb
      replace hj := hj.go hb
      replace b1 := b1.go hb
      replace b2 := b2.go hb
      replace b3 := b3.go hb
      replace bq := bq.go hb
      replace h0 := bel_go h0 h0.size hb
      clear hb
      refine hK.out _ _ (⟨b1, b2⟩) (fun _ => ?_)
      clear hK K
      (try simp only [Act.put, List.setIfInBounds_toArray, List.set_cons_zero, List.set_cons_succ, List.getElem_toArray, List.getElem_cons_zero, List.getElem_cons_succ])
      refine wpAnyH_ready (rs := [9]) (by kernel_rfl) (by simp) ?_
      refine AllReadyH.cons rfl (fun K hK => ?_) (AllReadyH.nil)
      go_simp
      go_at_call 70; refine (zfloor_any _ _ ((a.natAbs : Int) * 2 + b) (b * 2) hd0 hl3 hl4 _ hs hd).mono ?_
      rintro e Wq ⟨u, rfl, hq, hb⟩
      obtain ⟨gq, pq, nq, cq, rfl⟩ := hq.shape
      replace hA := hA.go hb
      replace hB := hB.go hb
      replace hm := hm.go hb
      replace hi := hi.go hb
      replace ht := ht.go hb
      replace hs := hs.go hb
      replace hj := hj.go hb
      replace hd := hd.go hb
      replace b1 := b1.go hb
      replace b2 := b2.go hb
      replace b3 := b3.go hb
      replace bq := bq.go hb
      replace h0 := bel_go h0 h0.size hb
      clear hb
      refine hK.out _ _ (⟨b1, b2⟩) (fun _ => ?_)
      clear hK K
      (try simp only [Act.put, List.setIfInBounds_toArray, List.set_cons_zero, List.set_cons_succ, List.getElem_toArray, List.getElem_cons_zero, List.getElem_cons_succ])
      refine wpAnyH_done (by kernel_rfl) ?_ _
      refine still1_step rfl (fun K hK => ?_)
      have hq0 := bq.c0
      have hq1 := bq.c1
      have hr0 := bq.f0
      have hr1 := bq.f1
      go_simp
      clear hq0 hq1 hr0 hr1
      have hP := put2 Wq (Bbq) (.bool gq) (.slice pq nq cq)
      have hN := bq.stored (.bool gq) (.slice pq nq cq)
      generalize (Wq.setCell ⟨Bbq, 0, none⟩ (.bool gq)).setCell ⟨Bbq, 1, none⟩ (.slice pq nq cq) = VS at hP hN ⊢
      replace hA := hA.put bq (by decide) hP
      replace hB := hB.put bq (by decide) hP
      replace hm := hm.put bq (by decide) hP
      replace hi := hi.put bq (by decide) hP
      replace ht := ht.put bq (by decide) hP
      replace hs := hs.put bq (by decide) hP
      replace hj := hj.put bq (by decide) hP
      replace hd := hd.put bq (by decide) hP
      replace hq := hq.put bq (by decide) hP
      replace h0 := bel_put h0 (by have := sl_bq.out; omega) hP
      replace b1 := b1.put hP (by have := l_bq_b1.out; omega)
      replace b2 := b2.put hP (by have := l_bq_b2.out; omega)
      replace b3 := b3.put hP (by have := l_bq_b3.out; omega)
      clear hP bq
      have bq := hN
      clear hN
      refine hK.out _ _ ?_
      clear hK K
      (try simp only [Act.put, List.setIfInBounds_toArray, List.set_cons_zero, List.set_cons_succ, List.getElem_toArray, List.getElem_cons_zero, List.getElem_cons_succ])
      have c10 := b1.c0
      have hq0 := bq.c0
      have hq1 := bq.c1
      have cr0 := b3.c0
      have cr1 := b3.c1
      have fr0 := b3.f0
      have fr1 := b3.f1
      go_wp2_with (first
        | (go_at_call 36; (with_reducible refine (zminus_any _ _ hsq _ hq).mono ?_); rintro e WM ⟨u, rfl, hn, hb⟩
           obtain ⟨gn, pn, nn, cn, rfl⟩ := hn.shape
           replace h0 := bel_go h0 h0.size hb
           replace b3 := b3.go hb
           clear hb hq0 hq1 cr0 cr1 fr0 fr1
           have cr0 := b3.c0
           have cr1 := b3.c1
           have fr0 := b3.f0
           have fr1 := b3.f1))
      clear c10 cr0 cr1 fr0 fr1
      have e0 := (b3.stored (.bool gn) (.slice pn nn cn)).c0
      have e1 := (b3.stored (.bool gn) (.slice pn nn cn)).c1
      refine bodyPost_ret (v := .agg #[.bool gn, .slice pn nn cn]) (by simp [results, Try.results72, go_sem, e0, e1]) rfl ⟨_, rfl, ?_, ?_⟩
      · exact hn.put b3 (by decide) (put2 _ _ _ _)
      · exact bel_put h0 (by omega) (put2 _ _ _ _)
  · go_simp
    have hal : Below W.heap.size W (W.alloc (.cells #[.bool false, .slice none 0 0] 27)) := (Below.refl _ _).alloc (Nat.le_refl _) _
    have bq := Bx.new W 27 (.bool false) (.slice none 0 0)
    have sl_bq := Lib.hid (show w.heap.size ≤ W.heap.size from h0.size)
    have l_bq_b1 := Lib.hid b1.lt
    have l_bq_b2 := Lib.hid b2.lt
    have l_bq_b3 := Lib.hid b3.lt
    replace hA := hA.go hal
    replace hB := hB.go hal
    replace b1 := b1.go hal
    replace b2 := b2.go hal
    replace b3 := b3.go hal
    replace h0 := bel_go h0 h0.size hal
    clear hal
    generalize W.heap.size = Bbq at bq sl_bq l_bq_b1 l_bq_b2 l_bq_b3 ⊢
    generalize W.alloc (.cells #[.bool false, .slice none 0 0] 27) = Vbq at hA hB b1 b2 b3 bq h0 ⊢
    refine hK.out _ _ (⟨b1, b2⟩) (fun _ => ?_)
    clear hK K
    (try simp only [Act.put, List.setIfInBounds_toArray, List.set_cons_zero, List.set_cons_succ, List.getElem_toArray, List.getElem_cons_zero, List.getElem_cons_succ])
    refine wpAnyH_ready (rs := [1]) (by kernel_rfl) (by simp) ?_
    refine AllReadyH.cons rfl (fun K hK => ?_) (AllReadyH.nil)
    go_simp
    go_at_call 45; refine (zabs_any _ a _ hA).mono ?_
    rintro e Wm ⟨u, rfl, hm, hb⟩
    obtain ⟨gm, pm, nm, cm, rfl⟩ := hm.shape
    replace hA := hA.go hb
    replace hB := hB.go hb
    replace b1 := b1.go hb
    replace b2 := b2.go hb
    replace b3 := b3.go hb
    replace bq := bq.go hb
    replace h0 := bel_go h0 h0.size hb
    clear hb
    refine hK.out _ _ (⟨b1, b2⟩) (fun _ => ?_)
    clear hK K
    (try simp only [Act.put, List.setIfInBounds_toArray, List.set_cons_zero, List.set_cons_succ, List.getElem_toArray, List.getElem_cons_zero, List.getElem_cons_succ])
    refine wpAnyH_ready (rs := [2]) (by kernel_rfl) (by simp) ?_
    refine AllReadyH.cons rfl (fun K hK => ?_) (AllReadyH.nil)
    go_simp
    go_at_call 21; refine (i_any 2 (by omega) (by omega) _).mono ?_
    rintro e Wi ⟨u, rfl, hi, hb⟩
    obtain ⟨gi, pi, ni, ci, rfl⟩ := hi.shape
    replace hA := hA.go hb
    replace hB := hB.go hb
    replace hm := hm.go hb
    replace b1 := b1.go hb
    replace b2 := b2.go hb
    replace b3 := b3.go hb
    replace bq := bq.go hb
    replace h0 := bel_go h0 h0.size hb
    clear hb
    refine hK.out _ _ (⟨b1, b2⟩) (fun _ => ?_)
    clear hK K
    (try simp only [Act.put, List.setIfInBounds_toArray, List.set_cons_zero, List.set_cons_succ, List.getElem_toArray, List.getElem_cons_zero, List.getElem_cons_succ])
    refine wpAnyH_ready (rs := [3]) (by kernel_rfl) (by simp) ?_
    refine AllReadyH.cons rfl (fun K hK => ?_) (AllReadyH.nil)
    go_simp
    go_at_call 52; refine (ztimes_any _ _ (a.natAbs : Int) 2 hl1 _ hm hi).mono ?_
    rintro e Wt ⟨u, rfl, ht, hb⟩
    obtain ⟨gt, pt, nt, ct, rfl⟩ := ht.shape
    replace hA := hA.go hb
    replace hB := hB.go hb
    replace hm := hm.go hb
    replace hi := hi.go hb
    replace b1 := b1.go hb
    replace b2 := b2.go hb
    replace b3 := b3.go hb
    replace bq := bq.go hb
    replace h0 := bel_go h0 h0.size hb
    clear hb
    refine hK.out _ _ (⟨b1, b2⟩) (fun _ => ?_)
    clear hK K
    (try simp only [Act.put, List.setIfInBounds_toArray, List.set_cons_zero, List.set_cons_succ, List.getElem_toArray, List.getElem_cons_zero, List.getElem_cons_succ])
    refine wpAnyH_ready (rs := [5]) (by kernel_rfl) (by simp) ?_
    refine AllReadyH.cons rfl (fun K hK => ?_) (AllReadyH.nil)
    go_simp
    go_at_call 34; refine (zplus_any _ _ ((a.natAbs : Int) * 2) b hs1 hsb _ ht hB).mono ?_
    rintro e Ws ⟨u, rfl, hs, hb⟩
    obtain ⟨gs, ps, ns, cs, rfl⟩ := hs.shape
    replace hA := hA.go hb
    replace hB := hB.go hb
    replace hm := hm.go hb
    replace hi := hi.go hb
    replace ht := ht.go hb
    replace b1 := b1.go hb
    replace b2 := b2.go hb
    replace b3 := b3.go hb
    replace bq := bq.go hb
    replace h0 := bel_go h0 h0.size hb
    clear hb
    refine hK.out _ _ (⟨b1, b2⟩) (fun _ => ?_)
    clear hK K
    (try simp only [Act.put, List.setIfInBounds_toArray, List.set_cons_zero, List.set_cons_succ, List.getElem_toArray, List.getElem_cons_zero, List.getElem_cons_succ])
    refine wpAnyH_ready (rs := [7]) (by kernel_rfl) (by simp) ?_
    refine AllReadyH.cons rfl (fun K hK => ?_) (AllReadyH.nil)
    go_simp
    go_at_call 21; refine (i_any 2 (by omega) (by omega) _).mono ?_
    rintro e Wj ⟨u, rfl, hj, hb⟩
    obtain ⟨gj, pj, nj, cj, rfl⟩ := hj.shape
    replace hA := hA.go hb
    replace hB := hB.go hb
    replace hm := hm.go hb
    replace hi := hi.go hb
    replace ht := ht.go hb
    replace hs := hs.go hb
    replace b1 := b1.go hb
    replace b2 := b2.go hb
    replace b3 := b3.go hb
    replace bq := bq.go hb
    replace h0 := bel_go h0 h0.size hb
    clear hb
    refine hK.out _ _ (⟨b1, b2⟩) (fun _ => ?_)
    clear hK K
    (try simp only [Act.put, List.setIfInBounds_toArray, List.set_cons_zero, List.set_cons_succ, List.getElem_toArray, List.getElem_cons_zero, List.getElem_cons_succ])
    refine wpAnyH_ready (rs := [8]) (by kernel_rfl) (by simp) ?_
    refine AllReadyH.cons rfl (fun K hK => ?_) (AllReadyH.nil)
    go_simp
    go_at_call 52; refine (ztimes_any _ _ b 2 hl2 _ hB hj).mono ?_
    rintro e Wd ⟨u, rfl, hd, hb⟩
    obtain ⟨gd, pd, nd, cd, rfl⟩ := hd.shape
    replace hA := hA.go hb
    replace hB := hB.go hb
    replace hm := hm.go hb
    replace hi := hi.go hb
    replace ht := ht.go hb
    replace hs := hs.go hb
    replace hj := hj.go hb
    replace b1 := b1.go hb
    replace b2 := b2.go hb
    replace b3 := b3.go hb
    replace bq := bq.go hb
    replace h0 := bel_go h0 h0.size hb
    clear hb
    refine hK.out _ _ (⟨b1, b2⟩) (fun _ => ?_)
    clear hK K
    (try simp only [Act.put, List.setIfInBounds_toArray, List.set_cons_zero, List.set_cons_succ, List.getElem_toArray, List.getElem_cons_zero, List.getElem_cons_succ])
    refine wpAnyH_ready (rs := [9]) (by kernel_rfl) (by simp) ?_
    refine AllReadyH.cons rfl (fun K hK => ?_) (AllReadyH.nil)
    go_simp
    go_at_call 70; refine (zfloor_any _ _ ((a.natAbs : Int) * 2 + b) (b * 2) hd0 hl3 hl4 _ hs hd).mono ?_
    rintro e Wq ⟨u, rfl, hq, hb⟩
    obtain ⟨gq, pq, nq, cq, rfl⟩ := hq.shape
    replace hA := hA.go hb
    replace hB := hB.go hb
    replace hm := hm.go hb
    replace hi := hi.go hb
    replace ht := ht.go hb
    replace hs := hs.go hb
    replace hj := hj.go hb
    replace hd := hd.go hb
    replace b1 := b1.go hb
    replace b2 := b2.go hb
    replace b3 := b3.go hb
    replace bq := bq.go hb
    replace h0 := bel_go h0 h0.size hb
    clear hb
    refine hK.out _ _ (⟨b1, b2⟩) (fun _ => ?_)
    clear hK K
    (try simp only [Act.put, List.setIfInBounds_toArray, List.set_cons_zero, List.set_cons_succ, List.getElem_toArray, List.getElem_cons_zero, List.getElem_cons_succ])
    refine wpAnyH_done (by kernel_rfl) ?_ _
    refine still1_step rfl (fun K hK => ?_)
    have hq0 := bq.c0
    have hq1 := bq.c1
    have hr0 := bq.f0
    have hr1 := bq.f1
    go_simp
    clear hq0 hq1 hr0 hr1
    have hP := put2 Wq (Bbq) (.bool gq) (.slice pq nq cq)
    have hN := bq.stored (.bool gq) (.slice pq nq cq)
    generalize (Wq.setCell ⟨Bbq, 0, none⟩ (.bool gq)).setCell ⟨Bbq, 1, none⟩ (.slice pq nq cq) = VS at hP hN ⊢
    replace hA := hA.put bq (by decide) hP
    replace hB := hB.put bq (by decide) hP
    replace hm := hm.put bq (by decide) hP
    replace hi := hi.put bq (by decide) hP
    replace ht := ht.put bq (by decide) hP
    replace hs := hs.put bq (by decide) hP
    replace hj := hj.put bq (by decide) hP
    replace hd := hd.put bq (by decide) hP
    replace hq := hq.put bq (by decide) hP
    replace h0 := bel_put h0 (by have := sl_bq.out; omega) hP
    replace b1 := b1.put hP (by have := l_bq_b1.out; omega)
    replace b2 := b2.put hP (by have := l_bq_b2.out; omega)
    replace b3 := b3.put hP (by have := l_bq_b3.out; omega)
    clear hP bq
    have bq := hN
    clear hN
    refine hK.out _ _ ?_
    clear hK K
    (try simp only [Act.put, List.setIfInBounds_toArray, List.set_cons_zero, List.set_cons_succ, List.getElem_toArray, List.getElem_cons_zero, List.getElem_cons_succ])
    have c10 := b1.c0
    have hq0 := bq.c0
    have hq1 := bq.c1
    have cr0 := b3.c0
    have cr1 := b3.c1
    have fr0 := b3.f0
    have fr1 := b3.f1
    go_wp2_with (first
      | (go_at_call 36; (with_reducible refine (zminus_any _ _ hsq _ hq).mono ?_); rintro e WM ⟨u, rfl, hn, hb⟩
         obtain ⟨gn, pn, nn, cn, rfl⟩ := hn.shape
         replace h0 := bel_go h0 h0.size hb
         replace b3 := b3.go hb
         clear hb hq0 hq1 cr0 cr1 fr0 fr1
         have cr0 := b3.c0
         have cr1 := b3.c1
         have fr0 := b3.f0
         have fr1 := b3.f1))
    clear c10 cr0 cr1 fr0 fr1
    have e0 := (b3.stored (.bool gn) (.slice pn nn cn)).c0
    have e1 := (b3.stored (.bool gn) (.slice pn nn cn)).c1
    refine bodyPost_ret (v := .agg #[.bool gn, .slice pn nn cn]) (by simp [results, Try.results72, go_sem, e0, e1]) rfl ⟨_, rfl, ?_, ?_⟩
    · exact hn.put b3 (by decide) (put2 _ _ _ _)
    · exact bel_put h0 (by omega) (put2 _ _ _ _)
end Go.Proofs.Ytijpjjpndpdjpaa

