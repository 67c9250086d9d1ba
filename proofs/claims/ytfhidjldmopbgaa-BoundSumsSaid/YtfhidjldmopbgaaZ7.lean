/-
  The contracts of the reference's numbers, seventh part: Less.
  Conditions: those of each theorem.
-/
import Derived.Test.YtfhidjldmopbgaaZB
set_option linter.unusedSimpArgs false
namespace Go.Proofs.Ytfhidjldmopbgaa
open Go.RowKit Go.Shelf Zd Wd

theorem sm_neg {z : Int} (h : Sm z) : Sm (-z) := by unfold Sm at *; rw [Int.natAbs_neg]; exact h

set_option maxRecDepth 100000 in
set_option maxHeartbeats 2000000 in
/-- (Z).Less. -/
theorem zless_any (va vb : Value) (a b : Int) (ha : Sm a) (hb : Sm b) (w : World) (hA : IsZ w va a) (hB : IsZ w vb b) :
    Calls Try.prog 8 #[va, vb] w fun e w' => ∃ u, e = .returned u ∧ IsZ w' u (a - b) ∧ Below w.heap.size w w' := by
  obtain ⟨ga, pa, na, ca, rfl⟩ := hA.shape
  obtain ⟨gb, pb, nb, cb, rfl⟩ := hB.shape
  obtain ⟨W, hW, h0, b1, b2, b3⟩ := boot3 w (.bool ga) (.slice pa na ca) (.bool gb) (.slice pb nb cb)
  have HW := Lib.hid hW
  clear hW
  go_enter Try.func8, Try.ntmps8
  go_wp2
  rw [← HW.out]
  clear HW
  replace hA := hA.go h0
  replace hB := hB.go h0
  refine wp_region_last (S := fun W' => Bx W' (w.heap.size) 28 (.bool ga) (.slice pa na ca) ∧ Bx W' (w.heap.size + 1) 28 (.bool gb) (.slice pb nb cb)) (m := 4) (by kernel_rfl) (by kernel_rfl) (by kernel_rfl) (⟨b1.drew, b2.drew⟩) (fun _ => ?_)
  replace hA := hA.drew
  replace hB := hB.drew
  replace b1 := b1.drew
  replace b2 := b2.drew
  replace b3 := b3.drew
  replace h0 := Below.drew h0
  generalize W.drew = W at hA hB b1 b2 b3 h0 ⊢
  refine wpAnyH_take (i := 0) (v := ?_) rfl (by kernel_rfl) (by kernel_rfl) (by kernel_rfl) (fun _ _ _ h => h) (Or.inl ⟨by kernel_rfl, ?_⟩) (⟨b1, b2⟩) ?_
  rotate_left
  focus (intro W' hSw; obtain ⟨hx0, hx1⟩ := hSw; have hc0 := hx0.c0; have hc1 := hx0.c1; have hc2 := hx1.c0; have hc3 := hx1.c1; clear hx0 hx1; go_simp; (try with_reducible rfl))
  (try simp only [Act.put, List.setIfInBounds_toArray, List.set_cons_zero, List.set_cons_succ, List.getElem_toArray, List.getElem_cons_zero, List.getElem_cons_succ])
  refine wpAnyH_take (i := 1) (v := ?_) rfl (by kernel_rfl) (by kernel_rfl) (by kernel_rfl) (fun _ _ _ h => h) (Or.inl ⟨by kernel_rfl, ?_⟩) (⟨b1, b2⟩) ?_
  rotate_left
  focus (intro W' hSw; obtain ⟨hx0, hx1⟩ := hSw; have hc0 := hx0.c0; have hc1 := hx0.c1; have hc2 := hx1.c0; have hc3 := hx1.c1; clear hx0 hx1; go_simp; (try with_reducible rfl))
  (try simp only [Act.put, List.setIfInBounds_toArray, List.set_cons_zero, List.set_cons_succ, List.getElem_toArray, List.getElem_cons_zero, List.getElem_cons_succ])
  refine wpAnyH_ready (rs := [2]) (by kernel_rfl) (by simp) ?_
  refine AllReadyH.cons rfl (fun K hK => ?_) (AllReadyH.nil)
  go_simp
  go_at_call 9; refine (zminus_any _ _ hb _ hB).mono ?_
  rintro e Wm ⟨u, rfl, hm, hb1⟩
  obtain ⟨gm, pm, nm, cm, rfl⟩ := hm.shape
  replace hA := hA.go hb1
  replace hB := hB.go hb1
  replace b1 := b1.go hb1
  replace b2 := b2.go hb1
  replace b3 := b3.go hb1
  replace h0 := bel_go h0 h0.size hb1
  clear hb1
  refine hK.out _ _ (⟨b1, b2⟩) (fun _ => ?_)
  clear hK K
  (try simp only [Act.put, List.setIfInBounds_toArray, List.set_cons_zero, List.set_cons_succ, List.getElem_toArray, List.getElem_cons_zero, List.getElem_cons_succ])
  refine wpAnyH_ready (rs := [3]) (by kernel_rfl) (by simp) ?_
  refine AllReadyH.cons rfl (fun K hK => ?_) (AllReadyH.nil)
  go_simp
  go_at_call 7; refine (zplus_any _ _ _ _ ha (sm_neg hb) _ hA hm).mono ?_
  rintro e Ws ⟨u, rfl, hs, hb2⟩
  obtain ⟨gs, ps, ns, cs, rfl⟩ := hs.shape
  replace hA := hA.go hb2
  replace hm := hm.go hb2
  replace b1 := b1.go hb2
  replace b2 := b2.go hb2
  replace b3 := b3.go hb2
  replace h0 := bel_go h0 h0.size hb2
  clear hb2
  refine hK.out _ _ (⟨b1, b2⟩) (fun _ => ?_)
  clear hK K
  (try simp only [Act.put, List.setIfInBounds_toArray, List.set_cons_zero, List.set_cons_succ, List.getElem_toArray, List.getElem_cons_zero, List.getElem_cons_succ])
  refine wpAnyH_done (by kernel_rfl) ?_ _
  refine still1_step rfl (fun K hK => ?_)
  have hq0 := b3.c0
  have hq1 := b3.c1
  have hr0 := b3.f0
  have hr1 := b3.f1
  go_simp
  clear hq0 hq1 hr0 hr1
  have hP := put2 Ws (w.heap.size + 1 + 1) (.bool gs) (.slice ps ns cs)
  have hN := b3.stored (.bool gs) (.slice ps ns cs)
  generalize (Ws.setCell ⟨w.heap.size + 1 + 1, 0, none⟩ (.bool gs)).setCell ⟨w.heap.size + 1 + 1, 1, none⟩ (.slice ps ns cs) = Wt at hP hN ⊢
  replace hs := hs.put b3 (by decide) hP
  replace h0 := bel_put h0 (by omega) hP
  replace b1 := b1.put hP (by omega)
  replace b2 := b2.put hP (by omega)
  clear hP b3
  have b3 := hN
  clear hN
  refine hK.out _ _ ?_
  clear hK K
  (try simp only [Act.put, List.setIfInBounds_toArray, List.set_cons_zero, List.set_cons_succ, List.getElem_toArray, List.getElem_cons_zero, List.getElem_cons_succ])
  have hc0 := b3.c0
  have hc1 := b3.c1
  go_wp2
  refine bodyPost_ret (v := .agg #[.bool gs, .slice ps ns cs]) (by simp [results, Try.results8, go_sem, hc0, hc1]) rfl ⟨_, rfl, ?_, h0⟩
  rw [Int.sub_eq_add_neg]
  exact hs
end Go.Proofs.Ytfhidjldmopbgaa

