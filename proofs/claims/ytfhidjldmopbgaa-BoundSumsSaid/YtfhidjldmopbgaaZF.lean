/-
  The contracts of the reference's numbers: Floor and Ceil.
  Conditions: those of each theorem.
-/
import Derived.Test.YtfhidjldmopbgaaZS
set_option linter.unusedSimpArgs false
set_option linter.unusedVariables false
namespace Go.Proofs.Ytfhidjldmopbgaa
open Go.RowKit Go.Shelf Zd Wd

theorem bel_alloc {w W : World} (h : Below w.heap.size w W) (o : Obj) : Below w.heap.size w (W.alloc o) := h.alloc h.size o

set_option maxRecDepth 100000 in
set_option maxHeartbeats 2000000 in
/-- (Z).Floor. -/
theorem zfloor_any (va vb : Value) (a b : Int) (hb0 : b ≠ 0) (hla : (digs a.natAbs).length ≤ 400000) (hlb : (digs b.natAbs).length ≤ 400000) (w : World) (hA : IsZ w va a) (hB : IsZ w vb b) :
    Calls Try.prog 37 #[va, vb] w fun e w' => ∃ u, e = .returned u ∧ IsZ w' u (a / b) ∧ Below w.heap.size w w' := by
  obtain ⟨ga, pa, na, ca, rfl⟩ := hA.shape
  obtain ⟨gb, pb, nb, cb, rfl⟩ := hB.shape
  obtain ⟨W, hW, h0, b1, b2, b3⟩ := boot3 w (.bool ga) (.slice pa na ca) (.bool gb) (.slice pb nb cb)
  have HW := Lib.hid hW
  clear hW
  replace hA := hA.go h0
  replace hB := hB.go h0
  rw [HW.out] at hA hB
  go_enter Try.func37, Try.ntmps37
  go_wp2_with (first
    | (go_at_call 49; (with_reducible refine (zsplit_any _ _ a b hb0 hla hlb _ hA hB).mono ?_); rw [← HW.out]; rintro e W1 ⟨u, v, rfl, hu, hv, hb1⟩
       obtain ⟨gu, pu, nu, cu, rfl⟩ := hu.shape
       obtain ⟨gv, pv, nv, cv, rfl⟩ := hv.shape
       replace h0 := bel_go h0 h0.size hb1
       replace b3 := b3.go hb1
       have hz1 : w.heap.size + 1 + 1 < W1.heap.size := b3.lt
       have HU := Lib.hid hu
       have ha1 := Bx.alloc b3 (.cells #[.bool gu, .slice pu nu cu] 28)
       have ha2 := ha1.alloc (.cells #[.bool gv, .slice pv nv cv] 28)
       have c0 := ha2.c0
       have c1 := ha2.c1
       have c2 := ha2.f0
       have c3 := ha2.f1
       clear hb1 b1 b2 hu hv HW hA hB))
  have hu2 := (HU.out.alloc (.cells #[.bool gu, .slice pu nu cu] 28)).alloc (.cells #[.bool gv, .slice pv nv cv] 28)
  have h2 := bel_alloc (bel_alloc h0 (.cells #[.bool gu, .slice pu nu cu] 28)) (.cells #[.bool gv, .slice pv nv cv] 28)
  refine bodyPost_ret (v := .agg #[.bool gu, .slice pu nu cu]) (by simp [results, Try.results37, go_sem, *]) rfl ⟨_, rfl, ?_, ?_⟩
  · exact hu2.put ha2 (by decide) (put2 _ _ _ _)
  · exact bel_put h2 (by omega) (put2 _ _ _ _)
theorem floor_sm {a b : Int} (hb0 : b ≠ 0) (hla : (digs a.natAbs).length ≤ 400000) : Sm (a / b) := by
  have h : (a / b).natAbs ≤ a.natAbs + 1 := by
    have h1 := Int.natAbs_ediv_le_natAbs a b
    omega
  unfold Sm
  have h5 := len_le (n := a.natAbs) (Nat.le_refl _)
  have h6 : (1000000 : Nat) ^ (digs a.natAbs).length * 1000000 = 1000000 ^ ((digs a.natAbs).length + 1) := by rw [Nat.pow_succ]
  have := digs_len (n := (a / b).natAbs) (k := (digs a.natAbs).length + 1) (by omega)
  omega

set_option maxRecDepth 100000 in
set_option maxHeartbeats 2000000 in
/-- (Z).Ceil: -(-a / b). -/
theorem zceil_any (va vb : Value) (a b : Int) (hb0 : b ≠ 0) (hla : (digs a.natAbs).length ≤ 400000) (hlb : (digs b.natAbs).length ≤ 400000) (w : World) (hA : IsZ w va a) (hB : IsZ w vb b) :
    Calls Try.prog 38 #[va, vb] w fun e w' => ∃ u, e = .returned u ∧ IsZ w' u (-(-a / b)) ∧ Below w.heap.size w w' := by
  obtain ⟨ga, pa, na, ca, rfl⟩ := hA.shape
  obtain ⟨gb, pb, nb, cb, rfl⟩ := hB.shape
  have hsa : Sm a := by unfold Sm; omega
  obtain ⟨W, hW, h0, b1, b2, b3⟩ := boot3 w (.bool ga) (.slice pa na ca) (.bool gb) (.slice pb nb cb)
  have HW := Lib.hid hW
  clear hW
  go_enter Try.func38, Try.ntmps38
  go_wp2
  rw [← HW.out]
  clear HW
  replace hA := hA.go h0
  replace hB := hB.go h0
  refine wp_region_last (S := fun W' => Bx W' (w.heap.size) 28 (.bool ga) (.slice pa na ca) ∧ Bx W' (w.heap.size + 1) 28 (.bool gb) (.slice pb nb cb)) (m := 5) (by kernel_rfl) (by kernel_rfl) (by kernel_rfl) (⟨b1.drew, b2.drew⟩) (fun _ => ?_)
  replace hA := hA.drew
  replace hB := hB.drew
  replace b1 := b1.drew
  replace b2 := b2.drew
  replace b3 := b3.drew
  replace h0 := Below.drew h0
  generalize W.drew = W at hA hB b1 b2 b3 h0 ⊢
  refine wpAnyH_take (i := 0) (v := ?_) rfl (by kernel_rfl) (by kernel_rfl) (by kernel_rfl) (fun _ _ _ h => h) (Or.inl ⟨by kernel_rfl, ?_⟩) (⟨b1, b2⟩) ?_
  rotate_left
  focus (intro W' hSw; obtain ⟨hx0, hx1⟩ := hSw; have hc0 := hx0.c0; have hc1 := hx0.c1; have hc2 := hx1.c0; have hc3 := hx1.c1; clear hx0 hx1; go_simp; (try with_reducible rfl))
  (try simp only [Act.put, List.setIfInBounds_toArray, List.set_cons_zero, List.set_cons_succ, List.getElem_toArray, List.getElem_cons_zero, List.getElem_cons_succ])
  refine wpAnyH_take (i := 2) (v := ?_) rfl (by kernel_rfl) (by kernel_rfl) (by kernel_rfl) (fun _ _ _ h => h) (Or.inl ⟨by kernel_rfl, ?_⟩) (⟨b1, b2⟩) ?_
  rotate_left
  focus (intro W' hSw; obtain ⟨hx0, hx1⟩ := hSw; have hc0 := hx0.c0; have hc1 := hx0.c1; have hc2 := hx1.c0; have hc3 := hx1.c1; clear hx0 hx1; go_simp; (try with_reducible rfl))
  (try simp only [Act.put, List.setIfInBounds_toArray, List.set_cons_zero, List.set_cons_succ, List.getElem_toArray, List.getElem_cons_zero, List.getElem_cons_succ])
  refine wpAnyH_ready (rs := [1]) (by kernel_rfl) (by simp) ?_
  refine AllReadyH.cons rfl (fun K hK => ?_) (AllReadyH.nil)
  go_simp
  go_at_call 9; refine (zminus_any _ _ hsa _ hA).mono ?_
  rintro e Wm ⟨u, rfl, hm, hb1⟩
  obtain ⟨gm, pm, nm, cm, rfl⟩ := hm.shape
  replace b1 := b1.go hb1
  replace b2 := b2.go hb1
  replace b3 := b3.go hb1
  replace hB := hB.go hb1
  replace h0 := bel_go h0 h0.size hb1
  clear hb1
  refine hK.out _ _ (⟨b1, b2⟩) (fun _ => ?_)
  clear hK K
  (try simp only [Act.put, List.setIfInBounds_toArray, List.set_cons_zero, List.set_cons_succ, List.getElem_toArray, List.getElem_cons_zero, List.getElem_cons_succ])
  refine wpAnyH_ready (rs := [3]) (by kernel_rfl) (by simp) ?_
  refine AllReadyH.cons rfl (fun K hK => ?_) (AllReadyH.nil)
  go_simp
  go_at_call 37; refine (zfloor_any _ _ _ _ hb0 (by rw [Int.natAbs_neg]; exact hla) hlb _ hm hB).mono ?_
  rintro e Wq ⟨u, rfl, hq, hb2⟩
  obtain ⟨gq, pq, nq, cq, rfl⟩ := hq.shape
  replace b1 := b1.go hb2
  replace b2 := b2.go hb2
  replace b3 := b3.go hb2
  replace h0 := bel_go h0 h0.size hb2
  clear hb2
  refine hK.out _ _ (⟨b1, b2⟩) (fun _ => ?_)
  clear hK K
  (try simp only [Act.put, List.setIfInBounds_toArray, List.set_cons_zero, List.set_cons_succ, List.getElem_toArray, List.getElem_cons_zero, List.getElem_cons_succ])
  refine wpAnyH_ready (rs := [4]) (by kernel_rfl) (by simp) ?_
  refine AllReadyH.cons rfl (fun K hK => ?_) (AllReadyH.nil)
  go_simp
  go_at_call 9; refine (zminus_any _ _ (floor_sm hb0 (by rw [Int.natAbs_neg]; exact hla)) _ hq).mono ?_
  rintro e Ws ⟨u, rfl, hs, hb3⟩
  obtain ⟨gs, ps, ns, cs, rfl⟩ := hs.shape
  replace b1 := b1.go hb3
  replace b2 := b2.go hb3
  replace b3 := b3.go hb3
  replace h0 := bel_go h0 h0.size hb3
  clear hb3
  refine hK.out _ _ (⟨b1, b2⟩) (fun _ => ?_)
  clear hK K
  (try simp only [Act.put, List.setIfInBounds_toArray, List.set_cons_zero, List.set_cons_succ, List.getElem_toArray, List.getElem_cons_zero, List.getElem_cons_succ])
  refine wpAnyH_done (by kernel_rfl) ?_ _
  refine still1_step rfl (fun K hK => ?_)
  have hq0 := b3.c0
  have hq1 := b3.c1
  have hr0 := b3.f0
  have hr1 := b3.f1
  go_simp
  clear hq0 hq1 hr0 hr1
  have hP := put2 Ws (w.heap.size + 1 + 1) (.bool gs) (.slice ps ns cs)
  have hN := b3.stored (.bool gs) (.slice ps ns cs)
  generalize (Ws.setCell ⟨w.heap.size + 1 + 1, 0, none⟩ (.bool gs)).setCell ⟨w.heap.size + 1 + 1, 1, none⟩ (.slice ps ns cs) = Wt at hP hN ⊢
  replace hs := hs.put b3 (by decide) hP
  replace h0 := bel_put h0 (by omega) hP
  replace b1 := b1.put hP (by omega)
  replace b2 := b2.put hP (by omega)
  clear hP b3
  have b3 := hN
  clear hN
  refine hK.out _ _ ?_
  clear hK K
  (try simp only [Act.put, List.setIfInBounds_toArray, List.set_cons_zero, List.set_cons_succ, List.getElem_toArray, List.getElem_cons_zero, List.getElem_cons_succ])
  refine then_code (by assumption) ?_
  go_light
  have hc0 := b3.c0
  have hc1 := b3.c1
  refine wp_ret ?_
  refine bodyPost_ret (v := .agg #[.bool gs, .slice ps ns cs]) (by simp [results, Try.results38, go_sem, hc0, hc1]) rfl ⟨_, rfl, hs, h0⟩
end Go.Proofs.Ytfhidjldmopbgaa

