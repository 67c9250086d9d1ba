/-
  The contracts of the reference's numbers: Small alone (a slim claim's part).
  Conditions: those of each theorem.
-/
import Derived.Test.YtokkaeaciigapaaDoorZA
import Derived.Test.YtokkaeaciigapaaDoorZM3
set_option linter.unusedSimpArgs false
set_option linter.unusedVariables false
namespace Go.Proofs.YtokkaeaciigapaaDoor
open Go.RowKit Go.Shelf Zd Wd

theorem bel_alloc {w W : World} (h : Below w.heap.size w W) (o : Obj) : Below w.heap.size w (W.alloc o) := h.alloc h.size o

theorem Rd.go {w w' : World} {v : Value} {ds : List Int} (h : Rd w v ds) (hb : Below w.heap.size w w') : Rd w' v ds := h.below hb


theorem sm_x : Sm (-9223372036854775808) := by unfold Sm; exact Nat.le_trans (digs_len (k := 4) (by decide)) (by decide)
theorem sm_y : Sm 9223372036854775807 := by unfold Sm; exact Nat.le_trans (digs_len (k := 4) (by decide)) (by decide)
theorem boot1 (w : World) (x1 y1 : Value) : ∃ W, W = w.alloc (.cells #[x1, y1] 38) ∧ Below w.heap.size w W ∧ Bx W w.heap.size 38 x1 y1 :=
  ⟨_, rfl, by go_grown, Bx.new w 38 x1 y1⟩
theorem val_drop_le {ds : List Int} (h : Ok ds) (k : Nat) : 0 ≤ val (ds.drop k) ∧ val (ds.drop k) ≤ val ds := by
  have h1 : Ok (ds.drop k) := fun d hd => h d (List.mem_of_mem_drop hd)
  refine ⟨val_nonneg h1, ?_⟩
  induction ds generalizing k with
  | nil => simp
  | cons d t ih =>
    cases k with
    | zero => simp
    | succ k =>
      have h2 := ih h.tail k (fun d hd => h d (List.mem_cons_of_mem _ (List.mem_of_mem_drop hd)))
      have h3 := h d (List.mem_cons_self ..)
      have h4 := val_nonneg h.tail
      rw [List.drop_succ_cons, val]
      omega

set_option maxRecDepth 100000 in
set_option maxHeartbeats 2000000 in
theorem small_low (v : Value) (a : Int) (hs : Sm a) (hlo : a < (-9223372036854775808)) (w : World) (hA : IsZ w v a) :
    Calls Tryd.prog 17 #[v] w fun e w' => e = .returned (.tuple #[.int .i64 0, .bool false]) ∧ Below w.heap.size w w' := by
  have hk1 : decide (cmpI a (-9223372036854775808) < 0) = true := by have := cmpI_neg (a := a) (b := (-9223372036854775808)); exact decide_eq_true (by omega)
  have hk2 : decide (0 < cmpI a 9223372036854775807) = false := by have := cmpI_pos (a := a) (b := 9223372036854775807); exact decide_eq_false (by omega)
  obtain ⟨g, p, n, c, rfl⟩ := hA.shape
  obtain ⟨W, hW, h0, b1⟩ := boot1 w (.bool g) (.slice p n c)
  have HW := Lib.hid hW
  clear hW
  have RA := Lib.hid hA.rd
  have HG := Lib.hid hA.neg
  replace hA := hA.go h0
  go_enter Tryd.func17, Tryd.ntmps17
  go_wp2
  rw [← HW.out]
  clear HW
  refine wp_region_held_drew (S := fun W' => Bx W' (w.heap.size) 38 (.bool g) (.slice p n c)) (by kernel_rfl) (b1.drew) (fun _ => ?_)
  replace hA := hA.drew
  replace b1 := b1.drew
  replace h0 := Below.drew h0
  generalize W.drew = W at hA b1 h0 ⊢
  refine wpAnyH_take (i := 0) (v := ?_) rfl (by kernel_rfl) (by kernel_rfl) (by kernel_rfl) (fun _ _ _ h => h) (Or.inl ⟨by kernel_rfl, ?_⟩) (b1) ?_
  rotate_left
  focus (intro W' hSw; have hx0 := hSw; (try dsimp only at hx0); have hc0 := hx0.c0; have hc1 := hx0.c1; clear hx0; go_simp; (try with_reducible rfl))
  (try simp only [Act.put, List.setIfInBounds_toArray, List.set_cons_zero, List.set_cons_succ, List.getElem_toArray, List.getElem_cons_zero, List.getElem_cons_succ])
  refine wpAnyH_ready (rs := [1]) (by kernel_rfl) (by simp) ?_
  refine AllReadyH.cons rfl (fun K hK => ?_) (AllReadyH.nil)
  go_simp
  go_at_call 29; refine (i_any (-9223372036854775808) (by omega) (by omega) _).mono ?_
  rintro e Wx ⟨u, rfl, hx, hb1⟩
  obtain ⟨gx, px, nx, cx, rfl⟩ := hx.shape
  replace hA := hA.go hb1
  replace b1 := b1.go hb1
  replace h0 := bel_go h0 h0.size hb1
  clear hb1
  refine hK.out _ _ (b1) (fun _ => ?_)
  clear hK K
  (try simp only [Act.put, List.setIfInBounds_toArray, List.set_cons_zero, List.set_cons_succ, List.getElem_toArray, List.getElem_cons_zero, List.getElem_cons_succ])
  refine wpAnyH_ready (rs := [2]) (by kernel_rfl) (by simp) ?_
  refine AllReadyH.cons rfl (fun K hK => ?_) (AllReadyH.nil)
  go_simp
  go_at_call 28; refine (zcmp_any _ _ _ _ hs sm_x _ hA hx).mono ?_
  rintro e W2x ⟨rfl, hb1⟩
  replace hA := hA.go hb1
  replace b1 := b1.go hb1
  replace h0 := bel_go h0 h0.size hb1
  clear hb1 hx
  refine hK.out _ _ (b1) (fun _ => ?_)
  clear hK K
  (try simp only [Act.put, List.setIfInBounds_toArray, List.set_cons_zero, List.set_cons_succ, List.getElem_toArray, List.getElem_cons_zero, List.getElem_cons_succ])
  refine wpAnyH_take (i := 3) (v := ?_) rfl (by kernel_rfl) (by kernel_rfl) (by kernel_rfl) (fun _ _ _ h => h) (Or.inl ⟨by kernel_rfl, ?_⟩) (b1) ?_
  rotate_left
  focus (intro W' hSw; have hx0 := hSw; (try dsimp only at hx0); have hc0 := hx0.c0; have hc1 := hx0.c1; clear hx0; go_simp; (try with_reducible rfl))
  (try simp only [Act.put, List.setIfInBounds_toArray, List.set_cons_zero, List.set_cons_succ, List.getElem_toArray, List.getElem_cons_zero, List.getElem_cons_succ])
  refine wpAnyH_take (i := 4) (v := ?_) rfl (by kernel_rfl) (by kernel_rfl) (by kernel_rfl) (fun _ _ _ h => h) (Or.inl ⟨by kernel_rfl, ?_⟩) (b1) ?_
  rotate_left
  focus (intro W' hSw; have hx0 := hSw; (try dsimp only at hx0); have hc0 := hx0.c0; have hc1 := hx0.c1; clear hx0; go_simp; (try with_reducible rfl))
  (try simp only [Act.put, List.setIfInBounds_toArray, List.set_cons_zero, List.set_cons_succ, List.getElem_toArray, List.getElem_cons_zero, List.getElem_cons_succ])
  refine wpAnyH_take (i := 5) (v := undef) rfl (by kernel_rfl) (by kernel_rfl) (by kernel_rfl) (fun _ _ _ h => h) (Or.inr ⟨by kernel_rfl, rfl⟩) (b1) ?_
  (try simp only [Act.put, List.setIfInBounds_toArray, List.set_cons_zero, List.set_cons_succ, List.getElem_toArray, List.getElem_cons_zero, List.getElem_cons_succ])
  refine wpAnyH_take (i := 6) (v := undef) rfl (by kernel_rfl) (by kernel_rfl) (by kernel_rfl) (fun _ _ _ h => h) (Or.inr ⟨by kernel_rfl, rfl⟩) (b1) ?_
  (try simp only [Act.put, List.setIfInBounds_toArray, List.set_cons_zero, List.set_cons_succ, List.getElem_toArray, List.getElem_cons_zero, List.getElem_cons_succ])
  refine wpAnyH_take (i := 7) (v := undef) rfl (by kernel_rfl) (by kernel_rfl) (by kernel_rfl) (fun _ _ _ h => h) (Or.inr ⟨by kernel_rfl, rfl⟩) (b1) ?_
  (try simp only [Act.put, List.setIfInBounds_toArray, List.set_cons_zero, List.set_cons_succ, List.getElem_toArray, List.getElem_cons_zero, List.getElem_cons_succ])
  refine wpAnyH_take (i := 8) (v := undef) rfl (by kernel_rfl) (by kernel_rfl) (by kernel_rfl) (fun _ _ _ h => h) (Or.inr ⟨by kernel_rfl, rfl⟩) (b1) ?_
  (try simp only [Act.put, List.setIfInBounds_toArray, List.set_cons_zero, List.set_cons_succ, List.getElem_toArray, List.getElem_cons_zero, List.getElem_cons_succ])
  refine wpAnyH_take (i := 9) (v := ?_) rfl (by kernel_rfl) (by kernel_rfl) (by kernel_rfl) (fun _ _ _ h => h) (Or.inl ⟨by kernel_rfl, ?_⟩) (b1) ?_
  rotate_left
  focus (intro W' hSw; have hx0 := hSw; (try dsimp only at hx0); have hc0 := hx0.c0; have hc1 := hx0.c1; clear hx0; go_simp; (try with_reducible rfl))
  (try simp only [Act.put, List.setIfInBounds_toArray, List.set_cons_zero, List.set_cons_succ, List.getElem_toArray, List.getElem_cons_zero, List.getElem_cons_succ])
  refine wpAnyH_done (by kernel_rfl) ?_ _
  go_wp2
  go_ret2
  exact ⟨rfl, h0⟩

set_option maxRecDepth 100000 in
set_option maxHeartbeats 2000000 in
theorem small_high (v : Value) (a : Int) (hs : Sm a) (hhi : 9223372036854775807 < a) (w : World) (hA : IsZ w v a) :
    Calls Tryd.prog 17 #[v] w fun e w' => e = .returned (.tuple #[.int .i64 0, .bool false]) ∧ Below w.heap.size w w' := by
  have hk1 : decide (cmpI a (-9223372036854775808) < 0) = false := by have := cmpI_neg (a := a) (b := (-9223372036854775808)); exact decide_eq_false (by omega)
  have hk2 : decide (0 < cmpI a 9223372036854775807) = true := by have := cmpI_pos (a := a) (b := 9223372036854775807); exact decide_eq_true (by omega)
  obtain ⟨g, p, n, c, rfl⟩ := hA.shape
  obtain ⟨W, hW, h0, b1⟩ := boot1 w (.bool g) (.slice p n c)
  have HW := Lib.hid hW
  clear hW
  have RA := Lib.hid hA.rd
  have HG := Lib.hid hA.neg
  replace hA := hA.go h0
  go_enter Tryd.func17, Tryd.ntmps17
  go_wp2
  rw [← HW.out]
  clear HW
  refine wp_region_held_drew (S := fun W' => Bx W' (w.heap.size) 38 (.bool g) (.slice p n c)) (by kernel_rfl) (b1.drew) (fun _ => ?_)
  replace hA := hA.drew
  replace b1 := b1.drew
  replace h0 := Below.drew h0
  generalize W.drew = W at hA b1 h0 ⊢
  refine wpAnyH_take (i := 0) (v := ?_) rfl (by kernel_rfl) (by kernel_rfl) (by kernel_rfl) (fun _ _ _ h => h) (Or.inl ⟨by kernel_rfl, ?_⟩) (b1) ?_
  rotate_left
  focus (intro W' hSw; have hx0 := hSw; (try dsimp only at hx0); have hc0 := hx0.c0; have hc1 := hx0.c1; clear hx0; go_simp; (try with_reducible rfl))
  (try simp only [Act.put, List.setIfInBounds_toArray, List.set_cons_zero, List.set_cons_succ, List.getElem_toArray, List.getElem_cons_zero, List.getElem_cons_succ])
  refine wpAnyH_ready (rs := [1]) (by kernel_rfl) (by simp) ?_
  refine AllReadyH.cons rfl (fun K hK => ?_) (AllReadyH.nil)
  go_simp
  go_at_call 29; refine (i_any (-9223372036854775808) (by omega) (by omega) _).mono ?_
  rintro e Wx ⟨u, rfl, hx, hb1⟩
  obtain ⟨gx, px, nx, cx, rfl⟩ := hx.shape
  replace hA := hA.go hb1
  replace b1 := b1.go hb1
  replace h0 := bel_go h0 h0.size hb1
  clear hb1
  refine hK.out _ _ (b1) (fun _ => ?_)
  clear hK K
  (try simp only [Act.put, List.setIfInBounds_toArray, List.set_cons_zero, List.set_cons_succ, List.getElem_toArray, List.getElem_cons_zero, List.getElem_cons_succ])
  refine wpAnyH_ready (rs := [2]) (by kernel_rfl) (by simp) ?_
  refine AllReadyH.cons rfl (fun K hK => ?_) (AllReadyH.nil)
  go_simp
  go_at_call 28; refine (zcmp_any _ _ _ _ hs sm_x _ hA hx).mono ?_
  rintro e W2x ⟨rfl, hb1⟩
  replace hA := hA.go hb1
  replace b1 := b1.go hb1
  replace h0 := bel_go h0 h0.size hb1
  clear hb1 hx
  refine hK.out _ _ (b1) (fun _ => ?_)
  clear hK K
  (try simp only [Act.put, List.setIfInBounds_toArray, List.set_cons_zero, List.set_cons_succ, List.getElem_toArray, List.getElem_cons_zero, List.getElem_cons_succ])
  refine wpAnyH_take (i := 3) (v := ?_) rfl (by kernel_rfl) (by kernel_rfl) (by kernel_rfl) (fun _ _ _ h => h) (Or.inl ⟨by kernel_rfl, ?_⟩) (b1) ?_
  rotate_left
  focus (intro W' hSw; have hx0 := hSw; (try dsimp only at hx0); have hc0 := hx0.c0; have hc1 := hx0.c1; clear hx0; go_simp; (try with_reducible rfl))
  (try simp only [Act.put, List.setIfInBounds_toArray, List.set_cons_zero, List.set_cons_succ, List.getElem_toArray, List.getElem_cons_zero, List.getElem_cons_succ])
  refine wpAnyH_take (i := 4) (v := ?_) rfl (by kernel_rfl) (by kernel_rfl) (by kernel_rfl) (fun _ _ _ h => h) (Or.inl ⟨by kernel_rfl, ?_⟩) (b1) ?_
  rotate_left
  focus (intro W' hSw; have hx0 := hSw; (try dsimp only at hx0); have hc0 := hx0.c0; have hc1 := hx0.c1; clear hx0; go_simp; (try with_reducible rfl))
  (try simp only [Act.put, List.setIfInBounds_toArray, List.set_cons_zero, List.set_cons_succ, List.getElem_toArray, List.getElem_cons_zero, List.getElem_cons_succ])
  refine wpAnyH_take (i := 5) (v := ?_) rfl (by kernel_rfl) (by kernel_rfl) (by kernel_rfl) (fun _ _ _ h => h) (Or.inl ⟨by kernel_rfl, ?_⟩) (b1) ?_
  rotate_left
  focus (intro W' hSw; have hx0 := hSw; (try dsimp only at hx0); have hc0 := hx0.c0; have hc1 := hx0.c1; clear hx0; go_simp; (try with_reducible rfl))
  (try simp only [Act.put, List.setIfInBounds_toArray, List.set_cons_zero, List.set_cons_succ, List.getElem_toArray, List.getElem_cons_zero, List.getElem_cons_succ])
  refine wpAnyH_ready (rs := [6]) (by kernel_rfl) (by simp) ?_
  refine AllReadyH.cons rfl (fun K hK => ?_) (AllReadyH.nil)
  go_simp
  go_at_call 29; refine (i_any 9223372036854775807 (by omega) (by omega) _).mono ?_
  rintro e Wy ⟨u, rfl, hy, hb1⟩
  obtain ⟨gy, py, ny, cy, rfl⟩ := hy.shape
  replace hA := hA.go hb1
  replace b1 := b1.go hb1
  replace h0 := bel_go h0 h0.size hb1
  clear hb1
  refine hK.out _ _ (b1) (fun _ => ?_)
  clear hK K
  (try simp only [Act.put, List.setIfInBounds_toArray, List.set_cons_zero, List.set_cons_succ, List.getElem_toArray, List.getElem_cons_zero, List.getElem_cons_succ])
  refine wpAnyH_ready (rs := [7]) (by kernel_rfl) (by simp) ?_
  refine AllReadyH.cons rfl (fun K hK => ?_) (AllReadyH.nil)
  go_simp
  go_at_call 28; refine (zcmp_any _ _ _ _ hs sm_y _ hA hy).mono ?_
  rintro e W2y ⟨rfl, hb1⟩
  replace hA := hA.go hb1
  replace b1 := b1.go hb1
  replace h0 := bel_go h0 h0.size hb1
  clear hb1 hy
  refine hK.out _ _ (b1) (fun _ => ?_)
  clear hK K
  (try simp only [Act.put, List.setIfInBounds_toArray, List.set_cons_zero, List.set_cons_succ, List.getElem_toArray, List.getElem_cons_zero, List.getElem_cons_succ])
  refine wpAnyH_take (i := 8) (v := ?_) rfl (by kernel_rfl) (by kernel_rfl) (by kernel_rfl) (fun _ _ _ h => h) (Or.inl ⟨by kernel_rfl, ?_⟩) (b1) ?_
  rotate_left
  focus (intro W' hSw; have hx0 := hSw; (try dsimp only at hx0); have hc0 := hx0.c0; have hc1 := hx0.c1; clear hx0; go_simp; (try with_reducible rfl))
  (try simp only [Act.put, List.setIfInBounds_toArray, List.set_cons_zero, List.set_cons_succ, List.getElem_toArray, List.getElem_cons_zero, List.getElem_cons_succ])
  refine wpAnyH_take (i := 9) (v := ?_) rfl (by kernel_rfl) (by kernel_rfl) (by kernel_rfl) (fun _ _ _ h => h) (Or.inl ⟨by kernel_rfl, ?_⟩) (b1) ?_
  rotate_left
  focus (intro W' hSw; have hx0 := hSw; (try dsimp only at hx0); have hc0 := hx0.c0; have hc1 := hx0.c1; clear hx0; go_simp; (try with_reducible rfl))
  (try simp only [Act.put, List.setIfInBounds_toArray, List.set_cons_zero, List.set_cons_succ, List.getElem_toArray, List.getElem_cons_zero, List.getElem_cons_succ])
  refine wpAnyH_done (by kernel_rfl) ?_ _
  go_wp2
  go_ret2
  exact ⟨rfl, h0⟩

set_option maxRecDepth 100000 in
set_option maxHeartbeats 4000000 in
theorem small_neg (v : Value) (a : Int) (hs : Sm a) (h1 : -9223372036854775808 ≤ a) (h2 : a < 0) (w : World) (hA : IsZ w v a) :
    Calls Tryd.prog 17 #[v] w fun e w' => e = .returned (.tuple #[.int .i64 a, .bool true]) ∧ Below w.heap.size w w' := by
  have hk1 : decide (cmpI a (-9223372036854775808) < 0) = false := by have := cmpI_neg (a := a) (b := (-9223372036854775808)); exact decide_eq_false (by omega)
  have hk2 : decide (0 < cmpI a 9223372036854775807) = false := by have := cmpI_pos (a := a) (b := 9223372036854775807); exact decide_eq_false (by omega)
  obtain ⟨g, p, n, c, rfl⟩ := hA.shape
  obtain ⟨W, hW, h0, b1⟩ := boot1 w (.bool g) (.slice p n c)
  have HW := Lib.hid hW
  clear hW
  have RA := Lib.hid hA.rd
  have HG := Lib.hid hA.neg
  replace hA := hA.go h0
  go_enter Tryd.func17, Tryd.ntmps17
  go_wp2
  rw [← HW.out]
  clear HW
  refine wp_region_held_drew (S := fun W' => Bx W' (w.heap.size) 38 (.bool g) (.slice p n c)) (by kernel_rfl) (b1.drew) (fun _ => ?_)
  replace hA := hA.drew
  replace b1 := b1.drew
  replace h0 := Below.drew h0
  generalize W.drew = W at hA b1 h0 ⊢
  refine wpAnyH_take (i := 0) (v := ?_) rfl (by kernel_rfl) (by kernel_rfl) (by kernel_rfl) (fun _ _ _ h => h) (Or.inl ⟨by kernel_rfl, ?_⟩) (b1) ?_
  rotate_left
  focus (intro W' hSw; have hx0 := hSw; (try dsimp only at hx0); have hc0 := hx0.c0; have hc1 := hx0.c1; clear hx0; go_simp; (try with_reducible rfl))
  (try simp only [Act.put, List.setIfInBounds_toArray, List.set_cons_zero, List.set_cons_succ, List.getElem_toArray, List.getElem_cons_zero, List.getElem_cons_succ])
  refine wpAnyH_ready (rs := [1]) (by kernel_rfl) (by simp) ?_
  refine AllReadyH.cons rfl (fun K hK => ?_) (AllReadyH.nil)
  go_simp
  go_at_call 29; refine (i_any (-9223372036854775808) (by omega) (by omega) _).mono ?_
  rintro e Wx ⟨u, rfl, hx, hb1⟩
  obtain ⟨gx, px, nx, cx, rfl⟩ := hx.shape
  replace hA := hA.go hb1
  replace b1 := b1.go hb1
  replace h0 := bel_go h0 h0.size hb1
  clear hb1
  refine hK.out _ _ (b1) (fun _ => ?_)
  clear hK K
  (try simp only [Act.put, List.setIfInBounds_toArray, List.set_cons_zero, List.set_cons_succ, List.getElem_toArray, List.getElem_cons_zero, List.getElem_cons_succ])
  refine wpAnyH_ready (rs := [2]) (by kernel_rfl) (by simp) ?_
  refine AllReadyH.cons rfl (fun K hK => ?_) (AllReadyH.nil)
  go_simp
  go_at_call 28; refine (zcmp_any _ _ _ _ hs sm_x _ hA hx).mono ?_
  rintro e W2x ⟨rfl, hb1⟩
  replace hA := hA.go hb1
  replace b1 := b1.go hb1
  replace h0 := bel_go h0 h0.size hb1
  clear hb1 hx
  refine hK.out _ _ (b1) (fun _ => ?_)
  clear hK K
  (try simp only [Act.put, List.setIfInBounds_toArray, List.set_cons_zero, List.set_cons_succ, List.getElem_toArray, List.getElem_cons_zero, List.getElem_cons_succ])
  refine wpAnyH_take (i := 3) (v := ?_) rfl (by kernel_rfl) (by kernel_rfl) (by kernel_rfl) (fun _ _ _ h => h) (Or.inl ⟨by kernel_rfl, ?_⟩) (b1) ?_
  rotate_left
  focus (intro W' hSw; have hx0 := hSw; (try dsimp only at hx0); have hc0 := hx0.c0; have hc1 := hx0.c1; clear hx0; go_simp; (try with_reducible rfl))
  (try simp only [Act.put, List.setIfInBounds_toArray, List.set_cons_zero, List.set_cons_succ, List.getElem_toArray, List.getElem_cons_zero, List.getElem_cons_succ])
  refine wpAnyH_take (i := 4) (v := ?_) rfl (by kernel_rfl) (by kernel_rfl) (by kernel_rfl) (fun _ _ _ h => h) (Or.inl ⟨by kernel_rfl, ?_⟩) (b1) ?_
  rotate_left
  focus (intro W' hSw; have hx0 := hSw; (try dsimp only at hx0); have hc0 := hx0.c0; have hc1 := hx0.c1; clear hx0; go_simp; (try with_reducible rfl))
  (try simp only [Act.put, List.setIfInBounds_toArray, List.set_cons_zero, List.set_cons_succ, List.getElem_toArray, List.getElem_cons_zero, List.getElem_cons_succ])
  refine wpAnyH_take (i := 5) (v := ?_) rfl (by kernel_rfl) (by kernel_rfl) (by kernel_rfl) (fun _ _ _ h => h) (Or.inl ⟨by kernel_rfl, ?_⟩) (b1) ?_
  rotate_left
  focus (intro W' hSw; have hx0 := hSw; (try dsimp only at hx0); have hc0 := hx0.c0; have hc1 := hx0.c1; clear hx0; go_simp; (try with_reducible rfl))
  (try simp only [Act.put, List.setIfInBounds_toArray, List.set_cons_zero, List.set_cons_succ, List.getElem_toArray, List.getElem_cons_zero, List.getElem_cons_succ])
  refine wpAnyH_ready (rs := [6]) (by kernel_rfl) (by simp) ?_
  refine AllReadyH.cons rfl (fun K hK => ?_) (AllReadyH.nil)
  go_simp
  go_at_call 29; refine (i_any 9223372036854775807 (by omega) (by omega) _).mono ?_
  rintro e Wy ⟨u, rfl, hy, hb1⟩
  obtain ⟨gy, py, ny, cy, rfl⟩ := hy.shape
  replace hA := hA.go hb1
  replace b1 := b1.go hb1
  replace h0 := bel_go h0 h0.size hb1
  clear hb1
  refine hK.out _ _ (b1) (fun _ => ?_)
  clear hK K
  (try simp only [Act.put, List.setIfInBounds_toArray, List.set_cons_zero, List.set_cons_succ, List.getElem_toArray, List.getElem_cons_zero, List.getElem_cons_succ])
  refine wpAnyH_ready (rs := [7]) (by kernel_rfl) (by simp) ?_
  refine AllReadyH.cons rfl (fun K hK => ?_) (AllReadyH.nil)
  go_simp
  go_at_call 28; refine (zcmp_any _ _ _ _ hs sm_y _ hA hy).mono ?_
  rintro e W2y ⟨rfl, hb1⟩
  replace hA := hA.go hb1
  replace b1 := b1.go hb1
  replace h0 := bel_go h0 h0.size hb1
  clear hb1 hy
  refine hK.out _ _ (b1) (fun _ => ?_)
  clear hK K
  (try simp only [Act.put, List.setIfInBounds_toArray, List.set_cons_zero, List.set_cons_succ, List.getElem_toArray, List.getElem_cons_zero, List.getElem_cons_succ])
  refine wpAnyH_take (i := 8) (v := ?_) rfl (by kernel_rfl) (by kernel_rfl) (by kernel_rfl) (fun _ _ _ h => h) (Or.inl ⟨by kernel_rfl, ?_⟩) (b1) ?_
  rotate_left
  focus (intro W' hSw; have hx0 := hSw; (try dsimp only at hx0); have hc0 := hx0.c0; have hc1 := hx0.c1; clear hx0; go_simp; (try with_reducible rfl))
  (try simp only [Act.put, List.setIfInBounds_toArray, List.set_cons_zero, List.set_cons_succ, List.getElem_toArray, List.getElem_cons_zero, List.getElem_cons_succ])
  refine wpAnyH_take (i := 9) (v := ?_) rfl (by kernel_rfl) (by kernel_rfl) (by kernel_rfl) (fun _ _ _ h => h) (Or.inl ⟨by kernel_rfl, ?_⟩) (b1) ?_
  rotate_left
  focus (intro W' hSw; have hx0 := hSw; (try dsimp only at hx0); have hc0 := hx0.c0; have hc1 := hx0.c1; clear hx0; go_simp; (try with_reducible rfl))
  (try simp only [Act.put, List.setIfInBounds_toArray, List.set_cons_zero, List.set_cons_succ, List.getElem_toArray, List.getElem_cons_zero, List.getElem_cons_succ])
  refine wpAnyH_done (by kernel_rfl) ?_ _
  obtain rfl : g = true := by rw [HG.out]; exact decide_eq_true h2
  have c11 := b1.c1
  have HV := Lib.hid (show val (digs a.natAbs) = (a.natAbs : Int) from val_digs _)
  have hlen := Lib.hid RA.out.len
  have hn : n ≤ 1000000 := by have := hlen.out; have := hs; unfold Sm at this; omega
  clear hk1 hk2 hA
  go_wp2
  obtain ⟨wx, rfl⟩ : ∃ wx : World, wx = W2y := ⟨_, rfl⟩
  clear c11
  go_loop [4, 5] (fun s i => ∃ k : Int, i = .int .i64 k ∧ -1 ≤ k ∧ k < n ∧ s = .int .i64 (-val ((digs a.natAbs).drop (k + 1).toNat))) (fun _ i => (intOf i + 1).toNat)
  case atStart => exact ⟨_, rfl, by omega, by omega, by rw [List.drop_eq_nil_of_le (by have := hlen.out; omega)]; simp [val]⟩
  case round =>
    obtain ⟨k, rfl, hk1, hk2, rfl⟩ := hrel
    by_cases hk : k < 0
    · have e : Hid (-val ((digs a.natAbs).drop (k + 1).toNat) = a) := by
        unfold Hid
        rw [show (k + 1).toNat = 0 by omega, List.drop_zero, HV.out]; omega
      go_wp2
      go_ret2
      exact ⟨by rw [e.out]; rfl, h0⟩
    · obtain ⟨j, rfl⟩ := Int.eq_ofNat_of_zero_le (show 0 ≤ k by omega)
      obtain ⟨ba, oa, rfl, hba, hxa⟩ := RA.out.at_ (k := j) (by omega)
      obtain ⟨x, hx⟩ : ∃ x, (digs a.natAbs).getD j 0 = x := ⟨_, rfl⟩
      have hxb := (digs_ok a.natAbs).getD (k := j) (by have := hlen.out; omega)
      rw [hx] at hxa hxb
      obtain ⟨hx0, hx1⟩ := hxb
      have hcx : wx.cell? ⟨ba, oa + j, none⟩ = some (.int .i64 x) := (h0.cell (p := ⟨ba, oa + j, none⟩) hba).trans hxa
      obtain ⟨V, hV⟩ : ∃ V, val ((digs a.natAbs).drop ((j : Int) + 1).toNat) = V := ⟨_, rfl⟩
      have hd := val_drop_le (digs_ok a.natAbs) ((j : Int) + 1).toNat
      have hd2 := val_drop_le (digs_ok a.natAbs) j
      have hcons := drop_cons (A := digs a.natAbs) (j := j) (by have := hlen.out; omega)
      have hst := Lib.hid (show val ((digs a.natAbs).drop j) = x + 1000000 * V by rw [hcons, hx, val, ← hV]; rfl)
      rw [hV] at hd ⊢
      rw [hst.out, HV.out] at hd2
      rw [HV.out] at hd
      obtain ⟨hd0, hd1⟩ := hd
      obtain ⟨hd3, hd4⟩ := hd2
      have q0 : (0 : Int) ≤ (j : Int) := by omega
      have c10 := b1.c0
      have c11 := b1.c1
      clear hx hcons hxa hV
      go_wp2
      go_round
      case rel => exact ⟨(j : Int) - 1, rfl, by omega, by omega, by rw [show ((j : Int) - 1 + 1).toNat = j by omega, hst.out]; congr 1; omega⟩
      case measure => simp [intOf]

set_option maxRecDepth 100000 in
set_option maxHeartbeats 4000000 in
theorem small_pos (v : Value) (a : Int) (hs : Sm a) (h1 : 0 ≤ a) (h2 : a ≤ 9223372036854775807) (w : World) (hA : IsZ w v a) :
    Calls Tryd.prog 17 #[v] w fun e w' => e = .returned (.tuple #[.int .i64 a, .bool true]) ∧ Below w.heap.size w w' := by
  have hk1 : decide (cmpI a (-9223372036854775808) < 0) = false := by have := cmpI_neg (a := a) (b := (-9223372036854775808)); exact decide_eq_false (by omega)
  have hk2 : decide (0 < cmpI a 9223372036854775807) = false := by have := cmpI_pos (a := a) (b := 9223372036854775807); exact decide_eq_false (by omega)
  obtain ⟨g, p, n, c, rfl⟩ := hA.shape
  obtain ⟨W, hW, h0, b1⟩ := boot1 w (.bool g) (.slice p n c)
  have HW := Lib.hid hW
  clear hW
  have RA := Lib.hid hA.rd
  have HG := Lib.hid hA.neg
  replace hA := hA.go h0
  go_enter Tryd.func17, Tryd.ntmps17
  go_wp2
  rw [← HW.out]
  clear HW
  refine wp_region_held_drew (S := fun W' => Bx W' (w.heap.size) 38 (.bool g) (.slice p n c)) (by kernel_rfl) (b1.drew) (fun _ => ?_)
  replace hA := hA.drew
  replace b1 := b1.drew
  replace h0 := Below.drew h0
  generalize W.drew = W at hA b1 h0 ⊢
  refine wpAnyH_take (i := 0) (v := ?_) rfl (by kernel_rfl) (by kernel_rfl) (by kernel_rfl) (fun _ _ _ h => h) (Or.inl ⟨by kernel_rfl, ?_⟩) (b1) ?_
  rotate_left
  focus (intro W' hSw; have hx0 := hSw; (try dsimp only at hx0); have hc0 := hx0.c0; have hc1 := hx0.c1; clear hx0; go_simp; (try with_reducible rfl))
  (try simp only [Act.put, List.setIfInBounds_toArray, List.set_cons_zero, List.set_cons_succ, List.getElem_toArray, List.getElem_cons_zero, List.getElem_cons_succ])
  refine wpAnyH_ready (rs := [1]) (by kernel_rfl) (by simp) ?_
  refine AllReadyH.cons rfl (fun K hK => ?_) (AllReadyH.nil)
  go_simp
  go_at_call 29; refine (i_any (-9223372036854775808) (by omega) (by omega) _).mono ?_
  rintro e Wx ⟨u, rfl, hx, hb1⟩
  obtain ⟨gx, px, nx, cx, rfl⟩ := hx.shape
  replace hA := hA.go hb1
  replace b1 := b1.go hb1
  replace h0 := bel_go h0 h0.size hb1
  clear hb1
  refine hK.out _ _ (b1) (fun _ => ?_)
  clear hK K
  (try simp only [Act.put, List.setIfInBounds_toArray, List.set_cons_zero, List.set_cons_succ, List.getElem_toArray, List.getElem_cons_zero, List.getElem_cons_succ])
  refine wpAnyH_ready (rs := [2]) (by kernel_rfl) (by simp) ?_
  refine AllReadyH.cons rfl (fun K hK => ?_) (AllReadyH.nil)
  go_simp
  go_at_call 28; refine (zcmp_any _ _ _ _ hs sm_x _ hA hx).mono ?_
  rintro e W2x ⟨rfl, hb1⟩
  replace hA := hA.go hb1
  replace b1 := b1.go hb1
  replace h0 := bel_go h0 h0.size hb1
  clear hb1 hx
  refine hK.out _ _ (b1) (fun _ => ?_)
  clear hK K
  (try simp only [Act.put, List.setIfInBounds_toArray, List.set_cons_zero, List.set_cons_succ, List.getElem_toArray, List.getElem_cons_zero, List.getElem_cons_succ])
  refine wpAnyH_take (i := 3) (v := ?_) rfl (by kernel_rfl) (by kernel_rfl) (by kernel_rfl) (fun _ _ _ h => h) (Or.inl ⟨by kernel_rfl, ?_⟩) (b1) ?_
  rotate_left
  focus (intro W' hSw; have hx0 := hSw; (try dsimp only at hx0); have hc0 := hx0.c0; have hc1 := hx0.c1; clear hx0; go_simp; (try with_reducible rfl))
  (try simp only [Act.put, List.setIfInBounds_toArray, List.set_cons_zero, List.set_cons_succ, List.getElem_toArray, List.getElem_cons_zero, List.getElem_cons_succ])
  refine wpAnyH_take (i := 4) (v := ?_) rfl (by kernel_rfl) (by kernel_rfl) (by kernel_rfl) (fun _ _ _ h => h) (Or.inl ⟨by kernel_rfl, ?_⟩) (b1) ?_
  rotate_left
  focus (intro W' hSw; have hx0 := hSw; (try dsimp only at hx0); have hc0 := hx0.c0; have hc1 := hx0.c1; clear hx0; go_simp; (try with_reducible rfl))
  (try simp only [Act.put, List.setIfInBounds_toArray, List.set_cons_zero, List.set_cons_succ, List.getElem_toArray, List.getElem_cons_zero, List.getElem_cons_succ])
  refine wpAnyH_take (i := 5) (v := ?_) rfl (by kernel_rfl) (by kernel_rfl) (by kernel_rfl) (fun _ _ _ h => h) (Or.inl ⟨by kernel_rfl, ?_⟩) (b1) ?_
  rotate_left
  focus (intro W' hSw; have hx0 := hSw; (try dsimp only at hx0); have hc0 := hx0.c0; have hc1 := hx0.c1; clear hx0; go_simp; (try with_reducible rfl))
  (try simp only [Act.put, List.setIfInBounds_toArray, List.set_cons_zero, List.set_cons_succ, List.getElem_toArray, List.getElem_cons_zero, List.getElem_cons_succ])
  refine wpAnyH_ready (rs := [6]) (by kernel_rfl) (by simp) ?_
  refine AllReadyH.cons rfl (fun K hK => ?_) (AllReadyH.nil)
  go_simp
  go_at_call 29; refine (i_any 9223372036854775807 (by omega) (by omega) _).mono ?_
  rintro e Wy ⟨u, rfl, hy, hb1⟩
  obtain ⟨gy, py, ny, cy, rfl⟩ := hy.shape
  replace hA := hA.go hb1
  replace b1 := b1.go hb1
  replace h0 := bel_go h0 h0.size hb1
  clear hb1
  refine hK.out _ _ (b1) (fun _ => ?_)
  clear hK K
  (try simp only [Act.put, List.setIfInBounds_toArray, List.set_cons_zero, List.set_cons_succ, List.getElem_toArray, List.getElem_cons_zero, List.getElem_cons_succ])
  refine wpAnyH_ready (rs := [7]) (by kernel_rfl) (by simp) ?_
  refine AllReadyH.cons rfl (fun K hK => ?_) (AllReadyH.nil)
  go_simp
  go_at_call 28; refine (zcmp_any _ _ _ _ hs sm_y _ hA hy).mono ?_
  rintro e W2y ⟨rfl, hb1⟩
  replace hA := hA.go hb1
  replace b1 := b1.go hb1
  replace h0 := bel_go h0 h0.size hb1
  clear hb1 hy
  refine hK.out _ _ (b1) (fun _ => ?_)
  clear hK K
  (try simp only [Act.put, List.setIfInBounds_toArray, List.set_cons_zero, List.set_cons_succ, List.getElem_toArray, List.getElem_cons_zero, List.getElem_cons_succ])
  refine wpAnyH_take (i := 8) (v := ?_) rfl (by kernel_rfl) (by kernel_rfl) (by kernel_rfl) (fun _ _ _ h => h) (Or.inl ⟨by kernel_rfl, ?_⟩) (b1) ?_
  rotate_left
  focus (intro W' hSw; have hx0 := hSw; (try dsimp only at hx0); have hc0 := hx0.c0; have hc1 := hx0.c1; clear hx0; go_simp; (try with_reducible rfl))
  (try simp only [Act.put, List.setIfInBounds_toArray, List.set_cons_zero, List.set_cons_succ, List.getElem_toArray, List.getElem_cons_zero, List.getElem_cons_succ])
  refine wpAnyH_take (i := 9) (v := ?_) rfl (by kernel_rfl) (by kernel_rfl) (by kernel_rfl) (fun _ _ _ h => h) (Or.inl ⟨by kernel_rfl, ?_⟩) (b1) ?_
  rotate_left
  focus (intro W' hSw; have hx0 := hSw; (try dsimp only at hx0); have hc0 := hx0.c0; have hc1 := hx0.c1; clear hx0; go_simp; (try with_reducible rfl))
  (try simp only [Act.put, List.setIfInBounds_toArray, List.set_cons_zero, List.set_cons_succ, List.getElem_toArray, List.getElem_cons_zero, List.getElem_cons_succ])
  refine wpAnyH_done (by kernel_rfl) ?_ _
  obtain rfl : g = false := by rw [HG.out]; exact decide_eq_false (by omega)
  have c11 := b1.c1
  have HV := Lib.hid (show val (digs a.natAbs) = (a.natAbs : Int) from val_digs _)
  have hlen := Lib.hid RA.out.len
  have hn : n ≤ 1000000 := by have := hlen.out; have := hs; unfold Sm at this; omega
  clear hk1 hk2 hA
  go_wp2
  obtain ⟨wx, rfl⟩ : ∃ wx : World, wx = W2y := ⟨_, rfl⟩
  clear c11
  go_loop [4, 5] (fun s i => ∃ k : Int, i = .int .i64 k ∧ -1 ≤ k ∧ k < n ∧ s = .int .i64 (val ((digs a.natAbs).drop (k + 1).toNat))) (fun _ i => (intOf i + 1).toNat)
  case atStart => exact ⟨_, rfl, by omega, by omega, by rw [List.drop_eq_nil_of_le (by have := hlen.out; omega)]; simp [val]⟩
  case round =>
    obtain ⟨k, rfl, hk1, hk2, rfl⟩ := hrel
    by_cases hk : k < 0
    · have e : Hid (val ((digs a.natAbs).drop (k + 1).toNat) = a) := by
        unfold Hid
        rw [show (k + 1).toNat = 0 by omega, List.drop_zero, HV.out]; omega
      go_wp2
      go_ret2
      exact ⟨by rw [e.out]; rfl, h0⟩
    · obtain ⟨j, rfl⟩ := Int.eq_ofNat_of_zero_le (show 0 ≤ k by omega)
      obtain ⟨ba, oa, rfl, hba, hxa⟩ := RA.out.at_ (k := j) (by omega)
      obtain ⟨x, hx⟩ : ∃ x, (digs a.natAbs).getD j 0 = x := ⟨_, rfl⟩
      have hxb := (digs_ok a.natAbs).getD (k := j) (by have := hlen.out; omega)
      rw [hx] at hxa hxb
      obtain ⟨hx0, hx1⟩ := hxb
      have hcx : wx.cell? ⟨ba, oa + j, none⟩ = some (.int .i64 x) := (h0.cell (p := ⟨ba, oa + j, none⟩) hba).trans hxa
      obtain ⟨V, hV⟩ : ∃ V, val ((digs a.natAbs).drop ((j : Int) + 1).toNat) = V := ⟨_, rfl⟩
      have hd := val_drop_le (digs_ok a.natAbs) ((j : Int) + 1).toNat
      have hd2 := val_drop_le (digs_ok a.natAbs) j
      have hcons := drop_cons (A := digs a.natAbs) (j := j) (by have := hlen.out; omega)
      have hst := Lib.hid (show val ((digs a.natAbs).drop j) = x + 1000000 * V by rw [hcons, hx, val, ← hV]; rfl)
      rw [hV] at hd ⊢
      rw [hst.out, HV.out] at hd2
      rw [HV.out] at hd
      obtain ⟨hd0, hd1⟩ := hd
      obtain ⟨hd3, hd4⟩ := hd2
      have q0 : (0 : Int) ≤ (j : Int) := by omega
      have c10 := b1.c0
      have c11 := b1.c1
      clear hx hcons hxa hV
      go_wp2
      go_round
      case rel => exact ⟨(j : Int) - 1, rfl, by omega, by omega, by rw [show ((j : Int) - 1 + 1).toNat = j by omega, hst.out]; congr 1; omega⟩
      case measure => simp [intOf]

/-- What Small returns. -/
def smV (a : Int) : Int := if (-9223372036854775808) ≤ a ∧ a ≤ 9223372036854775807 then a else 0
def smB (a : Int) : Bool := decide ((-9223372036854775808) ≤ a ∧ a ≤ 9223372036854775807)
/-- (Z).Small. -/
theorem zsmall_any (v : Value) (a : Int) (hs : Sm a) (w : World) (hA : IsZ w v a) :
    Calls Tryd.prog 17 #[v] w fun e w' => e = .returned (.tuple #[.int .i64 (smV a), .bool (smB a)]) ∧ Below w.heap.size w w' := by
  by_cases h1 : (-9223372036854775808) ≤ a
  · by_cases h2 : a ≤ 9223372036854775807
    · have e1 : smV a = a := if_pos ⟨h1, h2⟩
      have e2 : smB a = true := decide_eq_true ⟨h1, h2⟩
      rw [e1, e2]
      rcases Int.lt_or_le a 0 with g | g
      · exact small_neg v a hs (by omega) g w hA
      · exact small_pos v a hs g (by omega) w hA
    · have e1 : smV a = 0 := if_neg (fun h => h2 h.2)
      have e2 : smB a = false := decide_eq_false (fun h => h2 h.2)
      rw [e1, e2]
      exact small_high v a hs (by omega) w hA
  · have e1 : smV a = 0 := if_neg (fun h => h1 h.1)
    have e2 : smB a = false := decide_eq_false (fun h => h1 h.1)
    rw [e1, e2]
    exact small_low v a hs (by omega) w hA
end Go.Proofs.YtokkaeaciigapaaDoor

