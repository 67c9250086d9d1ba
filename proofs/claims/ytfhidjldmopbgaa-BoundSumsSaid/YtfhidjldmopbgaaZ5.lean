/-
  The contracts of the reference's numbers, fifth part: Plus and Less.
  Conditions: those of each theorem.
-/
import Derived.Test.YtfhidjldmopbgaaZ4
set_option linter.unusedSimpArgs false
namespace Go.Proofs.Ytfhidjldmopbgaa
open Go.RowKit Go.Shelf Zd Wd

/-- What holds of the world while Plus runs: w: where it began; the two numbers' cells, the result's. -/
structure PlusS (w : World) (ga gb : Bool) (sa sb : Value) (w' : World) : Prop where
  below : Below w.heap.size w w'
  size : w.heap.size + 3 ≤ w'.heap.size
  a0 : w'.cell? ⟨w.heap.size, 0, none⟩ = some (.bool ga)
  a1 : w'.cell? ⟨w.heap.size, 1, none⟩ = some sa
  b0 : w'.cell? ⟨w.heap.size + 1, 0, none⟩ = some (.bool gb)
  b1 : w'.cell? ⟨w.heap.size + 1, 1, none⟩ = some sb
/-- The result's two cells, not yet written. -/
structure PlusR (w w' : World) : Prop where
  r0 : w'.cell? ⟨w.heap.size + 1 + 1, 0, none⟩ = some (.bool false)
  r1 : w'.cell? ⟨w.heap.size + 1 + 1, 1, none⟩ = some (.slice none 0 0)
  f0 : w'.frozen? ⟨w.heap.size + 1 + 1, 0, none⟩ = false
  f1 : w'.frozen? ⟨w.heap.size + 1 + 1, 1, none⟩ = false
  kind : w'.heap[w.heap.size + 1 + 1]? = some (.cells #[.bool false, .slice none 0 0] 28 (0, 0))
theorem PlusS.go {w w1 w2 : World} {ga gb : Bool} {sa sb : Value} (h : PlusS w ga gb sa sb w1) (hb : Below w1.heap.size w1 w2) : PlusS w ga gb sa sb w2 where
  below := h.below.trans (hb.mono h.below.size)
  size := Nat.le_trans h.size hb.size
  a0 := (hb.cell (p := ⟨w.heap.size, 0, none⟩) (by have := h.size; simp; omega)).trans h.a0
  a1 := (hb.cell (p := ⟨w.heap.size, 1, none⟩) (by have := h.size; simp; omega)).trans h.a1
  b0 := (hb.cell (p := ⟨w.heap.size + 1, 0, none⟩) (by have := h.size; simp; omega)).trans h.b0
  b1 := (hb.cell (p := ⟨w.heap.size + 1, 1, none⟩) (by have := h.size; simp; omega)).trans h.b1
theorem PlusS.setCell {w w1 : World} {ga gb : Bool} {sa sb : Value} (h : PlusS w ga gb sa sb w1) (o : Nat) (u : Value) : PlusS w ga gb sa sb (w1.setCell ⟨w.heap.size + 1 + 1, o, none⟩ u) where
  below := h.below.setCell (by simp; omega) u
  size := by have := h.size; simpa [World.setCell] using this
  a0 := (World.cell?_of_block (w := w1) (a := ⟨w.heap.size, 0, none⟩) (Below.heap_setCell _ _ _ _ (by simp; omega))).trans h.a0
  a1 := (World.cell?_of_block (w := w1) (a := ⟨w.heap.size, 1, none⟩) (Below.heap_setCell _ _ _ _ (by simp; omega))).trans h.a1
  b0 := (World.cell?_of_block (w := w1) (a := ⟨w.heap.size + 1, 0, none⟩) (Below.heap_setCell _ _ _ _ (by simp))).trans h.b0
  b1 := (World.cell?_of_block (w := w1) (a := ⟨w.heap.size + 1, 1, none⟩) (Below.heap_setCell _ _ _ _ (by simp))).trans h.b1
theorem PlusR.go {w w1 w2 : World} (h : PlusR w w1) (hs : w.heap.size + 3 ≤ w1.heap.size) (hb : Below w1.heap.size w1 w2) : PlusR w w2 where
  r0 := (hb.cell (p := ⟨w.heap.size + 1 + 1, 0, none⟩) (by have := hs; simp; omega)).trans h.r0
  r1 := (hb.cell (p := ⟨w.heap.size + 1 + 1, 1, none⟩) (by have := hs; simp; omega)).trans h.r1
  f0 := (hb.frozen (p := ⟨w.heap.size + 1 + 1, 0, none⟩) (by have := hs; simp; omega)).trans h.f0
  f1 := (hb.frozen (p := ⟨w.heap.size + 1 + 1, 1, none⟩) (by have := hs; simp; omega)).trans h.f1
  kind := (hb.block _ (by have := hs; omega)).trans h.kind
theorem PlusS.start (w : World) (ga gb : Bool) (sa sb : Value) : PlusS w ga gb sa sb (((w.alloc (.cells #[.bool ga, sa] 28)).alloc (.cells #[.bool gb, sb] 28)).alloc (.cells #[.bool false, .slice none 0 0] 28)) where
  below := by go_grown
  size := by simp
  a0 := by simp [go_sem, World.cell?_alloc_past]
  a1 := by simp [go_sem, World.cell?_alloc_past]
  b0 := by simp [go_sem, World.cell?_alloc_past]
  b1 := by simp [go_sem, World.cell?_alloc_past]
theorem PlusR.start (w : World) (ga gb : Bool) (sa sb : Value) : PlusR w (((w.alloc (.cells #[.bool ga, sa] 28)).alloc (.cells #[.bool gb, sb] 28)).alloc (.cells #[.bool false, .slice none 0 0] 28)) where
  r0 := by simp [go_sem]
  r1 := by simp [go_sem]
  f0 := by simp [go_sem]
  f1 := by simp [go_sem]
  kind := by
    have h := (MapKept.heap_alloc ((w.alloc (.cells #[.bool ga, sa] 28)).alloc (.cells #[.bool gb, sb] 28)) (.cells #[.bool false, .slice none 0 0] 28)).1
    rwa [show ((w.alloc (.cells #[.bool ga, sa] 28)).alloc (.cells #[.bool gb, sb] 28)).heap.size = w.heap.size + 1 + 1 by simp] at h
theorem Rd.below' {w w' : World} {v : Value} {ds : List Int} (h : Rd w v ds) (hb : Below w.heap.size w w') : Rd w' v ds := h.below hb
theorem PlusS.drew {w w1 : World} {ga gb : Bool} {sa sb : Value} (h : PlusS w ga gb sa sb w1) : PlusS w ga gb sa sb w1.drew := h.go (Below.refl _ _).drew

set_option maxRecDepth 100000 in
set_option maxHeartbeats 2000000 in
/-- Two numbers of one sign. -/
theorem plus_same (g : Bool) (x y : Nat) (p q : Option Addr) (n m c1 c2 : Nat) (hx : (digs x).length ≤ 1000000) (hy : (digs y).length ≤ 1000000) (w : World) (RA : Hid (Rd w (.slice p n c1) (digs x))) (RB : Hid (Rd w (.slice q m c2) (digs y))) :
    Calls Try.prog 7 #[.agg #[.bool g, .slice p n c1], .agg #[.bool g, .slice q m c2]] w fun e w' => ∃ s, e = .returned (.agg #[.bool (g && decide (digs (x + y) ≠ [])), s]) ∧ Rd w' s (digs (x + y)) ∧ Below w.heap.size w w' := by
  have hgg : (g == g) = true := by simp
  go_enter Try.func7, Try.ntmps7
  go_wp2
  have hS := PlusS.start w g g (.slice p n c1) (.slice q m c2)
  have hR := PlusR.start w g g (.slice p n c1) (.slice q m c2)
  generalize ((w.alloc (.cells #[.bool g, .slice p n c1] 28)).alloc (.cells #[.bool g, .slice q m c2] 28)).alloc (.cells #[.bool false, .slice none 0 0] 28) = W at hS hR ⊢
  refine wp_region_held_drew (S := PlusS w g g (.slice p n c1) (.slice q m c2)) (by kernel_rfl) hS.drew (fun hHeld => ?_)
  have hR1 := hR.go hS.size (Below.refl _ _).drew
  clear hS hR
  refine wpAnyH_take (i := 0) (v := ?_) rfl (by kernel_rfl) (by kernel_rfl) (by kernel_rfl) (fun _ _ _ h => h) (Or.inl ⟨by kernel_rfl, ?_⟩) (by assumption) ?_
  rotate_left
  focus (intro w hSw; obtain ⟨_, _, hSa0, hSa1, hSb0, hSb1⟩ := hSw; go_simp; (try with_reducible rfl))
  (try simp only [Act.put, List.setIfInBounds_toArray, List.set_cons_zero, List.set_cons_succ, List.getElem_toArray, List.getElem_cons_zero, List.getElem_cons_succ])
  refine wpAnyH_take (i := 1) (v := ?_) rfl (by kernel_rfl) (by kernel_rfl) (by kernel_rfl) (fun _ _ _ h => h) (Or.inl ⟨by kernel_rfl, ?_⟩) (by assumption) ?_
  rotate_left
  focus (intro w hSw; obtain ⟨_, _, hSa0, hSa1, hSb0, hSb1⟩ := hSw; go_simp; (try with_reducible rfl))
  (try simp only [Act.put, List.setIfInBounds_toArray, List.set_cons_zero, List.set_cons_succ, List.getElem_toArray, List.getElem_cons_zero, List.getElem_cons_succ])
  refine wpAnyH_take (i := 2) (v := ?_) rfl (by kernel_rfl) (by kernel_rfl) (by kernel_rfl) (fun _ _ _ h => h) (Or.inl ⟨by kernel_rfl, ?_⟩) (by assumption) ?_
  rotate_left
  focus (intro w hSw; obtain ⟨_, _, hSa0, hSa1, hSb0, hSb1⟩ := hSw; go_simp; (try with_reducible rfl))
  (try simp only [Act.put, List.setIfInBounds_toArray, List.set_cons_zero, List.set_cons_succ, List.getElem_toArray, List.getElem_cons_zero, List.getElem_cons_succ])
  refine wpAnyH_take (i := 3) (v := ?_) rfl (by kernel_rfl) (by kernel_rfl) (by kernel_rfl) (fun _ _ _ h => h) (Or.inl ⟨by kernel_rfl, ?_⟩) (by assumption) ?_
  rotate_left
  focus (intro w hSw; obtain ⟨_, _, hSa0, hSa1, hSb0, hSb1⟩ := hSw; go_simp; (try with_reducible rfl))
  (try simp only [Act.put, List.setIfInBounds_toArray, List.set_cons_zero, List.set_cons_succ, List.getElem_toArray, List.getElem_cons_zero, List.getElem_cons_succ])
  refine wpAnyH_take (i := 4) (v := ?_) rfl (by kernel_rfl) (by kernel_rfl) (by kernel_rfl) (fun _ _ _ h => h) (Or.inl ⟨by kernel_rfl, ?_⟩) (by assumption) ?_
  rotate_left
  focus (intro w hSw; obtain ⟨_, _, hSa0, hSa1, hSb0, hSb1⟩ := hSw; go_simp; (try with_reducible rfl))
  (try simp only [Act.put, List.setIfInBounds_toArray, List.set_cons_zero, List.set_cons_succ, List.getElem_toArray, List.getElem_cons_zero, List.getElem_cons_succ])
  refine wpAnyH_take (i := 5) (v := ?_) rfl (by kernel_rfl) (by kernel_rfl) (by kernel_rfl) (fun _ _ _ h => h) (Or.inl ⟨by kernel_rfl, ?_⟩) (by assumption) ?_
  rotate_left
  focus (intro w hSw; obtain ⟨_, _, hSa0, hSa1, hSb0, hSb1⟩ := hSw; go_simp; (try with_reducible rfl))
  (try simp only [Act.put, List.setIfInBounds_toArray, List.set_cons_zero, List.set_cons_succ, List.getElem_toArray, List.getElem_cons_zero, List.getElem_cons_succ])
  refine wpAnyH_ready (rs := [6]) (by kernel_rfl) (by simp) ?_
  refine AllReadyH.cons rfl (fun K hK => ?_) AllReadyH.nil
  go_simp
  go_at_call 28; refine (sum_addR x y (.slice p n c1) (.slice q m c2) hx hy _ (RA.out.below' hHeld.below) (RB.out.below' hHeld.below)).mono ?_
  rintro e w1 ⟨s, ds, rfl, hs, hok, hval, hlen, hb1⟩
  have hH1 := hHeld.go hb1
  have hR2 := hR1.go hHeld.size hb1
  have HS := Lib.hid hs
  have HV := Lib.hid hval
  clear hs hval
  refine hK.out _ _ hH1 (fun _ => ?_)
  clear hK K hHeld hR1 hb1
  (try simp only [Act.put, List.setIfInBounds_toArray, List.set_cons_zero, List.set_cons_succ, List.getElem_toArray, List.getElem_cons_zero, List.getElem_cons_succ])
  refine wpAnyH_ready (rs := [7]) (by kernel_rfl) (by simp) ?_
  refine AllReadyH.cons rfl (fun K hK => ?_) AllReadyH.nil
  go_simp
  go_at_call 27; refine (trim_any g s ds (by omega) _ HS.out).mono ?_
  rintro e w2 ⟨s2, rfl, hs2, hb2⟩
  have hH2 := hH1.go hb2
  have hR3 := hR2.go hH1.size hb2
  obtain ⟨p2, cap2, rfl⟩ := hs2.shape
  have HS2 := Lib.hid hs2
  clear hs2
  refine hK.out _ _ hH2 (fun _ => ?_)
  clear hK K hH1 hR2 hb2 HS
  (try simp only [Act.put, List.setIfInBounds_toArray, List.set_cons_zero, List.set_cons_succ, List.getElem_toArray, List.getElem_cons_zero, List.getElem_cons_succ])
  refine wpAnyH_ready (rs := [8]) (by kernel_rfl) (by simp) ?_
  refine AllReadyH.cons rfl (fun K hK => ?_) AllReadyH.nil
  obtain ⟨hr0, hr1, hf0, hf1, hkind⟩ := hR3
  have HKD := Lib.hid hkind
  clear hkind
  go_simp
  refine hK.out _ _ ((hH2.setCell 0 _).setCell 1 _) (fun _ => ?_)
  clear hK K
  (try simp only [Act.put, List.setIfInBounds_toArray, List.set_cons_zero, List.set_cons_succ, List.getElem_toArray, List.getElem_cons_zero, List.getElem_cons_succ])
  refine wpAnyH_done (by kernel_rfl) ?_ _
  have hcut : Hid (cut ds = digs (x + y)) := by
    unfold Hid
    rw [cut_digs hok, HV.out]
    exact congrArg digs (by omega)
  go_wp2
  refine bodyPost_ret (v := .agg #[.bool (g && !decide (cut ds = [])), .slice p2 (cut ds).length cap2]) (by simp [results, Try.results7, go_sem, *]) rfl ⟨.slice p2 (cut ds).length cap2, ?_, ?_, ?_⟩
  · rw [hcut.out]; simp
  · rw [← hcut.out]
    exact HS2.out.setCell2 HKD.out (by decide) _ _
  · exact (hH2.below.setCell (by simp; omega) _).setCell (by simp; omega) _

set_option maxRecDepth 100000 in
set_option maxHeartbeats 2000000 in
/-- Of two signs, the first not smaller. -/
theorem plus_ge (g : Bool) (x y : Nat) (p q : Option Addr) (n m c1 c2 : Nat) (hx : (digs x).length ≤ 1000000) (hy : (digs y).length ≤ 1000000) (hxy : y ≤ x) (w : World) (RA : Hid (Rd w (.slice p n c1) (digs x))) (RB : Hid (Rd w (.slice q m c2) (digs y))) :
    Calls Try.prog 7 #[.agg #[.bool g, .slice p n c1], .agg #[.bool (!g), .slice q m c2]] w fun e w' => ∃ s, e = .returned (.agg #[.bool (g && decide (digs (x - y) ≠ [])), s]) ∧ Rd w' s (digs (x - y)) ∧ Below w.heap.size w w' := by
  have hgg : (g == !g) = false := by cases g <;> rfl
  have hk : decide (0 ≤ cmpI (x : Int) y) = true := by have := cmpI_neg (a := (x : Int)) (b := y); exact decide_eq_true (by omega)
  have hS0 := Lib.hid (PlusS.start w g (!g) (.slice p n c1) (.slice q m c2))
  have hR0 := Lib.hid (PlusR.start w g (!g) (.slice p n c1) (.slice q m c2))
  go_enter Try.func7, Try.ntmps7
  go_wp2_with (first
    | (go_at_call 29; (with_reducible refine (cmpd_any x y (.slice p n c1) (.slice q m c2) hx hy _ ?_ ?_).mono ?_); exact RA.out.below' hS0.out.below; exact RB.out.below' hS0.out.below; rintro e W ⟨rfl, hb0⟩))
  have hS := hS0.out.go hb0
  have hR := hR0.out.go hS0.out.size hb0
  clear hb0 hS0 hR0
  refine wp_region_held_drew (S := PlusS w g (!g) (.slice p n c1) (.slice q m c2)) (by kernel_rfl) hS.drew (fun hHeld => ?_)
  have hR1 := hR.go hS.size (Below.refl _ _).drew
  clear hS hR
  refine wpAnyH_take (i := 0) (v := ?_) rfl (by kernel_rfl) (by kernel_rfl) (by kernel_rfl) (fun _ _ _ h => h) (Or.inl ⟨by kernel_rfl, ?_⟩) (by assumption) ?_
  rotate_left
  focus (intro w hSw; obtain ⟨_, _, hSa0, hSa1, hSb0, hSb1⟩ := hSw; go_simp; (try with_reducible rfl))
  (try simp only [Act.put, List.setIfInBounds_toArray, List.set_cons_zero, List.set_cons_succ, List.getElem_toArray, List.getElem_cons_zero, List.getElem_cons_succ])
  refine wpAnyH_take (i := 1) (v := ?_) rfl (by kernel_rfl) (by kernel_rfl) (by kernel_rfl) (fun _ _ _ h => h) (Or.inl ⟨by kernel_rfl, ?_⟩) (by assumption) ?_
  rotate_left
  focus (intro w hSw; obtain ⟨_, _, hSa0, hSa1, hSb0, hSb1⟩ := hSw; go_simp; (try with_reducible rfl))
  (try simp only [Act.put, List.setIfInBounds_toArray, List.set_cons_zero, List.set_cons_succ, List.getElem_toArray, List.getElem_cons_zero, List.getElem_cons_succ])
  refine wpAnyH_take (i := 2) (v := ?_) rfl (by kernel_rfl) (by kernel_rfl) (by kernel_rfl) (fun _ _ _ h => h) (Or.inl ⟨by kernel_rfl, ?_⟩) (by assumption) ?_
  rotate_left
  focus (intro w hSw; obtain ⟨_, _, hSa0, hSa1, hSb0, hSb1⟩ := hSw; go_simp; (try with_reducible rfl))
  (try simp only [Act.put, List.setIfInBounds_toArray, List.set_cons_zero, List.set_cons_succ, List.getElem_toArray, List.getElem_cons_zero, List.getElem_cons_succ])
  refine wpAnyH_take (i := 3) (v := ?_) rfl (by kernel_rfl) (by kernel_rfl) (by kernel_rfl) (fun _ _ _ h => h) (Or.inl ⟨by kernel_rfl, ?_⟩) (by assumption) ?_
  rotate_left
  focus (intro w hSw; obtain ⟨_, _, hSa0, hSa1, hSb0, hSb1⟩ := hSw; go_simp; (try with_reducible rfl))
  (try simp only [Act.put, List.setIfInBounds_toArray, List.set_cons_zero, List.set_cons_succ, List.getElem_toArray, List.getElem_cons_zero, List.getElem_cons_succ])
  refine wpAnyH_take (i := 4) (v := ?_) rfl (by kernel_rfl) (by kernel_rfl) (by kernel_rfl) (fun _ _ _ h => h) (Or.inl ⟨by kernel_rfl, ?_⟩) (by assumption) ?_
  rotate_left
  focus (intro w hSw; obtain ⟨_, _, hSa0, hSa1, hSb0, hSb1⟩ := hSw; go_simp; (try with_reducible rfl))
  (try simp only [Act.put, List.setIfInBounds_toArray, List.set_cons_zero, List.set_cons_succ, List.getElem_toArray, List.getElem_cons_zero, List.getElem_cons_succ])
  refine wpAnyH_take (i := 5) (v := ?_) rfl (by kernel_rfl) (by kernel_rfl) (by kernel_rfl) (fun _ _ _ h => h) (Or.inl ⟨by kernel_rfl, ?_⟩) (by assumption) ?_
  rotate_left
  focus (intro w hSw; obtain ⟨_, _, hSa0, hSa1, hSb0, hSb1⟩ := hSw; go_simp; (try with_reducible rfl))
  (try simp only [Act.put, List.setIfInBounds_toArray, List.set_cons_zero, List.set_cons_succ, List.getElem_toArray, List.getElem_cons_zero, List.getElem_cons_succ])
  refine wpAnyH_ready (rs := [6]) (by kernel_rfl) (by simp) ?_
  refine AllReadyH.cons rfl (fun K hK => ?_) AllReadyH.nil
  go_simp
  go_at_call 28; refine (sum_subR x y (.slice p n c1) (.slice q m c2) hx hy hxy _ (RA.out.below' hHeld.below) (RB.out.below' hHeld.below)).mono ?_
  rintro e w1 ⟨s, ds, rfl, hs, hok, hval, hlen, hb1⟩
  have hH1 := hHeld.go hb1
  have hR2 := hR1.go hHeld.size hb1
  have HS := Lib.hid hs
  have HV := Lib.hid hval
  clear hs hval
  refine hK.out _ _ hH1 (fun _ => ?_)
  clear hK K hHeld hR1 hb1
  (try simp only [Act.put, List.setIfInBounds_toArray, List.set_cons_zero, List.set_cons_succ, List.getElem_toArray, List.getElem_cons_zero, List.getElem_cons_succ])
  refine wpAnyH_ready (rs := [7]) (by kernel_rfl) (by simp) ?_
  refine AllReadyH.cons rfl (fun K hK => ?_) AllReadyH.nil
  go_simp
  go_at_call 27; refine (trim_any g s ds (by omega) _ HS.out).mono ?_
  rintro e w2 ⟨s2, rfl, hs2, hb2⟩
  have hH2 := hH1.go hb2
  have hR3 := hR2.go hH1.size hb2
  obtain ⟨p2, cap2, rfl⟩ := hs2.shape
  have HS2 := Lib.hid hs2
  clear hs2
  refine hK.out _ _ hH2 (fun _ => ?_)
  clear hK K hH1 hR2 hb2 HS
  (try simp only [Act.put, List.setIfInBounds_toArray, List.set_cons_zero, List.set_cons_succ, List.getElem_toArray, List.getElem_cons_zero, List.getElem_cons_succ])
  refine wpAnyH_ready (rs := [8]) (by kernel_rfl) (by simp) ?_
  refine AllReadyH.cons rfl (fun K hK => ?_) AllReadyH.nil
  obtain ⟨hr0, hr1, hf0, hf1, hkind⟩ := hR3
  have HKD := Lib.hid hkind
  clear hkind
  go_simp
  refine hK.out _ _ ((hH2.setCell 0 _).setCell 1 _) (fun _ => ?_)
  clear hK K
  (try simp only [Act.put, List.setIfInBounds_toArray, List.set_cons_zero, List.set_cons_succ, List.getElem_toArray, List.getElem_cons_zero, List.getElem_cons_succ])
  refine wpAnyH_done (by kernel_rfl) ?_ _
  have hcut : Hid (cut ds = digs (x - y)) := by
    unfold Hid
    rw [cut_digs hok, HV.out]
    exact congrArg digs (by omega)
  go_wp2
  refine bodyPost_ret (v := .agg #[.bool (g && !decide (cut ds = [])), .slice p2 (cut ds).length cap2]) (by simp [results, Try.results7, go_sem, *]) rfl ⟨.slice p2 (cut ds).length cap2, ?_, ?_, ?_⟩
  · rw [hcut.out]; simp
  · rw [← hcut.out]
    exact HS2.out.setCell2 HKD.out (by decide) _ _
  · exact (hH2.below.setCell (by simp; omega) _).setCell (by simp; omega) _

set_option maxRecDepth 100000 in
set_option maxHeartbeats 2000000 in
/-- Of two signs, the second greater. -/
theorem plus_lt (g : Bool) (x y : Nat) (p q : Option Addr) (n m c1 c2 : Nat) (hx : (digs x).length ≤ 1000000) (hy : (digs y).length ≤ 1000000) (hxy : x < y) (w : World) (RA : Hid (Rd w (.slice p n c1) (digs x))) (RB : Hid (Rd w (.slice q m c2) (digs y))) :
    Calls Try.prog 7 #[.agg #[.bool g, .slice p n c1], .agg #[.bool (!g), .slice q m c2]] w fun e w' => ∃ s, e = .returned (.agg #[.bool ((!g) && decide (digs (y - x) ≠ [])), s]) ∧ Rd w' s (digs (y - x)) ∧ Below w.heap.size w w' := by
  have hgg : (g == !g) = false := by cases g <;> rfl
  have hk : decide (0 ≤ cmpI (x : Int) y) = false := by have := cmpI_neg (a := (x : Int)) (b := y); exact decide_eq_false (by omega)
  have hS0 := Lib.hid (PlusS.start w g (!g) (.slice p n c1) (.slice q m c2))
  have hR0 := Lib.hid (PlusR.start w g (!g) (.slice p n c1) (.slice q m c2))
  go_enter Try.func7, Try.ntmps7
  go_wp2_with (first
    | (go_at_call 29; (with_reducible refine (cmpd_any x y (.slice p n c1) (.slice q m c2) hx hy _ ?_ ?_).mono ?_); exact RA.out.below' hS0.out.below; exact RB.out.below' hS0.out.below; rintro e W ⟨rfl, hb0⟩))
  have hS := hS0.out.go hb0
  have hR := hR0.out.go hS0.out.size hb0
  clear hb0 hS0 hR0
  refine wp_region_held_drew (S := PlusS w g (!g) (.slice p n c1) (.slice q m c2)) (by kernel_rfl) hS.drew (fun hHeld => ?_)
  have hR1 := hR.go hS.size (Below.refl _ _).drew
  clear hS hR
  refine wpAnyH_take (i := 0) (v := ?_) rfl (by kernel_rfl) (by kernel_rfl) (by kernel_rfl) (fun _ _ _ h => h) (Or.inl ⟨by kernel_rfl, ?_⟩) (by assumption) ?_
  rotate_left
  focus (intro w hSw; obtain ⟨_, _, hSa0, hSa1, hSb0, hSb1⟩ := hSw; go_simp; (try with_reducible rfl))
  (try simp only [Act.put, List.setIfInBounds_toArray, List.set_cons_zero, List.set_cons_succ, List.getElem_toArray, List.getElem_cons_zero, List.getElem_cons_succ])
  refine wpAnyH_take (i := 1) (v := ?_) rfl (by kernel_rfl) (by kernel_rfl) (by kernel_rfl) (fun _ _ _ h => h) (Or.inl ⟨by kernel_rfl, ?_⟩) (by assumption) ?_
  rotate_left
  focus (intro w hSw; obtain ⟨_, _, hSa0, hSa1, hSb0, hSb1⟩ := hSw; go_simp; (try with_reducible rfl))
  (try simp only [Act.put, List.setIfInBounds_toArray, List.set_cons_zero, List.set_cons_succ, List.getElem_toArray, List.getElem_cons_zero, List.getElem_cons_succ])
  refine wpAnyH_take (i := 2) (v := ?_) rfl (by kernel_rfl) (by kernel_rfl) (by kernel_rfl) (fun _ _ _ h => h) (Or.inl ⟨by kernel_rfl, ?_⟩) (by assumption) ?_
  rotate_left
  focus (intro w hSw; obtain ⟨_, _, hSa0, hSa1, hSb0, hSb1⟩ := hSw; go_simp; (try with_reducible rfl))
  (try simp only [Act.put, List.setIfInBounds_toArray, List.set_cons_zero, List.set_cons_succ, List.getElem_toArray, List.getElem_cons_zero, List.getElem_cons_succ])
  refine wpAnyH_take (i := 3) (v := ?_) rfl (by kernel_rfl) (by kernel_rfl) (by kernel_rfl) (fun _ _ _ h => h) (Or.inl ⟨by kernel_rfl, ?_⟩) (by assumption) ?_
  rotate_left
  focus (intro w hSw; obtain ⟨_, _, hSa0, hSa1, hSb0, hSb1⟩ := hSw; go_simp; (try with_reducible rfl))
  (try simp only [Act.put, List.setIfInBounds_toArray, List.set_cons_zero, List.set_cons_succ, List.getElem_toArray, List.getElem_cons_zero, List.getElem_cons_succ])
  refine wpAnyH_take (i := 4) (v := ?_) rfl (by kernel_rfl) (by kernel_rfl) (by kernel_rfl) (fun _ _ _ h => h) (Or.inl ⟨by kernel_rfl, ?_⟩) (by assumption) ?_
  rotate_left
  focus (intro w hSw; obtain ⟨_, _, hSa0, hSa1, hSb0, hSb1⟩ := hSw; go_simp; (try with_reducible rfl))
  (try simp only [Act.put, List.setIfInBounds_toArray, List.set_cons_zero, List.set_cons_succ, List.getElem_toArray, List.getElem_cons_zero, List.getElem_cons_succ])
  refine wpAnyH_take (i := 5) (v := ?_) rfl (by kernel_rfl) (by kernel_rfl) (by kernel_rfl) (fun _ _ _ h => h) (Or.inl ⟨by kernel_rfl, ?_⟩) (by assumption) ?_
  rotate_left
  focus (intro w hSw; obtain ⟨_, _, hSa0, hSa1, hSb0, hSb1⟩ := hSw; go_simp; (try with_reducible rfl))
  (try simp only [Act.put, List.setIfInBounds_toArray, List.set_cons_zero, List.set_cons_succ, List.getElem_toArray, List.getElem_cons_zero, List.getElem_cons_succ])
  refine wpAnyH_ready (rs := [6]) (by kernel_rfl) (by simp) ?_
  refine AllReadyH.cons rfl (fun K hK => ?_) AllReadyH.nil
  go_simp
  go_at_call 28; refine (sum_subR y x (.slice q m c2) (.slice p n c1) hy hx (by omega) _ (RB.out.below' hHeld.below) (RA.out.below' hHeld.below)).mono ?_
  rintro e w1 ⟨s, ds, rfl, hs, hok, hval, hlen, hb1⟩
  have hH1 := hHeld.go hb1
  have hR2 := hR1.go hHeld.size hb1
  have HS := Lib.hid hs
  have HV := Lib.hid hval
  clear hs hval
  refine hK.out _ _ hH1 (fun _ => ?_)
  clear hK K hHeld hR1 hb1
  (try simp only [Act.put, List.setIfInBounds_toArray, List.set_cons_zero, List.set_cons_succ, List.getElem_toArray, List.getElem_cons_zero, List.getElem_cons_succ])
  refine wpAnyH_ready (rs := [7]) (by kernel_rfl) (by simp) ?_
  refine AllReadyH.cons rfl (fun K hK => ?_) AllReadyH.nil
  go_simp
  go_at_call 27; refine (trim_any (!g) s ds (by omega) _ HS.out).mono ?_
  rintro e w2 ⟨s2, rfl, hs2, hb2⟩
  have hH2 := hH1.go hb2
  have hR3 := hR2.go hH1.size hb2
  obtain ⟨p2, cap2, rfl⟩ := hs2.shape
  have HS2 := Lib.hid hs2
  clear hs2
  refine hK.out _ _ hH2 (fun _ => ?_)
  clear hK K hH1 hR2 hb2 HS
  (try simp only [Act.put, List.setIfInBounds_toArray, List.set_cons_zero, List.set_cons_succ, List.getElem_toArray, List.getElem_cons_zero, List.getElem_cons_succ])
  refine wpAnyH_ready (rs := [8]) (by kernel_rfl) (by simp) ?_
  refine AllReadyH.cons rfl (fun K hK => ?_) AllReadyH.nil
  obtain ⟨hr0, hr1, hf0, hf1, hkind⟩ := hR3
  have HKD := Lib.hid hkind
  clear hkind
  go_simp
  refine hK.out _ _ ((hH2.setCell 0 _).setCell 1 _) (fun _ => ?_)
  clear hK K
  (try simp only [Act.put, List.setIfInBounds_toArray, List.set_cons_zero, List.set_cons_succ, List.getElem_toArray, List.getElem_cons_zero, List.getElem_cons_succ])
  refine wpAnyH_done (by kernel_rfl) ?_ _
  have hcut : Hid (cut ds = digs (y - x)) := by
    unfold Hid
    rw [cut_digs hok, HV.out]
    exact congrArg digs (by omega)
  go_wp2
  refine bodyPost_ret (v := .agg #[.bool ((!g) && !decide (cut ds = [])), .slice p2 (cut ds).length cap2]) (by simp [results, Try.results7, go_sem, *]) rfl ⟨.slice p2 (cut ds).length cap2, ?_, ?_, ?_⟩
  · rw [hcut.out]; simp
  · rw [← hcut.out]
    exact HS2.out.setCell2 HKD.out (by decide) _ _
  · exact (hH2.below.setCell (by simp; omega) _).setCell (by simp; omega) _

end Go.Proofs.Ytfhidjldmopbgaa

