/-
  The contracts of the reference's Quotient.
  Conditions: those of each theorem.
-/
import Derived.Test.YtalonppmoimmjaaZG
set_option linter.unusedSimpArgs false
set_option linter.unusedVariables false
namespace Go.Proofs.Ytalonppmoimmjaa
open Go.RowKit Go.Shelf Zd Wd

theorem quot_low (v : Value) (a d : Int) (up : Bool) (d0 : d < 1) (w : World) (hA : IsZ w v a) :
    Calls Try.prog 38 #[v, .int .i64 d, .bool up] w fun e w' => e = .returned (.tuple #[.int .i64 0, .int .i64 1]) ∧ Below w.heap.size w w' := by
  obtain ⟨g, p, n, c, rfl⟩ := hA.shape
  clear hA
  go_enter Try.func38, Try.ntmps38
  go_wp2
  go_ret2
  exact ⟨rfl, by go_grown⟩

set_option maxRecDepth 100000 in
set_option maxHeartbeats 4000000 in
theorem quot_down_ok (v : Value) (a d : Int) (hla : (digs a.natAbs).length ≤ 100000) (d0 : 1 ≤ d) (d2 : d ≤ 9223372036854775807) (hfit : -9223372036854775808 ≤ a / d ∧ a / d ≤ 9223372036854775807) (w : World) (hA : IsZ w v a) :
    Calls Try.prog 38 #[v, .int .i64 d, .bool false] w fun e w' => e = .returned (.tuple #[.int .i64 (a / d), .int .i64 0]) ∧ Below w.heap.size w w' := by
  have d1 : -9223372036854775808 ≤ d := by omega
  have hd0 : d ≠ 0 := by omega
  replace hla : (digs a.natAbs).length ≤ 400000 := by omega
  have hld : (digs d.natAbs).length ≤ 400000 := Nat.le_trans (digs_len (k := 4) (by omega)) (by decide)
  have hsm : Sm (a / d) := by exact (floor_sm hd0 hla)
  have hV : smV (a / d) = a / d := if_pos hfit
  have hE : smB (a / d) = true := decide_eq_true hfit
  have HV := Lib.hid hV
  have HE := Lib.hid hE
  clear hV hE
  obtain ⟨g, p, n, c, rfl⟩ := hA.shape
  obtain ⟨W, hW, h0, b1⟩ := boot1 w (.bool g) (.slice p n c)
  have HW := Lib.hid hW
  clear hW
  replace hA := hA.go h0
  go_enter Try.func38, Try.ntmps38
  go_wp2
  rw [← HW.out]
  clear HW
  refine wp_region_last (S := fun W' => Bx W' (w.heap.size) 27 (.bool g) (.slice p n c)) (m := 5) (by kernel_rfl) (by kernel_rfl) (by kernel_rfl) (b1.drew) (fun _ => ?_)
  replace hA := hA.drew
  replace b1 := b1.drew
  replace h0 := Below.drew h0
  generalize W.drew = W at hA b1 h0 ⊢
  refine wpAnyH_take (i := 0) (v := ?_) rfl (by kernel_rfl) (by kernel_rfl) (by kernel_rfl) (fun _ _ _ h => h) (Or.inl ⟨by kernel_rfl, ?_⟩) (b1) ?_
  rotate_left
  focus (intro W' hSw; have hx0 := hSw; (try dsimp only at hx0); have hc0 := hx0.c0; have hc1 := hx0.c1; clear hx0; go_simp; (try with_reducible rfl))
  (try simp only [Act.put, List.setIfInBounds_toArray, List.set_cons_zero, List.set_cons_succ, List.getElem_toArray, List.getElem_cons_zero, List.getElem_cons_succ])
  refine wpAnyH_take (i := 1) (v := ?_) rfl (by kernel_rfl) (by kernel_rfl) (by kernel_rfl) (fun _ _ _ h => h) (Or.inl ⟨by kernel_rfl, ?_⟩) (b1) ?_
  rotate_left
  focus (intro W' hSw; have hx0 := hSw; (try dsimp only at hx0); have hc0 := hx0.c0; have hc1 := hx0.c1; clear hx0; go_simp; (try with_reducible rfl))
  (try simp only [Act.put, List.setIfInBounds_toArray, List.set_cons_zero, List.set_cons_succ, List.getElem_toArray, List.getElem_cons_zero, List.getElem_cons_succ])
  refine wpAnyH_ready (rs := [2, 4]) (by kernel_rfl) (by simp) ?_
  refine AllReadyH.cons rfl (fun K hK => ?_) (AllReadyH.cons rfl (fun K hK => ?_) (AllReadyH.nil))
  · go_simp
    go_at_call 25; refine (i_any d d1 d2 _).mono ?_
    rintro e Wi ⟨u, rfl, hi, hb⟩
    obtain ⟨gi, pi, ni, ci, rfl⟩ := hi.shape
    replace hA := hA.go hb
    replace b1 := b1.go hb
    replace h0 := bel_go h0 h0.size hb
    clear hb
    refine hK.out _ _ (b1) (fun _ => ?_)
    clear hK K
    (try simp only [Act.put, List.setIfInBounds_toArray, List.set_cons_zero, List.set_cons_succ, List.getElem_toArray, List.getElem_cons_zero, List.getElem_cons_succ])
    refine wpAnyH_ready (rs := [3, 4]) (by kernel_rfl) (by simp) ?_
    refine AllReadyH.cons rfl (fun K hK => ?_) (AllReadyH.cons rfl (fun K hK => ?_) (AllReadyH.nil))
    · go_simp
      go_at_call 106; refine (zfloor_any _ _ _ _ hd0 hla hld _ hA hi).mono ?_
      rintro e Wq ⟨u, rfl, hq, hb⟩
      obtain ⟨gq, pq, nq, cq, rfl⟩ := hq.shape
      replace hA := hA.go hb
      replace hi := hi.go hb
      replace b1 := b1.go hb
      replace h0 := bel_go h0 h0.size hb
      clear hb
      refine hK.out _ _ (b1) (fun _ => ?_)
      clear hK K
      (try simp only [Act.put, List.setIfInBounds_toArray, List.set_cons_zero, List.set_cons_succ, List.getElem_toArray, List.getElem_cons_zero, List.getElem_cons_succ])
      refine wpAnyH_ready (rs := [4]) (by kernel_rfl) (by simp) ?_
      refine AllReadyH.cons rfl (fun K hK => ?_) (AllReadyH.nil)
      go_simp
      have hal : Below Wq.heap.size Wq (Wq.alloc (.cells #[.bool false, .slice none 0 0] 27)) := (Below.refl _ _).alloc (Nat.le_refl _) _
      have bq := Bx.new Wq 27 (.bool false) (.slice none 0 0)
      have sl_bq := Lib.hid (show w.heap.size ≤ Wq.heap.size from h0.size)
      have l_bq_b1 := Lib.hid b1.lt
      replace hA := hA.go hal
      replace hi := hi.go hal
      replace hq := hq.go hal
      replace b1 := b1.go hal
      replace h0 := bel_go h0 h0.size hal
      clear hal
      generalize Wq.heap.size = Bbq at bq sl_bq l_bq_b1 ⊢
      generalize Wq.alloc (.cells #[.bool false, .slice none 0 0] 27) = Vbq at hA hi hq b1 bq h0 ⊢
      refine hK.out _ _ (b1) (fun _ => ?_)
      clear hK K
      (try simp only [Act.put, List.setIfInBounds_toArray, List.set_cons_zero, List.set_cons_succ, List.getElem_toArray, List.getElem_cons_zero, List.getElem_cons_succ])
      refine wpAnyH_done (by kernel_rfl) ?_ _
      refine still1_step rfl (fun K hK => ?_)
      have hq0 := bq.c0
      have hq1 := bq.c1
      have hr0 := bq.f0
      have hr1 := bq.f1
      go_simp
      clear hq0 hq1 hr0 hr1
      have hP := put2 Vbq (Bbq) (.bool gq) (.slice pq nq cq)
      have hN := bq.stored (.bool gq) (.slice pq nq cq)
      generalize (Vbq.setCell ⟨Bbq, 0, none⟩ (.bool gq)).setCell ⟨Bbq, 1, none⟩ (.slice pq nq cq) = VS at hP hN ⊢
      replace hA := hA.put bq (by decide) hP
      replace hi := hi.put bq (by decide) hP
      replace hq := hq.put bq (by decide) hP
      replace h0 := bel_put h0 (by have := sl_bq.out; omega) hP
      replace b1 := b1.put hP (by have := l_bq_b1.out; omega)
      clear hP bq
      have bq := hN
      clear hN
      refine hK.out _ _ ?_
      clear hK K
      (try simp only [Act.put, List.setIfInBounds_toArray, List.set_cons_zero, List.set_cons_succ, List.getElem_toArray, List.getElem_cons_zero, List.getElem_cons_succ])
      have c10 := b1.c0
      have hq0 := bq.c0
      have hq1 := bq.c1
      go_wp2_with (first
        | (go_at_call 101; (with_reducible refine (zsmall_any _ _ hsm _ hq).mono ?_); rintro e WE ⟨rfl, hb⟩
           rw [HE.out]
           rw [HV.out]
           replace h0 := bel_go h0 h0.size hb
           clear hb))
      go_ret2
      exact ⟨rfl, h0⟩
    · go_simp
      have hal : Below Wi.heap.size Wi (Wi.alloc (.cells #[.bool false, .slice none 0 0] 27)) := (Below.refl _ _).alloc (Nat.le_refl _) _
      have bq := Bx.new Wi 27 (.bool false) (.slice none 0 0)
      have sl_bq := Lib.hid (show w.heap.size ≤ Wi.heap.size from h0.size)
      have l_bq_b1 := Lib.hid b1.lt
      replace hA := hA.go hal
      replace hi := hi.go hal
      replace b1 := b1.go hal
      replace h0 := bel_go h0 h0.size hal
      clear hal
      generalize Wi.heap.size = Bbq at bq sl_bq l_bq_b1 ⊢
      generalize Wi.alloc (.cells #[.bool false, .slice none 0 0] 27) = Vbq at hA hi b1 bq h0 ⊢
      refine hK.out _ _ (b1) (fun _ => ?_)
      clear hK K
      (try simp only [Act.put, List.setIfInBounds_toArray, List.set_cons_zero, List.set_cons_succ, List.getElem_toArray, List.getElem_cons_zero, List.getElem_cons_succ])
      refine wpAnyH_ready (rs := [3]) (by kernel_rfl) (by simp) ?_
      refine AllReadyH.cons rfl (fun K hK => ?_) (AllReadyH.nil)
      go_simp
      go_at_call 106; refine (zfloor_any _ _ _ _ hd0 hla hld _ hA hi).mono ?_
      rintro e Wq ⟨u, rfl, hq, hb⟩
      obtain ⟨gq, pq, nq, cq, rfl⟩ := hq.shape
      replace hA := hA.go hb
      replace hi := hi.go hb
      replace b1 := b1.go hb
      replace bq := bq.go hb
      replace h0 := bel_go h0 h0.size hb
      clear hb
      refine hK.out _ _ (b1) (fun _ => ?_)
      clear hK K
      (try simp only [Act.put, List.setIfInBounds_toArray, List.set_cons_zero, List.set_cons_succ, List.getElem_toArray, List.getElem_cons_zero, List.getElem_cons_succ])
      refine wpAnyH_done (by kernel_rfl) ?_ _
      refine still1_step rfl (fun K hK => ?_)
      have hq0 := bq.c0
      have hq1 := bq.c1
      have hr0 := bq.f0
      have hr1 := bq.f1
      go_simp
      clear hq0 hq1 hr0 hr1
      have hP := put2 Wq (Bbq) (.bool gq) (.slice pq nq cq)
      have hN := bq.stored (.bool gq) (.slice pq nq cq)
      generalize (Wq.setCell ⟨Bbq, 0, none⟩ (.bool gq)).setCell ⟨Bbq, 1, none⟩ (.slice pq nq cq) = VS at hP hN ⊢
      replace hA := hA.put bq (by decide) hP
      replace hi := hi.put bq (by decide) hP
      replace hq := hq.put bq (by decide) hP
      replace h0 := bel_put h0 (by have := sl_bq.out; omega) hP
      replace b1 := b1.put hP (by have := l_bq_b1.out; omega)
      clear hP bq
      have bq := hN
      clear hN
      refine hK.out _ _ ?_
      clear hK K
      (try simp only [Act.put, List.setIfInBounds_toArray, List.set_cons_zero, List.set_cons_succ, List.getElem_toArray, List.getElem_cons_zero, List.getElem_cons_succ])
      have c10 := b1.c0
      have hq0 := bq.c0
      have hq1 := bq.c1
      go_wp2_with (first
        | (go_at_call 101; (with_reducible refine (zsmall_any _ _ hsm _ hq).mono ?_); rintro e WE ⟨rfl, hb⟩
           rw [HE.out]
           rw [HV.out]
           replace h0 := bel_go h0 h0.size hb
           clear hb))
      go_ret2
      exact ⟨rfl, h0⟩
  · go_simp
    have hal : Below W.heap.size W (W.alloc (.cells #[.bool false, .slice none 0 0] 27)) := (Below.refl _ _).alloc (Nat.le_refl _) _
    have bq := Bx.new W 27 (.bool false) (.slice none 0 0)
    have sl_bq := Lib.hid (show w.heap.size ≤ W.heap.size from h0.size)
    have l_bq_b1 := Lib.hid b1.lt
    replace hA := hA.go hal
    replace b1 := b1.go hal
    replace h0 := bel_go h0 h0.size hal
    clear hal
    generalize W.heap.size = Bbq at bq sl_bq l_bq_b1 ⊢
    generalize W.alloc (.cells #[.bool false, .slice none 0 0] 27) = Vbq at hA b1 bq h0 ⊢
    refine hK.out _ _ (b1) (fun _ => ?_)
    clear hK K
    (try simp only [Act.put, List.setIfInBounds_toArray, List.set_cons_zero, List.set_cons_succ, List.getElem_toArray, List.getElem_cons_zero, List.getElem_cons_succ])
    refine wpAnyH_ready (rs := [2]) (by kernel_rfl) (by simp) ?_
    refine AllReadyH.cons rfl (fun K hK => ?_) (AllReadyH.nil)
    go_simp
    go_at_call 25; refine (i_any d d1 d2 _).mono ?_
    rintro e Wi ⟨u, rfl, hi, hb⟩
    obtain ⟨gi, pi, ni, ci, rfl⟩ := hi.shape
    replace hA := hA.go hb
    replace b1 := b1.go hb
    replace bq := bq.go hb
    replace h0 := bel_go h0 h0.size hb
    clear hb
    refine hK.out _ _ (b1) (fun _ => ?_)
    clear hK K
    (try simp only [Act.put, List.setIfInBounds_toArray, List.set_cons_zero, List.set_cons_succ, List.getElem_toArray, List.getElem_cons_zero, List.getElem_cons_succ])
    refine wpAnyH_ready (rs := [3]) (by kernel_rfl) (by simp) ?_
    refine AllReadyH.cons rfl (fun K hK => ?_) (AllReadyH.nil)
    go_simp
    go_at_call 106; refine (zfloor_any _ _ _ _ hd0 hla hld _ hA hi).mono ?_
    rintro e Wq ⟨u, rfl, hq, hb⟩
    obtain ⟨gq, pq, nq, cq, rfl⟩ := hq.shape
    replace hA := hA.go hb
    replace hi := hi.go hb
    replace b1 := b1.go hb
    replace bq := bq.go hb
    replace h0 := bel_go h0 h0.size hb
    clear hb
    refine hK.out _ _ (b1) (fun _ => ?_)
    clear hK K
    (try simp only [Act.put, List.setIfInBounds_toArray, List.set_cons_zero, List.set_cons_succ, List.getElem_toArray, List.getElem_cons_zero, List.getElem_cons_succ])
    refine wpAnyH_done (by kernel_rfl) ?_ _
    refine still1_step rfl (fun K hK => ?_)
    have hq0 := bq.c0
    have hq1 := bq.c1
    have hr0 := bq.f0
    have hr1 := bq.f1
    go_simp
    clear hq0 hq1 hr0 hr1
    have hP := put2 Wq (Bbq) (.bool gq) (.slice pq nq cq)
    have hN := bq.stored (.bool gq) (.slice pq nq cq)
    generalize (Wq.setCell ⟨Bbq, 0, none⟩ (.bool gq)).setCell ⟨Bbq, 1, none⟩ (.slice pq nq cq) = VS at hP hN ⊢
    replace hA := hA.put bq (by decide) hP
    replace hi := hi.put bq (by decide) hP
    replace hq := hq.put bq (by decide) hP
    replace h0 := bel_put h0 (by have := sl_bq.out; omega) hP
    replace b1 := b1.put hP (by have := l_bq_b1.out; omega)
    clear hP bq
    have bq := hN
    clear hN
    refine hK.out _ _ ?_
    clear hK K
    (try simp only [Act.put, List.setIfInBounds_toArray, List.set_cons_zero, List.set_cons_succ, List.getElem_toArray, List.getElem_cons_zero, List.getElem_cons_succ])
    have c10 := b1.c0
    have hq0 := bq.c0
    have hq1 := bq.c1
    go_wp2_with (first
      | (go_at_call 101; (with_reducible refine (zsmall_any _ _ hsm _ hq).mono ?_); rintro e WE ⟨rfl, hb⟩
         rw [HE.out]
         rw [HV.out]
         replace h0 := bel_go h0 h0.size hb
         clear hb))
    go_ret2
    exact ⟨rfl, h0⟩

set_option maxRecDepth 100000 in
set_option maxHeartbeats 4000000 in
theorem quot_down_no (v : Value) (a d : Int) (hla : (digs a.natAbs).length ≤ 100000) (d0 : 1 ≤ d) (d2 : d ≤ 9223372036854775807) (hfit : ¬ (-9223372036854775808 ≤ a / d ∧ a / d ≤ 9223372036854775807)) (w : World) (hA : IsZ w v a) :
    Calls Try.prog 38 #[v, .int .i64 d, .bool false] w fun e w' => e = .returned (.tuple #[.int .i64 (0), .int .i64 2]) ∧ Below w.heap.size w w' := by
  have d1 : -9223372036854775808 ≤ d := by omega
  have hd0 : d ≠ 0 := by omega
  replace hla : (digs a.natAbs).length ≤ 400000 := by omega
  have hld : (digs d.natAbs).length ≤ 400000 := Nat.le_trans (digs_len (k := 4) (by omega)) (by decide)
  have hsm : Sm (a / d) := by exact (floor_sm hd0 hla)
  have hV : smV (a / d) = 0 := if_neg hfit
  have hE : smB (a / d) = false := decide_eq_false hfit
  have HV := Lib.hid hV
  have HE := Lib.hid hE
  clear hV hE
  obtain ⟨g, p, n, c, rfl⟩ := hA.shape
  obtain ⟨W, hW, h0, b1⟩ := boot1 w (.bool g) (.slice p n c)
  have HW := Lib.hid hW
  clear hW
  replace hA := hA.go h0
  go_enter Try.func38, Try.ntmps38
  go_wp2
  rw [← HW.out]
  clear HW
  refine wp_region_last (S := fun W' => Bx W' (w.heap.size) 27 (.bool g) (.slice p n c)) (m := 5) (by kernel_rfl) (by kernel_rfl) (by kernel_rfl) (b1.drew) (fun _ => ?_)
  replace hA := hA.drew
  replace b1 := b1.drew
  replace h0 := Below.drew h0
  generalize W.drew = W at hA b1 h0 ⊢
  refine wpAnyH_take (i := 0) (v := ?_) rfl (by kernel_rfl) (by kernel_rfl) (by kernel_rfl) (fun _ _ _ h => h) (Or.inl ⟨by kernel_rfl, ?_⟩) (b1) ?_
  rotate_left
  focus (intro W' hSw; have hx0 := hSw; (try dsimp only at hx0); have hc0 := hx0.c0; have hc1 := hx0.c1; clear hx0; go_simp; (try with_reducible rfl))
  (try simp only [Act.put, List.setIfInBounds_toArray, List.set_cons_zero, List.set_cons_succ, List.getElem_toArray, List.getElem_cons_zero, List.getElem_cons_succ])
  refine wpAnyH_take (i := 1) (v := ?_) rfl (by kernel_rfl) (by kernel_rfl) (by kernel_rfl) (fun _ _ _ h => h) (Or.inl ⟨by kernel_rfl, ?_⟩) (b1) ?_
  rotate_left
  focus (intro W' hSw; have hx0 := hSw; (try dsimp only at hx0); have hc0 := hx0.c0; have hc1 := hx0.c1; clear hx0; go_simp; (try with_reducible rfl))
  (try simp only [Act.put, List.setIfInBounds_toArray, List.set_cons_zero, List.set_cons_succ, List.getElem_toArray, List.getElem_cons_zero, List.getElem_cons_succ])
  refine wpAnyH_ready (rs := [2, 4]) (by kernel_rfl) (by simp) ?_
  refine AllReadyH.cons rfl (fun K hK => ?_) (AllReadyH.cons rfl (fun K hK => ?_) (AllReadyH.nil))
  · go_simp
    go_at_call 25; refine (i_any d d1 d2 _).mono ?_
    rintro e Wi ⟨u, rfl, hi, hb⟩
    obtain ⟨gi, pi, ni, ci, rfl⟩ := hi.shape
    replace hA := hA.go hb
    replace b1 := b1.go hb
    replace h0 := bel_go h0 h0.size hb
    clear hb
    refine hK.out _ _ (b1) (fun _ => ?_)
    clear hK K
    (try simp only [Act.put, List.setIfInBounds_toArray, List.set_cons_zero, List.set_cons_succ, List.getElem_toArray, List.getElem_cons_zero, List.getElem_cons_succ])
    refine wpAnyH_ready (rs := [3, 4]) (by kernel_rfl) (by simp) ?_
    refine AllReadyH.cons rfl (fun K hK => ?_) (AllReadyH.cons rfl (fun K hK => ?_) (AllReadyH.nil))
    · go_simp
      go_at_call 106; refine (zfloor_any _ _ _ _ hd0 hla hld _ hA hi).mono ?_
      rintro e Wq ⟨u, rfl, hq, hb⟩
      obtain ⟨gq, pq, nq, cq, rfl⟩ := hq.shape
      replace hA := hA.go hb
      replace hi := hi.go hb
      replace b1 := b1.go hb
      replace h0 := bel_go h0 h0.size hb
      clear hb
      refine hK.out _ _ (b1) (fun _ => ?_)
      clear hK K
      (try simp only [Act.put, List.setIfInBounds_toArray, List.set_cons_zero, List.set_cons_succ, List.getElem_toArray, List.getElem_cons_zero, List.getElem_cons_succ])
      refine wpAnyH_ready (rs := [4]) (by kernel_rfl) (by simp) ?_
      refine AllReadyH.cons rfl (fun K hK => ?_) (AllReadyH.nil)
      go_simp
      have hal : Below Wq.heap.size Wq (Wq.alloc (.cells #[.bool false, .slice none 0 0] 27)) := (Below.refl _ _).alloc (Nat.le_refl _) _
      have bq := Bx.new Wq 27 (.bool false) (.slice none 0 0)
      have sl_bq := Lib.hid (show w.heap.size ≤ Wq.heap.size from h0.size)
      have l_bq_b1 := Lib.hid b1.lt
      replace hA := hA.go hal
      replace hi := hi.go hal
      replace hq := hq.go hal
      replace b1 := b1.go hal
      replace h0 := bel_go h0 h0.size hal
      clear hal
      generalize Wq.heap.size = Bbq at bq sl_bq l_bq_b1 ⊢
      generalize Wq.alloc (.cells #[.bool false, .slice none 0 0] 27) = Vbq at hA hi hq b1 bq h0 ⊢
      refine hK.out _ _ (b1) (fun _ => ?_)
      clear hK K
      (try simp only [Act.put, List.setIfInBounds_toArray, List.set_cons_zero, List.set_cons_succ, List.getElem_toArray, List.getElem_cons_zero, List.getElem_cons_succ])
      refine wpAnyH_done (by kernel_rfl) ?_ _
      refine still1_step rfl (fun K hK => ?_)
      have hq0 := bq.c0
      have hq1 := bq.c1
      have hr0 := bq.f0
      have hr1 := bq.f1
      go_simp
      clear hq0 hq1 hr0 hr1
      have hP := put2 Vbq (Bbq) (.bool gq) (.slice pq nq cq)
      have hN := bq.stored (.bool gq) (.slice pq nq cq)
      generalize (Vbq.setCell ⟨Bbq, 0, none⟩ (.bool gq)).setCell ⟨Bbq, 1, none⟩ (.slice pq nq cq) = VS at hP hN ⊢
      replace hA := hA.put bq (by decide) hP
      replace hi := hi.put bq (by decide) hP
      replace hq := hq.put bq (by decide) hP
      replace h0 := bel_put h0 (by have := sl_bq.out; omega) hP
      replace b1 := b1.put hP (by have := l_bq_b1.out; omega)
      clear hP bq
      have bq := hN
      clear hN
      refine hK.out _ _ ?_
      clear hK K
      (try simp only [Act.put, List.setIfInBounds_toArray, List.set_cons_zero, List.set_cons_succ, List.getElem_toArray, List.getElem_cons_zero, List.getElem_cons_succ])
      have c10 := b1.c0
      have hq0 := bq.c0
      have hq1 := bq.c1
      go_wp2_with (first
        | (go_at_call 101; (with_reducible refine (zsmall_any _ _ hsm _ hq).mono ?_); rintro e WE ⟨rfl, hb⟩
           rw [HE.out]
           rw [HV.out]
           replace h0 := bel_go h0 h0.size hb
           clear hb))
      go_ret2
      exact ⟨rfl, h0⟩
    · go_simp
      have hal : Below Wi.heap.size Wi (Wi.alloc (.cells #[.bool false, .slice none 0 0] 27)) := (Below.refl _ _).alloc (Nat.le_refl _) _
      have bq := Bx.new Wi 27 (.bool false) (.slice none 0 0)
      have sl_bq := Lib.hid (show w.heap.size ≤ Wi.heap.size from h0.size)
      have l_bq_b1 := Lib.hid b1.lt
      replace hA := hA.go hal
      replace hi := hi.go hal
      replace b1 := b1.go hal
      replace h0 := bel_go h0 h0.size hal
      clear hal
      generalize Wi.heap.size = Bbq at bq sl_bq l_bq_b1 ⊢
      generalize Wi.alloc (.cells #[.bool false, .slice none 0 0] 27) = Vbq at hA hi b1 bq h0 ⊢
      refine hK.out _ _ (b1) (fun _ => ?_)
      clear hK K
      (try simp only [Act.put, List.setIfInBounds_toArray, List.set_cons_zero, List.set_cons_succ, List.getElem_toArray, List.getElem_cons_zero, List.getElem_cons_succ])
      refine wpAnyH_ready (rs := [3]) (by kernel_rfl) (by simp) ?_
      refine AllReadyH.cons rfl (fun K hK => ?_) (AllReadyH.nil)
      go_simp
      go_at_call 106; refine (zfloor_any _ _ _ _ hd0 hla hld _ hA hi).mono ?_
      rintro e Wq ⟨u, rfl, hq, hb⟩
      obtain ⟨gq, pq, nq, cq, rfl⟩ := hq.shape
      replace hA := hA.go hb
      replace hi := hi.go hb
      replace b1 := b1.go hb
      replace bq := bq.go hb
      replace h0 := bel_go h0 h0.size hb
      clear hb
      refine hK.out _ _ (b1) (fun _ => ?_)
      clear hK K
      (try simp only [Act.put, List.setIfInBounds_toArray, List.set_cons_zero, List.set_cons_succ, List.getElem_toArray, List.getElem_cons_zero, List.getElem_cons_succ])
      refine wpAnyH_done (by kernel_rfl) ?_ _
      refine still1_step rfl (fun K hK => ?_)
      have hq0 := bq.c0
      have hq1 := bq.c1
      have hr0 := bq.f0
      have hr1 := bq.f1
      go_simp
      clear hq0 hq1 hr0 hr1
      have hP := put2 Wq (Bbq) (.bool gq) (.slice pq nq cq)
      have hN := bq.stored (.bool gq) (.slice pq nq cq)
      generalize (Wq.setCell ⟨Bbq, 0, none⟩ (.bool gq)).setCell ⟨Bbq, 1, none⟩ (.slice pq nq cq) = VS at hP hN ⊢
      replace hA := hA.put bq (by decide) hP
      replace hi := hi.put bq (by decide) hP
      replace hq := hq.put bq (by decide) hP
      replace h0 := bel_put h0 (by have := sl_bq.out; omega) hP
      replace b1 := b1.put hP (by have := l_bq_b1.out; omega)
      clear hP bq
      have bq := hN
      clear hN
      refine hK.out _ _ ?_
      clear hK K
      (try simp only [Act.put, List.setIfInBounds_toArray, List.set_cons_zero, List.set_cons_succ, List.getElem_toArray, List.getElem_cons_zero, List.getElem_cons_succ])
      have c10 := b1.c0
      have hq0 := bq.c0
      have hq1 := bq.c1
      go_wp2_with (first
        | (go_at_call 101; (with_reducible refine (zsmall_any _ _ hsm _ hq).mono ?_); rintro e WE ⟨rfl, hb⟩
           rw [HE.out]
           rw [HV.out]
           replace h0 := bel_go h0 h0.size hb
           clear hb))
      go_ret2
      exact ⟨rfl, h0⟩
  · go_simp
    have hal : Below W.heap.size W (W.alloc (.cells #[.bool false, .slice none 0 0] 27)) := (Below.refl _ _).alloc (Nat.le_refl _) _
    have bq := Bx.new W 27 (.bool false) (.slice none 0 0)
    have sl_bq := Lib.hid (show w.heap.size ≤ W.heap.size from h0.size)
    have l_bq_b1 := Lib.hid b1.lt
    replace hA := hA.go hal
    replace b1 := b1.go hal
    replace h0 := bel_go h0 h0.size hal
    clear hal
    generalize W.heap.size = Bbq at bq sl_bq l_bq_b1 ⊢
    generalize W.alloc (.cells #[.bool false, .slice none 0 0] 27) = Vbq at hA b1 bq h0 ⊢
    refine hK.out _ _ (b1) (fun _ => ?_)
    clear hK K
    (try simp only [Act.put, List.setIfInBounds_toArray, List.set_cons_zero, List.set_cons_succ, List.getElem_toArray, List.getElem_cons_zero, List.getElem_cons_succ])
    refine wpAnyH_ready (rs := [2]) (by kernel_rfl) (by simp) ?_
    refine AllReadyH.cons rfl (fun K hK => ?_) (AllReadyH.nil)
    go_simp
    go_at_call 25; refine (i_any d d1 d2 _).mono ?_
    rintro e Wi ⟨u, rfl, hi, hb⟩
    obtain ⟨gi, pi, ni, ci, rfl⟩ := hi.shape
    replace hA := hA.go hb
    replace b1 := b1.go hb
    replace bq := bq.go hb
    replace h0 := bel_go h0 h0.size hb
    clear hb
    refine hK.out _ _ (b1) (fun _ => ?_)
    clear hK K
    (try simp only [Act.put, List.setIfInBounds_toArray, List.set_cons_zero, List.set_cons_succ, List.getElem_toArray, List.getElem_cons_zero, List.getElem_cons_succ])
    refine wpAnyH_ready (rs := [3]) (by kernel_rfl) (by simp) ?_
    refine AllReadyH.cons rfl (fun K hK => ?_) (AllReadyH.nil)
    go_simp
    go_at_call 106; refine (zfloor_any _ _ _ _ hd0 hla hld _ hA hi).mono ?_
    rintro e Wq ⟨u, rfl, hq, hb⟩
    obtain ⟨gq, pq, nq, cq, rfl⟩ := hq.shape
    replace hA := hA.go hb
    replace hi := hi.go hb
    replace b1 := b1.go hb
    replace bq := bq.go hb
    replace h0 := bel_go h0 h0.size hb
    clear hb
    refine hK.out _ _ (b1) (fun _ => ?_)
    clear hK K
    (try simp only [Act.put, List.setIfInBounds_toArray, List.set_cons_zero, List.set_cons_succ, List.getElem_toArray, List.getElem_cons_zero, List.getElem_cons_succ])
    refine wpAnyH_done (by kernel_rfl) ?_ _
    refine still1_step rfl (fun K hK => ?_)
    have hq0 := bq.c0
    have hq1 := bq.c1
    have hr0 := bq.f0
    have hr1 := bq.f1
    go_simp
    clear hq0 hq1 hr0 hr1
    have hP := put2 Wq (Bbq) (.bool gq) (.slice pq nq cq)
    have hN := bq.stored (.bool gq) (.slice pq nq cq)
    generalize (Wq.setCell ⟨Bbq, 0, none⟩ (.bool gq)).setCell ⟨Bbq, 1, none⟩ (.slice pq nq cq) = VS at hP hN ⊢
    replace hA := hA.put bq (by decide) hP
    replace hi := hi.put bq (by decide) hP
    replace hq := hq.put bq (by decide) hP
    replace h0 := bel_put h0 (by have := sl_bq.out; omega) hP
    replace b1 := b1.put hP (by have := l_bq_b1.out; omega)
    clear hP bq
    have bq := hN
    clear hN
    refine hK.out _ _ ?_
    clear hK K
    (try simp only [Act.put, List.setIfInBounds_toArray, List.set_cons_zero, List.set_cons_succ, List.getElem_toArray, List.getElem_cons_zero, List.getElem_cons_succ])
    have c10 := b1.c0
    have hq0 := bq.c0
    have hq1 := bq.c1
    go_wp2_with (first
      | (go_at_call 101; (with_reducible refine (zsmall_any _ _ hsm _ hq).mono ?_); rintro e WE ⟨rfl, hb⟩
         rw [HE.out]
         rw [HV.out]
         replace h0 := bel_go h0 h0.size hb
         clear hb))
    go_ret2
    exact ⟨rfl, h0⟩

set_option maxRecDepth 100000 in
set_option maxHeartbeats 4000000 in
theorem quot_up_ok (v : Value) (a d : Int) (hla : (digs a.natAbs).length ≤ 100000) (d0 : 1 ≤ d) (d2 : d ≤ 9223372036854775807) (hfit : -9223372036854775808 ≤ -(-a / d) ∧ -(-a / d) ≤ 9223372036854775807) (w : World) (hA : IsZ w v a) :
    Calls Try.prog 38 #[v, .int .i64 d, .bool true] w fun e w' => e = .returned (.tuple #[.int .i64 (-(-a / d)), .int .i64 0]) ∧ Below w.heap.size w w' := by
  have d1 : -9223372036854775808 ≤ d := by omega
  have hd0 : d ≠ 0 := by omega
  replace hla : (digs a.natAbs).length ≤ 400000 := by omega
  have hld : (digs d.natAbs).length ≤ 400000 := Nat.le_trans (digs_len (k := 4) (by omega)) (by decide)
  have hsm : Sm (-(-a / d)) := by exact sm_neg (floor_sm hd0 (by rw [Int.natAbs_neg]; exact hla))
  have hV : smV (-(-a / d)) = -(-a / d) := if_pos hfit
  have hE : smB (-(-a / d)) = true := decide_eq_true hfit
  have HV := Lib.hid hV
  have HE := Lib.hid hE
  clear hV hE
  obtain ⟨g, p, n, c, rfl⟩ := hA.shape
  obtain ⟨W, hW, h0, b1⟩ := boot1 w (.bool g) (.slice p n c)
  have HW := Lib.hid hW
  clear hW
  replace hA := hA.go h0
  go_enter Try.func38, Try.ntmps38
  go_wp2
  rw [← HW.out]
  clear HW
  refine wp_region_last (S := fun W' => Bx W' (w.heap.size) 27 (.bool g) (.slice p n c)) (m := 5) (by kernel_rfl) (by kernel_rfl) (by kernel_rfl) (b1.drew) (fun _ => ?_)
  replace hA := hA.drew
  replace b1 := b1.drew
  replace h0 := Below.drew h0
  generalize W.drew = W at hA b1 h0 ⊢
  refine wpAnyH_take (i := 0) (v := ?_) rfl (by kernel_rfl) (by kernel_rfl) (by kernel_rfl) (fun _ _ _ h => h) (Or.inl ⟨by kernel_rfl, ?_⟩) (b1) ?_
  rotate_left
  focus (intro W' hSw; have hx0 := hSw; (try dsimp only at hx0); have hc0 := hx0.c0; have hc1 := hx0.c1; clear hx0; go_simp; (try with_reducible rfl))
  (try simp only [Act.put, List.setIfInBounds_toArray, List.set_cons_zero, List.set_cons_succ, List.getElem_toArray, List.getElem_cons_zero, List.getElem_cons_succ])
  refine wpAnyH_take (i := 1) (v := ?_) rfl (by kernel_rfl) (by kernel_rfl) (by kernel_rfl) (fun _ _ _ h => h) (Or.inl ⟨by kernel_rfl, ?_⟩) (b1) ?_
  rotate_left
  focus (intro W' hSw; have hx0 := hSw; (try dsimp only at hx0); have hc0 := hx0.c0; have hc1 := hx0.c1; clear hx0; go_simp; (try with_reducible rfl))
  (try simp only [Act.put, List.setIfInBounds_toArray, List.set_cons_zero, List.set_cons_succ, List.getElem_toArray, List.getElem_cons_zero, List.getElem_cons_succ])
  refine wpAnyH_ready (rs := [2, 4]) (by kernel_rfl) (by simp) ?_
  refine AllReadyH.cons rfl (fun K hK => ?_) (AllReadyH.cons rfl (fun K hK => ?_) (AllReadyH.nil))
  · go_simp
    go_at_call 25; refine (i_any d d1 d2 _).mono ?_
    rintro e Wi ⟨u, rfl, hi, hb⟩
    obtain ⟨gi, pi, ni, ci, rfl⟩ := hi.shape
    replace hA := hA.go hb
    replace b1 := b1.go hb
    replace h0 := bel_go h0 h0.size hb
    clear hb
    refine hK.out _ _ (b1) (fun _ => ?_)
    clear hK K
    (try simp only [Act.put, List.setIfInBounds_toArray, List.set_cons_zero, List.set_cons_succ, List.getElem_toArray, List.getElem_cons_zero, List.getElem_cons_succ])
    refine wpAnyH_ready (rs := [3, 4]) (by kernel_rfl) (by simp) ?_
    refine AllReadyH.cons rfl (fun K hK => ?_) (AllReadyH.cons rfl (fun K hK => ?_) (AllReadyH.nil))
    · go_simp
      go_at_call 106; refine (zfloor_any _ _ _ _ hd0 hla hld _ hA hi).mono ?_
      rintro e Wq ⟨u, rfl, hq, hb⟩
      obtain ⟨gq, pq, nq, cq, rfl⟩ := hq.shape
      replace hA := hA.go hb
      replace hi := hi.go hb
      replace b1 := b1.go hb
      replace h0 := bel_go h0 h0.size hb
      clear hb
      refine hK.out _ _ (b1) (fun _ => ?_)
      clear hK K
      (try simp only [Act.put, List.setIfInBounds_toArray, List.set_cons_zero, List.set_cons_succ, List.getElem_toArray, List.getElem_cons_zero, List.getElem_cons_succ])
      refine wpAnyH_ready (rs := [4]) (by kernel_rfl) (by simp) ?_
      refine AllReadyH.cons rfl (fun K hK => ?_) (AllReadyH.nil)
      go_simp
      have hal : Below Wq.heap.size Wq (Wq.alloc (.cells #[.bool false, .slice none 0 0] 27)) := (Below.refl _ _).alloc (Nat.le_refl _) _
      have bq := Bx.new Wq 27 (.bool false) (.slice none 0 0)
      have sl_bq := Lib.hid (show w.heap.size ≤ Wq.heap.size from h0.size)
      have l_bq_b1 := Lib.hid b1.lt
      replace hA := hA.go hal
      replace hi := hi.go hal
      replace hq := hq.go hal
      replace b1 := b1.go hal
      replace h0 := bel_go h0 h0.size hal
      clear hal
      generalize Wq.heap.size = Bbq at bq sl_bq l_bq_b1 ⊢
      generalize Wq.alloc (.cells #[.bool false, .slice none 0 0] 27) = Vbq at hA hi hq b1 bq h0 ⊢
      refine hK.out _ _ (b1) (fun _ => ?_)
      clear hK K
      (try simp only [Act.put, List.setIfInBounds_toArray, List.set_cons_zero, List.set_cons_succ, List.getElem_toArray, List.getElem_cons_zero, List.getElem_cons_succ])
      refine wpAnyH_done (by kernel_rfl) ?_ _
      refine still1_step rfl (fun K hK => ?_)
      have hq0 := bq.c0
      have hq1 := bq.c1
      have hr0 := bq.f0
      have hr1 := bq.f1
      go_simp
      clear hq0 hq1 hr0 hr1
      have hP := put2 Vbq (Bbq) (.bool gq) (.slice pq nq cq)
      have hN := bq.stored (.bool gq) (.slice pq nq cq)
      generalize (Vbq.setCell ⟨Bbq, 0, none⟩ (.bool gq)).setCell ⟨Bbq, 1, none⟩ (.slice pq nq cq) = VS at hP hN ⊢
      replace hA := hA.put bq (by decide) hP
      replace hi := hi.put bq (by decide) hP
      replace hq := hq.put bq (by decide) hP
      replace h0 := bel_put h0 (by have := sl_bq.out; omega) hP
      replace b1 := b1.put hP (by have := l_bq_b1.out; omega)
      clear hP bq
      have bq := hN
      clear hN
      refine hK.out _ _ ?_
      clear hK K
      (try simp only [Act.put, List.setIfInBounds_toArray, List.set_cons_zero, List.set_cons_succ, List.getElem_toArray, List.getElem_cons_zero, List.getElem_cons_succ])
      have c10 := b1.c0
      have hq0 := bq.c0
      have hq1 := bq.c1
      go_wp2
      clear c10 hq0 hq1
      refine wp_region_last (S := fun W' => Bx W' (w.heap.size) 27 (.bool g) (.slice p n c)) (m := 4) (by kernel_rfl) (by kernel_rfl) (by kernel_rfl) (b1.drew) (fun _ => ?_)
      replace hA := hA.drew
      replace b1 := b1.drew
      replace bq := bq.drew
      replace h0 := Below.drew h0
      generalize VS.drew = VS at hA b1 bq h0 ⊢
      refine wpAnyH_take (i := 0) (v := ?_) rfl (by kernel_rfl) (by kernel_rfl) (by kernel_rfl) (fun _ _ _ h => h) (Or.inl ⟨by kernel_rfl, ?_⟩) (b1) ?_
      rotate_left
      focus (intro W' hSw; have hx0 := hSw; (try dsimp only at hx0); have hc0 := hx0.c0; have hc1 := hx0.c1; clear hx0; go_simp; (try with_reducible rfl))
      (try simp only [Act.put, List.setIfInBounds_toArray, List.set_cons_zero, List.set_cons_succ, List.getElem_toArray, List.getElem_cons_zero, List.getElem_cons_succ])
      refine wpAnyH_take (i := 1) (v := ?_) rfl (by kernel_rfl) (by kernel_rfl) (by kernel_rfl) (fun _ _ _ h => h) (Or.inl ⟨by kernel_rfl, ?_⟩) (b1) ?_
      rotate_left
      focus (intro W' hSw; have hx0 := hSw; (try dsimp only at hx0); have hc0 := hx0.c0; have hc1 := hx0.c1; clear hx0; go_simp; (try with_reducible rfl))
      (try simp only [Act.put, List.setIfInBounds_toArray, List.set_cons_zero, List.set_cons_succ, List.getElem_toArray, List.getElem_cons_zero, List.getElem_cons_succ])
      refine wpAnyH_ready (rs := [2]) (by kernel_rfl) (by simp) ?_
      refine AllReadyH.cons rfl (fun K hK => ?_) (AllReadyH.nil)
      go_simp
      go_at_call 25; refine (i_any d d1 d2 _).mono ?_
      rintro e Wj ⟨u, rfl, hj, hb⟩
      obtain ⟨gj, pj, nj, cj, rfl⟩ := hj.shape
      replace hA := hA.go hb
      replace b1 := b1.go hb
      replace bq := bq.go hb
      replace h0 := bel_go h0 h0.size hb
      clear hb
      refine hK.out _ _ (b1) (fun _ => ?_)
      clear hK K
      (try simp only [Act.put, List.setIfInBounds_toArray, List.set_cons_zero, List.set_cons_succ, List.getElem_toArray, List.getElem_cons_zero, List.getElem_cons_succ])
      refine wpAnyH_ready (rs := [3]) (by kernel_rfl) (by simp) ?_
      refine AllReadyH.cons rfl (fun K hK => ?_) (AllReadyH.nil)
      go_simp
      go_at_call 36; refine (zceil_any _ _ _ _ hd0 hla hld _ hA hj).mono ?_
      rintro e Wu ⟨u, rfl, hu, hb⟩
      obtain ⟨gu, pu, nu, cu, rfl⟩ := hu.shape
      replace hA := hA.go hb
      replace hj := hj.go hb
      replace b1 := b1.go hb
      replace bq := bq.go hb
      replace h0 := bel_go h0 h0.size hb
      clear hb
      refine hK.out _ _ (b1) (fun _ => ?_)
      clear hK K
      (try simp only [Act.put, List.setIfInBounds_toArray, List.set_cons_zero, List.set_cons_succ, List.getElem_toArray, List.getElem_cons_zero, List.getElem_cons_succ])
      refine wpAnyH_done (by kernel_rfl) ?_ _
      refine still1_step rfl (fun K hK => ?_)
      have hq0 := bq.c0
      have hq1 := bq.c1
      have hr0 := bq.f0
      have hr1 := bq.f1
      go_simp
      clear hq0 hq1 hr0 hr1
      have hP := put2 Wu (Bbq) (.bool gu) (.slice pu nu cu)
      have hN := bq.stored (.bool gu) (.slice pu nu cu)
      generalize (Wu.setCell ⟨Bbq, 0, none⟩ (.bool gu)).setCell ⟨Bbq, 1, none⟩ (.slice pu nu cu) = VS at hP hN ⊢
      replace hA := hA.put bq (by decide) hP
      replace hj := hj.put bq (by decide) hP
      replace hu := hu.put bq (by decide) hP
      replace h0 := bel_put h0 (by have := sl_bq.out; omega) hP
      replace b1 := b1.put hP (by have := l_bq_b1.out; omega)
      clear hP bq
      have bq := hN
      clear hN
      refine hK.out _ _ ?_
      clear hK K
      (try simp only [Act.put, List.setIfInBounds_toArray, List.set_cons_zero, List.set_cons_succ, List.getElem_toArray, List.getElem_cons_zero, List.getElem_cons_succ])
      have hq0 := bq.c0
      have hq1 := bq.c1
      go_wp2_with (first
        | (go_at_call 101; (with_reducible refine (zsmall_any _ _ hsm _ hu).mono ?_); rintro e WE ⟨rfl, hb⟩
           rw [HE.out]
           rw [HV.out]
           replace h0 := bel_go h0 h0.size hb
           clear hb))
      go_ret2
      exact ⟨rfl, h0⟩
    · go_simp
      have hal : Below Wi.heap.size Wi (Wi.alloc (.cells #[.bool false, .slice none 0 0] 27)) := (Below.refl _ _).alloc (Nat.le_refl _) _
      have bq := Bx.new Wi 27 (.bool false) (.slice none 0 0)
      have sl_bq := Lib.hid (show w.heap.size ≤ Wi.heap.size from h0.size)
      have l_bq_b1 := Lib.hid b1.lt
      replace hA := hA.go hal
      replace hi := hi.go hal
      replace b1 := b1.go hal
      replace h0 := bel_go h0 h0.size hal
      clear hal
      generalize Wi.heap.size = Bbq at bq sl_bq l_bq_b1 ⊢
      generalize Wi.alloc (.cells #[.bool false, .slice none 0 0] 27) = Vbq at hA hi b1 bq h0 ⊢
      refine hK.out _ _ (b1) (fun _ => ?_)
      clear hK K
      (try simp only [Act.put, List.setIfInBounds_toArray, List.set_cons_zero, List.set_cons_succ, List.getElem_toArray, List.getElem_cons_zero, List.getElem_cons_succ])
      refine wpAnyH_ready (rs := [3]) (by kernel_rfl) (by simp) ?_
      refine AllReadyH.cons rfl (fun K hK => ?_) (AllReadyH.nil)
      go_simp
      go_at_call 106; refine (zfloor_any _ _ _ _ hd0 hla hld _ hA hi).mono ?_
      rintro e Wq ⟨u, rfl, hq, hb⟩
      obtain ⟨gq, pq, nq, cq, rfl⟩ := hq.shape
      replace hA := hA.go hb
      replace hi := hi.go hb
      replace b1 := b1.go hb
      replace bq := bq.go hb
      replace h0 := bel_go h0 h0.size hb
      clear hb
      refine hK.out _ _ (b1) (fun _ => ?_)
      clear hK K
      (try simp only [Act.put, List.setIfInBounds_toArray, List.set_cons_zero, List.set_cons_succ, List.getElem_toArray, List.getElem_cons_zero, List.getElem_cons_succ])
      refine wpAnyH_done (by kernel_rfl) ?_ _
      refine still1_step rfl (fun K hK => ?_)
      have hq0 := bq.c0
      have hq1 := bq.c1
      have hr0 := bq.f0
      have hr1 := bq.f1
      go_simp
      clear hq0 hq1 hr0 hr1
      have hP := put2 Wq (Bbq) (.bool gq) (.slice pq nq cq)
      have hN := bq.stored (.bool gq) (.slice pq nq cq)
      generalize (Wq.setCell ⟨Bbq, 0, none⟩ (.bool gq)).setCell ⟨Bbq, 1, none⟩ (.slice pq nq cq) = VS at hP hN ⊢
      replace hA := hA.put bq (by decide) hP
      replace hi := hi.put bq (by decide) hP
      replace hq := hq.put bq (by decide) hP
      replace h0 := bel_put h0 (by have := sl_bq.out; omega) hP
      replace b1 := b1.put hP (by have := l_bq_b1.out; omega)
      clear hP bq
      have bq := hN
      clear hN
      refine hK.out _ _ ?_
      clear hK K
      (try simp only [Act.put, List.setIfInBounds_toArray, List.set_cons_zero, List.set_cons_succ, List.getElem_toArray, List.getElem_cons_zero, List.getElem_cons_succ])
      have c10 := b1.c0
      have hq0 := bq.c0
      have hq1 := bq.c1
      go_wp2
      clear c10 hq0 hq1
      refine wp_region_last (S := fun W' => Bx W' (w.heap.size) 27 (.bool g) (.slice p n c)) (m := 4) (by kernel_rfl) (by kernel_rfl) (by kernel_rfl) (b1.drew) (fun _ => ?_)
      replace hA := hA.drew
      replace b1 := b1.drew
      replace bq := bq.drew
      replace h0 := Below.drew h0
      generalize VS.drew = VS at hA b1 bq h0 ⊢
      refine wpAnyH_take (i := 0) (v := ?_) rfl (by kernel_rfl) (by kernel_rfl) (by kernel_rfl) (fun _ _ _ h => h) (Or.inl ⟨by kernel_rfl, ?_⟩) (b1) ?_
      rotate_left
      focus (intro W' hSw; have hx0 := hSw; (try dsimp only at hx0); have hc0 := hx0.c0; have hc1 := hx0.c1; clear hx0; go_simp; (try with_reducible rfl))
      (try simp only [Act.put, List.setIfInBounds_toArray, List.set_cons_zero, List.set_cons_succ, List.getElem_toArray, List.getElem_cons_zero, List.getElem_cons_succ])
      refine wpAnyH_take (i := 1) (v := ?_) rfl (by kernel_rfl) (by kernel_rfl) (by kernel_rfl) (fun _ _ _ h => h) (Or.inl ⟨by kernel_rfl, ?_⟩) (b1) ?_
      rotate_left
      focus (intro W' hSw; have hx0 := hSw; (try dsimp only at hx0); have hc0 := hx0.c0; have hc1 := hx0.c1; clear hx0; go_simp; (try with_reducible rfl))
      (try simp only [Act.put, List.setIfInBounds_toArray, List.set_cons_zero, List.set_cons_succ, List.getElem_toArray, List.getElem_cons_zero, List.getElem_cons_succ])
      refine wpAnyH_ready (rs := [2]) (by kernel_rfl) (by simp) ?_
      refine AllReadyH.cons rfl (fun K hK => ?_) (AllReadyH.nil)
      go_simp
      go_at_call 25; refine (i_any d d1 d2 _).mono ?_
      rintro e Wj ⟨u, rfl, hj, hb⟩
      obtain ⟨gj, pj, nj, cj, rfl⟩ := hj.shape
      replace hA := hA.go hb
      replace b1 := b1.go hb
      replace bq := bq.go hb
      replace h0 := bel_go h0 h0.size hb
      clear hb
      refine hK.out _ _ (b1) (fun _ => ?_)
      clear hK K
      (try simp only [Act.put, List.setIfInBounds_toArray, List.set_cons_zero, List.set_cons_succ, List.getElem_toArray, List.getElem_cons_zero, List.getElem_cons_succ])
      refine wpAnyH_ready (rs := [3]) (by kernel_rfl) (by simp) ?_
      refine AllReadyH.cons rfl (fun K hK => ?_) (AllReadyH.nil)
      go_simp
      go_at_call 36; refine (zceil_any _ _ _ _ hd0 hla hld _ hA hj).mono ?_
      rintro e Wu ⟨u, rfl, hu, hb⟩
      obtain ⟨gu, pu, nu, cu, rfl⟩ := hu.shape
      replace hA := hA.go hb
      replace hj := hj.go hb
      replace b1 := b1.go hb
      replace bq := bq.go hb
      replace h0 := bel_go h0 h0.size hb
      clear hb
      refine hK.out _ _ (b1) (fun _ => ?_)
      clear hK K
      (try simp only [Act.put, List.setIfInBounds_toArray, List.set_cons_zero, List.set_cons_succ, List.getElem_toArray, List.getElem_cons_zero, List.getElem_cons_succ])
      refine wpAnyH_done (by kernel_rfl) ?_ _
      refine still1_step rfl (fun K hK => ?_)
      have hq0 := bq.c0
      have hq1 := bq.c1
      have hr0 := bq.f0
      have hr1 := bq.f1
      go_simp
      clear hq0 hq1 hr0 hr1
      have hP := put2 Wu (Bbq) (.bool gu) (.slice pu nu cu)
      have hN := bq.stored (.bool gu) (.slice pu nu cu)
      generalize (Wu.setCell ⟨Bbq, 0, none⟩ (.bool gu)).setCell ⟨Bbq, 1, none⟩ (.slice pu nu cu) = VS at hP hN ⊢
      replace hA := hA.put bq (by decide) hP
      replace hj := hj.put bq (by decide) hP
      replace hu := hu.put bq (by decide) hP
      replace h0 := bel_put h0 (by have := sl_bq.out; omega) hP
      replace b1 := b1.put hP (by have := l_bq_b1.out; omega)
      clear hP bq
      have bq := hN
      clear hN
      refine hK.out _ _ ?_
      clear hK K
      (try simp only [Act.put, List.setIfInBounds_toArray, List.set_cons_zero, List.set_cons_succ, List.getElem_toArray, List.getElem_cons_zero, List.getElem_cons_succ])
      have hq0 := bq.c0
      have hq1 := bq.c1
      go_wp2_with (first
        | (go_at_call 101; (with_reducible refine (zsmall_any _ _ hsm _ hu).mono ?_); rintro e WE ⟨rfl, hb⟩
           rw [HE.out]
           rw [HV.out]
           replace h0 := bel_go h0 h0.size hb
           clear hb))
      go_ret2
      exact ⟨rfl, h0⟩
  · go_simp
    have hal : Below W.heap.size W (W.alloc (.cells #[.bool false, .slice none 0 0] 27)) := (Below.refl _ _).alloc (Nat.le_refl _) _
    have bq := Bx.new W 27 (.bool false) (.slice none 0 0)
    have sl_bq := Lib.hid (show w.heap.size ≤ W.heap.size from h0.size)
    have l_bq_b1 := Lib.hid b1.lt
    replace hA := hA.go hal
    replace b1 := b1.go hal
    replace h0 := bel_go h0 h0.size hal
    clear hal
    generalize W.heap.size = Bbq at bq sl_bq l_bq_b1 ⊢
    generalize W.alloc (.cells #[.bool false, .slice none 0 0] 27) = Vbq at hA b1 bq h0 ⊢
    refine hK.out _ _ (b1) (fun _ => ?_)
    clear hK K
    (try simp only [Act.put, List.setIfInBounds_toArray, List.set_cons_zero, List.set_cons_succ, List.getElem_toArray, List.getElem_cons_zero, List.getElem_cons_succ])
    refine wpAnyH_ready (rs := [2]) (by kernel_rfl) (by simp) ?_
    refine AllReadyH.cons rfl (fun K hK => ?_) (AllReadyH.nil)
    go_simp
    go_at_call 25; refine (i_any d d1 d2 _).mono ?_
    rintro e Wi ⟨u, rfl, hi, hb⟩
    obtain ⟨gi, pi, ni, ci, rfl⟩ := hi.shape
    replace hA := hA.go hb
    replace b1 := b1.go hb
    replace bq := bq.go hb
    replace h0 := bel_go h0 h0.size hb
    clear hb
    refine hK.out _ _ (b1) (fun _ => ?_)
    clear hK K
    (try simp only [Act.put, List.setIfInBounds_toArray, List.set_cons_zero, List.set_cons_succ, List.getElem_toArray, List.getElem_cons_zero, List.getElem_cons_succ])
    refine wpAnyH_ready (rs := [3]) (by kernel_rfl) (by simp) ?_
    refine AllReadyH.cons rfl (fun K hK => ?_) (AllReadyH.nil)
    go_simp
    go_at_call 106; refine (zfloor_any _ _ _ _ hd0 hla hld _ hA hi).mono ?_
    rintro e Wq ⟨u, rfl, hq, hb⟩
    obtain ⟨gq, pq, nq, cq, rfl⟩ := hq.shape
    replace hA := hA.go hb
    replace hi := hi.go hb
    replace b1 := b1.go hb
    replace bq := bq.go hb
    replace h0 := bel_go h0 h0.size hb
    clear hb
    refine hK.out _ _ (b1) (fun _ => ?_)
    clear hK K
    (try simp only [Act.put, List.setIfInBounds_toArray, List.set_cons_zero, List.set_cons_succ, List.getElem_toArray, List.getElem_cons_zero, List.getElem_cons_succ])
    refine wpAnyH_done (by kernel_rfl) ?_ _
    refine still1_step rfl (fun K hK => ?_)
    have hq0 := bq.c0
    have hq1 := bq.c1
    have hr0 := bq.f0
    have hr1 := bq.f1
    go_simp
    clear hq0 hq1 hr0 hr1
    have hP := put2 Wq (Bbq) (.bool gq) (.slice pq nq cq)
    have hN := bq.stored (.bool gq) (.slice pq nq cq)
    generalize (Wq.setCell ⟨Bbq, 0, none⟩ (.bool gq)).setCell ⟨Bbq, 1, none⟩ (.slice pq nq cq) = VS at hP hN ⊢
    replace hA := hA.put bq (by decide) hP
    replace hi := hi.put bq (by decide) hP
    replace hq := hq.put bq (by decide) hP
    replace h0 := bel_put h0 (by have := sl_bq.out; omega) hP
    replace b1 := b1.put hP (by have := l_bq_b1.out; omega)
    clear hP bq
    have bq := hN
    clear hN
    refine hK.out _ _ ?_
    clear hK K
    (try simp only [Act.put, List.setIfInBounds_toArray, List.set_cons_zero, List.set_cons_succ, List.getElem_toArray, List.getElem_cons_zero, List.getElem_cons_succ])
    have c10 := b1.c0
    have hq0 := bq.c0
    have hq1 := bq.c1
    go_wp2
    clear c10 hq0 hq1
    refine wp_region_last (S := fun W' => Bx W' (w.heap.size) 27 (.bool g) (.slice p n c)) (m := 4) (by kernel_rfl) (by kernel_rfl) (by kernel_rfl) (b1.drew) (fun _ => ?_)
    replace hA := hA.drew
    replace b1 := b1.drew
    replace bq := bq.drew
    replace h0 := Below.drew h0
    generalize VS.drew = VS at hA b1 bq h0 ⊢
    refine wpAnyH_take (i := 0) (v := ?_) rfl (by kernel_rfl) (by kernel_rfl) (by kernel_rfl) (fun _ _ _ h => h) (Or.inl ⟨by kernel_rfl, ?_⟩) (b1) ?_
    rotate_left
    focus (intro W' hSw; have hx0 := hSw; (try dsimp only at hx0); have hc0 := hx0.c0; have hc1 := hx0.c1; clear hx0; go_simp; (try with_reducible rfl))
    (try simp only [Act.put, List.setIfInBounds_toArray, List.set_cons_zero, List.set_cons_succ, List.getElem_toArray, List.getElem_cons_zero, List.getElem_cons_succ])
    refine wpAnyH_take (i := 1) (v := ?_) rfl (by kernel_rfl) (by kernel_rfl) (by kernel_rfl) (fun _ _ _ h => h) (Or.inl ⟨by kernel_rfl, ?_⟩) (b1) ?_
    rotate_left
    focus (intro W' hSw; have hx0 := hSw; (try dsimp only at hx0); have hc0 := hx0.c0; have hc1 := hx0.c1; clear hx0; go_simp; (try with_reducible rfl))
    (try simp only [Act.put, List.setIfInBounds_toArray, List.set_cons_zero, List.set_cons_succ, List.getElem_toArray, List.getElem_cons_zero, List.getElem_cons_succ])
    refine wpAnyH_ready (rs := [2]) (by kernel_rfl) (by simp) ?_
    refine AllReadyH.cons rfl (fun K hK => ?_) (AllReadyH.nil)
    go_simp
    go_at_call 25; refine (i_any d d1 d2 _).mono ?_
    rintro e Wj ⟨u, rfl, hj, hb⟩
    obtain ⟨gj, pj, nj, cj, rfl⟩ := hj.shape
    replace hA := hA.go hb
    replace b1 := b1.go hb
    replace bq := bq.go hb
    replace h0 := bel_go h0 h0.size hb
    clear hb
    refine hK.out _ _ (b1) (fun _ => ?_)
    clear hK K
    (try simp only [Act.put, List.setIfInBounds_toArray, List.set_cons_zero, List.set_cons_succ, List.getElem_toArray, List.getElem_cons_zero, List.getElem_cons_succ])
    refine wpAnyH_ready (rs := [3]) (by kernel_rfl) (by simp) ?_
    refine AllReadyH.cons rfl (fun K hK => ?_) (AllReadyH.nil)
    go_simp
    go_at_call 36; refine (zceil_any _ _ _ _ hd0 hla hld _ hA hj).mono ?_
    rintro e Wu ⟨u, rfl, hu, hb⟩
    obtain ⟨gu, pu, nu, cu, rfl⟩ := hu.shape
    replace hA := hA.go hb
    replace hj := hj.go hb
    replace b1 := b1.go hb
    replace bq := bq.go hb
    replace h0 := bel_go h0 h0.size hb
    clear hb
    refine hK.out _ _ (b1) (fun _ => ?_)
    clear hK K
    (try simp only [Act.put, List.setIfInBounds_toArray, List.set_cons_zero, List.set_cons_succ, List.getElem_toArray, List.getElem_cons_zero, List.getElem_cons_succ])
    refine wpAnyH_done (by kernel_rfl) ?_ _
    refine still1_step rfl (fun K hK => ?_)
    have hq0 := bq.c0
    have hq1 := bq.c1
    have hr0 := bq.f0
    have hr1 := bq.f1
    go_simp
    clear hq0 hq1 hr0 hr1
    have hP := put2 Wu (Bbq) (.bool gu) (.slice pu nu cu)
    have hN := bq.stored (.bool gu) (.slice pu nu cu)
    generalize (Wu.setCell ⟨Bbq, 0, none⟩ (.bool gu)).setCell ⟨Bbq, 1, none⟩ (.slice pu nu cu) = VS at hP hN ⊢
    replace hA := hA.put bq (by decide) hP
    replace hj := hj.put bq (by decide) hP
    replace hu := hu.put bq (by decide) hP
    replace h0 := bel_put h0 (by have := sl_bq.out; omega) hP
    replace b1 := b1.put hP (by have := l_bq_b1.out; omega)
    clear hP bq
    have bq := hN
    clear hN
    refine hK.out _ _ ?_
    clear hK K
    (try simp only [Act.put, List.setIfInBounds_toArray, List.set_cons_zero, List.set_cons_succ, List.getElem_toArray, List.getElem_cons_zero, List.getElem_cons_succ])
    have hq0 := bq.c0
    have hq1 := bq.c1
    go_wp2_with (first
      | (go_at_call 101; (with_reducible refine (zsmall_any _ _ hsm _ hu).mono ?_); rintro e WE ⟨rfl, hb⟩
         rw [HE.out]
         rw [HV.out]
         replace h0 := bel_go h0 h0.size hb
         clear hb))
    go_ret2
    exact ⟨rfl, h0⟩

set_option maxRecDepth 100000 in
set_option maxHeartbeats 4000000 in
theorem quot_up_no (v : Value) (a d : Int) (hla : (digs a.natAbs).length ≤ 100000) (d0 : 1 ≤ d) (d2 : d ≤ 9223372036854775807) (hfit : ¬ (-9223372036854775808 ≤ -(-a / d) ∧ -(-a / d) ≤ 9223372036854775807)) (w : World) (hA : IsZ w v a) :
    Calls Try.prog 38 #[v, .int .i64 d, .bool true] w fun e w' => e = .returned (.tuple #[.int .i64 (0), .int .i64 2]) ∧ Below w.heap.size w w' := by
  have d1 : -9223372036854775808 ≤ d := by omega
  have hd0 : d ≠ 0 := by omega
  replace hla : (digs a.natAbs).length ≤ 400000 := by omega
  have hld : (digs d.natAbs).length ≤ 400000 := Nat.le_trans (digs_len (k := 4) (by omega)) (by decide)
  have hsm : Sm (-(-a / d)) := by exact sm_neg (floor_sm hd0 (by rw [Int.natAbs_neg]; exact hla))
  have hV : smV (-(-a / d)) = 0 := if_neg hfit
  have hE : smB (-(-a / d)) = false := decide_eq_false hfit
  have HV := Lib.hid hV
  have HE := Lib.hid hE
  clear hV hE
  obtain ⟨g, p, n, c, rfl⟩ := hA.shape
  obtain ⟨W, hW, h0, b1⟩ := boot1 w (.bool g) (.slice p n c)
  have HW := Lib.hid hW
  clear hW
  replace hA := hA.go h0
  go_enter Try.func38, Try.ntmps38
  go_wp2
  rw [← HW.out]
  clear HW
  refine wp_region_last (S := fun W' => Bx W' (w.heap.size) 27 (.bool g) (.slice p n c)) (m := 5) (by kernel_rfl) (by kernel_rfl) (by kernel_rfl) (b1.drew) (fun _ => ?_)
  replace hA := hA.drew
  replace b1 := b1.drew
  replace h0 := Below.drew h0
  generalize W.drew = W at hA b1 h0 ⊢
  refine wpAnyH_take (i := 0) (v := ?_) rfl (by kernel_rfl) (by kernel_rfl) (by kernel_rfl) (fun _ _ _ h => h) (Or.inl ⟨by kernel_rfl, ?_⟩) (b1) ?_
  rotate_left
  focus (intro W' hSw; have hx0 := hSw; (try dsimp only at hx0); have hc0 := hx0.c0; have hc1 := hx0.c1; clear hx0; go_simp; (try with_reducible rfl))
  (try simp only [Act.put, List.setIfInBounds_toArray, List.set_cons_zero, List.set_cons_succ, List.getElem_toArray, List.getElem_cons_zero, List.getElem_cons_succ])
  refine wpAnyH_take (i := 1) (v := ?_) rfl (by kernel_rfl) (by kernel_rfl) (by kernel_rfl) (fun _ _ _ h => h) (Or.inl ⟨by kernel_rfl, ?_⟩) (b1) ?_
  rotate_left
  focus (intro W' hSw; have hx0 := hSw; (try dsimp only at hx0); have hc0 := hx0.c0; have hc1 := hx0.c1; clear hx0; go_simp; (try with_reducible rfl))
  (try simp only [Act.put, List.setIfInBounds_toArray, List.set_cons_zero, List.set_cons_succ, List.getElem_toArray, List.getElem_cons_zero, List.getElem_cons_succ])
  refine wpAnyH_ready (rs := [2, 4]) (by kernel_rfl) (by simp) ?_
  refine AllReadyH.cons rfl (fun K hK => ?_) (AllReadyH.cons rfl (fun K hK => ?_) (AllReadyH.nil))
  · go_simp
    go_at_call 25; refine (i_any d d1 d2 _).mono ?_
    rintro e Wi ⟨u, rfl, hi, hb⟩
    obtain ⟨gi, pi, ni, ci, rfl⟩ := hi.shape
    replace hA := hA.go hb
    replace b1 := b1.go hb
    replace h0 := bel_go h0 h0.size hb
    clear hb
    refine hK.out _ _ (b1) (fun _ => ?_)
    clear hK K
    (try simp only [Act.put, List.setIfInBounds_toArray, List.set_cons_zero, List.set_cons_succ, List.getElem_toArray, List.getElem_cons_zero, List.getElem_cons_succ])
    refine wpAnyH_ready (rs := [3, 4]) (by kernel_rfl) (by simp) ?_
    refine AllReadyH.cons rfl (fun K hK => ?_) (AllReadyH.cons rfl (fun K hK => ?_) (AllReadyH.nil))
    · go_simp
      go_at_call 106; refine (zfloor_any _ _ _ _ hd0 hla hld _ hA hi).mono ?_
      rintro e Wq ⟨u, rfl, hq, hb⟩
      obtain ⟨gq, pq, nq, cq, rfl⟩ := hq.shape
      replace hA := hA.go hb
      replace hi := hi.go hb
      replace b1 := b1.go hb
      replace h0 := bel_go h0 h0.size hb
      clear hb
      refine hK.out _ _ (b1) (fun _ => ?_)
      clear hK K
      (try simp only [Act.put, List.setIfInBounds_toArray, List.set_cons_zero, List.set_cons_succ, List.getElem_toArray, List.getElem_cons_zero, List.getElem_cons_succ])
      refine wpAnyH_ready (rs := [4]) (by kernel_rfl) (by simp) ?_
      refine AllReadyH.cons rfl (fun K hK => ?_) (AllReadyH.nil)
      go_simp
      have hal : Below Wq.heap.size Wq (Wq.alloc (.cells #[.bool false, .slice none 0 0] 27)) := (Below.refl _ _).alloc (Nat.le_refl _) _
      have bq := Bx.new Wq 27 (.bool false) (.slice none 0 0)
      have sl_bq := Lib.hid (show w.heap.size ≤ Wq.heap.size from h0.size)
      have l_bq_b1 := Lib.hid b1.lt
      replace hA := hA.go hal
      replace hi := hi.go hal
      replace hq := hq.go hal
      replace b1 := b1.go hal
      replace h0 := bel_go h0 h0.size hal
      clear hal
      generalize Wq.heap.size = Bbq at bq sl_bq l_bq_b1 ⊢
      generalize Wq.alloc (.cells #[.bool false, .slice none 0 0] 27) = Vbq at hA hi hq b1 bq h0 ⊢
      refine hK.out _ _ (b1) (fun _ => ?_)
      clear hK K
      (try simp only [Act.put, List.setIfInBounds_toArray, List.set_cons_zero, List.set_cons_succ, List.getElem_toArray, List.getElem_cons_zero, List.getElem_cons_succ])
      refine wpAnyH_done (by kernel_rfl) ?_ _
      refine still1_step rfl (fun K hK => ?_)
      have hq0 := bq.c0
      have hq1 := bq.c1
      have hr0 := bq.f0
      have hr1 := bq.f1
      go_simp
      clear hq0 hq1 hr0 hr1
      have hP := put2 Vbq (Bbq) (.bool gq) (.slice pq nq cq)
      have hN := bq.stored (.bool gq) (.slice pq nq cq)
      generalize (Vbq.setCell ⟨Bbq, 0, none⟩ (.bool gq)).setCell ⟨Bbq, 1, none⟩ (.slice pq nq cq) = VS at hP hN ⊢
      replace hA := hA.put bq (by decide) hP
      replace hi := hi.put bq (by decide) hP
      replace hq := hq.put bq (by decide) hP
      replace h0 := bel_put h0 (by have := sl_bq.out; omega) hP
      replace b1 := b1.put hP (by have := l_bq_b1.out; omega)
      clear hP bq
      have bq := hN
      clear hN
      refine hK.out _ _ ?_
      clear hK K
      (try simp only [Act.put, List.setIfInBounds_toArray, List.set_cons_zero, List.set_cons_succ, List.getElem_toArray, List.getElem_cons_zero, List.getElem_cons_succ])
      have c10 := b1.c0
      have hq0 := bq.c0
      have hq1 := bq.c1
      go_wp2
      clear c10 hq0 hq1
      refine wp_region_last (S := fun W' => Bx W' (w.heap.size) 27 (.bool g) (.slice p n c)) (m := 4) (by kernel_rfl) (by kernel_rfl) (by kernel_rfl) (b1.drew) (fun _ => ?_)
      replace hA := hA.drew
      replace b1 := b1.drew
      replace bq := bq.drew
      replace h0 := Below.drew h0
      generalize VS.drew = VS at hA b1 bq h0 ⊢
      refine wpAnyH_take (i := 0) (v := ?_) rfl (by kernel_rfl) (by kernel_rfl) (by kernel_rfl) (fun _ _ _ h => h) (Or.inl ⟨by kernel_rfl, ?_⟩) (b1) ?_
      rotate_left
      focus (intro W' hSw; have hx0 := hSw; (try dsimp only at hx0); have hc0 := hx0.c0; have hc1 := hx0.c1; clear hx0; go_simp; (try with_reducible rfl))
      (try simp only [Act.put, List.setIfInBounds_toArray, List.set_cons_zero, List.set_cons_succ, List.getElem_toArray, List.getElem_cons_zero, List.getElem_cons_succ])
      refine wpAnyH_take (i := 1) (v := ?_) rfl (by kernel_rfl) (by kernel_rfl) (by kernel_rfl) (fun _ _ _ h => h) (Or.inl ⟨by kernel_rfl, ?_⟩) (b1) ?_
      rotate_left
      focus (intro W' hSw; have hx0 := hSw; (try dsimp only at hx0); have hc0 := hx0.c0; have hc1 := hx0.c1; clear hx0; go_simp; (try with_reducible rfl))
      (try simp only [Act.put, List.setIfInBounds_toArray, List.set_cons_zero, List.set_cons_succ, List.getElem_toArray, List.getElem_cons_zero, List.getElem_cons_succ])
      refine wpAnyH_ready (rs := [2]) (by kernel_rfl) (by simp) ?_
      refine AllReadyH.cons rfl (fun K hK => ?_) (AllReadyH.nil)
      go_simp
      go_at_call 25; refine (i_any d d1 d2 _).mono ?_
      rintro e Wj ⟨u, rfl, hj, hb⟩
      obtain ⟨gj, pj, nj, cj, rfl⟩ := hj.shape
      replace hA := hA.go hb
      replace b1 := b1.go hb
      replace bq := bq.go hb
      replace h0 := bel_go h0 h0.size hb
      clear hb
      refine hK.out _ _ (b1) (fun _ => ?_)
      clear hK K
      (try simp only [Act.put, List.setIfInBounds_toArray, List.set_cons_zero, List.set_cons_succ, List.getElem_toArray, List.getElem_cons_zero, List.getElem_cons_succ])
      refine wpAnyH_ready (rs := [3]) (by kernel_rfl) (by simp) ?_
      refine AllReadyH.cons rfl (fun K hK => ?_) (AllReadyH.nil)
      go_simp
      go_at_call 36; refine (zceil_any _ _ _ _ hd0 hla hld _ hA hj).mono ?_
      rintro e Wu ⟨u, rfl, hu, hb⟩
      obtain ⟨gu, pu, nu, cu, rfl⟩ := hu.shape
      replace hA := hA.go hb
      replace hj := hj.go hb
      replace b1 := b1.go hb
      replace bq := bq.go hb
      replace h0 := bel_go h0 h0.size hb
      clear hb
      refine hK.out _ _ (b1) (fun _ => ?_)
      clear hK K
      (try simp only [Act.put, List.setIfInBounds_toArray, List.set_cons_zero, List.set_cons_succ, List.getElem_toArray, List.getElem_cons_zero, List.getElem_cons_succ])
      refine wpAnyH_done (by kernel_rfl) ?_ _
      refine still1_step rfl (fun K hK => ?_)
      have hq0 := bq.c0
      have hq1 := bq.c1
      have hr0 := bq.f0
      have hr1 := bq.f1
      go_simp
      clear hq0 hq1 hr0 hr1
      have hP := put2 Wu (Bbq) (.bool gu) (.slice pu nu cu)
      have hN := bq.stored (.bool gu) (.slice pu nu cu)
      generalize (Wu.setCell ⟨Bbq, 0, none⟩ (.bool gu)).setCell ⟨Bbq, 1, none⟩ (.slice pu nu cu) = VS at hP hN ⊢
      replace hA := hA.put bq (by decide) hP
      replace hj := hj.put bq (by decide) hP
      replace hu := hu.put bq (by decide) hP
      replace h0 := bel_put h0 (by have := sl_bq.out; omega) hP
      replace b1 := b1.put hP (by have := l_bq_b1.out; omega)
      clear hP bq
      have bq := hN
      clear hN
      refine hK.out _ _ ?_
      clear hK K
      (try simp only [Act.put, List.setIfInBounds_toArray, List.set_cons_zero, List.set_cons_succ, List.getElem_toArray, List.getElem_cons_zero, List.getElem_cons_succ])
      have hq0 := bq.c0
      have hq1 := bq.c1
      go_wp2_with (first
        | (go_at_call 101; (with_reducible refine (zsmall_any _ _ hsm _ hu).mono ?_); rintro e WE ⟨rfl, hb⟩
           rw [HE.out]
           rw [HV.out]
           replace h0 := bel_go h0 h0.size hb
           clear hb))
      go_ret2
      exact ⟨rfl, h0⟩
    · go_simp
      have hal : Below Wi.heap.size Wi (Wi.alloc (.cells #[.bool false, .slice none 0 0] 27)) := (Below.refl _ _).alloc (Nat.le_refl _) _
      have bq := Bx.new Wi 27 (.bool false) (.slice none 0 0)
      have sl_bq := Lib.hid (show w.heap.size ≤ Wi.heap.size from h0.size)
      have l_bq_b1 := Lib.hid b1.lt
      replace hA := hA.go hal
      replace hi := hi.go hal
      replace b1 := b1.go hal
      replace h0 := bel_go h0 h0.size hal
      clear hal
      generalize Wi.heap.size = Bbq at bq sl_bq l_bq_b1 ⊢
      generalize Wi.alloc (.cells #[.bool false, .slice none 0 0] 27) = Vbq at hA hi b1 bq h0 ⊢
      refine hK.out _ _ (b1) (fun _ => ?_)
      clear hK K
      (try simp only [Act.put, List.setIfInBounds_toArray, List.set_cons_zero, List.set_cons_succ, List.getElem_toArray, List.getElem_cons_zero, List.getElem_cons_succ])
      refine wpAnyH_ready (rs := [3]) (by kernel_rfl) (by simp) ?_
      refine AllReadyH.cons rfl (fun K hK => ?_) (AllReadyH.nil)
      go_simp
      go_at_call 106; refine (zfloor_any _ _ _ _ hd0 hla hld _ hA hi).mono ?_
      rintro e Wq ⟨u, rfl, hq, hb⟩
      obtain ⟨gq, pq, nq, cq, rfl⟩ := hq.shape
      replace hA := hA.go hb
      replace hi := hi.go hb
      replace b1 := b1.go hb
      replace bq := bq.go hb
      replace h0 := bel_go h0 h0.size hb
      clear hb
      refine hK.out _ _ (b1) (fun _ => ?_)
      clear hK K
      (try simp only [Act.put, List.setIfInBounds_toArray, List.set_cons_zero, List.set_cons_succ, List.getElem_toArray, List.getElem_cons_zero, List.getElem_cons_succ])
      refine wpAnyH_done (by kernel_rfl) ?_ _
      refine still1_step rfl (fun K hK => ?_)
      have hq0 := bq.c0
      have hq1 := bq.c1
      have hr0 := bq.f0
      have hr1 := bq.f1
      go_simp
      clear hq0 hq1 hr0 hr1
      have hP := put2 Wq (Bbq) (.bool gq) (.slice pq nq cq)
      have hN := bq.stored (.bool gq) (.slice pq nq cq)
      generalize (Wq.setCell ⟨Bbq, 0, none⟩ (.bool gq)).setCell ⟨Bbq, 1, none⟩ (.slice pq nq cq) = VS at hP hN ⊢
      replace hA := hA.put bq (by decide) hP
      replace hi := hi.put bq (by decide) hP
      replace hq := hq.put bq (by decide) hP
      replace h0 := bel_put h0 (by have := sl_bq.out; omega) hP
      replace b1 := b1.put hP (by have := l_bq_b1.out; omega)
      clear hP bq
      have bq := hN
      clear hN
      refine hK.out _ _ ?_
      clear hK K
      (try simp only [Act.put, List.setIfInBounds_toArray, List.set_cons_zero, List.set_cons_succ, List.getElem_toArray, List.getElem_cons_zero, List.getElem_cons_succ])
      have c10 := b1.c0
      have hq0 := bq.c0
      have hq1 := bq.c1
      go_wp2
      clear c10 hq0 hq1
      refine wp_region_last (S := fun W' => Bx W' (w.heap.size) 27 (.bool g) (.slice p n c)) (m := 4) (by kernel_rfl) (by kernel_rfl) (by kernel_rfl) (b1.drew) (fun _ => ?_)
      replace hA := hA.drew
      replace b1 := b1.drew
      replace bq := bq.drew
      replace h0 := Below.drew h0
      generalize VS.drew = VS at hA b1 bq h0 ⊢
      refine wpAnyH_take (i := 0) (v := ?_) rfl (by kernel_rfl) (by kernel_rfl) (by kernel_rfl) (fun _ _ _ h => h) (Or.inl ⟨by kernel_rfl, ?_⟩) (b1) ?_
      rotate_left
      focus (intro W' hSw; have hx0 := hSw; (try dsimp only at hx0); have hc0 := hx0.c0; have hc1 := hx0.c1; clear hx0; go_simp; (try with_reducible rfl))
      (try simp only [Act.put, List.setIfInBounds_toArray, List.set_cons_zero, List.set_cons_succ, List.getElem_toArray, List.getElem_cons_zero, List.getElem_cons_succ])
      refine wpAnyH_take (i := 1) (v := ?_) rfl (by kernel_rfl) (by kernel_rfl) (by kernel_rfl) (fun _ _ _ h => h) (Or.inl ⟨by kernel_rfl, ?_⟩) (b1) ?_
      rotate_left
      focus (intro W' hSw; have hx0 := hSw; (try dsimp only at hx0); have hc0 := hx0.c0; have hc1 := hx0.c1; clear hx0; go_simp; (try with_reducible rfl))
      (try simp only [Act.put, List.setIfInBounds_toArray, List.set_cons_zero, List.set_cons_succ, List.getElem_toArray, List.getElem_cons_zero, List.getElem_cons_succ])
      refine wpAnyH_ready (rs := [2]) (by kernel_rfl) (by simp) ?_
      refine AllReadyH.cons rfl (fun K hK => ?_) (AllReadyH.nil)
      go_simp
      go_at_call 25; refine (i_any d d1 d2 _).mono ?_
      rintro e Wj ⟨u, rfl, hj, hb⟩
      obtain ⟨gj, pj, nj, cj, rfl⟩ := hj.shape
      replace hA := hA.go hb
      replace b1 := b1.go hb
      replace bq := bq.go hb
      replace h0 := bel_go h0 h0.size hb
      clear hb
      refine hK.out _ _ (b1) (fun _ => ?_)
      clear hK K
      (try simp only [Act.put, List.setIfInBounds_toArray, List.set_cons_zero, List.set_cons_succ, List.getElem_toArray, List.getElem_cons_zero, List.getElem_cons_succ])
      refine wpAnyH_ready (rs := [3]) (by kernel_rfl) (by simp) ?_
      refine AllReadyH.cons rfl (fun K hK => ?_) (AllReadyH.nil)
      go_simp
      go_at_call 36; refine (zceil_any _ _ _ _ hd0 hla hld _ hA hj).mono ?_
      rintro e Wu ⟨u, rfl, hu, hb⟩
      obtain ⟨gu, pu, nu, cu, rfl⟩ := hu.shape
      replace hA := hA.go hb
      replace hj := hj.go hb
      replace b1 := b1.go hb
      replace bq := bq.go hb
      replace h0 := bel_go h0 h0.size hb
      clear hb
      refine hK.out _ _ (b1) (fun _ => ?_)
      clear hK K
      (try simp only [Act.put, List.setIfInBounds_toArray, List.set_cons_zero, List.set_cons_succ, List.getElem_toArray, List.getElem_cons_zero, List.getElem_cons_succ])
      refine wpAnyH_done (by kernel_rfl) ?_ _
      refine still1_step rfl (fun K hK => ?_)
      have hq0 := bq.c0
      have hq1 := bq.c1
      have hr0 := bq.f0
      have hr1 := bq.f1
      go_simp
      clear hq0 hq1 hr0 hr1
      have hP := put2 Wu (Bbq) (.bool gu) (.slice pu nu cu)
      have hN := bq.stored (.bool gu) (.slice pu nu cu)
      generalize (Wu.setCell ⟨Bbq, 0, none⟩ (.bool gu)).setCell ⟨Bbq, 1, none⟩ (.slice pu nu cu) = VS at hP hN ⊢
      replace hA := hA.put bq (by decide) hP
      replace hj := hj.put bq (by decide) hP
      replace hu := hu.put bq (by decide) hP
      replace h0 := bel_put h0 (by have := sl_bq.out; omega) hP
      replace b1 := b1.put hP (by have := l_bq_b1.out; omega)
      clear hP bq
      have bq := hN
      clear hN
      refine hK.out _ _ ?_
      clear hK K
      (try simp only [Act.put, List.setIfInBounds_toArray, List.set_cons_zero, List.set_cons_succ, List.getElem_toArray, List.getElem_cons_zero, List.getElem_cons_succ])
      have hq0 := bq.c0
      have hq1 := bq.c1
      go_wp2_with (first
        | (go_at_call 101; (with_reducible refine (zsmall_any _ _ hsm _ hu).mono ?_); rintro e WE ⟨rfl, hb⟩
           rw [HE.out]
           rw [HV.out]
           replace h0 := bel_go h0 h0.size hb
           clear hb))
      go_ret2
      exact ⟨rfl, h0⟩
  · go_simp
    have hal : Below W.heap.size W (W.alloc (.cells #[.bool false, .slice none 0 0] 27)) := (Below.refl _ _).alloc (Nat.le_refl _) _
    have bq := Bx.new W 27 (.bool false) (.slice none 0 0)
    have sl_bq := Lib.hid (show w.heap.size ≤ W.heap.size from h0.size)
    have l_bq_b1 := Lib.hid b1.lt
    replace hA := hA.go hal
    replace b1 := b1.go hal
    replace h0 := bel_go h0 h0.size hal
    clear hal
    generalize W.heap.size = Bbq at bq sl_bq l_bq_b1 ⊢
    generalize W.alloc (.cells #[.bool false, .slice none 0 0] 27) = Vbq at hA b1 bq h0 ⊢
    refine hK.out _ _ (b1) (fun _ => ?_)
    clear hK K
    (try simp only [Act.put, List.setIfInBounds_toArray, List.set_cons_zero, List.set_cons_succ, List.getElem_toArray, List.getElem_cons_zero, List.getElem_cons_succ])
    refine wpAnyH_ready (rs := [2]) (by kernel_rfl) (by simp) ?_
    refine AllReadyH.cons rfl (fun K hK => ?_) (AllReadyH.nil)
    go_simp
    go_at_call 25; refine (i_any d d1 d2 _).mono ?_
    rintro e Wi ⟨u, rfl, hi, hb⟩
    obtain ⟨gi, pi, ni, ci, rfl⟩ := hi.shape
    replace hA := hA.go hb
    replace b1 := b1.go hb
    replace bq := bq.go hb
    replace h0 := bel_go h0 h0.size hb
    clear hb
    refine hK.out _ _ (b1) (fun _ => ?_)
    clear hK K
    (try simp only [Act.put, List.setIfInBounds_toArray, List.set_cons_zero, List.set_cons_succ, List.getElem_toArray, List.getElem_cons_zero, List.getElem_cons_succ])
    refine wpAnyH_ready (rs := [3]) (by kernel_rfl) (by simp) ?_
    refine AllReadyH.cons rfl (fun K hK => ?_) (AllReadyH.nil)
    go_simp
    go_at_call 106; refine (zfloor_any _ _ _ _ hd0 hla hld _ hA hi).mono ?_
    rintro e Wq ⟨u, rfl, hq, hb⟩
    obtain ⟨gq, pq, nq, cq, rfl⟩ := hq.shape
    replace hA := hA.go hb
    replace hi := hi.go hb
    replace b1 := b1.go hb
    replace bq := bq.go hb
    replace h0 := bel_go h0 h0.size hb
    clear hb
    refine hK.out _ _ (b1) (fun _ => ?_)
    clear hK K
    (try simp only [Act.put, List.setIfInBounds_toArray, List.set_cons_zero, List.set_cons_succ, List.getElem_toArray, List.getElem_cons_zero, List.getElem_cons_succ])
    refine wpAnyH_done (by kernel_rfl) ?_ _
    refine still1_step rfl (fun K hK => ?_)
    have hq0 := bq.c0
    have hq1 := bq.c1
    have hr0 := bq.f0
    have hr1 := bq.f1
    go_simp
    clear hq0 hq1 hr0 hr1
    have hP := put2 Wq (Bbq) (.bool gq) (.slice pq nq cq)
    have hN := bq.stored (.bool gq) (.slice pq nq cq)
    generalize (Wq.setCell ⟨Bbq, 0, none⟩ (.bool gq)).setCell ⟨Bbq, 1, none⟩ (.slice pq nq cq) = VS at hP hN ⊢
    replace hA := hA.put bq (by decide) hP
    replace hi := hi.put bq (by decide) hP
    replace hq := hq.put bq (by decide) hP
    replace h0 := bel_put h0 (by have := sl_bq.out; omega) hP
    replace b1 := b1.put hP (by have := l_bq_b1.out; omega)
    clear hP bq
    have bq := hN
    clear hN
    refine hK.out _ _ ?_
    clear hK K
    (try simp only [Act.put, List.setIfInBounds_toArray, List.set_cons_zero, List.set_cons_succ, List.getElem_toArray, List.getElem_cons_zero, List.getElem_cons_succ])
    have c10 := b1.c0
    have hq0 := bq.c0
    have hq1 := bq.c1
    go_wp2
    clear c10 hq0 hq1
    refine wp_region_last (S := fun W' => Bx W' (w.heap.size) 27 (.bool g) (.slice p n c)) (m := 4) (by kernel_rfl) (by kernel_rfl) (by kernel_rfl) (b1.drew) (fun _ => ?_)
    replace hA := hA.drew
    replace b1 := b1.drew
    replace bq := bq.drew
    replace h0 := Below.drew h0
    generalize VS.drew = VS at hA b1 bq h0 ⊢
    refine wpAnyH_take (i := 0) (v := ?_) rfl (by kernel_rfl) (by kernel_rfl) (by kernel_rfl) (fun _ _ _ h => h) (Or.inl ⟨by kernel_rfl, ?_⟩) (b1) ?_
    rotate_left
    focus (intro W' hSw; have hx0 := hSw; (try dsimp only at hx0); have hc0 := hx0.c0; have hc1 := hx0.c1; clear hx0; go_simp; (try with_reducible rfl))
    (try simp only [Act.put, List.setIfInBounds_toArray, List.set_cons_zero, List.set_cons_succ, List.getElem_toArray, List.getElem_cons_zero, List.getElem_cons_succ])
    refine wpAnyH_take (i := 1) (v := ?_) rfl (by kernel_rfl) (by kernel_rfl) (by kernel_rfl) (fun _ _ _ h => h) (Or.inl ⟨by kernel_rfl, ?_⟩) (b1) ?_
    rotate_left
    focus (intro W' hSw; have hx0 := hSw; (try dsimp only at hx0); have hc0 := hx0.c0; have hc1 := hx0.c1; clear hx0; go_simp; (try with_reducible rfl))
    (try simp only [Act.put, List.setIfInBounds_toArray, List.set_cons_zero, List.set_cons_succ, List.getElem_toArray, List.getElem_cons_zero, List.getElem_cons_succ])
    refine wpAnyH_ready (rs := [2]) (by kernel_rfl) (by simp) ?_
    refine AllReadyH.cons rfl (fun K hK => ?_) (AllReadyH.nil)
    go_simp
    go_at_call 25; refine (i_any d d1 d2 _).mono ?_
    rintro e Wj ⟨u, rfl, hj, hb⟩
    obtain ⟨gj, pj, nj, cj, rfl⟩ := hj.shape
    replace hA := hA.go hb
    replace b1 := b1.go hb
    replace bq := bq.go hb
    replace h0 := bel_go h0 h0.size hb
    clear hb
    refine hK.out _ _ (b1) (fun _ => ?_)
    clear hK K
    (try simp only [Act.put, List.setIfInBounds_toArray, List.set_cons_zero, List.set_cons_succ, List.getElem_toArray, List.getElem_cons_zero, List.getElem_cons_succ])
    refine wpAnyH_ready (rs := [3]) (by kernel_rfl) (by simp) ?_
    refine AllReadyH.cons rfl (fun K hK => ?_) (AllReadyH.nil)
    go_simp
    go_at_call 36; refine (zceil_any _ _ _ _ hd0 hla hld _ hA hj).mono ?_
    rintro e Wu ⟨u, rfl, hu, hb⟩
    obtain ⟨gu, pu, nu, cu, rfl⟩ := hu.shape
    replace hA := hA.go hb
    replace hj := hj.go hb
    replace b1 := b1.go hb
    replace bq := bq.go hb
    replace h0 := bel_go h0 h0.size hb
    clear hb
    refine hK.out _ _ (b1) (fun _ => ?_)
    clear hK K
    (try simp only [Act.put, List.setIfInBounds_toArray, List.set_cons_zero, List.set_cons_succ, List.getElem_toArray, List.getElem_cons_zero, List.getElem_cons_succ])
    refine wpAnyH_done (by kernel_rfl) ?_ _
    refine still1_step rfl (fun K hK => ?_)
    have hq0 := bq.c0
    have hq1 := bq.c1
    have hr0 := bq.f0
    have hr1 := bq.f1
    go_simp
    clear hq0 hq1 hr0 hr1
    have hP := put2 Wu (Bbq) (.bool gu) (.slice pu nu cu)
    have hN := bq.stored (.bool gu) (.slice pu nu cu)
    generalize (Wu.setCell ⟨Bbq, 0, none⟩ (.bool gu)).setCell ⟨Bbq, 1, none⟩ (.slice pu nu cu) = VS at hP hN ⊢
    replace hA := hA.put bq (by decide) hP
    replace hj := hj.put bq (by decide) hP
    replace hu := hu.put bq (by decide) hP
    replace h0 := bel_put h0 (by have := sl_bq.out; omega) hP
    replace b1 := b1.put hP (by have := l_bq_b1.out; omega)
    clear hP bq
    have bq := hN
    clear hN
    refine hK.out _ _ ?_
    clear hK K
    (try simp only [Act.put, List.setIfInBounds_toArray, List.set_cons_zero, List.set_cons_succ, List.getElem_toArray, List.getElem_cons_zero, List.getElem_cons_succ])
    have hq0 := bq.c0
    have hq1 := bq.c1
    go_wp2_with (first
      | (go_at_call 101; (with_reducible refine (zsmall_any _ _ hsm _ hu).mono ?_); rintro e WE ⟨rfl, hb⟩
         rw [HE.out]
         rw [HV.out]
         replace h0 := bel_go h0 h0.size hb
         clear hb))
    go_ret2
    exact ⟨rfl, h0⟩

/-- Quotient, downward: as num's Div says it. -/
theorem quot_down (v : Value) (a d : Int) (hla : (digs a.natAbs).length ≤ 100000) (d2 : d ≤ 9223372036854775807) (w : World) (hA : IsZ w v a) :
    Calls Try.prog 38 #[v, .int .i64 d, .bool false] w fun e w' => e = .returned (.tuple #[.int .i64 (divV a d), .int .i64 (divE a d)]) ∧ Below w.heap.size w w' := by
  unfold divV divE
  by_cases h : d < 1
  · rw [if_pos h, if_pos h]; exact quot_low v a d false h w hA
  · rw [if_neg h, if_neg h]
    by_cases g : a / d < -9223372036854775808 ∨ 9223372036854775807 < a / d
    · rw [if_pos g, if_pos g]; exact quot_down_no v a d hla (by omega) d2 (by omega) w hA
    · rw [if_neg g, if_neg g]; exact quot_down_ok v a d hla (by omega) d2 (by omega) w hA
theorem ceil_down {a d : Int} (h : 1 ≤ d) : -(-a / d) = (a + (d - 1)) / d := by
  have h1 := Int.emod_nonneg (-a) (show d ≠ 0 by omega)
  have h2 := Int.emod_lt_of_pos (-a) (show 0 < d by omega)
  have h3 := Int.emod_add_mul_ediv (-a) d
  exact ((Int.ediv_emod_unique (a := a + (d - 1)) (q := -(-a / d)) (r := d - 1 - (-a) % d) (show 0 < d by omega)).2 ⟨by rw [Int.mul_neg]; omega, by omega, by omega⟩).1.symm
/-- Quotient, upward. -/
theorem quot_up (v : Value) (a d : Int) (hla : (digs a.natAbs).length ≤ 100000) (d2 : d ≤ 9223372036854775807) (w : World) (hA : IsZ w v a) :
    Calls Try.prog 38 #[v, .int .i64 d, .bool true] w fun e w' => e = .returned (.tuple #[.int .i64 (divV (a + (d - 1)) d), .int .i64 (divE (a + (d - 1)) d)]) ∧ Below w.heap.size w w' := by
  unfold divV divE
  by_cases h : d < 1
  · rw [if_pos h, if_pos h]; exact quot_low v a d true h w hA
  · rw [if_neg h, if_neg h, ← ceil_down (by omega)]
    by_cases g : -(-a / d) < -9223372036854775808 ∨ 9223372036854775807 < -(-a / d)
    · rw [if_pos g, if_pos g]; exact quot_up_no v a d hla (by omega) d2 (by omega) w hA
    · rw [if_neg g, if_neg g]; exact quot_up_ok v a d hla (by omega) d2 (by omega) w hA
end Go.Proofs.Ytalonppmoimmjaa
