/-
  The walk of the law NumRoots.
  Conditions: those of each theorem; arguments are 64-bit numbers.
-/
import Derived.Test.YtalonppmoimmjaaZC
import Derived.Test.YtalonppmoimmjaaZK
set_option linter.unusedSimpArgs false
set_option linter.unusedVariables false
namespace Go.Proofs.Ytalonppmoimmjaa
open Go.RowKit Go.Shelf Zd Wd

theorem zero_z (w : World) : IsZ w (.agg #[.bool false, .slice none 0 0]) 0 := ⟨_, rfl, ⟨none, 0, by simp [digs_zero], by simp [digs_zero], by unfold maxLen; omega, .inl (by simp [digs_zero])⟩⟩
theorem gcdV_sm (a b : Int) : gcdV a b = smV (Nat.gcd a.natAbs b.natAbs : Int) := by
  unfold gcdV smV
  split <;> split <;> omega
theorem sm_gcd {a b : Int} (a1 : -9223372036854775808 ≤ a) (a2 : a ≤ 9223372036854775807) (b1 : -9223372036854775808 ≤ b) (b2 : b ≤ 9223372036854775807) : Sm (Nat.gcd a.natAbs b.natAbs : Int) := by
  unfold Sm
  rw [Int.natAbs_natCast]
  have h : Nat.gcd a.natAbs b.natAbs ≤ 9223372036854775808 := by
    rcases Nat.eq_zero_or_pos a.natAbs with h | h
    · rw [h, Nat.gcd_zero_left]; omega
    · have := Nat.gcd_le_left b.natAbs h; omega
  exact Nat.le_trans (digs_len (k := 4) (by omega)) (by decide)
theorem isq_zero : isq 0 = 0 := by
  have := (isq_spec 0).1
  rcases Nat.eq_zero_or_pos (isq 0) with h | h
  · exact h
  · have := Nat.mul_pos h h; omega
theorem isq_le (n : Nat) : isq n ≤ n := by
  have h := (isq_spec n).1
  rcases Nat.eq_zero_or_pos (isq n) with h0 | h0
  · omega
  · have := Nat.mul_le_mul_left (isq n) h0; omega
theorem isq_mul {a b : Nat} (ha : a ≤ 9223372036854775807) (hb : b ≤ 9223372036854775807) : isq (a * b) ≤ 9223372036854775807 := by
  have h := (isq_spec (a * b)).1
  have h2 := Nat.mul_le_mul ha hb
  rcases Nat.lt_or_ge 9223372036854775807 (isq (a * b)) with g | g
  · have := Nat.mul_le_mul (show 9223372036854775808 ≤ isq (a * b) by omega) (show 9223372036854775808 ≤ isq (a * b) by omega)
    omega
  · exact g
theorem toNat_mulI {a b : Int} (ha : 0 ≤ a) (hb : 0 ≤ b) : (a * b).toNat = a.toNat * b.toNat := by
  obtain ⟨x, rfl⟩ := Int.eq_ofNat_of_zero_le ha
  obtain ⟨y, rfl⟩ := Int.eq_ofNat_of_zero_le hb
  rw [← Int.natCast_mul]; rfl

set_option maxRecDepth 100000 in
set_option maxHeartbeats 8000000 in
theorem numRoots_neg (a : Int) (a1 : -9223372036854775808 ≤ a) (a2 : a ≤ 9223372036854775807) (b : Int) (b1 : -9223372036854775808 ≤ b) (b2 : b ≤ 9223372036854775807) (ha : a < 0) (w : World) :
    Calls Try.prog 7 #[.int .i64 a, .int .i64 b] w fun e w' => e = .returned (.bool true) ∧ Below w.heap.size w w' := by
  have la := dlen64 a1 a2
  have lb := dlen64 b1 b2
  have hla : (digs a.natAbs).length ≤ 300000 := by omega
  have hlb : (digs b.natAbs).length ≤ 300000 := by omega
  have hla1 : (digs a.natAbs).length ≤ 100000 := by omega
  have sp : (digs (a * b).natAbs).length ≤ 100000 := Nat.le_trans (dlen_mulI la lb) (by omega)
  have sp2 : (digs a.natAbs).length + (digs b.natAbs).length ≤ 1999999 := by omega
  have hsg : Sm (Nat.gcd a.natAbs b.natAbs : Int) := sm_gcd a1 a2 b1 b2
  obtain ⟨V, hV⟩ : ∃ V, smV (Nat.gcd a.natAbs b.natAbs : Int) = V := ⟨_, rfl⟩
  have HV := Lib.hid hV
  have HGV := Lib.hid (show gcdV a b = V by rw [← hV]; exact gcdV_sm a b)
  clear hV
  obtain ⟨S1, hS1⟩ : ∃ S1, (isq a.toNat : Int) = S1 := ⟨_, rfl⟩
  obtain ⟨S2, hS2⟩ : ∃ S2, (isq (a.toNat * b.toNat) : Int) = S2 := ⟨_, rfl⟩
  have e1 := isq_le a.toNat
  have e2 := isq_mul (show a.toNat ≤ 9223372036854775807 by omega) (show b.toNat ≤ 9223372036854775807 by omega)
  have s1 : -9223372036854775808 ≤ S1 := by omega
  have s2 : S1 ≤ 9223372036854775807 := by omega
  have t1 : -9223372036854775808 ≤ S2 := by omega
  have t2 : S2 ≤ 9223372036854775807 := by omega
  have hm1 := sm_le (dlen64 s1 s2) (by omega)
  have hm2 := sm_le (dlen64 t1 t2) (by omega)
  have hk1 : (cmpI S1 S1 == 0) = true := by rw [cmpI_eq rfl]; rfl
  have hk2 : (cmpI S2 S2 == 0) = true := by rw [cmpI_eq rfl]; rfl
  have z1 := Lib.hid (show (0 : Int) = S1 by rw [← hS1, show a.toNat = 0 by omega, isq_zero]; rfl)
  have z2 := Lib.hid (show (0 : Int) = S2 by rw [← hS2, show a.toNat = 0 by omega, Nat.zero_mul, isq_zero]; rfl)
  have HS1 := Lib.hid hS1
  have HS2 := Lib.hid hS2
  clear hS1 hS2 e1 e2
  go_enter Try.func7, Try.ntmps7
  go_wp2_with fail
  go_at_call 25; refine (i_any a a1 a2 _).mono ?_
  rintro e Wx ⟨u, rfl, hx, hb⟩
  obtain ⟨gx, px, nx, cx, rfl⟩ := hx.shape
  have h0 := hb
  clear hb
  go_wp2_with fail
  go_at_call 25; refine (i_any b b1 b2 _).mono ?_
  rintro e Wy ⟨u, rfl, hy, hb⟩
  obtain ⟨gy, py, ny, cy, rfl⟩ := hy.shape
  replace hx := hx.go hb
  replace h0 := bel_go h0 h0.size hb
  clear hb
  go_wp2_with fail
  go_at_call 41; refine (zgcd_any _ _ a b hla hlb _ hx hy).mono ?_
  rintro e Wg ⟨u, rfl, hg, hb⟩
  obtain ⟨gg, pg, ng, cg, rfl⟩ := hg.shape
  replace h0 := bel_go h0 h0.size hb
  clear hb
  go_wp2_with fail
  go_at_call 21; refine (fits_any _ _ hsg _ hg).mono ?_
  rw [HV.out]
  rintro e WF ⟨rfl, hb⟩
  clear hx hy hg
  replace h0 := bel_go h0 h0.size hb
  clear hb
  go_wp2_with fail
  have hF0 := Lib.hid h0.size
  obtain ⟨WB, hWB, hal, bo, bt⟩ := boot2 WF (.bool false) (.slice none 0 0) (.bool false) (.slice none 0 0)
  rw [← hWB]
  clear hWB
  replace h0 := bel_go h0 h0.size hal
  clear hal
  have sB := Lib.hid (show w.heap.size ≤ WF.heap.size from hF0.out)
  generalize WF.heap.size = BO at bo bt sB ⊢
  have ho := zero_z WB
  have ht := zero_z WB
  rw [z1.out] at ho
  rw [z2.out] at ht
  go_wp2
  refine wp_region_held_drew (S := fun W' => Bx W' (BO) 27 (.bool false) (.slice none 0 0) ∧ Bx W' ((BO + 1)) 27 (.bool false) (.slice none 0 0)) (by kernel_rfl) (⟨bo.drew, bt.drew⟩) (fun _ => ?_)
  replace bo := bo.drew
  replace bt := bt.drew
  replace ho := ho.drew
  replace ht := ht.drew
  replace h0 := Below.drew h0
  generalize WB.drew = WB at bo bt ho ht h0 ⊢
  refine wpAnyH_ready (rs := [0]) (by kernel_rfl) (by simp) ?_
  refine AllReadyH.cons rfl (fun K hK => ?_) (AllReadyH.nil)
  go_simp
  go_at_call 19; refine (nums_any _).mono ?_
  rintro e W1 ⟨rfl, hb⟩
  replace bo := bo.go hb
  replace bt := bt.go hb
  replace ho := ho.go hb
  replace ht := ht.go hb
  replace h0 := bel_go h0 h0.size hb
  clear hb
  refine hK.out _ _ (⟨bo, bt⟩) (fun _ => ?_)
  clear hK K
  (try simp only [Act.put, List.setIfInBounds_toArray, List.set_cons_zero, List.set_cons_succ, List.getElem_toArray, List.getElem_cons_zero, List.getElem_cons_succ])
  refine wpAnyH_take (i := 1) (v := ?_) rfl (by kernel_rfl) (by kernel_rfl) (by kernel_rfl) (fun _ _ _ h => h) (Or.inl ⟨by kernel_rfl, ?_⟩) (⟨bo, bt⟩) ?_
  rotate_left
  focus (intro W' hSw; obtain ⟨hx0, hx1⟩ := hSw; have hc0 := hx0.c0; have hc1 := hx0.c1; have hc2 := hx1.c0; have hc3 := hx1.c1; clear hx0 hx1; go_simp; (try with_reducible rfl))
  (try simp only [Act.put, List.setIfInBounds_toArray, List.set_cons_zero, List.set_cons_succ, List.getElem_toArray, List.getElem_cons_zero, List.getElem_cons_succ])
  refine wpAnyH_take (i := 2) (v := ?_) rfl (by kernel_rfl) (by kernel_rfl) (by kernel_rfl) (fun _ _ _ h => h) (Or.inl ⟨by kernel_rfl, ?_⟩) (⟨bo, bt⟩) ?_
  rotate_left
  focus (intro W' hSw; obtain ⟨hx0, hx1⟩ := hSw; have hc0 := hx0.c0; have hc1 := hx0.c1; have hc2 := hx1.c0; have hc3 := hx1.c1; clear hx0 hx1; go_simp; (try with_reducible rfl))
  (try simp only [Act.put, List.setIfInBounds_toArray, List.set_cons_zero, List.set_cons_succ, List.getElem_toArray, List.getElem_cons_zero, List.getElem_cons_succ])
  refine wpAnyH_take (i := 3) (v := ?_) rfl (by kernel_rfl) (by kernel_rfl) (by kernel_rfl) (fun _ _ _ h => h) (Or.inl ⟨by kernel_rfl, ?_⟩) (⟨bo, bt⟩) ?_
  rotate_left
  focus (intro W' hSw; obtain ⟨hx0, hx1⟩ := hSw; have hc0 := hx0.c0; have hc1 := hx0.c1; have hc2 := hx1.c0; have hc3 := hx1.c1; clear hx0 hx1; go_simp; (try with_reducible rfl))
  (try simp only [Act.put, List.setIfInBounds_toArray, List.set_cons_zero, List.set_cons_succ, List.getElem_toArray, List.getElem_cons_zero, List.getElem_cons_succ])
  refine wpAnyH_take (i := 5) (v := ?_) rfl (by kernel_rfl) (by kernel_rfl) (by kernel_rfl) (fun _ _ _ h => h) (Or.inl ⟨by kernel_rfl, ?_⟩) (⟨bo, bt⟩) ?_
  rotate_left
  focus (intro W' hSw; obtain ⟨hx0, hx1⟩ := hSw; have hc0 := hx0.c0; have hc1 := hx0.c1; have hc2 := hx1.c0; have hc3 := hx1.c1; clear hx0 hx1; go_simp; (try with_reducible rfl))
  (try simp only [Act.put, List.setIfInBounds_toArray, List.set_cons_zero, List.set_cons_succ, List.getElem_toArray, List.getElem_cons_zero, List.getElem_cons_succ])
  refine wpAnyH_ready (rs := [4]) (by kernel_rfl) (by simp) ?_
  refine AllReadyH.cons rfl (fun K hK => ?_) (AllReadyH.nil)
  go_simp
  go_at_call 43; refine (gcd_any a b a1 a2 b1 b2 _).mono ?_
  rw [HGV.out]
  rintro e W2 ⟨rfl, hb⟩
  replace bo := bo.go hb
  replace bt := bt.go hb
  replace ho := ho.go hb
  replace ht := ht.go hb
  replace h0 := bel_go h0 h0.size hb
  clear hb
  refine hK.out _ _ (⟨bo, bt⟩) (fun _ => ?_)
  clear hK K
  (try simp only [Act.put, List.setIfInBounds_toArray, List.set_cons_zero, List.set_cons_succ, List.getElem_toArray, List.getElem_cons_zero, List.getElem_cons_succ])
  refine wpAnyH_take (i := 6) (v := ?_) rfl (by kernel_rfl) (by kernel_rfl) (by kernel_rfl) (fun _ _ _ h => h) (Or.inl ⟨by kernel_rfl, ?_⟩) (⟨bo, bt⟩) ?_
  rotate_left
  focus (intro W' hSw; obtain ⟨hx0, hx1⟩ := hSw; have hc0 := hx0.c0; have hc1 := hx0.c1; have hc2 := hx1.c0; have hc3 := hx1.c1; clear hx0 hx1; go_simp; (try with_reducible rfl))
  (try simp only [Act.put, List.setIfInBounds_toArray, List.set_cons_zero, List.set_cons_succ, List.getElem_toArray, List.getElem_cons_zero, List.getElem_cons_succ])
  refine wpAnyH_take (i := 7) (v := ?_) rfl (by kernel_rfl) (by kernel_rfl) (by kernel_rfl) (fun _ _ _ h => h) (Or.inl ⟨by kernel_rfl, ?_⟩) (⟨bo, bt⟩) ?_
  rotate_left
  focus (intro W' hSw; obtain ⟨hx0, hx1⟩ := hSw; have hc0 := hx0.c0; have hc1 := hx0.c1; have hc2 := hx1.c0; have hc3 := hx1.c1; clear hx0 hx1; go_simp; (try with_reducible rfl))
  (try simp only [Act.put, List.setIfInBounds_toArray, List.set_cons_zero, List.set_cons_succ, List.getElem_toArray, List.getElem_cons_zero, List.getElem_cons_succ])
  refine wpAnyH_take (i := 8) (v := ?_) rfl (by kernel_rfl) (by kernel_rfl) (by kernel_rfl) (fun _ _ _ h => h) (Or.inl ⟨by kernel_rfl, ?_⟩) (⟨bo, bt⟩) ?_
  rotate_left
  focus (intro W' hSw; obtain ⟨hx0, hx1⟩ := hSw; have hc0 := hx0.c0; have hc1 := hx0.c1; have hc2 := hx1.c0; have hc3 := hx1.c1; clear hx0 hx1; go_simp; (try with_reducible rfl))
  (try simp only [Act.put, List.setIfInBounds_toArray, List.set_cons_zero, List.set_cons_succ, List.getElem_toArray, List.getElem_cons_zero, List.getElem_cons_succ])
  refine wpAnyH_take (i := 9) (v := ?_) rfl (by kernel_rfl) (by kernel_rfl) (by kernel_rfl) (fun _ _ _ h => h) (Or.inl ⟨by kernel_rfl, ?_⟩) (⟨bo, bt⟩) ?_
  rotate_left
  focus (intro W' hSw; obtain ⟨hx0, hx1⟩ := hSw; have hc0 := hx0.c0; have hc1 := hx0.c1; have hc2 := hx1.c0; have hc3 := hx1.c1; clear hx0 hx1; go_simp; (try with_reducible rfl))
  (try simp only [Act.put, List.setIfInBounds_toArray, List.set_cons_zero, List.set_cons_succ, List.getElem_toArray, List.getElem_cons_zero, List.getElem_cons_succ])
  refine wpAnyH_take (i := 10) (v := ?_) rfl (by kernel_rfl) (by kernel_rfl) (by kernel_rfl) (fun _ _ _ h => h) (Or.inl ⟨by kernel_rfl, ?_⟩) (⟨bo, bt⟩) ?_
  rotate_left
  focus (intro W' hSw; obtain ⟨hx0, hx1⟩ := hSw; have hc0 := hx0.c0; have hc1 := hx0.c1; have hc2 := hx1.c0; have hc3 := hx1.c1; clear hx0 hx1; go_simp; (try with_reducible rfl))
  (try simp only [Act.put, List.setIfInBounds_toArray, List.set_cons_zero, List.set_cons_succ, List.getElem_toArray, List.getElem_cons_zero, List.getElem_cons_succ])
  refine wpAnyH_ready (rs := [11]) (by kernel_rfl) (by simp) ?_
  refine AllReadyH.cons rfl (fun K hK => ?_) (AllReadyH.nil)
  go_simp
  go_at_call 44; refine (sqrt_any a a1 a2 _).mono ?_
  rw [HS1.out]
  rintro e W3 ⟨rfl, hb⟩
  replace bo := bo.go hb
  replace bt := bt.go hb
  replace ho := ho.go hb
  replace ht := ht.go hb
  replace h0 := bel_go h0 h0.size hb
  clear hb
  refine hK.out _ _ (⟨bo, bt⟩) (fun _ => ?_)
  clear hK K
  (try simp only [Act.put, List.setIfInBounds_toArray, List.set_cons_zero, List.set_cons_succ, List.getElem_toArray, List.getElem_cons_zero, List.getElem_cons_succ])
  refine wpAnyH_ready (rs := [12]) (by kernel_rfl) (by simp) ?_
  refine AllReadyH.cons rfl (fun K hK => ?_) (AllReadyH.nil)
  go_simp
  go_at_call 25; refine (i_any S1 s1 s2 _).mono ?_
  rintro e W4 ⟨u, rfl, hi, hb⟩
  obtain ⟨gi, pi, ni, ci, rfl⟩ := hi.shape
  replace bo := bo.go hb
  replace bt := bt.go hb
  replace ho := ho.go hb
  replace ht := ht.go hb
  replace h0 := bel_go h0 h0.size hb
  clear hb
  refine hK.out _ _ (⟨bo, bt⟩) (fun _ => ?_)
  clear hK K
  (try simp only [Act.put, List.setIfInBounds_toArray, List.set_cons_zero, List.set_cons_succ, List.getElem_toArray, List.getElem_cons_zero, List.getElem_cons_succ])
  refine wpAnyH_ready (rs := [13]) (by kernel_rfl) (by simp) ?_
  refine AllReadyH.cons rfl (fun K hK => ?_) (AllReadyH.nil)
  go_simp
  go_at_call 35; refine (zcmp_any _ _ S1 S1 hm1 hm1 _ ho hi).mono ?_
  rintro e W5 ⟨rfl, hb⟩
  clear hi
  replace bo := bo.go hb
  replace bt := bt.go hb
  replace ho := ho.go hb
  replace ht := ht.go hb
  replace h0 := bel_go h0 h0.size hb
  clear hb
  refine hK.out _ _ (⟨bo, bt⟩) (fun _ => ?_)
  clear hK K
  (try simp only [Act.put, List.setIfInBounds_toArray, List.set_cons_zero, List.set_cons_succ, List.getElem_toArray, List.getElem_cons_zero, List.getElem_cons_succ])
  refine wpAnyH_take (i := 14) (v := ?_) rfl (by kernel_rfl) (by kernel_rfl) (by kernel_rfl) (fun _ _ _ h => h) (Or.inl ⟨by kernel_rfl, ?_⟩) (⟨bo, bt⟩) ?_
  rotate_left
  focus (intro W' hSw; obtain ⟨hx0, hx1⟩ := hSw; have hc0 := hx0.c0; have hc1 := hx0.c1; have hc2 := hx1.c0; have hc3 := hx1.c1; clear hx0 hx1; go_simp; (try with_reducible rfl))
  (try simp only [Act.put, List.setIfInBounds_toArray, List.set_cons_zero, List.set_cons_succ, List.getElem_toArray, List.getElem_cons_zero, List.getElem_cons_succ])
  refine wpAnyH_take (i := 15) (v := ?_) rfl (by kernel_rfl) (by kernel_rfl) (by kernel_rfl) (fun _ _ _ h => h) (Or.inl ⟨by kernel_rfl, ?_⟩) (⟨bo, bt⟩) ?_
  rotate_left
  focus (intro W' hSw; obtain ⟨hx0, hx1⟩ := hSw; have hc0 := hx0.c0; have hc1 := hx0.c1; have hc2 := hx1.c0; have hc3 := hx1.c1; clear hx0 hx1; go_simp; (try with_reducible rfl))
  (try simp only [Act.put, List.setIfInBounds_toArray, List.set_cons_zero, List.set_cons_succ, List.getElem_toArray, List.getElem_cons_zero, List.getElem_cons_succ])
  refine wpAnyH_take (i := 16) (v := ?_) rfl (by kernel_rfl) (by kernel_rfl) (by kernel_rfl) (fun _ _ _ h => h) (Or.inl ⟨by kernel_rfl, ?_⟩) (⟨bo, bt⟩) ?_
  rotate_left
  focus (intro W' hSw; obtain ⟨hx0, hx1⟩ := hSw; have hc0 := hx0.c0; have hc1 := hx0.c1; have hc2 := hx1.c0; have hc3 := hx1.c1; clear hx0 hx1; go_simp; (try with_reducible rfl))
  (try simp only [Act.put, List.setIfInBounds_toArray, List.set_cons_zero, List.set_cons_succ, List.getElem_toArray, List.getElem_cons_zero, List.getElem_cons_succ])
  refine wpAnyH_take (i := 17) (v := ?_) rfl (by kernel_rfl) (by kernel_rfl) (by kernel_rfl) (fun _ _ _ h => h) (Or.inl ⟨by kernel_rfl, ?_⟩) (⟨bo, bt⟩) ?_
  rotate_left
  focus (intro W' hSw; obtain ⟨hx0, hx1⟩ := hSw; have hc0 := hx0.c0; have hc1 := hx0.c1; have hc2 := hx1.c0; have hc3 := hx1.c1; clear hx0 hx1; go_simp; (try with_reducible rfl))
  (try simp only [Act.put, List.setIfInBounds_toArray, List.set_cons_zero, List.set_cons_succ, List.getElem_toArray, List.getElem_cons_zero, List.getElem_cons_succ])
  refine wpAnyH_take (i := 18) (v := ?_) rfl (by kernel_rfl) (by kernel_rfl) (by kernel_rfl) (fun _ _ _ h => h) (Or.inl ⟨by kernel_rfl, ?_⟩) (⟨bo, bt⟩) ?_
  rotate_left
  focus (intro W' hSw; obtain ⟨hx0, hx1⟩ := hSw; have hc0 := hx0.c0; have hc1 := hx0.c1; have hc2 := hx1.c0; have hc3 := hx1.c1; clear hx0 hx1; go_simp; (try with_reducible rfl))
  (try simp only [Act.put, List.setIfInBounds_toArray, List.set_cons_zero, List.set_cons_succ, List.getElem_toArray, List.getElem_cons_zero, List.getElem_cons_succ])
  refine wpAnyH_take (i := 19) (v := ?_) rfl (by kernel_rfl) (by kernel_rfl) (by kernel_rfl) (fun _ _ _ h => h) (Or.inl ⟨by kernel_rfl, ?_⟩) (⟨bo, bt⟩) ?_
  rotate_left
  focus (intro W' hSw; obtain ⟨hx0, hx1⟩ := hSw; have hc0 := hx0.c0; have hc1 := hx0.c1; have hc2 := hx1.c0; have hc3 := hx1.c1; clear hx0 hx1; go_simp; (try with_reducible rfl))
  (try simp only [Act.put, List.setIfInBounds_toArray, List.set_cons_zero, List.set_cons_succ, List.getElem_toArray, List.getElem_cons_zero, List.getElem_cons_succ])
  refine wpAnyH_ready (rs := [20]) (by kernel_rfl) (by simp) ?_
  refine AllReadyH.cons rfl (fun K hK => ?_) (AllReadyH.nil)
  go_simp
  go_at_call 45; refine (sqrtmul_any a b a1 a2 b1 b2 _).mono ?_
  rw [HS2.out]
  rintro e W6 ⟨rfl, hb⟩
  replace bo := bo.go hb
  replace bt := bt.go hb
  replace ho := ho.go hb
  replace ht := ht.go hb
  replace h0 := bel_go h0 h0.size hb
  clear hb
  refine hK.out _ _ (⟨bo, bt⟩) (fun _ => ?_)
  clear hK K
  (try simp only [Act.put, List.setIfInBounds_toArray, List.set_cons_zero, List.set_cons_succ, List.getElem_toArray, List.getElem_cons_zero, List.getElem_cons_succ])
  refine wpAnyH_ready (rs := [21]) (by kernel_rfl) (by simp) ?_
  refine AllReadyH.cons rfl (fun K hK => ?_) (AllReadyH.nil)
  go_simp
  go_at_call 25; refine (i_any S2 t1 t2 _).mono ?_
  rintro e W7 ⟨u, rfl, hi, hb⟩
  obtain ⟨gi, pi, ni, ci, rfl⟩ := hi.shape
  replace bo := bo.go hb
  replace bt := bt.go hb
  replace ho := ho.go hb
  replace ht := ht.go hb
  replace h0 := bel_go h0 h0.size hb
  clear hb
  refine hK.out _ _ (⟨bo, bt⟩) (fun _ => ?_)
  clear hK K
  (try simp only [Act.put, List.setIfInBounds_toArray, List.set_cons_zero, List.set_cons_succ, List.getElem_toArray, List.getElem_cons_zero, List.getElem_cons_succ])
  refine wpAnyH_ready (rs := [22]) (by kernel_rfl) (by simp) ?_
  refine AllReadyH.cons rfl (fun K hK => ?_) (AllReadyH.nil)
  go_simp
  go_at_call 35; refine (zcmp_any _ _ S2 S2 hm2 hm2 _ ht hi).mono ?_
  rintro e W8 ⟨rfl, hb⟩
  clear hi
  replace bo := bo.go hb
  replace bt := bt.go hb
  replace ho := ho.go hb
  replace ht := ht.go hb
  replace h0 := bel_go h0 h0.size hb
  clear hb
  refine hK.out _ _ (⟨bo, bt⟩) (fun _ => ?_)
  clear hK K
  (try simp only [Act.put, List.setIfInBounds_toArray, List.set_cons_zero, List.set_cons_succ, List.getElem_toArray, List.getElem_cons_zero, List.getElem_cons_succ])
  refine wpAnyH_take (i := 23) (v := ?_) rfl (by kernel_rfl) (by kernel_rfl) (by kernel_rfl) (fun _ _ _ h => h) (Or.inl ⟨by kernel_rfl, ?_⟩) (⟨bo, bt⟩) ?_
  rotate_left
  focus (intro W' hSw; obtain ⟨hx0, hx1⟩ := hSw; have hc0 := hx0.c0; have hc1 := hx0.c1; have hc2 := hx1.c0; have hc3 := hx1.c1; clear hx0 hx1; go_simp; (try with_reducible rfl))
  (try simp only [Act.put, List.setIfInBounds_toArray, List.set_cons_zero, List.set_cons_succ, List.getElem_toArray, List.getElem_cons_zero, List.getElem_cons_succ])
  refine wpAnyH_take (i := 24) (v := ?_) rfl (by kernel_rfl) (by kernel_rfl) (by kernel_rfl) (fun _ _ _ h => h) (Or.inl ⟨by kernel_rfl, ?_⟩) (⟨bo, bt⟩) ?_
  rotate_left
  focus (intro W' hSw; obtain ⟨hx0, hx1⟩ := hSw; have hc0 := hx0.c0; have hc1 := hx0.c1; have hc2 := hx1.c0; have hc3 := hx1.c1; clear hx0 hx1; go_simp; (try with_reducible rfl))
  (try simp only [Act.put, List.setIfInBounds_toArray, List.set_cons_zero, List.set_cons_succ, List.getElem_toArray, List.getElem_cons_zero, List.getElem_cons_succ])
  refine wpAnyH_take (i := 25) (v := ?_) rfl (by kernel_rfl) (by kernel_rfl) (by kernel_rfl) (fun _ _ _ h => h) (Or.inl ⟨by kernel_rfl, ?_⟩) (⟨bo, bt⟩) ?_
  rotate_left
  focus (intro W' hSw; obtain ⟨hx0, hx1⟩ := hSw; have hc0 := hx0.c0; have hc1 := hx0.c1; have hc2 := hx1.c0; have hc3 := hx1.c1; clear hx0 hx1; go_simp; (try with_reducible rfl))
  (try simp only [Act.put, List.setIfInBounds_toArray, List.set_cons_zero, List.set_cons_succ, List.getElem_toArray, List.getElem_cons_zero, List.getElem_cons_succ])
  refine wpAnyH_done (by kernel_rfl) ?_ _
  go_wp2
  go_ret
  exact ⟨rfl, h0⟩

set_option maxRecDepth 100000 in
set_option maxHeartbeats 8000000 in
theorem numRoots_half (a : Int) (a1 : -9223372036854775808 ≤ a) (a2 : a ≤ 9223372036854775807) (b : Int) (b1 : -9223372036854775808 ≤ b) (b2 : b ≤ 9223372036854775807) (ha : 0 ≤ a) (hb0 : b < 0) (w : World) :
    Calls Try.prog 7 #[.int .i64 a, .int .i64 b] w fun e w' => e = .returned (.bool true) ∧ Below w.heap.size w w' := by
  have la := dlen64 a1 a2
  have lb := dlen64 b1 b2
  have hla : (digs a.natAbs).length ≤ 300000 := by omega
  have hlb : (digs b.natAbs).length ≤ 300000 := by omega
  have hla1 : (digs a.natAbs).length ≤ 100000 := by omega
  have sp : (digs (a * b).natAbs).length ≤ 100000 := Nat.le_trans (dlen_mulI la lb) (by omega)
  have sp2 : (digs a.natAbs).length + (digs b.natAbs).length ≤ 1999999 := by omega
  have hsg : Sm (Nat.gcd a.natAbs b.natAbs : Int) := sm_gcd a1 a2 b1 b2
  obtain ⟨V, hV⟩ : ∃ V, smV (Nat.gcd a.natAbs b.natAbs : Int) = V := ⟨_, rfl⟩
  have HV := Lib.hid hV
  have HGV := Lib.hid (show gcdV a b = V by rw [← hV]; exact gcdV_sm a b)
  clear hV
  obtain ⟨S1, hS1⟩ : ∃ S1, (isq a.toNat : Int) = S1 := ⟨_, rfl⟩
  obtain ⟨S2, hS2⟩ : ∃ S2, (isq (a.toNat * b.toNat) : Int) = S2 := ⟨_, rfl⟩
  have e1 := isq_le a.toNat
  have e2 := isq_mul (show a.toNat ≤ 9223372036854775807 by omega) (show b.toNat ≤ 9223372036854775807 by omega)
  have s1 : -9223372036854775808 ≤ S1 := by omega
  have s2 : S1 ≤ 9223372036854775807 := by omega
  have t1 : -9223372036854775808 ≤ S2 := by omega
  have t2 : S2 ≤ 9223372036854775807 := by omega
  have hm1 := sm_le (dlen64 s1 s2) (by omega)
  have hm2 := sm_le (dlen64 t1 t2) (by omega)
  have hk1 : (cmpI S1 S1 == 0) = true := by rw [cmpI_eq rfl]; rfl
  have hk2 : (cmpI S2 S2 == 0) = true := by rw [cmpI_eq rfl]; rfl
  have z2 := Lib.hid (show (0 : Int) = S2 by rw [← hS2, show b.toNat = 0 by omega, Nat.mul_zero, isq_zero]; rfl)
  have HS1 := Lib.hid hS1
  have HS2 := Lib.hid hS2
  clear hS1 hS2 e1 e2
  go_enter Try.func7, Try.ntmps7
  go_wp2_with fail
  go_at_call 25; refine (i_any a a1 a2 _).mono ?_
  rintro e Wx ⟨u, rfl, hx, hb⟩
  obtain ⟨gx, px, nx, cx, rfl⟩ := hx.shape
  have h0 := hb
  clear hb
  go_wp2_with fail
  go_at_call 25; refine (i_any b b1 b2 _).mono ?_
  rintro e Wy ⟨u, rfl, hy, hb⟩
  obtain ⟨gy, py, ny, cy, rfl⟩ := hy.shape
  replace hx := hx.go hb
  replace h0 := bel_go h0 h0.size hb
  clear hb
  go_wp2_with fail
  go_at_call 41; refine (zgcd_any _ _ a b hla hlb _ hx hy).mono ?_
  rintro e Wg ⟨u, rfl, hg, hb⟩
  obtain ⟨gg, pg, ng, cg, rfl⟩ := hg.shape
  replace h0 := bel_go h0 h0.size hb
  clear hb
  go_wp2_with fail
  go_at_call 21; refine (fits_any _ _ hsg _ hg).mono ?_
  rw [HV.out]
  rintro e WF ⟨rfl, hb⟩
  clear hx hy hg
  replace h0 := bel_go h0 h0.size hb
  clear hb
  go_wp2_with fail
  have hF0 := Lib.hid h0.size
  obtain ⟨WB, hWB, hal, bo, bt⟩ := boot2 WF (.bool false) (.slice none 0 0) (.bool false) (.slice none 0 0)
  rw [← hWB]
  clear hWB
  replace h0 := bel_go h0 h0.size hal
  clear hal
  have sB := Lib.hid (show w.heap.size ≤ WF.heap.size from hF0.out)
  generalize WF.heap.size = BO at bo bt sB ⊢
  have ho := zero_z WB
  have ht := zero_z WB
  go_wp2_with fail
  go_at_call 25; refine (i_any a a1 a2 _).mono ?_
  rintro e Wx ⟨u, rfl, hx, hb⟩
  obtain ⟨gx, px, nx, cx, rfl⟩ := hx.shape
  replace ht := ht.go hb
  replace bo := bo.go hb
  replace bt := bt.go hb
  replace h0 := bel_go h0 h0.size hb
  clear hb
  go_wp2_with fail
  go_at_call 42; refine (zroot_any _ a ha hla1 _ hx).mono ?_
  rintro e Wr ⟨u, rfl, hr, hb⟩
  obtain ⟨gr, pr, nr, cr, rfl⟩ := hr.shape
  replace ht := ht.go hb
  replace bo := bo.go hb
  replace bt := bt.go hb
  replace h0 := bel_go h0 h0.size hb
  clear hb
  clear ho
  have q0 := bo.c0
  have q1 := bo.c1
  have q2 := bo.f0
  have q3 := bo.f1
  go_wp2_with fail
  clear q0 q1 q2 q3
  have hP := put2 Wr (BO) (.bool gr) (.slice pr nr cr)
  have hN := bo.stored (.bool gr) (.slice pr nr cr)
  generalize (Wr.setCell ⟨BO, 0, none⟩ (.bool gr)).setCell ⟨BO, 1, none⟩ (.slice pr nr cr) = WC at hP hN ⊢
  replace hr := hr.put bo (by decide) hP
  replace ht := ht.put bo (by decide) hP
  replace bt := bt.put hP (by omega)
  replace h0 := bel_put h0 (by have := sB.out; omega) hP
  clear hP bo
  have bo := hN
  clear hN
  have ho := hr
  clear hr hx
  rw [HS1.out] at ho
  rw [z2.out] at ht
  go_wp2
  refine wp_region_held_drew (S := fun W' => Bx W' (BO) 27 (.bool gr) (.slice pr nr cr) ∧ Bx W' ((BO + 1)) 27 (.bool false) (.slice none 0 0)) (by kernel_rfl) (⟨bo.drew, bt.drew⟩) (fun _ => ?_)
  replace bo := bo.drew
  replace bt := bt.drew
  replace ho := ho.drew
  replace ht := ht.drew
  replace h0 := Below.drew h0
  generalize WC.drew = WC at bo bt ho ht h0 ⊢
  refine wpAnyH_ready (rs := [0]) (by kernel_rfl) (by simp) ?_
  refine AllReadyH.cons rfl (fun K hK => ?_) (AllReadyH.nil)
  go_simp
  go_at_call 19; refine (nums_any _).mono ?_
  rintro e W1 ⟨rfl, hb⟩
  replace bo := bo.go hb
  replace bt := bt.go hb
  replace ho := ho.go hb
  replace ht := ht.go hb
  replace h0 := bel_go h0 h0.size hb
  clear hb
  refine hK.out _ _ (⟨bo, bt⟩) (fun _ => ?_)
  clear hK K
  (try simp only [Act.put, List.setIfInBounds_toArray, List.set_cons_zero, List.set_cons_succ, List.getElem_toArray, List.getElem_cons_zero, List.getElem_cons_succ])
  refine wpAnyH_take (i := 1) (v := ?_) rfl (by kernel_rfl) (by kernel_rfl) (by kernel_rfl) (fun _ _ _ h => h) (Or.inl ⟨by kernel_rfl, ?_⟩) (⟨bo, bt⟩) ?_
  rotate_left
  focus (intro W' hSw; obtain ⟨hx0, hx1⟩ := hSw; have hc0 := hx0.c0; have hc1 := hx0.c1; have hc2 := hx1.c0; have hc3 := hx1.c1; clear hx0 hx1; go_simp; (try with_reducible rfl))
  (try simp only [Act.put, List.setIfInBounds_toArray, List.set_cons_zero, List.set_cons_succ, List.getElem_toArray, List.getElem_cons_zero, List.getElem_cons_succ])
  refine wpAnyH_take (i := 2) (v := ?_) rfl (by kernel_rfl) (by kernel_rfl) (by kernel_rfl) (fun _ _ _ h => h) (Or.inl ⟨by kernel_rfl, ?_⟩) (⟨bo, bt⟩) ?_
  rotate_left
  focus (intro W' hSw; obtain ⟨hx0, hx1⟩ := hSw; have hc0 := hx0.c0; have hc1 := hx0.c1; have hc2 := hx1.c0; have hc3 := hx1.c1; clear hx0 hx1; go_simp; (try with_reducible rfl))
  (try simp only [Act.put, List.setIfInBounds_toArray, List.set_cons_zero, List.set_cons_succ, List.getElem_toArray, List.getElem_cons_zero, List.getElem_cons_succ])
  refine wpAnyH_take (i := 3) (v := ?_) rfl (by kernel_rfl) (by kernel_rfl) (by kernel_rfl) (fun _ _ _ h => h) (Or.inl ⟨by kernel_rfl, ?_⟩) (⟨bo, bt⟩) ?_
  rotate_left
  focus (intro W' hSw; obtain ⟨hx0, hx1⟩ := hSw; have hc0 := hx0.c0; have hc1 := hx0.c1; have hc2 := hx1.c0; have hc3 := hx1.c1; clear hx0 hx1; go_simp; (try with_reducible rfl))
  (try simp only [Act.put, List.setIfInBounds_toArray, List.set_cons_zero, List.set_cons_succ, List.getElem_toArray, List.getElem_cons_zero, List.getElem_cons_succ])
  refine wpAnyH_take (i := 5) (v := ?_) rfl (by kernel_rfl) (by kernel_rfl) (by kernel_rfl) (fun _ _ _ h => h) (Or.inl ⟨by kernel_rfl, ?_⟩) (⟨bo, bt⟩) ?_
  rotate_left
  focus (intro W' hSw; obtain ⟨hx0, hx1⟩ := hSw; have hc0 := hx0.c0; have hc1 := hx0.c1; have hc2 := hx1.c0; have hc3 := hx1.c1; clear hx0 hx1; go_simp; (try with_reducible rfl))
  (try simp only [Act.put, List.setIfInBounds_toArray, List.set_cons_zero, List.set_cons_succ, List.getElem_toArray, List.getElem_cons_zero, List.getElem_cons_succ])
  refine wpAnyH_ready (rs := [4]) (by kernel_rfl) (by simp) ?_
  refine AllReadyH.cons rfl (fun K hK => ?_) (AllReadyH.nil)
  go_simp
  go_at_call 43; refine (gcd_any a b a1 a2 b1 b2 _).mono ?_
  rw [HGV.out]
  rintro e W2 ⟨rfl, hb⟩
  replace bo := bo.go hb
  replace bt := bt.go hb
  replace ho := ho.go hb
  replace ht := ht.go hb
  replace h0 := bel_go h0 h0.size hb
  clear hb
  refine hK.out _ _ (⟨bo, bt⟩) (fun _ => ?_)
  clear hK K
  (try simp only [Act.put, List.setIfInBounds_toArray, List.set_cons_zero, List.set_cons_succ, List.getElem_toArray, List.getElem_cons_zero, List.getElem_cons_succ])
  refine wpAnyH_take (i := 6) (v := ?_) rfl (by kernel_rfl) (by kernel_rfl) (by kernel_rfl) (fun _ _ _ h => h) (Or.inl ⟨by kernel_rfl, ?_⟩) (⟨bo, bt⟩) ?_
  rotate_left
  focus (intro W' hSw; obtain ⟨hx0, hx1⟩ := hSw; have hc0 := hx0.c0; have hc1 := hx0.c1; have hc2 := hx1.c0; have hc3 := hx1.c1; clear hx0 hx1; go_simp; (try with_reducible rfl))
  (try simp only [Act.put, List.setIfInBounds_toArray, List.set_cons_zero, List.set_cons_succ, List.getElem_toArray, List.getElem_cons_zero, List.getElem_cons_succ])
  refine wpAnyH_take (i := 7) (v := ?_) rfl (by kernel_rfl) (by kernel_rfl) (by kernel_rfl) (fun _ _ _ h => h) (Or.inl ⟨by kernel_rfl, ?_⟩) (⟨bo, bt⟩) ?_
  rotate_left
  focus (intro W' hSw; obtain ⟨hx0, hx1⟩ := hSw; have hc0 := hx0.c0; have hc1 := hx0.c1; have hc2 := hx1.c0; have hc3 := hx1.c1; clear hx0 hx1; go_simp; (try with_reducible rfl))
  (try simp only [Act.put, List.setIfInBounds_toArray, List.set_cons_zero, List.set_cons_succ, List.getElem_toArray, List.getElem_cons_zero, List.getElem_cons_succ])
  refine wpAnyH_take (i := 8) (v := ?_) rfl (by kernel_rfl) (by kernel_rfl) (by kernel_rfl) (fun _ _ _ h => h) (Or.inl ⟨by kernel_rfl, ?_⟩) (⟨bo, bt⟩) ?_
  rotate_left
  focus (intro W' hSw; obtain ⟨hx0, hx1⟩ := hSw; have hc0 := hx0.c0; have hc1 := hx0.c1; have hc2 := hx1.c0; have hc3 := hx1.c1; clear hx0 hx1; go_simp; (try with_reducible rfl))
  (try simp only [Act.put, List.setIfInBounds_toArray, List.set_cons_zero, List.set_cons_succ, List.getElem_toArray, List.getElem_cons_zero, List.getElem_cons_succ])
  refine wpAnyH_take (i := 9) (v := ?_) rfl (by kernel_rfl) (by kernel_rfl) (by kernel_rfl) (fun _ _ _ h => h) (Or.inl ⟨by kernel_rfl, ?_⟩) (⟨bo, bt⟩) ?_
  rotate_left
  focus (intro W' hSw; obtain ⟨hx0, hx1⟩ := hSw; have hc0 := hx0.c0; have hc1 := hx0.c1; have hc2 := hx1.c0; have hc3 := hx1.c1; clear hx0 hx1; go_simp; (try with_reducible rfl))
  (try simp only [Act.put, List.setIfInBounds_toArray, List.set_cons_zero, List.set_cons_succ, List.getElem_toArray, List.getElem_cons_zero, List.getElem_cons_succ])
  refine wpAnyH_take (i := 10) (v := ?_) rfl (by kernel_rfl) (by kernel_rfl) (by kernel_rfl) (fun _ _ _ h => h) (Or.inl ⟨by kernel_rfl, ?_⟩) (⟨bo, bt⟩) ?_
  rotate_left
  focus (intro W' hSw; obtain ⟨hx0, hx1⟩ := hSw; have hc0 := hx0.c0; have hc1 := hx0.c1; have hc2 := hx1.c0; have hc3 := hx1.c1; clear hx0 hx1; go_simp; (try with_reducible rfl))
  (try simp only [Act.put, List.setIfInBounds_toArray, List.set_cons_zero, List.set_cons_succ, List.getElem_toArray, List.getElem_cons_zero, List.getElem_cons_succ])
  refine wpAnyH_ready (rs := [11]) (by kernel_rfl) (by simp) ?_
  refine AllReadyH.cons rfl (fun K hK => ?_) (AllReadyH.nil)
  go_simp
  go_at_call 44; refine (sqrt_any a a1 a2 _).mono ?_
  rw [HS1.out]
  rintro e W3 ⟨rfl, hb⟩
  replace bo := bo.go hb
  replace bt := bt.go hb
  replace ho := ho.go hb
  replace ht := ht.go hb
  replace h0 := bel_go h0 h0.size hb
  clear hb
  refine hK.out _ _ (⟨bo, bt⟩) (fun _ => ?_)
  clear hK K
  (try simp only [Act.put, List.setIfInBounds_toArray, List.set_cons_zero, List.set_cons_succ, List.getElem_toArray, List.getElem_cons_zero, List.getElem_cons_succ])
  refine wpAnyH_ready (rs := [12]) (by kernel_rfl) (by simp) ?_
  refine AllReadyH.cons rfl (fun K hK => ?_) (AllReadyH.nil)
  go_simp
  go_at_call 25; refine (i_any S1 s1 s2 _).mono ?_
  rintro e W4 ⟨u, rfl, hi, hb⟩
  obtain ⟨gi, pi, ni, ci, rfl⟩ := hi.shape
  replace bo := bo.go hb
  replace bt := bt.go hb
  replace ho := ho.go hb
  replace ht := ht.go hb
  replace h0 := bel_go h0 h0.size hb
  clear hb
  refine hK.out _ _ (⟨bo, bt⟩) (fun _ => ?_)
  clear hK K
  (try simp only [Act.put, List.setIfInBounds_toArray, List.set_cons_zero, List.set_cons_succ, List.getElem_toArray, List.getElem_cons_zero, List.getElem_cons_succ])
  refine wpAnyH_ready (rs := [13]) (by kernel_rfl) (by simp) ?_
  refine AllReadyH.cons rfl (fun K hK => ?_) (AllReadyH.nil)
  go_simp
  go_at_call 35; refine (zcmp_any _ _ S1 S1 hm1 hm1 _ ho hi).mono ?_
  rintro e W5 ⟨rfl, hb⟩
  clear hi
  replace bo := bo.go hb
  replace bt := bt.go hb
  replace ho := ho.go hb
  replace ht := ht.go hb
  replace h0 := bel_go h0 h0.size hb
  clear hb
  refine hK.out _ _ (⟨bo, bt⟩) (fun _ => ?_)
  clear hK K
  (try simp only [Act.put, List.setIfInBounds_toArray, List.set_cons_zero, List.set_cons_succ, List.getElem_toArray, List.getElem_cons_zero, List.getElem_cons_succ])
  refine wpAnyH_take (i := 14) (v := ?_) rfl (by kernel_rfl) (by kernel_rfl) (by kernel_rfl) (fun _ _ _ h => h) (Or.inl ⟨by kernel_rfl, ?_⟩) (⟨bo, bt⟩) ?_
  rotate_left
  focus (intro W' hSw; obtain ⟨hx0, hx1⟩ := hSw; have hc0 := hx0.c0; have hc1 := hx0.c1; have hc2 := hx1.c0; have hc3 := hx1.c1; clear hx0 hx1; go_simp; (try with_reducible rfl))
  (try simp only [Act.put, List.setIfInBounds_toArray, List.set_cons_zero, List.set_cons_succ, List.getElem_toArray, List.getElem_cons_zero, List.getElem_cons_succ])
  refine wpAnyH_take (i := 15) (v := ?_) rfl (by kernel_rfl) (by kernel_rfl) (by kernel_rfl) (fun _ _ _ h => h) (Or.inl ⟨by kernel_rfl, ?_⟩) (⟨bo, bt⟩) ?_
  rotate_left
  focus (intro W' hSw; obtain ⟨hx0, hx1⟩ := hSw; have hc0 := hx0.c0; have hc1 := hx0.c1; have hc2 := hx1.c0; have hc3 := hx1.c1; clear hx0 hx1; go_simp; (try with_reducible rfl))
  (try simp only [Act.put, List.setIfInBounds_toArray, List.set_cons_zero, List.set_cons_succ, List.getElem_toArray, List.getElem_cons_zero, List.getElem_cons_succ])
  refine wpAnyH_take (i := 16) (v := ?_) rfl (by kernel_rfl) (by kernel_rfl) (by kernel_rfl) (fun _ _ _ h => h) (Or.inl ⟨by kernel_rfl, ?_⟩) (⟨bo, bt⟩) ?_
  rotate_left
  focus (intro W' hSw; obtain ⟨hx0, hx1⟩ := hSw; have hc0 := hx0.c0; have hc1 := hx0.c1; have hc2 := hx1.c0; have hc3 := hx1.c1; clear hx0 hx1; go_simp; (try with_reducible rfl))
  (try simp only [Act.put, List.setIfInBounds_toArray, List.set_cons_zero, List.set_cons_succ, List.getElem_toArray, List.getElem_cons_zero, List.getElem_cons_succ])
  refine wpAnyH_take (i := 17) (v := ?_) rfl (by kernel_rfl) (by kernel_rfl) (by kernel_rfl) (fun _ _ _ h => h) (Or.inl ⟨by kernel_rfl, ?_⟩) (⟨bo, bt⟩) ?_
  rotate_left
  focus (intro W' hSw; obtain ⟨hx0, hx1⟩ := hSw; have hc0 := hx0.c0; have hc1 := hx0.c1; have hc2 := hx1.c0; have hc3 := hx1.c1; clear hx0 hx1; go_simp; (try with_reducible rfl))
  (try simp only [Act.put, List.setIfInBounds_toArray, List.set_cons_zero, List.set_cons_succ, List.getElem_toArray, List.getElem_cons_zero, List.getElem_cons_succ])
  refine wpAnyH_take (i := 18) (v := ?_) rfl (by kernel_rfl) (by kernel_rfl) (by kernel_rfl) (fun _ _ _ h => h) (Or.inl ⟨by kernel_rfl, ?_⟩) (⟨bo, bt⟩) ?_
  rotate_left
  focus (intro W' hSw; obtain ⟨hx0, hx1⟩ := hSw; have hc0 := hx0.c0; have hc1 := hx0.c1; have hc2 := hx1.c0; have hc3 := hx1.c1; clear hx0 hx1; go_simp; (try with_reducible rfl))
  (try simp only [Act.put, List.setIfInBounds_toArray, List.set_cons_zero, List.set_cons_succ, List.getElem_toArray, List.getElem_cons_zero, List.getElem_cons_succ])
  refine wpAnyH_take (i := 19) (v := ?_) rfl (by kernel_rfl) (by kernel_rfl) (by kernel_rfl) (fun _ _ _ h => h) (Or.inl ⟨by kernel_rfl, ?_⟩) (⟨bo, bt⟩) ?_
  rotate_left
  focus (intro W' hSw; obtain ⟨hx0, hx1⟩ := hSw; have hc0 := hx0.c0; have hc1 := hx0.c1; have hc2 := hx1.c0; have hc3 := hx1.c1; clear hx0 hx1; go_simp; (try with_reducible rfl))
  (try simp only [Act.put, List.setIfInBounds_toArray, List.set_cons_zero, List.set_cons_succ, List.getElem_toArray, List.getElem_cons_zero, List.getElem_cons_succ])
  refine wpAnyH_ready (rs := [20]) (by kernel_rfl) (by simp) ?_
  refine AllReadyH.cons rfl (fun K hK => ?_) (AllReadyH.nil)
  go_simp
  go_at_call 45; refine (sqrtmul_any a b a1 a2 b1 b2 _).mono ?_
  rw [HS2.out]
  rintro e W6 ⟨rfl, hb⟩
  replace bo := bo.go hb
  replace bt := bt.go hb
  replace ho := ho.go hb
  replace ht := ht.go hb
  replace h0 := bel_go h0 h0.size hb
  clear hb
  refine hK.out _ _ (⟨bo, bt⟩) (fun _ => ?_)
  clear hK K
  (try simp only [Act.put, List.setIfInBounds_toArray, List.set_cons_zero, List.set_cons_succ, List.getElem_toArray, List.getElem_cons_zero, List.getElem_cons_succ])
  refine wpAnyH_ready (rs := [21]) (by kernel_rfl) (by simp) ?_
  refine AllReadyH.cons rfl (fun K hK => ?_) (AllReadyH.nil)
  go_simp
  go_at_call 25; refine (i_any S2 t1 t2 _).mono ?_
  rintro e W7 ⟨u, rfl, hi, hb⟩
  obtain ⟨gi, pi, ni, ci, rfl⟩ := hi.shape
  replace bo := bo.go hb
  replace bt := bt.go hb
  replace ho := ho.go hb
  replace ht := ht.go hb
  replace h0 := bel_go h0 h0.size hb
  clear hb
  refine hK.out _ _ (⟨bo, bt⟩) (fun _ => ?_)
  clear hK K
  (try simp only [Act.put, List.setIfInBounds_toArray, List.set_cons_zero, List.set_cons_succ, List.getElem_toArray, List.getElem_cons_zero, List.getElem_cons_succ])
  refine wpAnyH_ready (rs := [22]) (by kernel_rfl) (by simp) ?_
  refine AllReadyH.cons rfl (fun K hK => ?_) (AllReadyH.nil)
  go_simp
  go_at_call 35; refine (zcmp_any _ _ S2 S2 hm2 hm2 _ ht hi).mono ?_
  rintro e W8 ⟨rfl, hb⟩
  clear hi
  replace bo := bo.go hb
  replace bt := bt.go hb
  replace ho := ho.go hb
  replace ht := ht.go hb
  replace h0 := bel_go h0 h0.size hb
  clear hb
  refine hK.out _ _ (⟨bo, bt⟩) (fun _ => ?_)
  clear hK K
  (try simp only [Act.put, List.setIfInBounds_toArray, List.set_cons_zero, List.set_cons_succ, List.getElem_toArray, List.getElem_cons_zero, List.getElem_cons_succ])
  refine wpAnyH_take (i := 23) (v := ?_) rfl (by kernel_rfl) (by kernel_rfl) (by kernel_rfl) (fun _ _ _ h => h) (Or.inl ⟨by kernel_rfl, ?_⟩) (⟨bo, bt⟩) ?_
  rotate_left
  focus (intro W' hSw; obtain ⟨hx0, hx1⟩ := hSw; have hc0 := hx0.c0; have hc1 := hx0.c1; have hc2 := hx1.c0; have hc3 := hx1.c1; clear hx0 hx1; go_simp; (try with_reducible rfl))
  (try simp only [Act.put, List.setIfInBounds_toArray, List.set_cons_zero, List.set_cons_succ, List.getElem_toArray, List.getElem_cons_zero, List.getElem_cons_succ])
  refine wpAnyH_take (i := 24) (v := ?_) rfl (by kernel_rfl) (by kernel_rfl) (by kernel_rfl) (fun _ _ _ h => h) (Or.inl ⟨by kernel_rfl, ?_⟩) (⟨bo, bt⟩) ?_
  rotate_left
  focus (intro W' hSw; obtain ⟨hx0, hx1⟩ := hSw; have hc0 := hx0.c0; have hc1 := hx0.c1; have hc2 := hx1.c0; have hc3 := hx1.c1; clear hx0 hx1; go_simp; (try with_reducible rfl))
  (try simp only [Act.put, List.setIfInBounds_toArray, List.set_cons_zero, List.set_cons_succ, List.getElem_toArray, List.getElem_cons_zero, List.getElem_cons_succ])
  refine wpAnyH_take (i := 25) (v := ?_) rfl (by kernel_rfl) (by kernel_rfl) (by kernel_rfl) (fun _ _ _ h => h) (Or.inl ⟨by kernel_rfl, ?_⟩) (⟨bo, bt⟩) ?_
  rotate_left
  focus (intro W' hSw; obtain ⟨hx0, hx1⟩ := hSw; have hc0 := hx0.c0; have hc1 := hx0.c1; have hc2 := hx1.c0; have hc3 := hx1.c1; clear hx0 hx1; go_simp; (try with_reducible rfl))
  (try simp only [Act.put, List.setIfInBounds_toArray, List.set_cons_zero, List.set_cons_succ, List.getElem_toArray, List.getElem_cons_zero, List.getElem_cons_succ])
  refine wpAnyH_done (by kernel_rfl) ?_ _
  go_wp2
  go_ret
  exact ⟨rfl, h0⟩

set_option maxRecDepth 100000 in
set_option maxHeartbeats 8000000 in
theorem numRoots_both (a : Int) (a1 : -9223372036854775808 ≤ a) (a2 : a ≤ 9223372036854775807) (b : Int) (b1 : -9223372036854775808 ≤ b) (b2 : b ≤ 9223372036854775807) (ha : 0 ≤ a) (hb0 : 0 ≤ b) (w : World) :
    Calls Try.prog 7 #[.int .i64 a, .int .i64 b] w fun e w' => e = .returned (.bool true) ∧ Below w.heap.size w w' := by
  have la := dlen64 a1 a2
  have lb := dlen64 b1 b2
  have hla : (digs a.natAbs).length ≤ 300000 := by omega
  have hlb : (digs b.natAbs).length ≤ 300000 := by omega
  have hla1 : (digs a.natAbs).length ≤ 100000 := by omega
  have sp : (digs (a * b).natAbs).length ≤ 100000 := Nat.le_trans (dlen_mulI la lb) (by omega)
  have sp2 : (digs a.natAbs).length + (digs b.natAbs).length ≤ 1999999 := by omega
  have hsg : Sm (Nat.gcd a.natAbs b.natAbs : Int) := sm_gcd a1 a2 b1 b2
  obtain ⟨V, hV⟩ : ∃ V, smV (Nat.gcd a.natAbs b.natAbs : Int) = V := ⟨_, rfl⟩
  have HV := Lib.hid hV
  have HGV := Lib.hid (show gcdV a b = V by rw [← hV]; exact gcdV_sm a b)
  clear hV
  obtain ⟨S1, hS1⟩ : ∃ S1, (isq a.toNat : Int) = S1 := ⟨_, rfl⟩
  obtain ⟨S2, hS2⟩ : ∃ S2, (isq (a.toNat * b.toNat) : Int) = S2 := ⟨_, rfl⟩
  have e1 := isq_le a.toNat
  have e2 := isq_mul (show a.toNat ≤ 9223372036854775807 by omega) (show b.toNat ≤ 9223372036854775807 by omega)
  have s1 : -9223372036854775808 ≤ S1 := by omega
  have s2 : S1 ≤ 9223372036854775807 := by omega
  have t1 : -9223372036854775808 ≤ S2 := by omega
  have t2 : S2 ≤ 9223372036854775807 := by omega
  have hm1 := sm_le (dlen64 s1 s2) (by omega)
  have hm2 := sm_le (dlen64 t1 t2) (by omega)
  have hk1 : (cmpI S1 S1 == 0) = true := by rw [cmpI_eq rfl]; rfl
  have hk2 : (cmpI S2 S2 == 0) = true := by rw [cmpI_eq rfl]; rfl
  have hab : 0 ≤ a * b := Int.mul_nonneg ha hb0
  have hT := Lib.hid (show (isq (a * b).toNat : Int) = S2 by rw [← hS2, toNat_mulI ha hb0])
  have HS1 := Lib.hid hS1
  have HS2 := Lib.hid hS2
  clear hS1 hS2 e1 e2
  go_enter Try.func7, Try.ntmps7
  go_wp2_with fail
  go_at_call 25; refine (i_any a a1 a2 _).mono ?_
  rintro e Wx ⟨u, rfl, hx, hb⟩
  obtain ⟨gx, px, nx, cx, rfl⟩ := hx.shape
  have h0 := hb
  clear hb
  go_wp2_with fail
  go_at_call 25; refine (i_any b b1 b2 _).mono ?_
  rintro e Wy ⟨u, rfl, hy, hb⟩
  obtain ⟨gy, py, ny, cy, rfl⟩ := hy.shape
  replace hx := hx.go hb
  replace h0 := bel_go h0 h0.size hb
  clear hb
  go_wp2_with fail
  go_at_call 41; refine (zgcd_any _ _ a b hla hlb _ hx hy).mono ?_
  rintro e Wg ⟨u, rfl, hg, hb⟩
  obtain ⟨gg, pg, ng, cg, rfl⟩ := hg.shape
  replace h0 := bel_go h0 h0.size hb
  clear hb
  go_wp2_with fail
  go_at_call 21; refine (fits_any _ _ hsg _ hg).mono ?_
  rw [HV.out]
  rintro e WF ⟨rfl, hb⟩
  clear hx hy hg
  replace h0 := bel_go h0 h0.size hb
  clear hb
  go_wp2_with fail
  have hF0 := Lib.hid h0.size
  obtain ⟨WB, hWB, hal, bo, bt⟩ := boot2 WF (.bool false) (.slice none 0 0) (.bool false) (.slice none 0 0)
  rw [← hWB]
  clear hWB
  replace h0 := bel_go h0 h0.size hal
  clear hal
  have sB := Lib.hid (show w.heap.size ≤ WF.heap.size from hF0.out)
  generalize WF.heap.size = BO at bo bt sB ⊢
  have ho := zero_z WB
  have ht := zero_z WB
  go_wp2_with fail
  go_at_call 25; refine (i_any a a1 a2 _).mono ?_
  rintro e Wx ⟨u, rfl, hx, hb⟩
  obtain ⟨gx, px, nx, cx, rfl⟩ := hx.shape
  replace ht := ht.go hb
  replace bo := bo.go hb
  replace bt := bt.go hb
  replace h0 := bel_go h0 h0.size hb
  clear hb
  go_wp2_with fail
  go_at_call 42; refine (zroot_any _ a ha hla1 _ hx).mono ?_
  rintro e Wr ⟨u, rfl, hr, hb⟩
  obtain ⟨gr, pr, nr, cr, rfl⟩ := hr.shape
  replace ht := ht.go hb
  replace bo := bo.go hb
  replace bt := bt.go hb
  replace h0 := bel_go h0 h0.size hb
  clear hb
  clear ho
  have q0 := bo.c0
  have q1 := bo.c1
  have q2 := bo.f0
  have q3 := bo.f1
  go_wp2_with fail
  clear q0 q1 q2 q3
  have hP := put2 Wr (BO) (.bool gr) (.slice pr nr cr)
  have hN := bo.stored (.bool gr) (.slice pr nr cr)
  generalize (Wr.setCell ⟨BO, 0, none⟩ (.bool gr)).setCell ⟨BO, 1, none⟩ (.slice pr nr cr) = WC at hP hN ⊢
  replace hr := hr.put bo (by decide) hP
  replace ht := ht.put bo (by decide) hP
  replace bt := bt.put hP (by omega)
  replace h0 := bel_put h0 (by have := sB.out; omega) hP
  clear hP bo
  have bo := hN
  clear hN
  have ho := hr
  clear hr hx
  go_at_call 25; refine (i_any a a1 a2 _).mono ?_
  rintro e Wx ⟨u, rfl, hx, hb⟩
  obtain ⟨gx, px, nx, cx, rfl⟩ := hx.shape
  replace ho := ho.go hb
  replace bo := bo.go hb
  replace bt := bt.go hb
  replace h0 := bel_go h0 h0.size hb
  clear hb
  go_wp2_with fail
  go_at_call 25; refine (i_any b b1 b2 _).mono ?_
  rintro e Wy ⟨u, rfl, hy, hb⟩
  obtain ⟨gy, py, ny, cy, rfl⟩ := hy.shape
  replace hx := hx.go hb
  replace ho := ho.go hb
  replace bo := bo.go hb
  replace bt := bt.go hb
  replace h0 := bel_go h0 h0.size hb
  clear hb
  go_wp2_with fail
  go_at_call 28; refine (ztimes_any _ _ a b sp2 _ hx hy).mono ?_
  rintro e Wm ⟨u, rfl, hm, hb⟩
  obtain ⟨gm, pm, nm, cm, rfl⟩ := hm.shape
  replace ho := ho.go hb
  replace bo := bo.go hb
  replace bt := bt.go hb
  replace h0 := bel_go h0 h0.size hb
  clear hb
  go_wp2_with fail
  go_at_call 42; refine (zroot_any _ (a * b) hab sp _ hm).mono ?_
  rintro e Ws ⟨u, rfl, hs, hb⟩
  obtain ⟨gs, ps, ns, cs, rfl⟩ := hs.shape
  replace ho := ho.go hb
  replace bo := bo.go hb
  replace bt := bt.go hb
  replace h0 := bel_go h0 h0.size hb
  clear hb
  clear ht
  have q0 := bt.c0
  have q1 := bt.c1
  have q2 := bt.f0
  have q3 := bt.f1
  go_wp2_with fail
  clear q0 q1 q2 q3
  have hP := put2 Ws (BO + 1) (.bool gs) (.slice ps ns cs)
  have hN := bt.stored (.bool gs) (.slice ps ns cs)
  generalize (Ws.setCell ⟨BO + 1, 0, none⟩ (.bool gs)).setCell ⟨BO + 1, 1, none⟩ (.slice ps ns cs) = WD at hP hN ⊢
  replace hs := hs.put bt (by decide) hP
  replace ho := ho.put bt (by decide) hP
  replace bo := bo.put hP (by omega)
  replace h0 := bel_put h0 (by have := sB.out; omega) hP
  clear hP bt
  have bt := hN
  clear hN
  have ht := hs
  clear hs hx hy hm
  rw [HS1.out] at ho
  rw [hT.out] at ht
  go_wp2
  refine wp_region_held_drew (S := fun W' => Bx W' (BO) 27 (.bool gr) (.slice pr nr cr) ∧ Bx W' ((BO + 1)) 27 (.bool gs) (.slice ps ns cs)) (by kernel_rfl) (⟨bo.drew, bt.drew⟩) (fun _ => ?_)
  replace bo := bo.drew
  replace bt := bt.drew
  replace ho := ho.drew
  replace ht := ht.drew
  replace h0 := Below.drew h0
  generalize WD.drew = WD at bo bt ho ht h0 ⊢
  refine wpAnyH_ready (rs := [0]) (by kernel_rfl) (by simp) ?_
  refine AllReadyH.cons rfl (fun K hK => ?_) (AllReadyH.nil)
  go_simp
  go_at_call 19; refine (nums_any _).mono ?_
  rintro e W1 ⟨rfl, hb⟩
  replace bo := bo.go hb
  replace bt := bt.go hb
  replace ho := ho.go hb
  replace ht := ht.go hb
  replace h0 := bel_go h0 h0.size hb
  clear hb
  refine hK.out _ _ (⟨bo, bt⟩) (fun _ => ?_)
  clear hK K
  (try simp only [Act.put, List.setIfInBounds_toArray, List.set_cons_zero, List.set_cons_succ, List.getElem_toArray, List.getElem_cons_zero, List.getElem_cons_succ])
  refine wpAnyH_take (i := 1) (v := ?_) rfl (by kernel_rfl) (by kernel_rfl) (by kernel_rfl) (fun _ _ _ h => h) (Or.inl ⟨by kernel_rfl, ?_⟩) (⟨bo, bt⟩) ?_
  rotate_left
  focus (intro W' hSw; obtain ⟨hx0, hx1⟩ := hSw; have hc0 := hx0.c0; have hc1 := hx0.c1; have hc2 := hx1.c0; have hc3 := hx1.c1; clear hx0 hx1; go_simp; (try with_reducible rfl))
  (try simp only [Act.put, List.setIfInBounds_toArray, List.set_cons_zero, List.set_cons_succ, List.getElem_toArray, List.getElem_cons_zero, List.getElem_cons_succ])
  refine wpAnyH_take (i := 2) (v := ?_) rfl (by kernel_rfl) (by kernel_rfl) (by kernel_rfl) (fun _ _ _ h => h) (Or.inl ⟨by kernel_rfl, ?_⟩) (⟨bo, bt⟩) ?_
  rotate_left
  focus (intro W' hSw; obtain ⟨hx0, hx1⟩ := hSw; have hc0 := hx0.c0; have hc1 := hx0.c1; have hc2 := hx1.c0; have hc3 := hx1.c1; clear hx0 hx1; go_simp; (try with_reducible rfl))
  (try simp only [Act.put, List.setIfInBounds_toArray, List.set_cons_zero, List.set_cons_succ, List.getElem_toArray, List.getElem_cons_zero, List.getElem_cons_succ])
  refine wpAnyH_take (i := 3) (v := ?_) rfl (by kernel_rfl) (by kernel_rfl) (by kernel_rfl) (fun _ _ _ h => h) (Or.inl ⟨by kernel_rfl, ?_⟩) (⟨bo, bt⟩) ?_
  rotate_left
  focus (intro W' hSw; obtain ⟨hx0, hx1⟩ := hSw; have hc0 := hx0.c0; have hc1 := hx0.c1; have hc2 := hx1.c0; have hc3 := hx1.c1; clear hx0 hx1; go_simp; (try with_reducible rfl))
  (try simp only [Act.put, List.setIfInBounds_toArray, List.set_cons_zero, List.set_cons_succ, List.getElem_toArray, List.getElem_cons_zero, List.getElem_cons_succ])
  refine wpAnyH_take (i := 5) (v := ?_) rfl (by kernel_rfl) (by kernel_rfl) (by kernel_rfl) (fun _ _ _ h => h) (Or.inl ⟨by kernel_rfl, ?_⟩) (⟨bo, bt⟩) ?_
  rotate_left
  focus (intro W' hSw; obtain ⟨hx0, hx1⟩ := hSw; have hc0 := hx0.c0; have hc1 := hx0.c1; have hc2 := hx1.c0; have hc3 := hx1.c1; clear hx0 hx1; go_simp; (try with_reducible rfl))
  (try simp only [Act.put, List.setIfInBounds_toArray, List.set_cons_zero, List.set_cons_succ, List.getElem_toArray, List.getElem_cons_zero, List.getElem_cons_succ])
  refine wpAnyH_ready (rs := [4]) (by kernel_rfl) (by simp) ?_
  refine AllReadyH.cons rfl (fun K hK => ?_) (AllReadyH.nil)
  go_simp
  go_at_call 43; refine (gcd_any a b a1 a2 b1 b2 _).mono ?_
  rw [HGV.out]
  rintro e W2 ⟨rfl, hb⟩
  replace bo := bo.go hb
  replace bt := bt.go hb
  replace ho := ho.go hb
  replace ht := ht.go hb
  replace h0 := bel_go h0 h0.size hb
  clear hb
  refine hK.out _ _ (⟨bo, bt⟩) (fun _ => ?_)
  clear hK K
  (try simp only [Act.put, List.setIfInBounds_toArray, List.set_cons_zero, List.set_cons_succ, List.getElem_toArray, List.getElem_cons_zero, List.getElem_cons_succ])
  refine wpAnyH_take (i := 6) (v := ?_) rfl (by kernel_rfl) (by kernel_rfl) (by kernel_rfl) (fun _ _ _ h => h) (Or.inl ⟨by kernel_rfl, ?_⟩) (⟨bo, bt⟩) ?_
  rotate_left
  focus (intro W' hSw; obtain ⟨hx0, hx1⟩ := hSw; have hc0 := hx0.c0; have hc1 := hx0.c1; have hc2 := hx1.c0; have hc3 := hx1.c1; clear hx0 hx1; go_simp; (try with_reducible rfl))
  (try simp only [Act.put, List.setIfInBounds_toArray, List.set_cons_zero, List.set_cons_succ, List.getElem_toArray, List.getElem_cons_zero, List.getElem_cons_succ])
  refine wpAnyH_take (i := 7) (v := ?_) rfl (by kernel_rfl) (by kernel_rfl) (by kernel_rfl) (fun _ _ _ h => h) (Or.inl ⟨by kernel_rfl, ?_⟩) (⟨bo, bt⟩) ?_
  rotate_left
  focus (intro W' hSw; obtain ⟨hx0, hx1⟩ := hSw; have hc0 := hx0.c0; have hc1 := hx0.c1; have hc2 := hx1.c0; have hc3 := hx1.c1; clear hx0 hx1; go_simp; (try with_reducible rfl))
  (try simp only [Act.put, List.setIfInBounds_toArray, List.set_cons_zero, List.set_cons_succ, List.getElem_toArray, List.getElem_cons_zero, List.getElem_cons_succ])
  refine wpAnyH_take (i := 8) (v := ?_) rfl (by kernel_rfl) (by kernel_rfl) (by kernel_rfl) (fun _ _ _ h => h) (Or.inl ⟨by kernel_rfl, ?_⟩) (⟨bo, bt⟩) ?_
  rotate_left
  focus (intro W' hSw; obtain ⟨hx0, hx1⟩ := hSw; have hc0 := hx0.c0; have hc1 := hx0.c1; have hc2 := hx1.c0; have hc3 := hx1.c1; clear hx0 hx1; go_simp; (try with_reducible rfl))
  (try simp only [Act.put, List.setIfInBounds_toArray, List.set_cons_zero, List.set_cons_succ, List.getElem_toArray, List.getElem_cons_zero, List.getElem_cons_succ])
  refine wpAnyH_take (i := 9) (v := ?_) rfl (by kernel_rfl) (by kernel_rfl) (by kernel_rfl) (fun _ _ _ h => h) (Or.inl ⟨by kernel_rfl, ?_⟩) (⟨bo, bt⟩) ?_
  rotate_left
  focus (intro W' hSw; obtain ⟨hx0, hx1⟩ := hSw; have hc0 := hx0.c0; have hc1 := hx0.c1; have hc2 := hx1.c0; have hc3 := hx1.c1; clear hx0 hx1; go_simp; (try with_reducible rfl))
  (try simp only [Act.put, List.setIfInBounds_toArray, List.set_cons_zero, List.set_cons_succ, List.getElem_toArray, List.getElem_cons_zero, List.getElem_cons_succ])
  refine wpAnyH_take (i := 10) (v := ?_) rfl (by kernel_rfl) (by kernel_rfl) (by kernel_rfl) (fun _ _ _ h => h) (Or.inl ⟨by kernel_rfl, ?_⟩) (⟨bo, bt⟩) ?_
  rotate_left
  focus (intro W' hSw; obtain ⟨hx0, hx1⟩ := hSw; have hc0 := hx0.c0; have hc1 := hx0.c1; have hc2 := hx1.c0; have hc3 := hx1.c1; clear hx0 hx1; go_simp; (try with_reducible rfl))
  (try simp only [Act.put, List.setIfInBounds_toArray, List.set_cons_zero, List.set_cons_succ, List.getElem_toArray, List.getElem_cons_zero, List.getElem_cons_succ])
  refine wpAnyH_ready (rs := [11]) (by kernel_rfl) (by simp) ?_
  refine AllReadyH.cons rfl (fun K hK => ?_) (AllReadyH.nil)
  go_simp
  go_at_call 44; refine (sqrt_any a a1 a2 _).mono ?_
  rw [HS1.out]
  rintro e W3 ⟨rfl, hb⟩
  replace bo := bo.go hb
  replace bt := bt.go hb
  replace ho := ho.go hb
  replace ht := ht.go hb
  replace h0 := bel_go h0 h0.size hb
  clear hb
  refine hK.out _ _ (⟨bo, bt⟩) (fun _ => ?_)
  clear hK K
  (try simp only [Act.put, List.setIfInBounds_toArray, List.set_cons_zero, List.set_cons_succ, List.getElem_toArray, List.getElem_cons_zero, List.getElem_cons_succ])
  refine wpAnyH_ready (rs := [12]) (by kernel_rfl) (by simp) ?_
  refine AllReadyH.cons rfl (fun K hK => ?_) (AllReadyH.nil)
  go_simp
  go_at_call 25; refine (i_any S1 s1 s2 _).mono ?_
  rintro e W4 ⟨u, rfl, hi, hb⟩
  obtain ⟨gi, pi, ni, ci, rfl⟩ := hi.shape
  replace bo := bo.go hb
  replace bt := bt.go hb
  replace ho := ho.go hb
  replace ht := ht.go hb
  replace h0 := bel_go h0 h0.size hb
  clear hb
  refine hK.out _ _ (⟨bo, bt⟩) (fun _ => ?_)
  clear hK K
  (try simp only [Act.put, List.setIfInBounds_toArray, List.set_cons_zero, List.set_cons_succ, List.getElem_toArray, List.getElem_cons_zero, List.getElem_cons_succ])
  refine wpAnyH_ready (rs := [13]) (by kernel_rfl) (by simp) ?_
  refine AllReadyH.cons rfl (fun K hK => ?_) (AllReadyH.nil)
  go_simp
  go_at_call 35; refine (zcmp_any _ _ S1 S1 hm1 hm1 _ ho hi).mono ?_
  rintro e W5 ⟨rfl, hb⟩
  clear hi
  replace bo := bo.go hb
  replace bt := bt.go hb
  replace ho := ho.go hb
  replace ht := ht.go hb
  replace h0 := bel_go h0 h0.size hb
  clear hb
  refine hK.out _ _ (⟨bo, bt⟩) (fun _ => ?_)
  clear hK K
  (try simp only [Act.put, List.setIfInBounds_toArray, List.set_cons_zero, List.set_cons_succ, List.getElem_toArray, List.getElem_cons_zero, List.getElem_cons_succ])
  refine wpAnyH_take (i := 14) (v := ?_) rfl (by kernel_rfl) (by kernel_rfl) (by kernel_rfl) (fun _ _ _ h => h) (Or.inl ⟨by kernel_rfl, ?_⟩) (⟨bo, bt⟩) ?_
  rotate_left
  focus (intro W' hSw; obtain ⟨hx0, hx1⟩ := hSw; have hc0 := hx0.c0; have hc1 := hx0.c1; have hc2 := hx1.c0; have hc3 := hx1.c1; clear hx0 hx1; go_simp; (try with_reducible rfl))
  (try simp only [Act.put, List.setIfInBounds_toArray, List.set_cons_zero, List.set_cons_succ, List.getElem_toArray, List.getElem_cons_zero, List.getElem_cons_succ])
  refine wpAnyH_take (i := 15) (v := ?_) rfl (by kernel_rfl) (by kernel_rfl) (by kernel_rfl) (fun _ _ _ h => h) (Or.inl ⟨by kernel_rfl, ?_⟩) (⟨bo, bt⟩) ?_
  rotate_left
  focus (intro W' hSw; obtain ⟨hx0, hx1⟩ := hSw; have hc0 := hx0.c0; have hc1 := hx0.c1; have hc2 := hx1.c0; have hc3 := hx1.c1; clear hx0 hx1; go_simp; (try with_reducible rfl))
  (try simp only [Act.put, List.setIfInBounds_toArray, List.set_cons_zero, List.set_cons_succ, List.getElem_toArray, List.getElem_cons_zero, List.getElem_cons_succ])
  refine wpAnyH_take (i := 16) (v := ?_) rfl (by kernel_rfl) (by kernel_rfl) (by kernel_rfl) (fun _ _ _ h => h) (Or.inl ⟨by kernel_rfl, ?_⟩) (⟨bo, bt⟩) ?_
  rotate_left
  focus (intro W' hSw; obtain ⟨hx0, hx1⟩ := hSw; have hc0 := hx0.c0; have hc1 := hx0.c1; have hc2 := hx1.c0; have hc3 := hx1.c1; clear hx0 hx1; go_simp; (try with_reducible rfl))
  (try simp only [Act.put, List.setIfInBounds_toArray, List.set_cons_zero, List.set_cons_succ, List.getElem_toArray, List.getElem_cons_zero, List.getElem_cons_succ])
  refine wpAnyH_take (i := 17) (v := ?_) rfl (by kernel_rfl) (by kernel_rfl) (by kernel_rfl) (fun _ _ _ h => h) (Or.inl ⟨by kernel_rfl, ?_⟩) (⟨bo, bt⟩) ?_
  rotate_left
  focus (intro W' hSw; obtain ⟨hx0, hx1⟩ := hSw; have hc0 := hx0.c0; have hc1 := hx0.c1; have hc2 := hx1.c0; have hc3 := hx1.c1; clear hx0 hx1; go_simp; (try with_reducible rfl))
  (try simp only [Act.put, List.setIfInBounds_toArray, List.set_cons_zero, List.set_cons_succ, List.getElem_toArray, List.getElem_cons_zero, List.getElem_cons_succ])
  refine wpAnyH_take (i := 18) (v := ?_) rfl (by kernel_rfl) (by kernel_rfl) (by kernel_rfl) (fun _ _ _ h => h) (Or.inl ⟨by kernel_rfl, ?_⟩) (⟨bo, bt⟩) ?_
  rotate_left
  focus (intro W' hSw; obtain ⟨hx0, hx1⟩ := hSw; have hc0 := hx0.c0; have hc1 := hx0.c1; have hc2 := hx1.c0; have hc3 := hx1.c1; clear hx0 hx1; go_simp; (try with_reducible rfl))
  (try simp only [Act.put, List.setIfInBounds_toArray, List.set_cons_zero, List.set_cons_succ, List.getElem_toArray, List.getElem_cons_zero, List.getElem_cons_succ])
  refine wpAnyH_take (i := 19) (v := ?_) rfl (by kernel_rfl) (by kernel_rfl) (by kernel_rfl) (fun _ _ _ h => h) (Or.inl ⟨by kernel_rfl, ?_⟩) (⟨bo, bt⟩) ?_
  rotate_left
  focus (intro W' hSw; obtain ⟨hx0, hx1⟩ := hSw; have hc0 := hx0.c0; have hc1 := hx0.c1; have hc2 := hx1.c0; have hc3 := hx1.c1; clear hx0 hx1; go_simp; (try with_reducible rfl))
  (try simp only [Act.put, List.setIfInBounds_toArray, List.set_cons_zero, List.set_cons_succ, List.getElem_toArray, List.getElem_cons_zero, List.getElem_cons_succ])
  refine wpAnyH_ready (rs := [20]) (by kernel_rfl) (by simp) ?_
  refine AllReadyH.cons rfl (fun K hK => ?_) (AllReadyH.nil)
  go_simp
  go_at_call 45; refine (sqrtmul_any a b a1 a2 b1 b2 _).mono ?_
  rw [HS2.out]
  rintro e W6 ⟨rfl, hb⟩
  replace bo := bo.go hb
  replace bt := bt.go hb
  replace ho := ho.go hb
  replace ht := ht.go hb
  replace h0 := bel_go h0 h0.size hb
  clear hb
  refine hK.out _ _ (⟨bo, bt⟩) (fun _ => ?_)
  clear hK K
  (try simp only [Act.put, List.setIfInBounds_toArray, List.set_cons_zero, List.set_cons_succ, List.getElem_toArray, List.getElem_cons_zero, List.getElem_cons_succ])
  refine wpAnyH_ready (rs := [21]) (by kernel_rfl) (by simp) ?_
  refine AllReadyH.cons rfl (fun K hK => ?_) (AllReadyH.nil)
  go_simp
  go_at_call 25; refine (i_any S2 t1 t2 _).mono ?_
  rintro e W7 ⟨u, rfl, hi, hb⟩
  obtain ⟨gi, pi, ni, ci, rfl⟩ := hi.shape
  replace bo := bo.go hb
  replace bt := bt.go hb
  replace ho := ho.go hb
  replace ht := ht.go hb
  replace h0 := bel_go h0 h0.size hb
  clear hb
  refine hK.out _ _ (⟨bo, bt⟩) (fun _ => ?_)
  clear hK K
  (try simp only [Act.put, List.setIfInBounds_toArray, List.set_cons_zero, List.set_cons_succ, List.getElem_toArray, List.getElem_cons_zero, List.getElem_cons_succ])
  refine wpAnyH_ready (rs := [22]) (by kernel_rfl) (by simp) ?_
  refine AllReadyH.cons rfl (fun K hK => ?_) (AllReadyH.nil)
  go_simp
  go_at_call 35; refine (zcmp_any _ _ S2 S2 hm2 hm2 _ ht hi).mono ?_
  rintro e W8 ⟨rfl, hb⟩
  clear hi
  replace bo := bo.go hb
  replace bt := bt.go hb
  replace ho := ho.go hb
  replace ht := ht.go hb
  replace h0 := bel_go h0 h0.size hb
  clear hb
  refine hK.out _ _ (⟨bo, bt⟩) (fun _ => ?_)
  clear hK K
  (try simp only [Act.put, List.setIfInBounds_toArray, List.set_cons_zero, List.set_cons_succ, List.getElem_toArray, List.getElem_cons_zero, List.getElem_cons_succ])
  refine wpAnyH_take (i := 23) (v := ?_) rfl (by kernel_rfl) (by kernel_rfl) (by kernel_rfl) (fun _ _ _ h => h) (Or.inl ⟨by kernel_rfl, ?_⟩) (⟨bo, bt⟩) ?_
  rotate_left
  focus (intro W' hSw; obtain ⟨hx0, hx1⟩ := hSw; have hc0 := hx0.c0; have hc1 := hx0.c1; have hc2 := hx1.c0; have hc3 := hx1.c1; clear hx0 hx1; go_simp; (try with_reducible rfl))
  (try simp only [Act.put, List.setIfInBounds_toArray, List.set_cons_zero, List.set_cons_succ, List.getElem_toArray, List.getElem_cons_zero, List.getElem_cons_succ])
  refine wpAnyH_take (i := 24) (v := ?_) rfl (by kernel_rfl) (by kernel_rfl) (by kernel_rfl) (fun _ _ _ h => h) (Or.inl ⟨by kernel_rfl, ?_⟩) (⟨bo, bt⟩) ?_
  rotate_left
  focus (intro W' hSw; obtain ⟨hx0, hx1⟩ := hSw; have hc0 := hx0.c0; have hc1 := hx0.c1; have hc2 := hx1.c0; have hc3 := hx1.c1; clear hx0 hx1; go_simp; (try with_reducible rfl))
  (try simp only [Act.put, List.setIfInBounds_toArray, List.set_cons_zero, List.set_cons_succ, List.getElem_toArray, List.getElem_cons_zero, List.getElem_cons_succ])
  refine wpAnyH_take (i := 25) (v := ?_) rfl (by kernel_rfl) (by kernel_rfl) (by kernel_rfl) (fun _ _ _ h => h) (Or.inl ⟨by kernel_rfl, ?_⟩) (⟨bo, bt⟩) ?_
  rotate_left
  focus (intro W' hSw; obtain ⟨hx0, hx1⟩ := hSw; have hc0 := hx0.c0; have hc1 := hx0.c1; have hc2 := hx1.c0; have hc3 := hx1.c1; clear hx0 hx1; go_simp; (try with_reducible rfl))
  (try simp only [Act.put, List.setIfInBounds_toArray, List.set_cons_zero, List.set_cons_succ, List.getElem_toArray, List.getElem_cons_zero, List.getElem_cons_succ])
  refine wpAnyH_done (by kernel_rfl) ?_ _
  go_wp2
  go_ret
  exact ⟨rfl, h0⟩

theorem numRoots_law (a : Int) (a1 : -9223372036854775808 ≤ a) (a2 : a ≤ 9223372036854775807) (b : Int) (b1 : -9223372036854775808 ≤ b) (b2 : b ≤ 9223372036854775807) (w : World) :
    Calls Try.prog 7 #[.int .i64 a, .int .i64 b] w fun e w' => e = .returned (.bool true) ∧ Below w.heap.size w w' := by
  rcases (show a < 0 ∨ 0 ≤ a by omega) with h | h
  · exact numRoots_neg a a1 a2 b b1 b2 h w
  · rcases (show b < 0 ∨ 0 ≤ b by omega) with g | g
    · exact numRoots_half a a1 a2 b b1 b2 h g w
    · exact numRoots_both a a1 a2 b b1 b2 h g w
end Go.Proofs.Ytalonppmoimmjaa
