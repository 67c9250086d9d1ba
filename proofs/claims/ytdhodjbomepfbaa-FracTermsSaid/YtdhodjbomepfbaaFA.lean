/-
  The fact fracs; the reference's FracErr.
  Conditions: the arguments are int64.
-/
import Derived.Test.YtdhodjbomepfbaaF9
import Derived.Test.YtdhodjbomepfbaaZB
import Derived.Test.YtdhodjbomepfbaaZC
import Derived.Test.YtdhodjbomepfbaaW1
set_option linter.unusedVariables false
set_option linter.unusedSimpArgs false
namespace Go.Proofs.Ytdhodjbomepfbaa
open Go.RowKit Go.Shelf Zd Wd

theorem fact_add1 : addA 1 6 1 10 = 4 ∧ addB 1 6 1 10 = 15 ∧ addE 1 6 1 10 = 0 :=
  add_eq ⟨by omega, by decide⟩ ⟨by omega, by decide⟩ ⟨by omega, by decide⟩ (by omega)
theorem fact_cf : cf 157 (50 : Int).toNat = 3 :: [7, 7] := by
  rw [show (50 : Int).toNat = 50 from rfl, cf_pos 157 (by omega), show ((157 : Int) % ((50 : Nat) : Int)).toNat = 7 from rfl, cf_pos _ (by omega), show ((50 : Nat) : Int) % ((7 : Nat) : Int) = 1 from rfl, show (1 : Int).toNat = 1 from rfl, cf_pos _ (by omega), show (((7 : Nat) : Int) % ((1 : Nat) : Int)).toNat = 0 from rfl, cf_zero]
  rfl
theorem fact_best : bestL 157 50 10 [7, 7] 1 0 3 1 = some (22, 7) := by decide +kernel
theorem fact_chk : chkV 157 50 = 0 := chkV_zero.2 ⟨by omega, by decide⟩
set_option maxRecDepth 100000 in
theorem fracs_any (w : World) : Calls Try.prog 62 #[] w fun e w' => e = .returned (.bool true) ∧ Below w.heap.size w w' := by
  have HK := Lib.hid fact_add1
  go_enter Try.func62, Try.ntmps62
  go_wp2_with fail
  go_at_call 101; (with_reducible refine (addf_any 1 6 1 10 (by omega) (by omega) (by omega) (by omega) (by omega) (by omega) (by omega) (by omega) _).mono ?_)
  rw [HK.out.1, HK.out.2.1, HK.out.2.2]
  rintro e W1 ⟨rfl, h0⟩
  go_upto_region 2 with fail
  have hal : Below W1.heap.size W1 (W1.alloc (.cells #[.int .i64 (4), .int .i64 (15)] 76)) := (Below.refl _ _).alloc (Nat.le_refl _) _
  have xa := Bx.new W1 76 (.int .i64 (4)) (.int .i64 (15))
  replace h0 := bel_go h0 h0.size hal
  clear hal
  generalize W1.heap.size = Bxa at xa ⊢
  generalize W1.alloc (.cells #[.int .i64 (4), .int .i64 (15)] 76) = W2 at xa h0 ⊢
  go_wp2_with fail
  go_at_call 102; (with_reducible refine (best_ok 157 50 10 (by omega) (by omega) (by omega) (by omega) (by omega) (by omega) 3 [7, 7] 22 7 (by omega) fact_chk fact_cf fact_best _).mono ?_)
  rintro e W3 ⟨rfl, hb⟩
  replace xa := xa.go hb
  replace h0 := bel_go h0 h0.size hb
  clear hb
  go_upto_region 3 with fail
  have hal : Below W3.heap.size W3 (W3.alloc (.cells #[.int .i64 (22), .int .i64 (7)] 76)) := (Below.refl _ _).alloc (Nat.le_refl _) _
  have xy := Bx.new W3 76 (.int .i64 (22)) (.int .i64 (7))
  replace xa := xa.go hal
  replace h0 := bel_go h0 h0.size hal
  clear hal
  generalize W3.heap.size = Bxy at xy ⊢
  generalize W3.alloc (.cells #[.int .i64 (22), .int .i64 (7)] 76) = W4 at xa xy h0 ⊢
  have c_xa := xa.c0
  have d_xa := xa.c1
  have p_xa := xa.f0
  have q_xa := xa.f1
  have c_xy := xy.c0
  have d_xy := xy.c1
  have p_xy := xy.f0
  have q_xy := xy.f1
  go_wp2_with fail
  clear c_xa d_xa p_xa q_xa c_xy d_xy p_xy q_xy
  go_ret
  exact ⟨rfl, h0⟩
set_option maxRecDepth 100000 in
set_option maxHeartbeats 4000000 in
theorem fracErr_any (n d : Int) (a1 : -9223372036854775808 ≤ n) (a2 : n ≤ 9223372036854775807) (b1 : -9223372036854775808 ≤ d) (b2 : d ≤ 9223372036854775807) (w : World) : Calls Try.prog 58 #[fr n d] w fun e w' => e = .returned (.int .i64 (chkV n d)) ∧ Below w.heap.size w w' := by
  by_cases h : -1152921504606846976 ≤ n ∧ n ≤ 1152921504606846976 ∧ 1 ≤ d ∧ d ≤ 1152921504606846976
  · obtain ⟨h1, h2, h3, h4⟩ := h
    have h5 : ¬ 1152921504606846976 < n := by omega
    have h6 : ¬ n < -1152921504606846976 := by omega
    have h7 : ¬ 1152921504606846976 < d := by omega
    have h8 : ¬ d < 1 := by omega
    have hf : frOk n d = true := frOk_iff.2 ⟨h1, h2, h3, h4⟩
    have hgp : 0 < Int.gcd n d := Int.gcd_pos_of_ne_zero_right _ (by omega)
    have hgl : Int.gcd n d ≤ d.natAbs := Int.gcd_le_natAbs_right _ (by omega)
    have HL : Hid ((digs n.natAbs).length ≤ 300000 ∧ (digs d.natAbs).length ≤ 300000 ∧ Sm (Nat.gcd n.natAbs d.natAbs : Int) ∧ Sm 1) := by
      have e1 := dlen64 a1 a2
      have e2 := dlen64 b1 b2
      have e3 : (digs (Nat.gcd n.natAbs d.natAbs : Int).natAbs).length ≤ 4 := dlen64 (by omega) (by unfold Int.gcd at hgl; omega)
      have e4 : (digs (1 : Int).natAbs).length ≤ 4 := dlen64 (by omega) (by omega)
      exact ⟨by omega, by omega, sm_le e3 (by omega), sm_le e4 (by omega)⟩
    by_cases hg : 1 < Int.gcd n d
    · rw [show chkV n d = 3 by unfold chkV; rw [if_pos hf, if_pos hg]]
      have HG : Hid (cmpI (Nat.gcd n.natAbs d.natAbs : Int) 1 = 1) := Lib.hid (cmpI_gt (by unfold Int.gcd at hg; omega))
      clear hf hgp hgl hg h1 h2 h3 h4
      obtain ⟨W, hW, h0, x0⟩ := fbox1 w (.int .i64 n) (.int .i64 d)
      have HW := Lib.hid hW
      clear hW
      go_enter Try.func58, Try.ntmps58
      go_wp2_with fail
      rw [← HW.out]
      clear HW
      have c_x0 := x0.c0
      have d_x0 := x0.c1
      have p_x0 := x0.f0
      have q_x0 := x0.f1
      go_wp2_with fail
      clear c_x0 d_x0 p_x0 q_x0
      refine wp_region_held_drew (S := fun W' => Bx W' (w.heap.size) 76 (.int .i64 n) (.int .i64 d)) (by kernel_rfl) (x0.drew) (fun _ => ?_)
      replace x0 := x0.drew
      replace h0 := Below.drew h0
      generalize W.drew = W at x0 h0 ⊢
      refine wpAnyH_take (i := 0) (v := ?_) rfl (by kernel_rfl) (by kernel_rfl) (by kernel_rfl) (fun _ _ _ h => h) (Or.inl ⟨by kernel_rfl, ?_⟩) (x0) ?_
      rotate_left
      focus (intro W' hSw; have hx0 := hSw; (try dsimp only at hx0); have hc0 := hx0.c0; have hc1 := hx0.c1; clear hx0; go_simp; (try with_reducible rfl))
      (try simp only [Act.put, List.setIfInBounds_toArray, List.set_cons_zero, List.set_cons_succ, List.getElem_toArray, List.getElem_cons_zero, List.getElem_cons_succ])
      refine wpAnyH_take (i := 1) (v := ?_) rfl (by kernel_rfl) (by kernel_rfl) (by kernel_rfl) (fun _ _ _ h => h) (Or.inl ⟨by kernel_rfl, ?_⟩) (x0) ?_
      rotate_left
      focus (intro W' hSw; have hx0 := hSw; (try dsimp only at hx0); have hc0 := hx0.c0; have hc1 := hx0.c1; clear hx0; go_simp; (try with_reducible rfl))
      (try simp only [Act.put, List.setIfInBounds_toArray, List.set_cons_zero, List.set_cons_succ, List.getElem_toArray, List.getElem_cons_zero, List.getElem_cons_succ])
      refine wpAnyH_take (i := 3) (v := ?_) rfl (by kernel_rfl) (by kernel_rfl) (by kernel_rfl) (fun _ _ _ h => h) (Or.inl ⟨by kernel_rfl, ?_⟩) (x0) ?_
      rotate_left
      focus (intro W' hSw; have hx0 := hSw; (try dsimp only at hx0); have hc0 := hx0.c0; have hc1 := hx0.c1; clear hx0; go_simp; (try with_reducible rfl))
      (try simp only [Act.put, List.setIfInBounds_toArray, List.set_cons_zero, List.set_cons_succ, List.getElem_toArray, List.getElem_cons_zero, List.getElem_cons_succ])
      refine wpAnyH_take (i := 4) (v := ?_) rfl (by kernel_rfl) (by kernel_rfl) (by kernel_rfl) (fun _ _ _ h => h) (Or.inl ⟨by kernel_rfl, ?_⟩) (x0) ?_
      rotate_left
      focus (intro W' hSw; have hx0 := hSw; (try dsimp only at hx0); have hc0 := hx0.c0; have hc1 := hx0.c1; clear hx0; go_simp; (try with_reducible rfl))
      (try simp only [Act.put, List.setIfInBounds_toArray, List.set_cons_zero, List.set_cons_succ, List.getElem_toArray, List.getElem_cons_zero, List.getElem_cons_succ])
      refine wpAnyH_ready (rs := [2]) (by kernel_rfl) (by simp) ?_
      refine AllReadyH.cons rfl (fun K hK => ?_) (AllReadyH.nil)
      go_simp
      go_at_call 18; refine (i_any n a1 a2 _).mono ?_
      rintro e Wu ⟨u, rfl, hu, hb⟩
      obtain ⟨gu, pu, nu, cu, rfl⟩ := hu.shape
      replace x0 := x0.go hb
      replace h0 := bel_go h0 h0.size hb
      clear hb
      refine hK.out _ _ (x0) (fun _ => ?_)
      clear hK K
      (try simp only [Act.put, List.setIfInBounds_toArray, List.set_cons_zero, List.set_cons_succ, List.getElem_toArray, List.getElem_cons_zero, List.getElem_cons_succ])
      refine wpAnyH_ready (rs := [5]) (by kernel_rfl) (by simp) ?_
      refine AllReadyH.cons rfl (fun K hK => ?_) (AllReadyH.nil)
      go_simp
      go_at_call 18; refine (i_any d b1 b2 _).mono ?_
      rintro e Wv ⟨u, rfl, hv, hb⟩
      obtain ⟨gv, pv, nv, cv, rfl⟩ := hv.shape
      replace x0 := x0.go hb
      replace hu := hu.go hb
      replace h0 := bel_go h0 h0.size hb
      clear hb
      refine hK.out _ _ (x0) (fun _ => ?_)
      clear hK K
      (try simp only [Act.put, List.setIfInBounds_toArray, List.set_cons_zero, List.set_cons_succ, List.getElem_toArray, List.getElem_cons_zero, List.getElem_cons_succ])
      refine wpAnyH_ready (rs := [6]) (by kernel_rfl) (by simp) ?_
      refine AllReadyH.cons rfl (fun K hK => ?_) (AllReadyH.nil)
      go_simp
      go_at_call 97; refine (zgcd_any _ _ n d HL.out.1 HL.out.2.1 _ hu hv).mono ?_
      rintro e Wg ⟨u, rfl, hg, hb⟩
      obtain ⟨gg, pg, ng, cg, rfl⟩ := hg.shape
      replace x0 := x0.go hb
      replace hu := hu.go hb
      replace hv := hv.go hb
      replace h0 := bel_go h0 h0.size hb
      clear hb
      refine hK.out _ _ (x0) (fun _ => ?_)
      clear hK K
      (try simp only [Act.put, List.setIfInBounds_toArray, List.set_cons_zero, List.set_cons_succ, List.getElem_toArray, List.getElem_cons_zero, List.getElem_cons_succ])
      refine wpAnyH_ready (rs := [7]) (by kernel_rfl) (by simp) ?_
      refine AllReadyH.cons rfl (fun K hK => ?_) (AllReadyH.nil)
      go_simp
      go_at_call 18; refine (i_any 1 (by omega) (by omega) _).mono ?_
      rintro e Wo ⟨u, rfl, ho, hb⟩
      obtain ⟨go, po, no, co, rfl⟩ := ho.shape
      replace x0 := x0.go hb
      replace hu := hu.go hb
      replace hv := hv.go hb
      replace hg := hg.go hb
      replace h0 := bel_go h0 h0.size hb
      clear hb
      refine hK.out _ _ (x0) (fun _ => ?_)
      clear hK K
      (try simp only [Act.put, List.setIfInBounds_toArray, List.set_cons_zero, List.set_cons_succ, List.getElem_toArray, List.getElem_cons_zero, List.getElem_cons_succ])
      refine wpAnyH_ready (rs := [8]) (by kernel_rfl) (by simp) ?_
      refine AllReadyH.cons rfl (fun K hK => ?_) (AllReadyH.nil)
      go_simp
      go_at_call 16; (with_reducible refine (zcmp_any _ _ _ 1 HL.out.2.2.1 HL.out.2.2.2 _ hg ho).mono ?_)
      rw [HG.out]
      rintro e Wc ⟨rfl, hb⟩
      replace x0 := x0.go hb
      replace hu := hu.go hb
      replace hv := hv.go hb
      replace hg := hg.go hb
      replace ho := ho.go hb
      replace h0 := bel_go h0 h0.size hb
      clear hb
      refine hK.out _ _ (x0) (fun _ => ?_)
      clear hK K
      (try simp only [Act.put, List.setIfInBounds_toArray, List.set_cons_zero, List.set_cons_succ, List.getElem_toArray, List.getElem_cons_zero, List.getElem_cons_succ])
      refine wpAnyH_take (i := 9) (v := ?_) rfl (by kernel_rfl) (by kernel_rfl) (by kernel_rfl) (fun _ _ _ h => h) (Or.inl ⟨by kernel_rfl, ?_⟩) (x0) ?_
      rotate_left
      focus (intro W' hSw; have hx0 := hSw; (try dsimp only at hx0); have hc0 := hx0.c0; have hc1 := hx0.c1; clear hx0; go_simp; (try with_reducible rfl))
      (try simp only [Act.put, List.setIfInBounds_toArray, List.set_cons_zero, List.set_cons_succ, List.getElem_toArray, List.getElem_cons_zero, List.getElem_cons_succ])
      refine wpAnyH_done (by kernel_rfl) ?_ _
      go_wp2_with fail
      go_ret
      exact ⟨rfl, h0⟩
    · rw [show chkV n d = 0 by unfold chkV; rw [if_pos hf, if_neg hg]]
      have HG : Hid (cmpI (Nat.gcd n.natAbs d.natAbs : Int) 1 = 0) := Lib.hid (cmpI_eq (by unfold Int.gcd at hg hgp; omega))
      clear hf hgp hgl hg h1 h2 h3 h4
      obtain ⟨W, hW, h0, x0⟩ := fbox1 w (.int .i64 n) (.int .i64 d)
      have HW := Lib.hid hW
      clear hW
      go_enter Try.func58, Try.ntmps58
      go_wp2_with fail
      rw [← HW.out]
      clear HW
      have c_x0 := x0.c0
      have d_x0 := x0.c1
      have p_x0 := x0.f0
      have q_x0 := x0.f1
      go_wp2_with fail
      clear c_x0 d_x0 p_x0 q_x0
      refine wp_region_held_drew (S := fun W' => Bx W' (w.heap.size) 76 (.int .i64 n) (.int .i64 d)) (by kernel_rfl) (x0.drew) (fun _ => ?_)
      replace x0 := x0.drew
      replace h0 := Below.drew h0
      generalize W.drew = W at x0 h0 ⊢
      refine wpAnyH_take (i := 0) (v := ?_) rfl (by kernel_rfl) (by kernel_rfl) (by kernel_rfl) (fun _ _ _ h => h) (Or.inl ⟨by kernel_rfl, ?_⟩) (x0) ?_
      rotate_left
      focus (intro W' hSw; have hx0 := hSw; (try dsimp only at hx0); have hc0 := hx0.c0; have hc1 := hx0.c1; clear hx0; go_simp; (try with_reducible rfl))
      (try simp only [Act.put, List.setIfInBounds_toArray, List.set_cons_zero, List.set_cons_succ, List.getElem_toArray, List.getElem_cons_zero, List.getElem_cons_succ])
      refine wpAnyH_take (i := 1) (v := ?_) rfl (by kernel_rfl) (by kernel_rfl) (by kernel_rfl) (fun _ _ _ h => h) (Or.inl ⟨by kernel_rfl, ?_⟩) (x0) ?_
      rotate_left
      focus (intro W' hSw; have hx0 := hSw; (try dsimp only at hx0); have hc0 := hx0.c0; have hc1 := hx0.c1; clear hx0; go_simp; (try with_reducible rfl))
      (try simp only [Act.put, List.setIfInBounds_toArray, List.set_cons_zero, List.set_cons_succ, List.getElem_toArray, List.getElem_cons_zero, List.getElem_cons_succ])
      refine wpAnyH_take (i := 3) (v := ?_) rfl (by kernel_rfl) (by kernel_rfl) (by kernel_rfl) (fun _ _ _ h => h) (Or.inl ⟨by kernel_rfl, ?_⟩) (x0) ?_
      rotate_left
      focus (intro W' hSw; have hx0 := hSw; (try dsimp only at hx0); have hc0 := hx0.c0; have hc1 := hx0.c1; clear hx0; go_simp; (try with_reducible rfl))
      (try simp only [Act.put, List.setIfInBounds_toArray, List.set_cons_zero, List.set_cons_succ, List.getElem_toArray, List.getElem_cons_zero, List.getElem_cons_succ])
      refine wpAnyH_take (i := 4) (v := ?_) rfl (by kernel_rfl) (by kernel_rfl) (by kernel_rfl) (fun _ _ _ h => h) (Or.inl ⟨by kernel_rfl, ?_⟩) (x0) ?_
      rotate_left
      focus (intro W' hSw; have hx0 := hSw; (try dsimp only at hx0); have hc0 := hx0.c0; have hc1 := hx0.c1; clear hx0; go_simp; (try with_reducible rfl))
      (try simp only [Act.put, List.setIfInBounds_toArray, List.set_cons_zero, List.set_cons_succ, List.getElem_toArray, List.getElem_cons_zero, List.getElem_cons_succ])
      refine wpAnyH_ready (rs := [2]) (by kernel_rfl) (by simp) ?_
      refine AllReadyH.cons rfl (fun K hK => ?_) (AllReadyH.nil)
      go_simp
      go_at_call 18; refine (i_any n a1 a2 _).mono ?_
      rintro e Wu ⟨u, rfl, hu, hb⟩
      obtain ⟨gu, pu, nu, cu, rfl⟩ := hu.shape
      replace x0 := x0.go hb
      replace h0 := bel_go h0 h0.size hb
      clear hb
      refine hK.out _ _ (x0) (fun _ => ?_)
      clear hK K
      (try simp only [Act.put, List.setIfInBounds_toArray, List.set_cons_zero, List.set_cons_succ, List.getElem_toArray, List.getElem_cons_zero, List.getElem_cons_succ])
      refine wpAnyH_ready (rs := [5]) (by kernel_rfl) (by simp) ?_
      refine AllReadyH.cons rfl (fun K hK => ?_) (AllReadyH.nil)
      go_simp
      go_at_call 18; refine (i_any d b1 b2 _).mono ?_
      rintro e Wv ⟨u, rfl, hv, hb⟩
      obtain ⟨gv, pv, nv, cv, rfl⟩ := hv.shape
      replace x0 := x0.go hb
      replace hu := hu.go hb
      replace h0 := bel_go h0 h0.size hb
      clear hb
      refine hK.out _ _ (x0) (fun _ => ?_)
      clear hK K
      (try simp only [Act.put, List.setIfInBounds_toArray, List.set_cons_zero, List.set_cons_succ, List.getElem_toArray, List.getElem_cons_zero, List.getElem_cons_succ])
      refine wpAnyH_ready (rs := [6]) (by kernel_rfl) (by simp) ?_
      refine AllReadyH.cons rfl (fun K hK => ?_) (AllReadyH.nil)
      go_simp
      go_at_call 97; refine (zgcd_any _ _ n d HL.out.1 HL.out.2.1 _ hu hv).mono ?_
      rintro e Wg ⟨u, rfl, hg, hb⟩
      obtain ⟨gg, pg, ng, cg, rfl⟩ := hg.shape
      replace x0 := x0.go hb
      replace hu := hu.go hb
      replace hv := hv.go hb
      replace h0 := bel_go h0 h0.size hb
      clear hb
      refine hK.out _ _ (x0) (fun _ => ?_)
      clear hK K
      (try simp only [Act.put, List.setIfInBounds_toArray, List.set_cons_zero, List.set_cons_succ, List.getElem_toArray, List.getElem_cons_zero, List.getElem_cons_succ])
      refine wpAnyH_ready (rs := [7]) (by kernel_rfl) (by simp) ?_
      refine AllReadyH.cons rfl (fun K hK => ?_) (AllReadyH.nil)
      go_simp
      go_at_call 18; refine (i_any 1 (by omega) (by omega) _).mono ?_
      rintro e Wo ⟨u, rfl, ho, hb⟩
      obtain ⟨go, po, no, co, rfl⟩ := ho.shape
      replace x0 := x0.go hb
      replace hu := hu.go hb
      replace hv := hv.go hb
      replace hg := hg.go hb
      replace h0 := bel_go h0 h0.size hb
      clear hb
      refine hK.out _ _ (x0) (fun _ => ?_)
      clear hK K
      (try simp only [Act.put, List.setIfInBounds_toArray, List.set_cons_zero, List.set_cons_succ, List.getElem_toArray, List.getElem_cons_zero, List.getElem_cons_succ])
      refine wpAnyH_ready (rs := [8]) (by kernel_rfl) (by simp) ?_
      refine AllReadyH.cons rfl (fun K hK => ?_) (AllReadyH.nil)
      go_simp
      go_at_call 16; (with_reducible refine (zcmp_any _ _ _ 1 HL.out.2.2.1 HL.out.2.2.2 _ hg ho).mono ?_)
      rw [HG.out]
      rintro e Wc ⟨rfl, hb⟩
      replace x0 := x0.go hb
      replace hu := hu.go hb
      replace hv := hv.go hb
      replace hg := hg.go hb
      replace ho := ho.go hb
      replace h0 := bel_go h0 h0.size hb
      clear hb
      refine hK.out _ _ (x0) (fun _ => ?_)
      clear hK K
      (try simp only [Act.put, List.setIfInBounds_toArray, List.set_cons_zero, List.set_cons_succ, List.getElem_toArray, List.getElem_cons_zero, List.getElem_cons_succ])
      refine wpAnyH_take (i := 9) (v := ?_) rfl (by kernel_rfl) (by kernel_rfl) (by kernel_rfl) (fun _ _ _ h => h) (Or.inl ⟨by kernel_rfl, ?_⟩) (x0) ?_
      rotate_left
      focus (intro W' hSw; have hx0 := hSw; (try dsimp only at hx0); have hc0 := hx0.c0; have hc1 := hx0.c1; clear hx0; go_simp; (try with_reducible rfl))
      (try simp only [Act.put, List.setIfInBounds_toArray, List.set_cons_zero, List.set_cons_succ, List.getElem_toArray, List.getElem_cons_zero, List.getElem_cons_succ])
      refine wpAnyH_done (by kernel_rfl) ?_ _
      go_wp2_with fail
      go_ret
      exact ⟨rfl, h0⟩
  · rw [chkV_no (Bool.eq_false_iff.2 fun x => h (frOk_iff.1 x))]
    rcases Int.lt_or_le 1152921504606846976 n with h1 | h1
    · clear h
      obtain ⟨W, hW, h0, x0⟩ := fbox1 w (.int .i64 n) (.int .i64 d)
      have HW := Lib.hid hW
      clear hW
      go_enter Try.func58, Try.ntmps58
      go_wp2_with fail
      rw [← HW.out]
      clear HW
      have c_x0 := x0.c0
      have d_x0 := x0.c1
      have p_x0 := x0.f0
      have q_x0 := x0.f1
      go_wp2_with fail
      clear c_x0 d_x0 p_x0 q_x0
      go_ret
      exact ⟨rfl, h0⟩
    · rcases Int.lt_or_le n (-1152921504606846976) with h2 | h2
      · clear h
        have h1' : ¬ 1152921504606846976 < n := by omega
        obtain ⟨W, hW, h0, x0⟩ := fbox1 w (.int .i64 n) (.int .i64 d)
        have HW := Lib.hid hW
        clear hW
        go_enter Try.func58, Try.ntmps58
        go_wp2_with fail
        rw [← HW.out]
        clear HW
        have c_x0 := x0.c0
        have d_x0 := x0.c1
        have p_x0 := x0.f0
        have q_x0 := x0.f1
        go_wp2_with fail
        clear c_x0 d_x0 p_x0 q_x0
        go_ret
        exact ⟨rfl, h0⟩
      · rcases Int.lt_or_le 1152921504606846976 d with h3 | h3
        · clear h
          have h1' : ¬ 1152921504606846976 < n := by omega
          have h2' : ¬ n < -1152921504606846976 := by omega
          obtain ⟨W, hW, h0, x0⟩ := fbox1 w (.int .i64 n) (.int .i64 d)
          have HW := Lib.hid hW
          clear hW
          go_enter Try.func58, Try.ntmps58
          go_wp2_with fail
          rw [← HW.out]
          clear HW
          have c_x0 := x0.c0
          have d_x0 := x0.c1
          have p_x0 := x0.f0
          have q_x0 := x0.f1
          go_wp2_with fail
          clear c_x0 d_x0 p_x0 q_x0
          go_ret
          exact ⟨rfl, h0⟩
        · have h4 : d < 1 := by omega
          clear h
          have h1' : ¬ 1152921504606846976 < n := by omega
          have h2' : ¬ n < -1152921504606846976 := by omega
          have h3' : ¬ 1152921504606846976 < d := by omega
          have h4' : decide (d < 1) = true := decide_eq_true h4
          obtain ⟨W, hW, h0, x0⟩ := fbox1 w (.int .i64 n) (.int .i64 d)
          have HW := Lib.hid hW
          clear hW
          go_enter Try.func58, Try.ntmps58
          go_wp2_with fail
          rw [← HW.out]
          clear HW
          have c_x0 := x0.c0
          have d_x0 := x0.c1
          have p_x0 := x0.f0
          have q_x0 := x0.f1
          go_wp2_with fail
          clear c_x0 d_x0 p_x0 q_x0
          go_ret
          exact ⟨rfl, h0⟩
end Go.Proofs.Ytdhodjbomepfbaa

