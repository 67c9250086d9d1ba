/-
  The contract of the reference's Lowest: a fraction in lowest terms.
  Conditions: the denominator is not 0; the numbers have at most 100000 digits in base 10^6.
-/
import Derived.Test.YtdhodjbomepfbaaFA
import Derived.Test.YtdhodjbomepfbaaW2
set_option linter.unusedVariables false
set_option linter.unusedSimpArgs false
namespace Go.Proofs.Ytdhodjbomepfbaa
open Go.RowKit Go.Shelf Zd Wd

theorem lwb (w : World) (x1 y1 x2 y2 : Value) : ∃ W, W = ((w.alloc (.cells #[x1, y1] 27)).alloc (.cells #[x2, y2] 27)).alloc (.cells #[.int .i64 0, .int .i64 0] 76) ∧
    Below w.heap.size w W ∧ Bx W w.heap.size 27 x1 y1 ∧ Bx W (w.heap.size + 1) 27 x2 y2 ∧ Bx W (w.heap.size + 1 + 1) 76 (.int .i64 0) (.int .i64 0) := by
  obtain ⟨W, hW, h0, h1, h2⟩ := boot2 w x1 y1 x2 y2
  have e : W.heap.size = w.heap.size + 1 + 1 := by rw [hW]; simp
  have h3 := Bx.new W 76 (.int .i64 0) (.int .i64 0)
  rw [e] at h3
  exact ⟨_, by rw [hW], h0.alloc (by omega) _, h1.alloc _, h2.alloc _, h3⟩
theorem digs_div {N : Int} {g : Int} {k : Nat} (h : (digs N.natAbs).length ≤ k) : (digs (N / g).natAbs).length ≤ k + 1 := dlen_divI h
/-- What Lowest reckons, once the denominator is positive. -/
theorem lowest_parts {N D : Int} (hD : 0 < D) : 0 < (Nat.gcd N.natAbs D.natAbs : Int) ∧ N / (Nat.gcd N.natAbs D.natAbs : Int) = redN N D ∧ D / (Nat.gcd N.natAbs D.natAbs : Int) = redD N D ∧ 0 < redD N D := by
  have hg := Int.gcd_pos_of_ne_zero_right N (show D ≠ 0 by omega)
  have s := Int.sign_eq_one_of_pos hD
  have hr := (red_is (N := N) (D := D) (by omega)).1
  refine ⟨by unfold Int.gcd at hg; omega, ?_, ?_, hr⟩
  · unfold redN; rw [s]; unfold Int.gcd; omega
  · unfold redD; rw [s]; unfold Int.gcd; omega

set_option maxRecDepth 100000 in
set_option maxHeartbeats 8000000 in
theorem lowest_any (va vb : Value) (N D : Int) (hD : D ≠ 0) (hlN : (digs N.natAbs).length ≤ 100000) (hlD : (digs D.natAbs).length ≤ 100000) (w : World) (hA0 : IsZ w va N) (hB0 : IsZ w vb D) :
    Calls Try.prog 65 #[va, vb] w fun e w' => e = .returned (.tuple #[fr (lowA N D) (lowB N D), .int .i64 (lowE N D)]) ∧ Below w.heap.size w w' := by
  obtain ⟨M, K, hMK1, hMK2, hK, rN, rD⟩ : ∃ M K, (D < 0 → M = -N ∧ K = -D) ∧ (0 ≤ D → M = N ∧ K = D) ∧ 0 < K ∧ redN M K = redN N D ∧ redD M K = redD N D := by
    rcases Int.lt_or_le D 0 with h | h
    · exact ⟨-N, -D, fun _ => ⟨rfl, rfl⟩, fun h2 => by omega, by omega, (red_neg N D hD).1, (red_neg N D hD).2⟩
    · exact ⟨N, D, fun h2 => by omega, fun _ => ⟨rfl, rfl⟩, by omega, rfl, rfl⟩
  have HMK : Hid ((D < 0 → -N = M ∧ -D = K) ∧ (0 ≤ D → N = M ∧ D = K)) := ⟨fun h => ⟨(hMK1 h).1.symm, (hMK1 h).2.symm⟩, fun h => ⟨(hMK2 h).1.symm, (hMK2 h).2.symm⟩⟩
  have lM : (digs M.natAbs).length ≤ 100000 ∧ (digs K.natAbs).length ≤ 100000 := by
    rcases Int.lt_or_le D 0 with h | h
    · rw [(hMK1 h).1, (hMK1 h).2, Int.natAbs_neg, Int.natAbs_neg]; exact ⟨hlN, hlD⟩
    · rw [(hMK2 h).1, (hMK2 h).2]; exact ⟨hlN, hlD⟩
  have HM : Hid (Sm N ∧ Sm D) := ⟨sm_le hlN (by omega), sm_le hlD (by omega)⟩
  obtain ⟨p1, p2, p3, p4⟩ := lowest_parts (N := M) hK
  rw [rN] at p2
  rw [rD] at p3 p4
  have hgl : (digs (Nat.gcd M.natAbs K.natAbs : Int).natAbs).length ≤ 100000 := by
    have h1 : Nat.gcd M.natAbs K.natAbs ≤ K.natAbs := Nat.gcd_le_right _ (by omega)
    have h2 := len_le lM.2
    exact digs_len (by omega)
  obtain ⟨G, hG⟩ : ∃ v, (Nat.gcd M.natAbs K.natAbs : Int) = v := ⟨_, rfl⟩
  obtain ⟨P, hP_⟩ : ∃ v, redN N D = v := ⟨_, rfl⟩
  obtain ⟨Q, hQ_⟩ : ∃ v, redD N D = v := ⟨_, rfl⟩
  have HG := Lib.hid hG
  rw [hG] at p1 p2 p3 hgl
  rw [hP_] at p2
  rw [hQ_] at p3 p4
  have HQ : Hid (M / G = P ∧ K / G = Q) := ⟨p2, p3⟩
  have HL : Hid ((digs M.natAbs).length ≤ 300000 ∧ (digs K.natAbs).length ≤ 300000 ∧ G ≠ 0 ∧ (digs M.natAbs).length ≤ 400000 ∧ (digs G.natAbs).length ≤ 400000 ∧ (digs K.natAbs).length ≤ 400000) := ⟨by omega, by omega, by omega, by omega, by omega, by omega⟩
  have HS : Hid (Sm (P.natAbs : Int) ∧ Sm 1152921504606846976 ∧ Sm Q) := by
    have e1 := digs_div (g := G) lM.1
    have e2 := digs_div (g := G) lM.2
    rw [p2] at e1
    rw [p3] at e2
    refine ⟨sm_le (k := 100001) (by simpa using e1) (by omega), sm_le (dlen64 (by omega) (by omega)) (by omega), sm_le e2 (by omega)⟩
  obtain ⟨A, hA⟩ : ∃ v, lowA N D = v := ⟨_, rfl⟩
  obtain ⟨B, hB⟩ : ∃ v, lowB N D = v := ⟨_, rfl⟩
  obtain ⟨E, hE⟩ : ∃ v, lowE N D = v := ⟨_, rfl⟩
  have HA : Hid (limA P Q = A ∧ limB P Q = B ∧ limE P Q = E) := by
    unfold lowA at hA; unfold lowB at hB; unfold lowE at hE
    rw [hP_, hQ_] at hA hB hE
    exact ⟨hA, hB, hE⟩
  rw [hA, hB, hE]
  clear hMK1 hMK2 hK rN rD lM p1 p2 p3 hgl hG hP_ hQ_ hA hB hE hlN hlD
  obtain ⟨gx, px, nx, cx, rfl⟩ := hA0.shape
  obtain ⟨gy, py, ny, cy, rfl⟩ := hB0.shape
  obtain ⟨W, hW, h0, zn, zd, xr⟩ := lwb w (.bool gx) (.slice px nx cx) (.bool gy) (.slice py ny cy)
  have hx : IsZ W (.agg #[.bool gx, .slice px nx cx]) N := hA0.go h0
  have hy : IsZ W (.agg #[.bool gy, .slice py ny cy]) D := hB0.go h0
  have HW := Lib.hid hW
  have HGY : Hid (gy = decide (D < 0)) := hy.neg
  clear hW hA0 hB0
  go_enter Try.func65, Try.ntmps65
  go_upto_region 1 with fail
  rw [← HW.out]
  clear HW
  have c_zd := zd.c0
  have d_zd := zd.c1
  have p_zd := zd.f0
  have q_zd := zd.f1
  go_upto_if 12 with fail
  clear c_zd d_zd p_zd q_zd
  go_cut [5] from 6 (fun s5 wc => s5 = .int .i64 0 ∧ ∃ (gm : Bool) (pm : Option Addr) (nm cm : Nat) (gk : Bool) (pk : Option Addr) (nk ck : Nat), Bx wc (w.heap.size) 27 (.bool gm) (.slice pm nm cm) ∧ Bx wc (w.heap.size + 1) 27 (.bool gk) (.slice pk nk ck) ∧ IsZ wc (.agg #[.bool gm, .slice pm nm cm]) M ∧ IsZ wc (.agg #[.bool gk, .slice pk nk ck]) K ∧ Bx wc (w.heap.size + 1 + 1) 76 (.int .i64 0) (.int .i64 0) ∧ Below w.heap.size w wc)
  case first =>
    rcases Int.lt_or_le D 0 with hn | hn
    · obtain ⟨eM, eK⟩ := HMK.out.1 hn
      have hgy := HGY.out
      clear HGY
      rw [decide_eq_true hn] at hgy
      subst hgy
      have HE := Lib.hid (And.intro eM eK)
      clear hn eM eK
      go_wp2_with fail
      refine wp_region_last (S := fun W' => Bx W' (w.heap.size + 1) 27 (.bool true) (.slice py ny cy)) (m := 5) (by kernel_rfl) (by kernel_rfl) (by kernel_rfl) (zd.drew) (fun _ => ?_)
      replace zd := zd.drew
      replace zn := zn.drew
      replace xr := xr.drew
      replace hx := hx.drew
      replace hy := hy.drew
      replace h0 := Below.drew h0
      generalize W.drew = W at zd zn xr hx hy h0 ⊢
      refine wpAnyH_take (i := 2) (v := ?_) rfl (by kernel_rfl) (by kernel_rfl) (by kernel_rfl) (fun _ _ _ h => h) (Or.inl ⟨by kernel_rfl, ?_⟩) (zd) ?_
      rotate_left
      focus (intro W' hSw; have hx0 := hSw; (try dsimp only at hx0); have hc0 := hx0.c0; have hc1 := hx0.c1; clear hx0; go_simp; (try with_reducible rfl))
      (try simp only [Act.put, List.setIfInBounds_toArray, List.set_cons_zero, List.set_cons_succ, List.getElem_toArray, List.getElem_cons_zero, List.getElem_cons_succ])
      refine wpAnyH_ready (rs := [0]) (by kernel_rfl) (by simp) ?_
      refine AllReadyH.cons rfl (fun K hK => ?_) (AllReadyH.nil)
      have hq0 := zn.c0
      have hq1 := zn.c1
      go_simp
      clear hq0 hq1
      refine hK.out _ _ (zd) (fun _ => ?_)
      clear hK K
      (try simp only [Act.put, List.setIfInBounds_toArray, List.set_cons_zero, List.set_cons_succ, List.getElem_toArray, List.getElem_cons_zero, List.getElem_cons_succ])
      refine wpAnyH_ready (rs := [1]) (by kernel_rfl) (by simp) ?_
      refine AllReadyH.cons rfl (fun K hK => ?_) (AllReadyH.nil)
      go_simp
      go_at_call 33; refine (zminus_any _ N HM.out.1 _ hx).mono ?_
      rintro e Wm ⟨u, rfl, hm, hb⟩
      obtain ⟨gm, pm, nm, cm, rfl⟩ := hm.shape
      replace zd := zd.go hb
      replace zn := zn.go hb
      replace xr := xr.go hb
      replace hx := hx.go hb
      replace hy := hy.go hb
      replace h0 := bel_go h0 h0.size hb
      clear hb
      refine hK.out _ _ (zd) (fun _ => ?_)
      clear hK K
      (try simp only [Act.put, List.setIfInBounds_toArray, List.set_cons_zero, List.set_cons_succ, List.getElem_toArray, List.getElem_cons_zero, List.getElem_cons_succ])
      refine wpAnyH_ready (rs := [3]) (by kernel_rfl) (by simp) ?_
      refine AllReadyH.cons rfl (fun K hK => ?_) (AllReadyH.nil)
      go_simp
      go_at_call 33; refine (zminus_any _ D HM.out.2 _ hy).mono ?_
      rintro e Wk ⟨u, rfl, hk, hb⟩
      obtain ⟨gk, pk, nk, ck, rfl⟩ := hk.shape
      replace zd := zd.go hb
      replace zn := zn.go hb
      replace xr := xr.go hb
      replace hx := hx.go hb
      replace hy := hy.go hb
      replace hm := hm.go hb
      replace h0 := bel_go h0 h0.size hb
      clear hb
      refine hK.out _ _ (zd) (fun _ => ?_)
      clear hK K
      (try simp only [Act.put, List.setIfInBounds_toArray, List.set_cons_zero, List.set_cons_succ, List.getElem_toArray, List.getElem_cons_zero, List.getElem_cons_succ])
      refine wpAnyH_ready (rs := [4]) (by kernel_rfl) (by simp) ?_
      refine AllReadyH.cons rfl (fun K hK => ?_) (AllReadyH.nil)
      have hq0 := zn.c0
      have hq1 := zn.c1
      have hr0 := zn.f0
      have hr1 := zn.f1
      go_simp
      clear hq0 hq1 hr0 hr1
      have hP := put2 Wk (w.heap.size) (.bool gm) (.slice pm nm cm)
      have hN := zn.stored (.bool gm) (.slice pm nm cm)
      generalize (Wk.setCell ⟨w.heap.size, 0, none⟩ (.bool gm)).setCell ⟨w.heap.size, 1, none⟩ (.slice pm nm cm) = W1 at hP hN ⊢
      replace h0 := bel_put h0 (by omega) hP
      replace zd := zd.put hP (by omega)
      replace xr := xr.put hP (by omega)
      replace hx := hx.put zn (by decide) hP
      replace hy := hy.put zn (by decide) hP
      replace hm := hm.put zn (by decide) hP
      replace hk := hk.put zn (by decide) hP
      clear hP zn
      have zn := hN
      clear hN
      refine hK.out _ _ (zd) (fun _ => ?_)
      clear hK K
      (try simp only [Act.put, List.setIfInBounds_toArray, List.set_cons_zero, List.set_cons_succ, List.getElem_toArray, List.getElem_cons_zero, List.getElem_cons_succ])
      refine wpAnyH_done (by kernel_rfl) ?_ _
      refine still1_step rfl (fun K hK => ?_)
      have hq0 := zd.c0
      have hq1 := zd.c1
      have hr0 := zd.f0
      have hr1 := zd.f1
      go_simp
      clear hq0 hq1 hr0 hr1
      have hP := put2 W1 (w.heap.size + 1) (.bool gk) (.slice pk nk ck)
      have hN := zd.stored (.bool gk) (.slice pk nk ck)
      generalize (W1.setCell ⟨w.heap.size + 1, 0, none⟩ (.bool gk)).setCell ⟨w.heap.size + 1, 1, none⟩ (.slice pk nk ck) = W2 at hP hN ⊢
      replace h0 := bel_put h0 (by omega) hP
      replace zn := zn.put hP (by omega)
      replace xr := xr.put hP (by omega)
      replace hx := hx.put zd (by decide) hP
      replace hy := hy.put zd (by decide) hP
      replace hm := hm.put zd (by decide) hP
      replace hk := hk.put zd (by decide) hP
      clear hP zd
      have zd := hN
      clear hN
      refine hK.out _ _ ?_
      clear hK K
      (try simp only [Act.put, List.setIfInBounds_toArray, List.set_cons_zero, List.set_cons_succ, List.getElem_toArray, List.getElem_cons_zero, List.getElem_cons_succ])
      go_wp2_with fail
      go_meet
      case rel => exact ⟨rfl, _, _, _, _, _, _, _, _, zn, zd, (by rw [← HE.out.1]; exact hm), (by rw [← HE.out.2]; exact hk), xr, h0⟩
    · obtain ⟨eM, eK⟩ := HMK.out.2 hn
      have hgy := HGY.out
      clear HGY
      rw [decide_eq_false (Int.not_lt.2 hn)] at hgy
      subst hgy
      have HE := Lib.hid (And.intro eM eK)
      clear hn eM eK
      go_wp2_with fail
      go_meet
      case rel => exact ⟨rfl, _, _, _, _, _, _, _, _, zn, zd, (by rw [← HE.out.1]; exact hx), (by rw [← HE.out.2]; exact hy), xr, h0⟩
  case rest =>
    clear hx hy zn zd xr h0
    obtain ⟨rfl, gm, pm, nm, cm, gk, pk, nk, ck, zn, zd, hm, hk, xr, h0⟩ := hcut
    have c_zn := zn.c0
    have d_zn := zn.c1
    have p_zn := zn.f0
    have q_zn := zn.f1
    have c_zd := zd.c0
    have d_zd := zd.c1
    have p_zd := zd.f0
    have q_zd := zd.f1
    go_wp2_with fail
    clear c_zn d_zn p_zn q_zn c_zd d_zd p_zd q_zd
    go_at_call 97; refine (zgcd_any _ _ M K HL.out.1 HL.out.2.1 _ hm hk).mono ?_
    rintro e W3 ⟨u, rfl, hg, hb⟩
    obtain ⟨gg, pg, ng, cg, rfl⟩ := hg.shape
    rw [HG.out] at hg
    replace hm := hm.go hb
    replace hk := hk.go hb
    replace zn := zn.go hb
    replace zd := zd.go hb
    replace xr := xr.go hb
    replace h0 := bel_go h0 h0.size hb
    clear hb
    go_upto_region 4 with fail
    have sg := xr.lt
    have hal : Below W3.heap.size W3 (W3.alloc (.cells #[.bool gg, .slice pg ng cg] 27)) := (Below.refl _ _).alloc (Nat.le_refl _) _
    have zg := Bx.new W3 27 (.bool gg) (.slice pg ng cg)
    replace zn := zn.go hal
    replace zd := zd.go hal
    replace xr := xr.go hal
    replace h0 := bel_go h0 h0.size hal
    replace hm := hm.go hal
    replace hk := hk.go hal
    replace hg := hg.go hal
    clear hal
    generalize W3.heap.size = Bzg at zg sg ⊢
    generalize W3.alloc (.cells #[.bool gg, .slice pg ng cg] 27) = W4 at zn zd xr zg h0 hm hk hg ⊢
    refine wp_region_last (S := fun W' => Bx W' (w.heap.size + 1) 27 (.bool gk) (.slice pk nk ck) ∧ Bx W' (Bzg) 27 (.bool gg) (.slice pg ng cg)) (m := 7) (by kernel_rfl) (by kernel_rfl) (by kernel_rfl) (⟨zd.drew, zg.drew⟩) (fun _ => ?_)
    replace zd := zd.drew
    replace zg := zg.drew
    replace zn := zn.drew
    replace xr := xr.drew
    replace hm := hm.drew
    replace hk := hk.drew
    replace hg := hg.drew
    replace h0 := Below.drew h0
    generalize W4.drew = W4 at zd zg zn xr hm hk hg h0 ⊢
    refine wpAnyH_take (i := 1) (v := ?_) rfl (by kernel_rfl) (by kernel_rfl) (by kernel_rfl) (fun _ _ _ h => h) (Or.inl ⟨by kernel_rfl, ?_⟩) (⟨zd, zg⟩) ?_
    rotate_left
    focus (intro W' hSw; obtain ⟨hx0, hx1⟩ := hSw; have hc0 := hx0.c0; have hc1 := hx0.c1; have hc2 := hx1.c0; have hc3 := hx1.c1; clear hx0 hx1; go_simp; (try with_reducible rfl))
    (try simp only [Act.put, List.setIfInBounds_toArray, List.set_cons_zero, List.set_cons_succ, List.getElem_toArray, List.getElem_cons_zero, List.getElem_cons_succ])
    refine wpAnyH_take (i := 3) (v := ?_) rfl (by kernel_rfl) (by kernel_rfl) (by kernel_rfl) (fun _ _ _ h => h) (Or.inl ⟨by kernel_rfl, ?_⟩) (⟨zd, zg⟩) ?_
    rotate_left
    focus (intro W' hSw; obtain ⟨hx0, hx1⟩ := hSw; have hc0 := hx0.c0; have hc1 := hx0.c1; have hc2 := hx1.c0; have hc3 := hx1.c1; clear hx0 hx1; go_simp; (try with_reducible rfl))
    (try simp only [Act.put, List.setIfInBounds_toArray, List.set_cons_zero, List.set_cons_succ, List.getElem_toArray, List.getElem_cons_zero, List.getElem_cons_succ])
    refine wpAnyH_take (i := 4) (v := ?_) rfl (by kernel_rfl) (by kernel_rfl) (by kernel_rfl) (fun _ _ _ h => h) (Or.inl ⟨by kernel_rfl, ?_⟩) (⟨zd, zg⟩) ?_
    rotate_left
    focus (intro W' hSw; obtain ⟨hx0, hx1⟩ := hSw; have hc0 := hx0.c0; have hc1 := hx0.c1; have hc2 := hx1.c0; have hc3 := hx1.c1; clear hx0 hx1; go_simp; (try with_reducible rfl))
    (try simp only [Act.put, List.setIfInBounds_toArray, List.set_cons_zero, List.set_cons_succ, List.getElem_toArray, List.getElem_cons_zero, List.getElem_cons_succ])
    refine wpAnyH_ready (rs := [0]) (by kernel_rfl) (by simp) ?_
    refine AllReadyH.cons rfl (fun K hK => ?_) (AllReadyH.nil)
    have hq0 := zn.c0
    have hq1 := zn.c1
    go_simp
    clear hq0 hq1
    refine hK.out _ _ (⟨zd, zg⟩) (fun _ => ?_)
    clear hK K
    (try simp only [Act.put, List.setIfInBounds_toArray, List.set_cons_zero, List.set_cons_succ, List.getElem_toArray, List.getElem_cons_zero, List.getElem_cons_succ])
    refine wpAnyH_ready (rs := [2]) (by kernel_rfl) (by simp) ?_
    refine AllReadyH.cons rfl (fun K hK => ?_) (AllReadyH.nil)
    go_simp
    go_at_call 89; refine (zfloor_any _ _ _ _ HL.out.2.2.1 HL.out.2.2.2.1 HL.out.2.2.2.2.1 _ hm hg).mono ?_
    rintro e Wq ⟨u, rfl, hq, hb⟩
    obtain ⟨gq, pq, nq, cq, rfl⟩ := hq.shape
    rw [HQ.out.1] at hq
    replace zd := zd.go hb
    replace zg := zg.go hb
    replace zn := zn.go hb
    replace xr := xr.go hb
    replace hm := hm.go hb
    replace hk := hk.go hb
    replace hg := hg.go hb
    replace h0 := bel_go h0 h0.size hb
    clear hb
    refine hK.out _ _ (⟨zd, zg⟩) (fun _ => ?_)
    clear hK K
    (try simp only [Act.put, List.setIfInBounds_toArray, List.set_cons_zero, List.set_cons_succ, List.getElem_toArray, List.getElem_cons_zero, List.getElem_cons_succ])
    refine wpAnyH_ready (rs := [5]) (by kernel_rfl) (by simp) ?_
    refine AllReadyH.cons rfl (fun K hK => ?_) (AllReadyH.nil)
    go_simp
    go_at_call 89; refine (zfloor_any _ _ _ _ HL.out.2.2.1 HL.out.2.2.2.2.2 HL.out.2.2.2.2.1 _ hk hg).mono ?_
    rintro e Wr ⟨u, rfl, hr, hb⟩
    obtain ⟨gr, pr, nr, cr, rfl⟩ := hr.shape
    rw [HQ.out.2] at hr
    replace zd := zd.go hb
    replace zg := zg.go hb
    replace zn := zn.go hb
    replace xr := xr.go hb
    replace hm := hm.go hb
    replace hk := hk.go hb
    replace hg := hg.go hb
    replace hq := hq.go hb
    replace h0 := bel_go h0 h0.size hb
    clear hb
    refine hK.out _ _ (⟨zd, zg⟩) (fun _ => ?_)
    clear hK K
    (try simp only [Act.put, List.setIfInBounds_toArray, List.set_cons_zero, List.set_cons_succ, List.getElem_toArray, List.getElem_cons_zero, List.getElem_cons_succ])
    refine wpAnyH_ready (rs := [6]) (by kernel_rfl) (by simp) ?_
    refine AllReadyH.cons rfl (fun K hK => ?_) (AllReadyH.nil)
    have hq0 := zn.c0
    have hq1 := zn.c1
    have hr0 := zn.f0
    have hr1 := zn.f1
    go_simp
    clear hq0 hq1 hr0 hr1
    have hP := put2 Wr (w.heap.size) (.bool gq) (.slice pq nq cq)
    have hN := zn.stored (.bool gq) (.slice pq nq cq)
    generalize (Wr.setCell ⟨w.heap.size, 0, none⟩ (.bool gq)).setCell ⟨w.heap.size, 1, none⟩ (.slice pq nq cq) = W5 at hP hN ⊢
    replace h0 := bel_put h0 (by omega) hP
    replace zd := zd.put hP (by omega)
    replace zg := zg.put hP (by omega)
    replace xr := xr.put hP (by omega)
    replace hm := hm.put zn (by decide) hP
    replace hk := hk.put zn (by decide) hP
    replace hg := hg.put zn (by decide) hP
    replace hq := hq.put zn (by decide) hP
    replace hr := hr.put zn (by decide) hP
    clear hP zn
    have zn := hN
    clear hN
    refine hK.out _ _ (⟨zd, zg⟩) (fun _ => ?_)
    clear hK K
    (try simp only [Act.put, List.setIfInBounds_toArray, List.set_cons_zero, List.set_cons_succ, List.getElem_toArray, List.getElem_cons_zero, List.getElem_cons_succ])
    refine wpAnyH_done (by kernel_rfl) ?_ _
    refine still1_step rfl (fun K hK => ?_)
    have hq0 := zd.c0
    have hq1 := zd.c1
    have hr0 := zd.f0
    have hr1 := zd.f1
    go_simp
    clear hq0 hq1 hr0 hr1
    have hP := put2 W5 (w.heap.size + 1) (.bool gr) (.slice pr nr cr)
    have hN := zd.stored (.bool gr) (.slice pr nr cr)
    generalize (W5.setCell ⟨w.heap.size + 1, 0, none⟩ (.bool gr)).setCell ⟨w.heap.size + 1, 1, none⟩ (.slice pr nr cr) = W6 at hP hN ⊢
    replace h0 := bel_put h0 (by omega) hP
    replace zg := zg.put hP (by omega)
    replace zn := zn.put hP (by omega)
    replace xr := xr.put hP (by omega)
    replace hm := hm.put zd (by decide) hP
    replace hk := hk.put zd (by decide) hP
    replace hg := hg.put zd (by decide) hP
    replace hq := hq.put zd (by decide) hP
    replace hr := hr.put zd (by decide) hP
    clear hP zd
    have zd := hN
    clear hN
    refine hK.out _ _ ?_
    clear hK K
    (try simp only [Act.put, List.setIfInBounds_toArray, List.set_cons_zero, List.set_cons_succ, List.getElem_toArray, List.getElem_cons_zero, List.getElem_cons_succ])
    go_wp2_with fail
    obtain ⟨k1, hk1⟩ : ∃ v, cmpI (P.natAbs : Int) 1152921504606846976 = v := ⟨_, rfl⟩
    obtain ⟨k2, hk2⟩ : ∃ v, cmpI Q 1152921504606846976 = v := ⟨_, rfl⟩
    have HC1 := Lib.hid hk1
    have HC2 := Lib.hid hk2
    rcases Int.lt_or_le 1152921504606846976 (P.natAbs : Int) with c1 | c1
    · have g1 : k1 = 1 := by rw [← hk1]; exact cmpI_gt c1
      obtain ⟨e1, e2, e3⟩ := lim_no (n := P) (d := Q) (by omega)
      obtain rfl : A = 0 := by rw [← HA.out.1, e1]
      obtain rfl : B = 0 := by rw [← HA.out.2.1, e2]
      obtain rfl : E = 2 := by rw [← HA.out.2.2, e3]
      clear c1 e1 e2 e3 hk1 hk2
      subst g1
      refine wp_region_held_drew (S := fun W' => Bx W' (w.heap.size) 27 (.bool gq) (.slice pq nq cq) ∧ Bx W' (w.heap.size + 1) 27 (.bool gr) (.slice pr nr cr)) (by kernel_rfl) (⟨zn.drew, zd.drew⟩) (fun _ => ?_)
      replace zn := zn.drew
      replace zd := zd.drew
      replace xr := xr.drew
      replace hq := hq.drew
      replace hr := hr.drew
      replace h0 := Below.drew h0
      generalize W6.drew = W6 at zn zd xr hq hr h0 ⊢
      refine wpAnyH_take (i := 0) (v := ?_) rfl (by kernel_rfl) (by kernel_rfl) (by kernel_rfl) (fun _ _ _ h => h) (Or.inl ⟨by kernel_rfl, ?_⟩) (⟨zn, zd⟩) ?_
      rotate_left
      focus (intro W' hSw; obtain ⟨hx0, hx1⟩ := hSw; have hc0 := hx0.c0; have hc1 := hx0.c1; have hc2 := hx1.c0; have hc3 := hx1.c1; clear hx0 hx1; go_simp; (try with_reducible rfl))
      (try simp only [Act.put, List.setIfInBounds_toArray, List.set_cons_zero, List.set_cons_succ, List.getElem_toArray, List.getElem_cons_zero, List.getElem_cons_succ])
      refine wpAnyH_ready (rs := [1]) (by kernel_rfl) (by simp) ?_
      refine AllReadyH.cons rfl (fun K hK => ?_) (AllReadyH.nil)
      go_simp
      go_at_call 42; refine (zabs_any _ P _ hq).mono ?_
      rintro e Wa ⟨u, rfl, ha, hb⟩
      obtain ⟨ga, pa, na, ca, rfl⟩ := ha.shape
      replace zn := zn.go hb
      replace zd := zd.go hb
      replace xr := xr.go hb
      replace hq := hq.go hb
      replace hr := hr.go hb
      replace h0 := bel_go h0 h0.size hb
      clear hb
      refine hK.out _ _ (⟨zn, zd⟩) (fun _ => ?_)
      clear hK K
      (try simp only [Act.put, List.setIfInBounds_toArray, List.set_cons_zero, List.set_cons_succ, List.getElem_toArray, List.getElem_cons_zero, List.getElem_cons_succ])
      refine wpAnyH_ready (rs := [2]) (by kernel_rfl) (by simp) ?_
      refine AllReadyH.cons rfl (fun K hK => ?_) (AllReadyH.nil)
      go_simp
      go_at_call 18; refine (i_any 1152921504606846976 (by omega) (by omega) _).mono ?_
      rintro e Wv ⟨u, rfl, hv, hb⟩
      obtain ⟨gv, pv, nv, cv, rfl⟩ := hv.shape
      replace zn := zn.go hb
      replace zd := zd.go hb
      replace xr := xr.go hb
      replace hq := hq.go hb
      replace hr := hr.go hb
      replace ha := ha.go hb
      replace h0 := bel_go h0 h0.size hb
      clear hb
      refine hK.out _ _ (⟨zn, zd⟩) (fun _ => ?_)
      clear hK K
      (try simp only [Act.put, List.setIfInBounds_toArray, List.set_cons_zero, List.set_cons_succ, List.getElem_toArray, List.getElem_cons_zero, List.getElem_cons_succ])
      refine wpAnyH_ready (rs := [3]) (by kernel_rfl) (by simp) ?_
      refine AllReadyH.cons rfl (fun K hK => ?_) (AllReadyH.nil)
      go_simp
      go_at_call 16; (with_reducible refine (zcmp_any _ _ (P.natAbs : Int) 1152921504606846976 HS.out.1 HS.out.2.1 _ ha hv).mono ?_)
      rw [HC1.out]
      rintro e Wc ⟨rfl, hb⟩
      replace zn := zn.go hb
      replace zd := zd.go hb
      replace xr := xr.go hb
      replace hq := hq.go hb
      replace hr := hr.go hb
      replace ha := ha.go hb
      replace hv := hv.go hb
      replace h0 := bel_go h0 h0.size hb
      clear hb
      refine hK.out _ _ (⟨zn, zd⟩) (fun _ => ?_)
      clear hK K
      (try simp only [Act.put, List.setIfInBounds_toArray, List.set_cons_zero, List.set_cons_succ, List.getElem_toArray, List.getElem_cons_zero, List.getElem_cons_succ])
      refine wpAnyH_take (i := 4) (v := ?_) rfl (by kernel_rfl) (by kernel_rfl) (by kernel_rfl) (fun _ _ _ h => h) (Or.inl ⟨by kernel_rfl, ?_⟩) (⟨zn, zd⟩) ?_
      rotate_left
      focus (intro W' hSw; obtain ⟨hx0, hx1⟩ := hSw; have hc0 := hx0.c0; have hc1 := hx0.c1; have hc2 := hx1.c0; have hc3 := hx1.c1; clear hx0 hx1; go_simp; (try with_reducible rfl))
      (try simp only [Act.put, List.setIfInBounds_toArray, List.set_cons_zero, List.set_cons_succ, List.getElem_toArray, List.getElem_cons_zero, List.getElem_cons_succ])
      refine wpAnyH_take (i := 5) (v := ?_) rfl (by kernel_rfl) (by kernel_rfl) (by kernel_rfl) (fun _ _ _ h => h) (Or.inl ⟨by kernel_rfl, ?_⟩) (⟨zn, zd⟩) ?_
      rotate_left
      focus (intro W' hSw; obtain ⟨hx0, hx1⟩ := hSw; have hc0 := hx0.c0; have hc1 := hx0.c1; have hc2 := hx1.c0; have hc3 := hx1.c1; clear hx0 hx1; go_simp; (try with_reducible rfl))
      (try simp only [Act.put, List.setIfInBounds_toArray, List.set_cons_zero, List.set_cons_succ, List.getElem_toArray, List.getElem_cons_zero, List.getElem_cons_succ])
      refine wpAnyH_take (i := 6) (v := undef) rfl (by kernel_rfl) (by kernel_rfl) (by kernel_rfl) (fun _ _ _ h => h) (Or.inr ⟨by kernel_rfl, rfl⟩) (⟨zn, zd⟩) ?_
      (try simp only [Act.put, List.setIfInBounds_toArray, List.set_cons_zero, List.set_cons_succ, List.getElem_toArray, List.getElem_cons_zero, List.getElem_cons_succ])
      refine wpAnyH_take (i := 7) (v := undef) rfl (by kernel_rfl) (by kernel_rfl) (by kernel_rfl) (fun _ _ _ h => h) (Or.inr ⟨by kernel_rfl, rfl⟩) (⟨zn, zd⟩) ?_
      (try simp only [Act.put, List.setIfInBounds_toArray, List.set_cons_zero, List.set_cons_succ, List.getElem_toArray, List.getElem_cons_zero, List.getElem_cons_succ])
      refine wpAnyH_take (i := 8) (v := undef) rfl (by kernel_rfl) (by kernel_rfl) (by kernel_rfl) (fun _ _ _ h => h) (Or.inr ⟨by kernel_rfl, rfl⟩) (⟨zn, zd⟩) ?_
      (try simp only [Act.put, List.setIfInBounds_toArray, List.set_cons_zero, List.set_cons_succ, List.getElem_toArray, List.getElem_cons_zero, List.getElem_cons_succ])
      refine wpAnyH_take (i := 9) (v := undef) rfl (by kernel_rfl) (by kernel_rfl) (by kernel_rfl) (fun _ _ _ h => h) (Or.inr ⟨by kernel_rfl, rfl⟩) (⟨zn, zd⟩) ?_
      (try simp only [Act.put, List.setIfInBounds_toArray, List.set_cons_zero, List.set_cons_succ, List.getElem_toArray, List.getElem_cons_zero, List.getElem_cons_succ])
      refine wpAnyH_take (i := 10) (v := ?_) rfl (by kernel_rfl) (by kernel_rfl) (by kernel_rfl) (fun _ _ _ h => h) (Or.inl ⟨by kernel_rfl, ?_⟩) (⟨zn, zd⟩) ?_
      rotate_left
      focus (intro W' hSw; obtain ⟨hx0, hx1⟩ := hSw; have hc0 := hx0.c0; have hc1 := hx0.c1; have hc2 := hx1.c0; have hc3 := hx1.c1; clear hx0 hx1; go_simp; (try with_reducible rfl))
      (try simp only [Act.put, List.setIfInBounds_toArray, List.set_cons_zero, List.set_cons_succ, List.getElem_toArray, List.getElem_cons_zero, List.getElem_cons_succ])
      refine wpAnyH_done (by kernel_rfl) ?_ _
      have c_xr := xr.c0
      have d_xr := xr.c1
      have p_xr := xr.f0
      have q_xr := xr.f1
      go_wp2_with fail
      clear c_xr d_xr p_xr q_xr
      have hP := put2 Wc (w.heap.size + 1 + 1) (.int .i64 (0)) (.int .i64 (0))
      have hN := xr.stored (.int .i64 (0)) (.int .i64 (0))
      generalize (Wc.setCell _ _).setCell _ _ = WZ at hP hN ⊢
      replace h0 := bel_put h0 (by omega) hP
      clear hP xr
      have xr := hN
      clear hN
      have e0 := xr.c0
      have e1 := xr.c1
      exact bodyPost_ret (v := .tuple #[fr (0) (0), .int .i64 (2)]) (by simp [results, Try.results65, go_sem, e0, e1]) rfl ⟨rfl, h0⟩
    · have g1 : ¬ 0 < k1 := by rw [← hk1]; have := cmpI_pos (a := (P.natAbs : Int)) (b := 1152921504606846976); omega
      rcases Int.lt_or_le 1152921504606846976 Q with c2 | c2
      · have g2 : k2 = 1 := by rw [← hk2]; exact cmpI_gt c2
        obtain ⟨e1, e2, e3⟩ := lim_no (n := P) (d := Q) (by omega)
        obtain rfl : A = 0 := by rw [← HA.out.1, e1]
        obtain rfl : B = 0 := by rw [← HA.out.2.1, e2]
        obtain rfl : E = 2 := by rw [← HA.out.2.2, e3]
        clear c1 c2 e1 e2 e3 hk1 hk2
        subst g2
        refine wp_region_held_drew (S := fun W' => Bx W' (w.heap.size) 27 (.bool gq) (.slice pq nq cq) ∧ Bx W' (w.heap.size + 1) 27 (.bool gr) (.slice pr nr cr)) (by kernel_rfl) (⟨zn.drew, zd.drew⟩) (fun _ => ?_)
        replace zn := zn.drew
        replace zd := zd.drew
        replace xr := xr.drew
        replace hq := hq.drew
        replace hr := hr.drew
        replace h0 := Below.drew h0
        generalize W6.drew = W6 at zn zd xr hq hr h0 ⊢
        refine wpAnyH_take (i := 0) (v := ?_) rfl (by kernel_rfl) (by kernel_rfl) (by kernel_rfl) (fun _ _ _ h => h) (Or.inl ⟨by kernel_rfl, ?_⟩) (⟨zn, zd⟩) ?_
        rotate_left
        focus (intro W' hSw; obtain ⟨hx0, hx1⟩ := hSw; have hc0 := hx0.c0; have hc1 := hx0.c1; have hc2 := hx1.c0; have hc3 := hx1.c1; clear hx0 hx1; go_simp; (try with_reducible rfl))
        (try simp only [Act.put, List.setIfInBounds_toArray, List.set_cons_zero, List.set_cons_succ, List.getElem_toArray, List.getElem_cons_zero, List.getElem_cons_succ])
        refine wpAnyH_ready (rs := [1]) (by kernel_rfl) (by simp) ?_
        refine AllReadyH.cons rfl (fun K hK => ?_) (AllReadyH.nil)
        go_simp
        go_at_call 42; refine (zabs_any _ P _ hq).mono ?_
        rintro e Wa ⟨u, rfl, ha, hb⟩
        obtain ⟨ga, pa, na, ca, rfl⟩ := ha.shape
        replace zn := zn.go hb
        replace zd := zd.go hb
        replace xr := xr.go hb
        replace hq := hq.go hb
        replace hr := hr.go hb
        replace h0 := bel_go h0 h0.size hb
        clear hb
        refine hK.out _ _ (⟨zn, zd⟩) (fun _ => ?_)
        clear hK K
        (try simp only [Act.put, List.setIfInBounds_toArray, List.set_cons_zero, List.set_cons_succ, List.getElem_toArray, List.getElem_cons_zero, List.getElem_cons_succ])
        refine wpAnyH_ready (rs := [2]) (by kernel_rfl) (by simp) ?_
        refine AllReadyH.cons rfl (fun K hK => ?_) (AllReadyH.nil)
        go_simp
        go_at_call 18; refine (i_any 1152921504606846976 (by omega) (by omega) _).mono ?_
        rintro e Wv ⟨u, rfl, hv, hb⟩
        obtain ⟨gv, pv, nv, cv, rfl⟩ := hv.shape
        replace zn := zn.go hb
        replace zd := zd.go hb
        replace xr := xr.go hb
        replace hq := hq.go hb
        replace hr := hr.go hb
        replace ha := ha.go hb
        replace h0 := bel_go h0 h0.size hb
        clear hb
        refine hK.out _ _ (⟨zn, zd⟩) (fun _ => ?_)
        clear hK K
        (try simp only [Act.put, List.setIfInBounds_toArray, List.set_cons_zero, List.set_cons_succ, List.getElem_toArray, List.getElem_cons_zero, List.getElem_cons_succ])
        refine wpAnyH_ready (rs := [3]) (by kernel_rfl) (by simp) ?_
        refine AllReadyH.cons rfl (fun K hK => ?_) (AllReadyH.nil)
        go_simp
        go_at_call 16; (with_reducible refine (zcmp_any _ _ (P.natAbs : Int) 1152921504606846976 HS.out.1 HS.out.2.1 _ ha hv).mono ?_)
        rw [HC1.out]
        rintro e Wc ⟨rfl, hb⟩
        replace zn := zn.go hb
        replace zd := zd.go hb
        replace xr := xr.go hb
        replace hq := hq.go hb
        replace hr := hr.go hb
        replace ha := ha.go hb
        replace hv := hv.go hb
        replace h0 := bel_go h0 h0.size hb
        clear hb
        refine hK.out _ _ (⟨zn, zd⟩) (fun _ => ?_)
        clear hK K
        (try simp only [Act.put, List.setIfInBounds_toArray, List.set_cons_zero, List.set_cons_succ, List.getElem_toArray, List.getElem_cons_zero, List.getElem_cons_succ])
        refine wpAnyH_take (i := 4) (v := ?_) rfl (by kernel_rfl) (by kernel_rfl) (by kernel_rfl) (fun _ _ _ h => h) (Or.inl ⟨by kernel_rfl, ?_⟩) (⟨zn, zd⟩) ?_
        rotate_left
        focus (intro W' hSw; obtain ⟨hx0, hx1⟩ := hSw; have hc0 := hx0.c0; have hc1 := hx0.c1; have hc2 := hx1.c0; have hc3 := hx1.c1; clear hx0 hx1; go_simp; (try with_reducible rfl))
        (try simp only [Act.put, List.setIfInBounds_toArray, List.set_cons_zero, List.set_cons_succ, List.getElem_toArray, List.getElem_cons_zero, List.getElem_cons_succ])
        refine wpAnyH_take (i := 5) (v := ?_) rfl (by kernel_rfl) (by kernel_rfl) (by kernel_rfl) (fun _ _ _ h => h) (Or.inl ⟨by kernel_rfl, ?_⟩) (⟨zn, zd⟩) ?_
        rotate_left
        focus (intro W' hSw; obtain ⟨hx0, hx1⟩ := hSw; have hc0 := hx0.c0; have hc1 := hx0.c1; have hc2 := hx1.c0; have hc3 := hx1.c1; clear hx0 hx1; go_simp; (try with_reducible rfl))
        (try simp only [Act.put, List.setIfInBounds_toArray, List.set_cons_zero, List.set_cons_succ, List.getElem_toArray, List.getElem_cons_zero, List.getElem_cons_succ])
        refine wpAnyH_take (i := 6) (v := ?_) rfl (by kernel_rfl) (by kernel_rfl) (by kernel_rfl) (fun _ _ _ h => h) (Or.inl ⟨by kernel_rfl, ?_⟩) (⟨zn, zd⟩) ?_
        rotate_left
        focus (intro W' hSw; obtain ⟨hx0, hx1⟩ := hSw; have hc0 := hx0.c0; have hc1 := hx0.c1; have hc2 := hx1.c0; have hc3 := hx1.c1; clear hx0 hx1; go_simp; (try with_reducible rfl))
        (try simp only [Act.put, List.setIfInBounds_toArray, List.set_cons_zero, List.set_cons_succ, List.getElem_toArray, List.getElem_cons_zero, List.getElem_cons_succ])
        refine wpAnyH_ready (rs := [7]) (by kernel_rfl) (by simp) ?_
        refine AllReadyH.cons rfl (fun K hK => ?_) (AllReadyH.nil)
        go_simp
        go_at_call 18; refine (i_any 1152921504606846976 (by omega) (by omega) _).mono ?_
        rintro e Wy ⟨u, rfl, hy, hb⟩
        obtain ⟨gy, py, ny, cy, rfl⟩ := hy.shape
        replace zn := zn.go hb
        replace zd := zd.go hb
        replace xr := xr.go hb
        replace hq := hq.go hb
        replace hr := hr.go hb
        replace ha := ha.go hb
        replace hv := hv.go hb
        replace h0 := bel_go h0 h0.size hb
        clear hb
        refine hK.out _ _ (⟨zn, zd⟩) (fun _ => ?_)
        clear hK K
        (try simp only [Act.put, List.setIfInBounds_toArray, List.set_cons_zero, List.set_cons_succ, List.getElem_toArray, List.getElem_cons_zero, List.getElem_cons_succ])
        refine wpAnyH_ready (rs := [8]) (by kernel_rfl) (by simp) ?_
        refine AllReadyH.cons rfl (fun K hK => ?_) (AllReadyH.nil)
        go_simp
        go_at_call 16; (with_reducible refine (zcmp_any _ _ Q 1152921504606846976 HS.out.2.2 HS.out.2.1 _ hr hy).mono ?_)
        rw [HC2.out]
        rintro e We ⟨rfl, hb⟩
        replace zn := zn.go hb
        replace zd := zd.go hb
        replace xr := xr.go hb
        replace hq := hq.go hb
        replace hr := hr.go hb
        replace ha := ha.go hb
        replace hv := hv.go hb
        replace hy := hy.go hb
        replace h0 := bel_go h0 h0.size hb
        clear hb
        refine hK.out _ _ (⟨zn, zd⟩) (fun _ => ?_)
        clear hK K
        (try simp only [Act.put, List.setIfInBounds_toArray, List.set_cons_zero, List.set_cons_succ, List.getElem_toArray, List.getElem_cons_zero, List.getElem_cons_succ])
        refine wpAnyH_take (i := 9) (v := ?_) rfl (by kernel_rfl) (by kernel_rfl) (by kernel_rfl) (fun _ _ _ h => h) (Or.inl ⟨by kernel_rfl, ?_⟩) (⟨zn, zd⟩) ?_
        rotate_left
        focus (intro W' hSw; obtain ⟨hx0, hx1⟩ := hSw; have hc0 := hx0.c0; have hc1 := hx0.c1; have hc2 := hx1.c0; have hc3 := hx1.c1; clear hx0 hx1; go_simp; (try with_reducible rfl))
        (try simp only [Act.put, List.setIfInBounds_toArray, List.set_cons_zero, List.set_cons_succ, List.getElem_toArray, List.getElem_cons_zero, List.getElem_cons_succ])
        refine wpAnyH_take (i := 10) (v := ?_) rfl (by kernel_rfl) (by kernel_rfl) (by kernel_rfl) (fun _ _ _ h => h) (Or.inl ⟨by kernel_rfl, ?_⟩) (⟨zn, zd⟩) ?_
        rotate_left
        focus (intro W' hSw; obtain ⟨hx0, hx1⟩ := hSw; have hc0 := hx0.c0; have hc1 := hx0.c1; have hc2 := hx1.c0; have hc3 := hx1.c1; clear hx0 hx1; go_simp; (try with_reducible rfl))
        (try simp only [Act.put, List.setIfInBounds_toArray, List.set_cons_zero, List.set_cons_succ, List.getElem_toArray, List.getElem_cons_zero, List.getElem_cons_succ])
        refine wpAnyH_done (by kernel_rfl) ?_ _
        have c_xr := xr.c0
        have d_xr := xr.c1
        have p_xr := xr.f0
        have q_xr := xr.f1
        go_wp2_with fail
        clear c_xr d_xr p_xr q_xr
        have hP := put2 We (w.heap.size + 1 + 1) (.int .i64 (0)) (.int .i64 (0))
        have hN := xr.stored (.int .i64 (0)) (.int .i64 (0))
        generalize (We.setCell _ _).setCell _ _ = WZ at hP hN ⊢
        replace h0 := bel_put h0 (by omega) hP
        clear hP xr
        have xr := hN
        clear hN
        have e0 := xr.c0
        have e1 := xr.c1
        exact bodyPost_ret (v := .tuple #[fr (0) (0), .int .i64 (2)]) (by simp [results, Try.results65, go_sem, e0, e1]) rfl ⟨rfl, h0⟩
      · have g2 : ¬ 0 < k2 := by rw [← hk2]; have := cmpI_pos (a := Q) (b := 1152921504606846976); omega
        obtain ⟨e1, e2, e3⟩ := lim_yes (n := P) (d := Q) (by omega)
        have HV : Hid (smV P = P ∧ smV Q = Q) := ⟨if_pos (by omega), if_pos (by omega)⟩
        have HS2 : Hid (Sm P ∧ Sm Q) := ⟨sm_le (dlen64 (by omega) (by omega)) (by omega), HS.out.2.2⟩
        obtain rfl : P = A := by rw [← HA.out.1, e1]
        obtain rfl : Q = B := by rw [← HA.out.2.1, e2]
        obtain rfl : E = 0 := by rw [← HA.out.2.2, e3]
        clear c1 c2 e1 e2 e3 hk1 hk2
        refine wp_region_held_drew (S := fun W' => Bx W' (w.heap.size) 27 (.bool gq) (.slice pq nq cq) ∧ Bx W' (w.heap.size + 1) 27 (.bool gr) (.slice pr nr cr)) (by kernel_rfl) (⟨zn.drew, zd.drew⟩) (fun _ => ?_)
        replace zn := zn.drew
        replace zd := zd.drew
        replace xr := xr.drew
        replace hq := hq.drew
        replace hr := hr.drew
        replace h0 := Below.drew h0
        generalize W6.drew = W6 at zn zd xr hq hr h0 ⊢
        refine wpAnyH_take (i := 0) (v := ?_) rfl (by kernel_rfl) (by kernel_rfl) (by kernel_rfl) (fun _ _ _ h => h) (Or.inl ⟨by kernel_rfl, ?_⟩) (⟨zn, zd⟩) ?_
        rotate_left
        focus (intro W' hSw; obtain ⟨hx0, hx1⟩ := hSw; have hc0 := hx0.c0; have hc1 := hx0.c1; have hc2 := hx1.c0; have hc3 := hx1.c1; clear hx0 hx1; go_simp; (try with_reducible rfl))
        (try simp only [Act.put, List.setIfInBounds_toArray, List.set_cons_zero, List.set_cons_succ, List.getElem_toArray, List.getElem_cons_zero, List.getElem_cons_succ])
        refine wpAnyH_ready (rs := [1]) (by kernel_rfl) (by simp) ?_
        refine AllReadyH.cons rfl (fun K hK => ?_) (AllReadyH.nil)
        go_simp
        go_at_call 42; refine (zabs_any _ P _ hq).mono ?_
        rintro e Wa ⟨u, rfl, ha, hb⟩
        obtain ⟨ga, pa, na, ca, rfl⟩ := ha.shape
        replace zn := zn.go hb
        replace zd := zd.go hb
        replace xr := xr.go hb
        replace hq := hq.go hb
        replace hr := hr.go hb
        replace h0 := bel_go h0 h0.size hb
        clear hb
        refine hK.out _ _ (⟨zn, zd⟩) (fun _ => ?_)
        clear hK K
        (try simp only [Act.put, List.setIfInBounds_toArray, List.set_cons_zero, List.set_cons_succ, List.getElem_toArray, List.getElem_cons_zero, List.getElem_cons_succ])
        refine wpAnyH_ready (rs := [2]) (by kernel_rfl) (by simp) ?_
        refine AllReadyH.cons rfl (fun K hK => ?_) (AllReadyH.nil)
        go_simp
        go_at_call 18; refine (i_any 1152921504606846976 (by omega) (by omega) _).mono ?_
        rintro e Wv ⟨u, rfl, hv, hb⟩
        obtain ⟨gv, pv, nv, cv, rfl⟩ := hv.shape
        replace zn := zn.go hb
        replace zd := zd.go hb
        replace xr := xr.go hb
        replace hq := hq.go hb
        replace hr := hr.go hb
        replace ha := ha.go hb
        replace h0 := bel_go h0 h0.size hb
        clear hb
        refine hK.out _ _ (⟨zn, zd⟩) (fun _ => ?_)
        clear hK K
        (try simp only [Act.put, List.setIfInBounds_toArray, List.set_cons_zero, List.set_cons_succ, List.getElem_toArray, List.getElem_cons_zero, List.getElem_cons_succ])
        refine wpAnyH_ready (rs := [3]) (by kernel_rfl) (by simp) ?_
        refine AllReadyH.cons rfl (fun K hK => ?_) (AllReadyH.nil)
        go_simp
        go_at_call 16; (with_reducible refine (zcmp_any _ _ (P.natAbs : Int) 1152921504606846976 HS.out.1 HS.out.2.1 _ ha hv).mono ?_)
        rw [HC1.out]
        rintro e Wc ⟨rfl, hb⟩
        replace zn := zn.go hb
        replace zd := zd.go hb
        replace xr := xr.go hb
        replace hq := hq.go hb
        replace hr := hr.go hb
        replace ha := ha.go hb
        replace hv := hv.go hb
        replace h0 := bel_go h0 h0.size hb
        clear hb
        refine hK.out _ _ (⟨zn, zd⟩) (fun _ => ?_)
        clear hK K
        (try simp only [Act.put, List.setIfInBounds_toArray, List.set_cons_zero, List.set_cons_succ, List.getElem_toArray, List.getElem_cons_zero, List.getElem_cons_succ])
        refine wpAnyH_take (i := 4) (v := ?_) rfl (by kernel_rfl) (by kernel_rfl) (by kernel_rfl) (fun _ _ _ h => h) (Or.inl ⟨by kernel_rfl, ?_⟩) (⟨zn, zd⟩) ?_
        rotate_left
        focus (intro W' hSw; obtain ⟨hx0, hx1⟩ := hSw; have hc0 := hx0.c0; have hc1 := hx0.c1; have hc2 := hx1.c0; have hc3 := hx1.c1; clear hx0 hx1; go_simp; (try with_reducible rfl))
        (try simp only [Act.put, List.setIfInBounds_toArray, List.set_cons_zero, List.set_cons_succ, List.getElem_toArray, List.getElem_cons_zero, List.getElem_cons_succ])
        refine wpAnyH_take (i := 5) (v := ?_) rfl (by kernel_rfl) (by kernel_rfl) (by kernel_rfl) (fun _ _ _ h => h) (Or.inl ⟨by kernel_rfl, ?_⟩) (⟨zn, zd⟩) ?_
        rotate_left
        focus (intro W' hSw; obtain ⟨hx0, hx1⟩ := hSw; have hc0 := hx0.c0; have hc1 := hx0.c1; have hc2 := hx1.c0; have hc3 := hx1.c1; clear hx0 hx1; go_simp; (try with_reducible rfl))
        (try simp only [Act.put, List.setIfInBounds_toArray, List.set_cons_zero, List.set_cons_succ, List.getElem_toArray, List.getElem_cons_zero, List.getElem_cons_succ])
        refine wpAnyH_take (i := 6) (v := ?_) rfl (by kernel_rfl) (by kernel_rfl) (by kernel_rfl) (fun _ _ _ h => h) (Or.inl ⟨by kernel_rfl, ?_⟩) (⟨zn, zd⟩) ?_
        rotate_left
        focus (intro W' hSw; obtain ⟨hx0, hx1⟩ := hSw; have hc0 := hx0.c0; have hc1 := hx0.c1; have hc2 := hx1.c0; have hc3 := hx1.c1; clear hx0 hx1; go_simp; (try with_reducible rfl))
        (try simp only [Act.put, List.setIfInBounds_toArray, List.set_cons_zero, List.set_cons_succ, List.getElem_toArray, List.getElem_cons_zero, List.getElem_cons_succ])
        refine wpAnyH_ready (rs := [7]) (by kernel_rfl) (by simp) ?_
        refine AllReadyH.cons rfl (fun K hK => ?_) (AllReadyH.nil)
        go_simp
        go_at_call 18; refine (i_any 1152921504606846976 (by omega) (by omega) _).mono ?_
        rintro e Wy ⟨u, rfl, hy, hb⟩
        obtain ⟨gy, py, ny, cy, rfl⟩ := hy.shape
        replace zn := zn.go hb
        replace zd := zd.go hb
        replace xr := xr.go hb
        replace hq := hq.go hb
        replace hr := hr.go hb
        replace ha := ha.go hb
        replace hv := hv.go hb
        replace h0 := bel_go h0 h0.size hb
        clear hb
        refine hK.out _ _ (⟨zn, zd⟩) (fun _ => ?_)
        clear hK K
        (try simp only [Act.put, List.setIfInBounds_toArray, List.set_cons_zero, List.set_cons_succ, List.getElem_toArray, List.getElem_cons_zero, List.getElem_cons_succ])
        refine wpAnyH_ready (rs := [8]) (by kernel_rfl) (by simp) ?_
        refine AllReadyH.cons rfl (fun K hK => ?_) (AllReadyH.nil)
        go_simp
        go_at_call 16; (with_reducible refine (zcmp_any _ _ Q 1152921504606846976 HS.out.2.2 HS.out.2.1 _ hr hy).mono ?_)
        rw [HC2.out]
        rintro e We ⟨rfl, hb⟩
        replace zn := zn.go hb
        replace zd := zd.go hb
        replace xr := xr.go hb
        replace hq := hq.go hb
        replace hr := hr.go hb
        replace ha := ha.go hb
        replace hv := hv.go hb
        replace hy := hy.go hb
        replace h0 := bel_go h0 h0.size hb
        clear hb
        refine hK.out _ _ (⟨zn, zd⟩) (fun _ => ?_)
        clear hK K
        (try simp only [Act.put, List.setIfInBounds_toArray, List.set_cons_zero, List.set_cons_succ, List.getElem_toArray, List.getElem_cons_zero, List.getElem_cons_succ])
        refine wpAnyH_take (i := 9) (v := ?_) rfl (by kernel_rfl) (by kernel_rfl) (by kernel_rfl) (fun _ _ _ h => h) (Or.inl ⟨by kernel_rfl, ?_⟩) (⟨zn, zd⟩) ?_
        rotate_left
        focus (intro W' hSw; obtain ⟨hx0, hx1⟩ := hSw; have hc0 := hx0.c0; have hc1 := hx0.c1; have hc2 := hx1.c0; have hc3 := hx1.c1; clear hx0 hx1; go_simp; (try with_reducible rfl))
        (try simp only [Act.put, List.setIfInBounds_toArray, List.set_cons_zero, List.set_cons_succ, List.getElem_toArray, List.getElem_cons_zero, List.getElem_cons_succ])
        refine wpAnyH_take (i := 10) (v := ?_) rfl (by kernel_rfl) (by kernel_rfl) (by kernel_rfl) (fun _ _ _ h => h) (Or.inl ⟨by kernel_rfl, ?_⟩) (⟨zn, zd⟩) ?_
        rotate_left
        focus (intro W' hSw; obtain ⟨hx0, hx1⟩ := hSw; have hc0 := hx0.c0; have hc1 := hx0.c1; have hc2 := hx1.c0; have hc3 := hx1.c1; clear hx0 hx1; go_simp; (try with_reducible rfl))
        (try simp only [Act.put, List.setIfInBounds_toArray, List.set_cons_zero, List.set_cons_succ, List.getElem_toArray, List.getElem_cons_zero, List.getElem_cons_succ])
        refine wpAnyH_done (by kernel_rfl) ?_ _
        have c_zn := zn.c0
        have d_zn := zn.c1
        have p_zn := zn.f0
        have q_zn := zn.f1
        go_wp2_with fail
        clear c_zn d_zn p_zn q_zn
        go_at_call 84; (with_reducible refine (zsmall_any _ P HS2.out.1 _ hq).mono ?_)
        rintro e Wf ⟨rfl, hb⟩
        replace zn := zn.go hb
        replace zd := zd.go hb
        replace xr := xr.go hb
        replace h0 := bel_go h0 h0.size hb
        replace hr := hr.go hb
        clear hb
        rw [HV.out.1]
        have c_zd := zd.c0
        have d_zd := zd.c1
        have p_zd := zd.f0
        have q_zd := zd.f1
        go_wp2_with fail
        clear c_zd d_zd p_zd q_zd
        go_at_call 84; (with_reducible refine (zsmall_any _ Q HS2.out.2 _ hr).mono ?_)
        rintro e Wg ⟨rfl, hb⟩
        replace xr := xr.go hb
        replace h0 := bel_go h0 h0.size hb
        clear hb
        rw [HV.out.2]
        have c_xr := xr.c0
        have d_xr := xr.c1
        have p_xr := xr.f0
        have q_xr := xr.f1
        go_wp2_with fail
        clear c_xr d_xr p_xr q_xr
        have hP := put2 Wg (w.heap.size + 1 + 1) (.int .i64 (P)) (.int .i64 (Q))
        have hN := xr.stored (.int .i64 (P)) (.int .i64 (Q))
        generalize (Wg.setCell _ _).setCell _ _ = WZ at hP hN ⊢
        replace h0 := bel_put h0 (by omega) hP
        clear hP xr
        have xr := hN
        clear hN
        have e0 := xr.c0
        have e1 := xr.c1
        exact bodyPost_ret (v := .tuple #[fr (P) (Q), .int .i64 (0)]) (by simp [results, Try.results65, go_sem, e0, e1]) rfl ⟨rfl, h0⟩
end Go.Proofs.Ytdhodjbomepfbaa

