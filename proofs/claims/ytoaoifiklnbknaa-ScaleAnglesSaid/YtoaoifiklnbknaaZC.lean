/-
  The contract of the reference's Gcd.
  Conditions: those of each theorem.
-/
import Derived.Test.YtoaoifiklnbknaaW2
import Derived.Deep.LoopGhost
set_option linter.unusedSimpArgs false
set_option linter.unusedVariables false
namespace Go.Proofs.Ytoaoifiklnbknaa
open Go.RowKit Go.Shelf Zd Wd

set_option maxRecDepth 100000 in
set_option maxHeartbeats 4000000 in
/-- spyref1.Gcd. -/
theorem zgcd_any (va vb : Value) (a b : Int) (hla : (digs a.natAbs).length ≤ 300000) (hlb : (digs b.natAbs).length ≤ 300000) (w : World) (hA : IsZ w va a) (hB : IsZ w vb b) :
    Calls Try.prog 142 #[va, vb] w fun e w' => ∃ u, e = .returned u ∧ IsZ w' u (Nat.gcd a.natAbs b.natAbs : Int) ∧ Below w.heap.size w w' := by
  obtain ⟨G, hG⟩ : ∃ G, Nat.gcd a.natAbs b.natAbs = G := ⟨_, rfl⟩
  rw [hG]
  have HG := Lib.hid hG
  clear hG
  obtain ⟨ga, pa, na, ca, rfl⟩ := hA.shape
  obtain ⟨gb, pb, nb, cb, rfl⟩ := hB.shape
  obtain ⟨W, hW, h0, b1, b2, b3⟩ := boot3 w (.bool ga) (.slice pa na ca) (.bool gb) (.slice pb nb cb)
  have HW := Lib.hid hW
  clear hW
  replace hA := hA.go h0
  replace hB := hB.go h0
  go_enter Try.func142, Try.ntmps142
  go_wp2
  rw [← HW.out]
  clear HW
  refine wp_region_last (S := fun W' => Bx W' (w.heap.size + 1) 27 (.bool gb) (.slice pb nb cb)) (m := 5) (by kernel_rfl) (by kernel_rfl) (by kernel_rfl) (b2.drew) (fun _ => ?_)
  replace hA := hA.drew
  replace hB := hB.drew
  replace b1 := b1.drew
  replace b2 := b2.drew
  replace b3 := b3.drew
  replace h0 := Below.drew h0
  generalize W.drew = W at hA hB b1 b2 b3 h0 ⊢
  refine wpAnyH_take (i := 2) (v := ?_) rfl (by kernel_rfl) (by kernel_rfl) (by kernel_rfl) (fun _ _ _ h => h) (Or.inl ⟨by kernel_rfl, ?_⟩) (b2) ?_
  rotate_left
  focus (intro W' hSw; have hx0 := hSw; (try dsimp only at hx0); have hc0 := hx0.c0; have hc1 := hx0.c1; clear hx0; go_simp; (try with_reducible rfl))
  (try simp only [Act.put, List.setIfInBounds_toArray, List.set_cons_zero, List.set_cons_succ, List.getElem_toArray, List.getElem_cons_zero, List.getElem_cons_succ])
  refine wpAnyH_ready (rs := [0]) (by kernel_rfl) (by simp) ?_
  refine AllReadyH.cons rfl (fun K hK => ?_) (AllReadyH.nil)
  have q0 := b1.c0
  have q1 := b1.c1
  go_simp
  clear q0 q1
  refine hK.out _ _ (b2) (fun _ => ?_)
  clear hK K
  (try simp only [Act.put, List.setIfInBounds_toArray, List.set_cons_zero, List.set_cons_succ, List.getElem_toArray, List.getElem_cons_zero, List.getElem_cons_succ])
  refine wpAnyH_ready (rs := [1]) (by kernel_rfl) (by simp) ?_
  refine AllReadyH.cons rfl (fun K hK => ?_) (AllReadyH.nil)
  go_simp
  go_at_call 41; refine (zabs_any _ a _ hA).mono ?_
  rintro e Wx ⟨u, rfl, hx, hb⟩
  obtain ⟨gx, px, nx, cx, rfl⟩ := hx.shape
  replace hB := hB.go hb
  replace b1 := b1.go hb
  replace b2 := b2.go hb
  replace b3 := b3.go hb
  replace h0 := bel_go h0 h0.size hb
  clear hb
  refine hK.out _ _ (b2) (fun _ => ?_)
  clear hK K
  (try simp only [Act.put, List.setIfInBounds_toArray, List.set_cons_zero, List.set_cons_succ, List.getElem_toArray, List.getElem_cons_zero, List.getElem_cons_succ])
  refine wpAnyH_ready (rs := [3]) (by kernel_rfl) (by simp) ?_
  refine AllReadyH.cons rfl (fun K hK => ?_) (AllReadyH.nil)
  go_simp
  go_at_call 41; refine (zabs_any _ b _ hB).mono ?_
  rintro e Wy ⟨u, rfl, hy, hb⟩
  obtain ⟨gy, py, ny, cy, rfl⟩ := hy.shape
  replace hx := hx.go hb
  replace b1 := b1.go hb
  replace b2 := b2.go hb
  replace b3 := b3.go hb
  replace h0 := bel_go h0 h0.size hb
  clear hb
  refine hK.out _ _ (b2) (fun _ => ?_)
  clear hK K
  (try simp only [Act.put, List.setIfInBounds_toArray, List.set_cons_zero, List.set_cons_succ, List.getElem_toArray, List.getElem_cons_zero, List.getElem_cons_succ])
  refine wpAnyH_ready (rs := [4]) (by kernel_rfl) (by simp) ?_
  refine AllReadyH.cons rfl (fun K hK => ?_) (AllReadyH.nil)
  have hq0 := b1.c0
  have hq1 := b1.c1
  have hr0 := b1.f0
  have hr1 := b1.f1
  go_simp
  clear hq0 hq1 hr0 hr1
  have hP := put2 Wy (w.heap.size) (.bool gx) (.slice px nx cx)
  have hN := b1.stored (.bool gx) (.slice px nx cx)
  generalize (Wy.setCell ⟨w.heap.size, 0, none⟩ (.bool gx)).setCell ⟨w.heap.size, 1, none⟩ (.slice px nx cx) = WA at hP hN ⊢
  replace hx := hx.put b1 (by decide) hP
  replace hy := hy.put b1 (by decide) hP
  replace b2 := b2.put hP (by omega)
  replace b3 := b3.put hP (by omega)
  replace h0 := bel_put h0 (by omega) hP
  clear hP b1
  have b1 := hN
  clear hN
  refine hK.out _ _ (b2) (fun _ => ?_)
  clear hK K
  (try simp only [Act.put, List.setIfInBounds_toArray, List.set_cons_zero, List.set_cons_succ, List.getElem_toArray, List.getElem_cons_zero, List.getElem_cons_succ])
  refine wpAnyH_done (by kernel_rfl) ?_ _
  refine still1_step rfl (fun K hK => ?_)
  have hq0 := b2.c0
  have hq1 := b2.c1
  have hr0 := b2.f0
  have hr1 := b2.f1
  go_simp
  clear hq0 hq1 hr0 hr1
  have hP := put2 WA (w.heap.size + 1) (.bool gy) (.slice py ny cy)
  have hN := b2.stored (.bool gy) (.slice py ny cy)
  generalize (WA.setCell ⟨w.heap.size + 1, 0, none⟩ (.bool gy)).setCell ⟨w.heap.size + 1, 1, none⟩ (.slice py ny cy) = WB at hP hN ⊢
  replace hx := hx.put b2 (by decide) hP
  replace hy := hy.put b2 (by decide) hP
  replace b1 := b1.put hP (by omega)
  replace b3 := b3.put hP (by omega)
  replace h0 := bel_put h0 (by omega) hP
  clear hP b2
  have b2 := hN
  clear hN
  refine hK.out _ _ ?_
  clear hK K
  (try simp only [Act.put, List.setIfInBounds_toArray, List.set_cons_zero, List.set_cons_succ, List.getElem_toArray, List.getElem_cons_zero, List.getElem_cons_succ])
  clear hA hB
  go_wp2
  go_loopg [] b.natAbs (fun k wr => ∃ (x : Nat) (gx : Bool) (px : Option Addr) (nx cx : Nat) (gy : Bool) (py : Option Addr) (ny cy : Nat), Hid (Nat.gcd x k = G) ∧ Hid ((digs x).length ≤ 300000) ∧ Hid ((digs k).length ≤ 300000) ∧ Bx wr w.heap.size 27 (.bool gx) (.slice px nx cx) ∧ Bx wr (w.heap.size + 1) 27 (.bool gy) (.slice py ny cy) ∧ Bx wr (w.heap.size + 1 + 1) 27 (.bool false) (.slice none 0 0) ∧
      IsZ wr (.agg #[.bool gx, .slice px nx cx]) (x : Int) ∧ IsZ wr (.agg #[.bool gy, .slice py ny cy]) (k : Int) ∧ Below w.heap.size w wr)
  case atStart => exact ⟨a.natAbs, gx, px, nx, cx, gy, py, ny, cy, HG, Lib.hid hla, Lib.hid hlb, b1, b2, b3, hx, hy, h0⟩
  case round =>
    clear b1 b2 b3 hx hy h0
    obtain ⟨x, gx, px, nx, cx, gy, py, ny, cy, hg, hlx, hlk, b1, b2, b3, hx, hy, h0⟩ := hrel
    obtain ⟨y, hy0⟩ : ∃ y, gk = y := ⟨_, rfl⟩
    have c20 := b2.c0
    have c21 := b2.c1
    rcases Nat.eq_zero_or_pos gk with hz | hz
    · have hk : decide (0 < cmpI (gk : Int) 0) = false := by have := cmpI_pos (a := (gk : Int)) (b := 0); exact decide_eq_false (by omega)
      have hxG : Hid (x = G) := by unfold Hid; rw [← hg.out, hz, Nat.gcd_zero_right]
      have HZ := Lib.hid hz
      clear hz hy0
      go_wp2_with fail
      go_at_call 40; refine (sign_any _ (gk : Int) _ hy).mono ?_
      rintro e WE ⟨rfl, hb⟩
      replace hx := hx.go hb
      replace b1 := b1.go hb
      replace b3 := b3.go hb
      replace h0 := bel_go h0 h0.size hb
      clear hb c20 c21
      have c10 := b1.c0
      have c11 := b1.c1
      have c30 := b3.c0
      have c31 := b3.c1
      have f30 := b3.f0
      have f31 := b3.f1
      go_wp2
      clear c10 c11 c30 c31 f30 f31
      have e0 := (b3.stored (.bool gx) (.slice px nx cx)).c0
      have e1 := (b3.stored (.bool gx) (.slice px nx cx)).c1
      refine bodyPost_ret (v := .agg #[.bool gx, .slice px nx cx]) (by simp [results, Try.results142, go_sem, e0, e1]) rfl ⟨_, rfl, ?_, ?_⟩
      · rw [← hxG.out]; exact hx.put b3 (by decide) (put2 _ _ _ _)
      · exact bel_put h0 (by omega) (put2 _ _ _ _)
    · have hk : decide (0 < cmpI (gk : Int) 0) = true := by have := cmpI_pos (a := (gk : Int)) (b := 0); exact decide_eq_true (by omega)
      have hd0 : (gk : Int) ≠ 0 := by omega
      have q1 : (digs (x : Int).natAbs).length ≤ 400000 := by rw [Int.natAbs_natCast]; have := hlx.out; omega
      have q2 : (digs (gk : Int).natAbs).length ≤ 400000 := by rw [Int.natAbs_natCast]; have := hlk.out; omega
      have HZ := Lib.hid hz
      clear hz hy0
      go_wp2_with fail
      go_at_call 40; refine (sign_any _ (gk : Int) _ hy).mono ?_
      rintro e WE ⟨rfl, hb⟩
      replace hx := hx.go hb
      replace hy := hy.go hb
      replace b1 := b1.go hb
      replace b2 := b2.go hb
      replace b3 := b3.go hb
      replace h0 := bel_go h0 h0.size hb
      clear hb c20 c21
      have c10 := b1.c0
      have c11 := b1.c1
      have c20 := b2.c0
      have c21 := b2.c1
      go_wp2_with fail
      go_at_call 72; refine (zsplit_any _ _ (x : Int) (gk : Int) hd0 q1 q2 _ hx hy).mono ?_
      rintro e WS ⟨u, v, rfl, hu, hv, hb⟩
      obtain ⟨gu, pu, nu, cu, rfl⟩ := hu.shape
      obtain ⟨gv, pv, nv, cv, rfl⟩ := hv.shape
      replace hy := hy.go hb
      replace b1 := b1.go hb
      replace b2 := b2.go hb
      replace b3 := b3.go hb
      replace h0 := bel_go h0 h0.size hb
      clear hb c10 c11 c20 c21 hu hx
      go_wp2
      obtain ⟨WS2, hWS, hal, bu, bv⟩ := boot2 WS (.bool gu) (.slice pu nu cu) (.bool gv) (.slice pv nv cv)
      rw [← hWS]
      have sS := Lib.hid b3.lt
      clear hWS bu
      replace hy := hy.go hal
      replace hv := hv.go hal
      replace b1 := b1.go hal
      replace b2 := b2.go hal
      replace b3 := b3.go hal
      replace h0 := bel_go h0 h0.size hal
      clear hal
      generalize WS.heap.size = BS at bv sS ⊢
      refine wp_region_last (S := fun W' => Bx W' (w.heap.size + 1) 27 (.bool gy) (.slice py ny cy) ∧ Bx W' ((BS + 1)) 27 (.bool gv) (.slice pv nv cv)) (m := 3) (by kernel_rfl) (by kernel_rfl) (by kernel_rfl) (⟨b2.drew, bv.drew⟩) (fun _ => ?_)
      replace hy := hy.drew
      replace hv := hv.drew
      replace b1 := b1.drew
      replace b2 := b2.drew
      replace b3 := b3.drew
      replace bv := bv.drew
      replace h0 := Below.drew h0
      generalize WS2.drew = WS2 at hy hv b1 b2 b3 bv h0 ⊢
      refine wpAnyH_take (i := 0) (v := ?_) rfl (by kernel_rfl) (by kernel_rfl) (by kernel_rfl) (fun _ _ _ h => h) (Or.inl ⟨by kernel_rfl, ?_⟩) (⟨b2, bv⟩) ?_
      rotate_left
      focus (intro W' hSw; obtain ⟨hx0, hx1⟩ := hSw; have hc0 := hx0.c0; have hc1 := hx0.c1; have hc2 := hx1.c0; have hc3 := hx1.c1; clear hx0 hx1; go_simp; (try with_reducible rfl))
      (try simp only [Act.put, List.setIfInBounds_toArray, List.set_cons_zero, List.set_cons_succ, List.getElem_toArray, List.getElem_cons_zero, List.getElem_cons_succ])
      refine wpAnyH_take (i := 1) (v := ?_) rfl (by kernel_rfl) (by kernel_rfl) (by kernel_rfl) (fun _ _ _ h => h) (Or.inl ⟨by kernel_rfl, ?_⟩) (⟨b2, bv⟩) ?_
      rotate_left
      focus (intro W' hSw; obtain ⟨hx0, hx1⟩ := hSw; have hc0 := hx0.c0; have hc1 := hx0.c1; have hc2 := hx1.c0; have hc3 := hx1.c1; clear hx0 hx1; go_simp; (try with_reducible rfl))
      (try simp only [Act.put, List.setIfInBounds_toArray, List.set_cons_zero, List.set_cons_succ, List.getElem_toArray, List.getElem_cons_zero, List.getElem_cons_succ])
      refine wpAnyH_ready (rs := [2]) (by kernel_rfl) (by simp) ?_
      refine AllReadyH.cons rfl (fun K hK => ?_) (AllReadyH.nil)
      have hq0 := b1.c0
      have hq1 := b1.c1
      have hr0 := b1.f0
      have hr1 := b1.f1
      go_simp
      clear hq0 hq1 hr0 hr1
      have hP := put2 WS2 (w.heap.size) (.bool gy) (.slice py ny cy)
      have hN := b1.stored (.bool gy) (.slice py ny cy)
      generalize (WS2.setCell ⟨w.heap.size, 0, none⟩ (.bool gy)).setCell ⟨w.heap.size, 1, none⟩ (.slice py ny cy) = WC at hP hN ⊢
      replace hy := hy.put b1 (by decide) hP
      replace hv := hv.put b1 (by decide) hP
      replace b2 := b2.put hP (by omega)
      replace b3 := b3.put hP (by omega)
      replace bv := bv.put hP (by have := sS.out; omega)
      replace h0 := bel_put h0 (by omega) hP
      clear hP b1
      have b1 := hN
      clear hN
      refine hK.out _ _ (⟨b2, bv⟩) (fun _ => ?_)
      clear hK K
      (try simp only [Act.put, List.setIfInBounds_toArray, List.set_cons_zero, List.set_cons_succ, List.getElem_toArray, List.getElem_cons_zero, List.getElem_cons_succ])
      refine wpAnyH_done (by kernel_rfl) ?_ _
      refine still1_step rfl (fun K hK => ?_)
      have hq0 := b2.c0
      have hq1 := b2.c1
      have hr0 := b2.f0
      have hr1 := b2.f1
      go_simp
      clear hq0 hq1 hr0 hr1
      have hP := put2 WC (w.heap.size + 1) (.bool gv) (.slice pv nv cv)
      have hN := b2.stored (.bool gv) (.slice pv nv cv)
      generalize (WC.setCell ⟨w.heap.size + 1, 0, none⟩ (.bool gv)).setCell ⟨w.heap.size + 1, 1, none⟩ (.slice pv nv cv) = WD at hP hN ⊢
      replace hy := hy.put b2 (by decide) hP
      replace hv := hv.put b2 (by decide) hP
      replace b1 := b1.put hP (by omega)
      replace b3 := b3.put hP (by omega)
      replace bv := bv.put hP (by have := sS.out; omega)
      replace h0 := bel_put h0 (by omega) hP
      clear hP b2
      have b2 := hN
      clear hN
      refine hK.out _ _ ?_
      clear hK K
      (try simp only [Act.put, List.setIfInBounds_toArray, List.set_cons_zero, List.set_cons_succ, List.getElem_toArray, List.getElem_cons_zero, List.getElem_cons_succ])
      go_wp2
      go_roundg (x % gk)
      case measure => exact Nat.mod_lt _ HZ.out
      case rel =>
        refine ⟨gk, gy, py, ny, cy, gv, pv, nv, cv, ?_, hlk, ?_, b1, b2, b3, hy, ?_, h0⟩
        · unfold Hid; rw [← hg.out, Nat.gcd_comm x gk]; exact (Nat.gcd_rec gk x).symm ▸ Nat.gcd_comm _ _
        · unfold Hid
          have h1 := Nat.mod_lt x HZ.out
          have h2 := len_le hlk.out
          exact digs_len (by omega)
        · rw [Int.natCast_emod]; exact hv
end Go.Proofs.Ytoaoifiklnbknaa

