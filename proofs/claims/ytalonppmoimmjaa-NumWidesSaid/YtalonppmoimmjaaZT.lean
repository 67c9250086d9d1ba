/-
  The contracts of the reference's powers of 2 and of its reading of two words.
  Conditions: those of each theorem.
-/
import Derived.Test.YtalonppmoimmjaaZG
import Derived.Test.YtalonppmoimmjaaNumS
set_option linter.unusedSimpArgs false
set_option linter.unusedVariables false
namespace Go.Proofs.Ytalonppmoimmjaa
open Go.RowKit Go.Shelf Zd Wd

theorem dlen_two (j : Nat) : (digs ((2 : Int) ^ (16 * j)).natAbs).length ≤ j + 1 := by
  have e : ((2 : Int) ^ (16 * j)).natAbs = 65536 ^ j := by rw [Int.natAbs_pow, Nat.pow_mul]; rfl
  rw [e]
  refine digs_len ?_
  rw [Nat.pow_succ]
  have h1 : 65536 ^ j ≤ 1000000 ^ j := Nat.pow_le_pow_left (by decide) j
  have h2 : 0 < 1000000 ^ j := Nat.pow_pos (by decide)
  omega
theorem bz_new (w : World) (x y : Value) : ∃ W, W = w.alloc (.cells #[x, y] 27) ∧ Below w.heap.size w W ∧ Bx W w.heap.size 27 x y := ⟨_, rfl, by go_grown, Bx.new w 27 x y⟩

set_option maxRecDepth 100000 in
set_option maxHeartbeats 4000000 in
/-- spyref1.Two, at multiples of 16. -/
theorem two_any (m : Nat) (hm : m ≤ 1000) (w : World) :
    Calls Try.prog 48 #[.int .i64 (16 * m)] w fun e w' => ∃ u, e = .returned u ∧ IsZ w' u ((2 : Int) ^ (16 * m)) ∧ Below w.heap.size w w' := by
  obtain ⟨K, hK⟩ : ∃ K, (16 * (m : Int)) = K := ⟨_, rfl⟩
  rw [hK]
  have HK := Lib.hid hK
  have k0 : 0 ≤ K := by omega
  have k1 : K ≤ 16000 := by omega
  clear hK
  obtain ⟨W, hW, h0, b0⟩ := bz_new w (.bool false) (.slice none 0 0)
  have HW := Lib.hid hW
  clear hW
  go_enter Try.func48, Try.ntmps48
  go_wp2_with fail
  rw [← HW.out]
  clear HW
  go_at_call 25; refine (i_any 1 (by omega) (by omega) _).mono ?_
  rintro e W1 ⟨u, rfl, hz, hb⟩
  obtain ⟨gF, pF, nF, cF, rfl⟩ := hz.shape
  replace h0 := bel_go h0 h0.size hb
  replace b0 := b0.go hb
  clear hb
  go_wp2
  obtain ⟨W2, hW2, hal, bz⟩ := bz_new W1 (.bool gF) (.slice pF nF cF)
  rw [← hW2]
  have sz := Lib.hid b0.lt
  replace h0 := bel_go h0 h0.size hal
  replace b0 := b0.go hal
  replace hz := hz.go hal
  clear hal hW2
  generalize W1.heap.size = BZ at bz sz ⊢
  go_loopw [0] (fun k wr => ∃ (κ : Int) (i : Nat) (gz : Bool) (pz : Option Addr) (nz cz : Nat), k = .int .i64 κ ∧ 0 ≤ κ ∧ κ ≤ 16000 ∧ Hid (κ = 16 * i) ∧ i ≤ m ∧ Bx wr BZ 27 (.bool gz) (.slice pz nz cz) ∧ IsZ wr (.agg #[.bool gz, .slice pz nz cz]) ((2 : Int) ^ (16 * (m - i))) ∧ Bx wr w.heap.size 27 (.bool false) (.slice none 0 0) ∧ Below w.heap.size w wr) (fun k _ => (intOf k).toNat)
  case atStart => exact ⟨K, m, gF, pF, nF, cF, rfl, k0, k1, Lib.hid HK.out.symm, Nat.le_refl _, bz, by rw [Nat.sub_self]; exact hz, b0, h0⟩
  case round =>
    clear hz bz b0 h0
    obtain ⟨κ, i, gz, pz, nz, cz, rfl, q0, q1, hκ, him, bz, hz, b0, h0⟩ := hrel
    rcases Nat.eq_zero_or_pos i with hi0 | hi0
    · have e0 : κ = 0 := by have := hκ.out; omega
      subst e0
      rw [hi0, Nat.sub_zero] at hz
      have hlt : (digs ((2 : Int) ^ (16 * m)).natAbs).length + (digs (1 : Int).natAbs).length ≤ 1999999 := by
        have h1 := dlen_two m
        have h2 : (digs (1 : Int).natAbs).length ≤ 1 := digs_len (by decide)
        omega
      clear hi0 hκ HK
      go_wp2
      refine wp_region_last (S := fun W' => Bx W' (BZ) 27 (.bool gz) (.slice pz nz cz)) (m := 5) (by kernel_rfl) (by kernel_rfl) (by kernel_rfl) (bz.drew) (fun _ => ?_)
      replace hz := hz.drew
      replace bz := bz.drew
      replace b0 := b0.drew
      replace h0 := Below.drew h0
      generalize wr.drew = wr at hz bz b0 h0 ⊢
      refine wpAnyH_take (i := 0) (v := ?_) rfl (by kernel_rfl) (by kernel_rfl) (by kernel_rfl) (fun _ _ _ h => h) (Or.inl ⟨by kernel_rfl, ?_⟩) (bz) ?_
      rotate_left
      focus (intro W' hSw; have hx0 := hSw; (try dsimp only at hx0); have hc0 := hx0.c0; have hc1 := hx0.c1; clear hx0; go_simp; (try with_reducible rfl))
      (try simp only [Act.put, List.setIfInBounds_toArray, List.set_cons_zero, List.set_cons_succ, List.getElem_toArray, List.getElem_cons_zero, List.getElem_cons_succ])
      refine wpAnyH_take (i := 1) (v := ?_) rfl (by kernel_rfl) (by kernel_rfl) (by kernel_rfl) (fun _ _ _ h => h) (Or.inl ⟨by kernel_rfl, ?_⟩) (bz) ?_
      rotate_left
      focus (intro W' hSw; have hx0 := hSw; (try dsimp only at hx0); have hc0 := hx0.c0; have hc1 := hx0.c1; clear hx0; go_simp; (try with_reducible rfl))
      (try simp only [Act.put, List.setIfInBounds_toArray, List.set_cons_zero, List.set_cons_succ, List.getElem_toArray, List.getElem_cons_zero, List.getElem_cons_succ])
      refine wpAnyH_take (i := 2) (v := ?_) rfl (by kernel_rfl) (by kernel_rfl) (by kernel_rfl) (fun _ _ _ h => h) (Or.inl ⟨by kernel_rfl, ?_⟩) (bz) ?_
      rotate_left
      focus (intro W' hSw; have hx0 := hSw; (try dsimp only at hx0); have hc0 := hx0.c0; have hc1 := hx0.c1; clear hx0; go_simp; (try with_reducible rfl))
      (try simp only [Act.put, List.setIfInBounds_toArray, List.set_cons_zero, List.set_cons_succ, List.getElem_toArray, List.getElem_cons_zero, List.getElem_cons_succ])
      refine wpAnyH_ready (rs := [3]) (by kernel_rfl) (by simp) ?_
      refine AllReadyH.cons rfl (fun K hK => ?_) (AllReadyH.nil)
      go_simp
      go_at_call 25; refine (i_any 1 (by omega) (by omega) _).mono ?_
      rintro e Wi ⟨u, rfl, hi, hb⟩
      obtain ⟨gi, pi, ni, ci, rfl⟩ := hi.shape
      replace hz := hz.go hb
      replace bz := bz.go hb
      replace b0 := b0.go hb
      replace h0 := bel_go h0 h0.size hb
      clear hb
      refine hK.out _ _ (bz) (fun _ => ?_)
      clear hK K
      (try simp only [Act.put, List.setIfInBounds_toArray, List.set_cons_zero, List.set_cons_succ, List.getElem_toArray, List.getElem_cons_zero, List.getElem_cons_succ])
      refine wpAnyH_ready (rs := [4]) (by kernel_rfl) (by simp) ?_
      refine AllReadyH.cons rfl (fun K hK => ?_) (AllReadyH.nil)
      go_simp
      go_at_call 28; refine (ztimes_any _ _ (2 ^ (16 * m) : Int) 1 hlt _ hz hi).mono ?_
      rintro e Wt ⟨u, rfl, ht, hb⟩
      obtain ⟨gt, pt, nt, ct, rfl⟩ := ht.shape
      replace bz := bz.go hb
      replace b0 := b0.go hb
      replace h0 := bel_go h0 h0.size hb
      clear hb
      refine hK.out _ _ (bz) (fun _ => ?_)
      clear hK K
      (try simp only [Act.put, List.setIfInBounds_toArray, List.set_cons_zero, List.set_cons_succ, List.getElem_toArray, List.getElem_cons_zero, List.getElem_cons_succ])
      refine wpAnyH_done (by kernel_rfl) ?_ _
      refine still1_step rfl (fun K hK => ?_)
      have hq0 := b0.c0
      have hq1 := b0.c1
      have hr0 := b0.f0
      have hr1 := b0.f1
      go_simp
      clear hq0 hq1 hr0 hr1
      have hP := put2 Wt w.heap.size (.bool gt) (.slice pt nt ct)
      have hN := b0.stored (.bool gt) (.slice pt nt ct)
      generalize (Wt.setCell ⟨w.heap.size, 0, none⟩ (.bool gt)).setCell ⟨w.heap.size, 1, none⟩ (.slice pt nt ct) = VS at hP hN ⊢
      replace ht := ht.put b0 (by decide) hP
      replace h0 := bel_put h0 (by omega) hP
      clear hP bz b0
      have b0 := hN
      clear hN
      refine hK.out _ _ ?_
      clear hK K
      (try simp only [Act.put, List.setIfInBounds_toArray, List.set_cons_zero, List.set_cons_succ, List.getElem_toArray, List.getElem_cons_zero, List.getElem_cons_succ])
      refine then_code (by assumption) ?_
      go_light
      have c0 := b0.c0
      have c1 := b0.c1
      refine wp_ret ?_
      refine bodyPost_ret (v := .agg #[.bool gt, .slice pt nt ct]) (by simp [results, Try.results48, go_sem, c0, c1]) rfl ⟨_, rfl, ?_, h0⟩
      rw [Int.mul_one] at ht
      exact ht
    · have e0 : 16 ≤ κ := by have := hκ.out; omega
      have hlt : (digs ((2 : Int) ^ (16 * (m - i))).natAbs).length + (digs (65536 : Int).natAbs).length ≤ 1999999 := by
        have h1 := dlen_two (m - i)
        have h2 : (digs (65536 : Int).natAbs).length ≤ 1 := digs_len (by decide)
        omega
      go_wp2
      refine wp_region_last (S := fun W' => Bx W' (BZ) 27 (.bool gz) (.slice pz nz cz)) (m := 3) (by kernel_rfl) (by kernel_rfl) (by kernel_rfl) (bz.drew) (fun _ => ?_)
      replace hz := hz.drew
      replace bz := bz.drew
      replace b0 := b0.drew
      replace h0 := Below.drew h0
      generalize wr.drew = wr at hz bz b0 h0 ⊢
      refine wpAnyH_take (i := 0) (v := ?_) rfl (by kernel_rfl) (by kernel_rfl) (by kernel_rfl) (fun _ _ _ h => h) (Or.inl ⟨by kernel_rfl, ?_⟩) (bz) ?_
      rotate_left
      focus (intro W' hSw; have hx0 := hSw; (try dsimp only at hx0); have hc0 := hx0.c0; have hc1 := hx0.c1; clear hx0; go_simp; (try with_reducible rfl))
      (try simp only [Act.put, List.setIfInBounds_toArray, List.set_cons_zero, List.set_cons_succ, List.getElem_toArray, List.getElem_cons_zero, List.getElem_cons_succ])
      refine wpAnyH_ready (rs := [1]) (by kernel_rfl) (by simp) ?_
      refine AllReadyH.cons rfl (fun K hK => ?_) (AllReadyH.nil)
      go_simp
      go_at_call 25; refine (i_any 65536 (by omega) (by omega) _).mono ?_
      rintro e Wi ⟨u, rfl, hi, hb⟩
      obtain ⟨gi, pi, ni, ci, rfl⟩ := hi.shape
      replace hz := hz.go hb
      replace bz := bz.go hb
      replace b0 := b0.go hb
      replace h0 := bel_go h0 h0.size hb
      clear hb
      refine hK.out _ _ (bz) (fun _ => ?_)
      clear hK K
      (try simp only [Act.put, List.setIfInBounds_toArray, List.set_cons_zero, List.set_cons_succ, List.getElem_toArray, List.getElem_cons_zero, List.getElem_cons_succ])
      refine wpAnyH_ready (rs := [2]) (by kernel_rfl) (by simp) ?_
      refine AllReadyH.cons rfl (fun K hK => ?_) (AllReadyH.nil)
      go_simp
      go_at_call 28; refine (ztimes_any _ _ (2 ^ (16 * (m - i)) : Int) 65536 hlt _ hz hi).mono ?_
      rintro e Wt ⟨u, rfl, ht, hb⟩
      obtain ⟨gt, pt, nt, ct, rfl⟩ := ht.shape
      replace bz := bz.go hb
      replace b0 := b0.go hb
      replace h0 := bel_go h0 h0.size hb
      clear hb
      refine hK.out _ _ (bz) (fun _ => ?_)
      clear hK K
      (try simp only [Act.put, List.setIfInBounds_toArray, List.set_cons_zero, List.set_cons_succ, List.getElem_toArray, List.getElem_cons_zero, List.getElem_cons_succ])
      refine wpAnyH_done (by kernel_rfl) ?_ _
      refine still1_step rfl (fun K hK => ?_)
      have hq0 := bz.c0
      have hq1 := bz.c1
      have hr0 := bz.f0
      have hr1 := bz.f1
      go_simp
      clear hq0 hq1 hr0 hr1
      have hP := put2 Wt BZ (.bool gt) (.slice pt nt ct)
      have hN := bz.stored (.bool gt) (.slice pt nt ct)
      generalize (Wt.setCell ⟨BZ, 0, none⟩ (.bool gt)).setCell ⟨BZ, 1, none⟩ (.slice pt nt ct) = VS at hP hN ⊢
      replace ht := ht.put bz (by decide) hP
      replace h0 := bel_put h0 (by have := sz.out; omega) hP
      replace b0 := b0.put hP (by have := sz.out; omega)
      clear hP bz
      have bz := hN
      clear hN
      refine hK.out _ _ ?_
      clear hK K
      (try simp only [Act.put, List.setIfInBounds_toArray, List.set_cons_zero, List.set_cons_succ, List.getElem_toArray, List.getElem_cons_zero, List.getElem_cons_succ])
      go_wp2
      go_roundw
      case rel =>
        refine ⟨κ - 16, i - 1, gt, pt, nt, ct, rfl, by omega, by omega, Lib.hid (by have := hκ.out; omega), by omega, bz, ?_, b0, h0⟩
        have e : (2 : Int) ^ (16 * (m - (i - 1))) = 2 ^ (16 * (m - i)) * 65536 := by
          rw [show 16 * (m - (i - 1)) = 16 * (m - i) + 16 by omega, Int.pow_add]; rfl
        rw [e]
        exact ht
      case measure => simp [intOf] <;> omega

/-- spyref1.U, as a number. -/
theorem zu_any (l : Int) (h1 : 0 ≤ l) (h2 : l < 18446744073709551616) (w : World) :
    Calls Try.prog 102 #[.int .u64 l] w fun e w' => ∃ u, e = .returned u ∧ IsZ w' u l ∧ Below w.heap.size w w' := by
  obtain ⟨x, rfl⟩ := Int.eq_ofNat_of_zero_le h1
  refine (u_any x (by omega) w).mono ?_
  rintro e w' ⟨s, rfl, hs, hb⟩
  exact ⟨_, rfl, ⟨s, by rw [decide_eq_false (show ¬ (x : Int) < 0 by omega)], by rw [Int.natAbs_natCast]; exact hs⟩, hb⟩

set_option maxRecDepth 100000 in
set_option maxHeartbeats 4000000 in
/-- spyref1.WideOf. -/
theorem wideof_any (n : Int) (hn : InW n) (w : World) :
    Calls Try.prog 47 #[wide n] w fun e w' => ∃ u, e = .returned u ∧ IsZ w' u n ∧ Below w.heap.size w w' := by
  obtain ⟨n1, n2⟩ := hn
  obtain ⟨h, hh⟩ : ∃ h, n / 18446744073709551616 = h := ⟨_, rfl⟩
  obtain ⟨l, hl⟩ : ∃ l, n % 18446744073709551616 = l := ⟨_, rfl⟩
  have e0 : n = h * 18446744073709551616 + l := by omega
  have e1 : -9223372036854775808 ≤ h := by omega
  have e2 : h ≤ 9223372036854775807 := by omega
  have e3 : 0 ≤ l := by omega
  have e4 : l < 18446744073709551616 := by omega
  have ew : wide n = .agg #[.int .i64 h, .int .u64 l] := by rw [← hh, ← hl, wide]
  rw [ew]
  have E0 := Lib.hid e0
  have h4 := dlen_two 4
  have lh : (digs h.natAbs).length ≤ 4 := digs_len (by omega)
  have ll : (digs l.natAbs).length ≤ 4 := digs_len (by omega)
  have hl1 : (digs h.natAbs).length + (digs ((2 : Int) ^ (16 * 4)).natAbs).length ≤ 1999999 := by omega
  have hs1 : Sm (h * 2 ^ (16 * 4)) := by
    unfold Sm
    rw [Int.natAbs_mul]
    have := dlen_mul h.natAbs ((2 : Int) ^ (16 * 4)).natAbs
    omega
  have hs2 : Sm l := by unfold Sm; omega
  have b1 := Bx.new w 49 (.int .i64 h) (.int .u64 l)
  have hal : Below w.heap.size w (w.alloc (.cells #[.int .i64 h, .int .u64 l] 49)) := (Below.refl _ _).alloc (Nat.le_refl _) _
  obtain ⟨W, hW, hal2, b2⟩ := bz_new (w.alloc (.cells #[.int .i64 h, .int .u64 l] 49)) (.bool false) (.slice none 0 0)
  replace b1 := b1.go hal2
  have h0 := bel_go hal hal.size hal2
  rw [show (w.alloc (.cells #[.int .i64 h, .int .u64 l] 49)).heap.size = w.heap.size + 1 by simp] at b2
  have HW := Lib.hid hW
  clear hW hal hal2 hh hl e0 ew lh ll h4 n1 n2
  go_enter Try.func47, Try.ntmps47
  go_wp2
  rw [← HW.out]
  clear HW
  refine wp_region_last (S := fun W' => Bx W' (w.heap.size) 49 (.int .i64 h) (.int .u64 l)) (m := 9) (by kernel_rfl) (by kernel_rfl) (by kernel_rfl) (b1.drew) (fun _ => ?_)
  replace b1 := b1.drew
  replace b2 := b2.drew
  replace h0 := Below.drew h0
  generalize W.drew = W at b1 b2 h0 ⊢
  refine wpAnyH_take (i := 0) (v := ?_) rfl (by kernel_rfl) (by kernel_rfl) (by kernel_rfl) (fun _ _ _ h => h) (Or.inl ⟨by kernel_rfl, ?_⟩) (b1) ?_
  rotate_left
  focus (intro W' hSw; have hx0 := hSw; (try dsimp only at hx0); have hc0 := hx0.c0; have hc1 := hx0.c1; clear hx0; go_simp; (try with_reducible rfl))
  (try simp only [Act.put, List.setIfInBounds_toArray, List.set_cons_zero, List.set_cons_succ, List.getElem_toArray, List.getElem_cons_zero, List.getElem_cons_succ])
  refine wpAnyH_take (i := 1) (v := ?_) rfl (by kernel_rfl) (by kernel_rfl) (by kernel_rfl) (fun _ _ _ h => h) (Or.inl ⟨by kernel_rfl, ?_⟩) (b1) ?_
  rotate_left
  focus (intro W' hSw; have hx0 := hSw; (try dsimp only at hx0); have hc0 := hx0.c0; have hc1 := hx0.c1; clear hx0; go_simp; (try with_reducible rfl))
  (try simp only [Act.put, List.setIfInBounds_toArray, List.set_cons_zero, List.set_cons_succ, List.getElem_toArray, List.getElem_cons_zero, List.getElem_cons_succ])
  refine wpAnyH_take (i := 5) (v := ?_) rfl (by kernel_rfl) (by kernel_rfl) (by kernel_rfl) (fun _ _ _ h => h) (Or.inl ⟨by kernel_rfl, ?_⟩) (b1) ?_
  rotate_left
  focus (intro W' hSw; have hx0 := hSw; (try dsimp only at hx0); have hc0 := hx0.c0; have hc1 := hx0.c1; clear hx0; go_simp; (try with_reducible rfl))
  (try simp only [Act.put, List.setIfInBounds_toArray, List.set_cons_zero, List.set_cons_succ, List.getElem_toArray, List.getElem_cons_zero, List.getElem_cons_succ])
  refine wpAnyH_take (i := 6) (v := ?_) rfl (by kernel_rfl) (by kernel_rfl) (by kernel_rfl) (fun _ _ _ h => h) (Or.inl ⟨by kernel_rfl, ?_⟩) (b1) ?_
  rotate_left
  focus (intro W' hSw; have hx0 := hSw; (try dsimp only at hx0); have hc0 := hx0.c0; have hc1 := hx0.c1; clear hx0; go_simp; (try with_reducible rfl))
  (try simp only [Act.put, List.setIfInBounds_toArray, List.set_cons_zero, List.set_cons_succ, List.getElem_toArray, List.getElem_cons_zero, List.getElem_cons_succ])
  refine wpAnyH_ready (rs := [2]) (by kernel_rfl) (by simp) ?_
  refine AllReadyH.cons rfl (fun K hK => ?_) (AllReadyH.nil)
  go_simp
  go_at_call 25; refine (i_any h e1 e2 _).mono ?_
  rintro e Wx ⟨u, rfl, hx, hb⟩
  obtain ⟨gx, px, nx, cx, rfl⟩ := hx.shape
  replace b1 := b1.go hb
  replace b2 := b2.go hb
  replace h0 := bel_go h0 h0.size hb
  clear hb
  refine hK.out _ _ (b1) (fun _ => ?_)
  clear hK K
  (try simp only [Act.put, List.setIfInBounds_toArray, List.set_cons_zero, List.set_cons_succ, List.getElem_toArray, List.getElem_cons_zero, List.getElem_cons_succ])
  refine wpAnyH_ready (rs := [3]) (by kernel_rfl) (by simp) ?_
  refine AllReadyH.cons rfl (fun K hK => ?_) (AllReadyH.nil)
  go_simp
  go_at_call 48; refine (two_any 4 (by omega) _).mono ?_
  rintro e Wy ⟨u, rfl, hy, hb⟩
  obtain ⟨gy, py, ny, cy, rfl⟩ := hy.shape
  replace hx := hx.go hb
  replace b1 := b1.go hb
  replace b2 := b2.go hb
  replace h0 := bel_go h0 h0.size hb
  clear hb
  refine hK.out _ _ (b1) (fun _ => ?_)
  clear hK K
  (try simp only [Act.put, List.setIfInBounds_toArray, List.set_cons_zero, List.set_cons_succ, List.getElem_toArray, List.getElem_cons_zero, List.getElem_cons_succ])
  refine wpAnyH_ready (rs := [4]) (by kernel_rfl) (by simp) ?_
  refine AllReadyH.cons rfl (fun K hK => ?_) (AllReadyH.nil)
  go_simp
  go_at_call 28; refine (ztimes_any _ _ h (2 ^ (16 * 4)) hl1 _ hx hy).mono ?_
  rintro e Wz ⟨u, rfl, hz, hb⟩
  obtain ⟨gz, pz, nz, cz, rfl⟩ := hz.shape
  replace b1 := b1.go hb
  replace b2 := b2.go hb
  replace h0 := bel_go h0 h0.size hb
  clear hb
  refine hK.out _ _ (b1) (fun _ => ?_)
  clear hK K
  (try simp only [Act.put, List.setIfInBounds_toArray, List.set_cons_zero, List.set_cons_succ, List.getElem_toArray, List.getElem_cons_zero, List.getElem_cons_succ])
  refine wpAnyH_ready (rs := [7]) (by kernel_rfl) (by simp) ?_
  refine AllReadyH.cons rfl (fun K hK => ?_) (AllReadyH.nil)
  go_simp
  go_at_call 102; refine (zu_any l e3 e4 _).mono ?_
  rintro e Wv ⟨u, rfl, hv, hb⟩
  obtain ⟨gv, pv, nv, cv, rfl⟩ := hv.shape
  replace hz := hz.go hb
  replace b1 := b1.go hb
  replace b2 := b2.go hb
  replace h0 := bel_go h0 h0.size hb
  clear hb
  refine hK.out _ _ (b1) (fun _ => ?_)
  clear hK K
  (try simp only [Act.put, List.setIfInBounds_toArray, List.set_cons_zero, List.set_cons_succ, List.getElem_toArray, List.getElem_cons_zero, List.getElem_cons_succ])
  refine wpAnyH_ready (rs := [8]) (by kernel_rfl) (by simp) ?_
  refine AllReadyH.cons rfl (fun K hK => ?_) (AllReadyH.nil)
  go_simp
  go_at_call 26; refine (zplus_any _ _ (h * 2 ^ (16 * 4)) l hs1 hs2 _ hz hv).mono ?_
  rintro e Ws ⟨u, rfl, hs, hb⟩
  obtain ⟨gs, ps, ns, cs, rfl⟩ := hs.shape
  replace b1 := b1.go hb
  replace b2 := b2.go hb
  replace h0 := bel_go h0 h0.size hb
  clear hb
  refine hK.out _ _ (b1) (fun _ => ?_)
  clear hK K
  (try simp only [Act.put, List.setIfInBounds_toArray, List.set_cons_zero, List.set_cons_succ, List.getElem_toArray, List.getElem_cons_zero, List.getElem_cons_succ])
  refine wpAnyH_done (by kernel_rfl) ?_ _
  refine still1_step rfl (fun K hK => ?_)
  have hq0 := b2.c0
  have hq1 := b2.c1
  have hr0 := b2.f0
  have hr1 := b2.f1
  go_simp
  clear hq0 hq1 hr0 hr1
  have hP := put2 Ws (w.heap.size + 1) (.bool gs) (.slice ps ns cs)
  have hN := b2.stored (.bool gs) (.slice ps ns cs)
  generalize (Ws.setCell ⟨w.heap.size + 1, 0, none⟩ (.bool gs)).setCell ⟨w.heap.size + 1, 1, none⟩ (.slice ps ns cs) = VS at hP hN ⊢
  replace hs := hs.put b2 (by decide) hP
  replace h0 := bel_put h0 (by omega) hP
  clear hP b1 b2
  have b2 := hN
  clear hN
  refine hK.out _ _ ?_
  clear hK K
  (try simp only [Act.put, List.setIfInBounds_toArray, List.set_cons_zero, List.set_cons_succ, List.getElem_toArray, List.getElem_cons_zero, List.getElem_cons_succ])
  refine then_code (by assumption) ?_
  go_light
  have c0 := b2.c0
  have c1 := b2.c1
  refine wp_ret ?_
  refine bodyPost_ret (v := .agg #[.bool gs, .slice ps ns cs]) (by simp [results, Try.results47, go_sem, c0, c1]) rfl ⟨_, rfl, ?_, h0⟩
  rw [E0.out]
  exact hs
end Go.Proofs.Ytalonppmoimmjaa
