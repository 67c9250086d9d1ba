/-
  The contract of frac.Best: what it returns where nothing that it reckons exceeds 64 bits.
  Conditions: those of each theorem.
-/
import Derived.Test.YtdhodjbomepfbaaF7
import Derived.Test.YtdhodjbomepfbaaF8
set_option linter.unusedVariables false
set_option linter.unusedSimpArgs false
namespace Go.Proofs.Ytdhodjbomepfbaa
open Go.RowKit Go.Shelf Wd

theorem Rl.shape {w : World} {v : Value} {t : Int} {ts : List Int} (h : Rl w v (t :: ts)) : ∃ b off cap, v = .slice (some ⟨b, off, none⟩) (ts.length + 1) cap ∧ ts.length + 1 ≤ cap ∧ cap ≤ maxLen := by
  obtain ⟨p, cap, h1, h2, h3, h4⟩ := h
  rcases h4 with h4 | ⟨b, off, g1, _⟩
  · cases h4
  · exact ⟨b, off, cap, by rw [h1, g1]; rfl, h2, h3⟩
theorem Rl.cell {w : World} {b off m cap : Nat} {ds : List Int} (h : Rl w (.slice (some ⟨b, off, none⟩) m cap) ds) {j : Nat} (hj : j < ds.length) : w.cell? ⟨b, off + j, none⟩ = some (.int .i64 (ds.getD j 0)) := by
  obtain ⟨p, cap', h1, h2, h3, h4⟩ := h
  rcases h4 with h4 | ⟨b', off', g1, g2, g3, g4⟩
  · subst h4; simp at hj
  · rw [g1] at h1
    cases h1
    exact g4 j hj
theorem Rl.first {w : World} {b off m cap : Nat} {t : Int} {ts : List Int} (h : Rl w (.slice (some ⟨b, off, none⟩) m cap) (t :: ts)) : w.cell? ⟨b, off, none⟩ = some (.int .i64 t) := h.cell (j := 0) (by simp)
theorem maxLen_int {c : Nat} (h : c ≤ maxLen) : (c : Int) ≤ 9223372036854775807 := by
  have e : ((maxLen : Nat) : Int) = 9223372036854775807 := by decide +kernel
  rw [← e]
  exact Int.ofNat_le.2 h
theorem next_ix {i l cap : Nat} (h : i < l) (h1 : l + 1 ≤ cap) (h2 : cap ≤ maxLen) : Go.RowKit.wrap64 ((i : Int) + 1) = ((i + 1 : Nat) : Int) := by
  have h3 := maxLen_int h2
  rw [Int.natCast_add]
  exact wrap_id64 (by omega) (by omega)
theorem meas_ix {i l : Nat} (h : i < l) : l - (intOf (.int .i64 ((i + 1 : Nat) : Int))).toNat < l - (intOf (.int .i64 (i : Int))).toNat := by
  simp only [intOf, Int.toNat_natCast]
  omega
/-- Best's loop, as far as nothing exceeds 64 bits: before a/b, last p/q. -/
def bestL (n d most : Int) : List Int → Int → Int → Int → Int → Option (Int × Int)
  | [], _, _, p, q => some (p, q)
  | t :: ts, a, b, p, q =>
    if 1 ≤ q ∧ -9223372036854775808 ≤ most - b ∧ most - b ≤ 9223372036854775807 ∧ fits64 t = true ∧ fits64 (min t ((most - b).tdiv q) * p) = true ∧ fits64 (a + min t ((most - b).tdiv q) * p) = true ∧ fits64 (min t ((most - b).tdiv q) * q) = true ∧ fits64 (b + min t ((most - b).tdiv q) * q) = true then
      if min t ((most - b).tdiv q) < t then
        if gp (a + min t ((most - b).tdiv q) * p) (b + min t ((most - b).tdiv q) * q) n d ≤ 9223372036854775807 ∧ gp p q n d ≤ 9223372036854775807 then
          some (if nearB n d p q (a + min t ((most - b).tdiv q) * p) (b + min t ((most - b).tdiv q) * q) = true then (a + min t ((most - b).tdiv q) * p, b + min t ((most - b).tdiv q) * q) else (p, q))
        else none
      else bestL n d most ts p q (a + min t ((most - b).tdiv q) * p) (b + min t ((most - b).tdiv q) * q)
    else none

set_option maxRecDepth 100000 in
set_option maxHeartbeats 8000000 in
theorem best_ok (n d most : Int) (a1 : -9223372036854775808 ≤ n) (a2 : n ≤ 9223372036854775807) (b1 : -9223372036854775808 ≤ d) (b2 : d ≤ 9223372036854775807) (m1 : 1 ≤ most) (m2 : most ≤ 4096) (t0 : Int) (ts : List Int) (R1 R2 : Int)
    (ht0 : -9223372036854775808 ≤ t0 ∧ t0 ≤ 9223372036854775807) (hc : chkV n d = 0) (ht : cf n d.toNat = t0 :: ts) (hb : bestL n d most ts 1 0 t0 1 = some (R1, R2)) (w : World) :
    Calls Try.prog 102 #[fr n d, .int .i64 most] w fun e w' => e = .returned (.tuple #[fr R1 R2, .int .i64 0]) ∧ Below w.heap.size w w' := by
  have HC : Hid (chkV n d = 0 ∧ tmsV n d = t0 :: ts) := ⟨hc, by unfold tmsV; rw [if_pos hc, ht]⟩
  have HL := Lib.hid hb
  clear hc ht hb
  obtain ⟨W, hW, h0, x0, xr⟩ := fbox2 w (.int .i64 n) (.int .i64 d) (.int .i64 0) (.int .i64 0)
  have HW := Lib.hid hW
  clear hW
  go_enter Try.func102, Try.ntmps102
  go_wp2_with fail
  rw [← HW.out]
  clear HW
  have c_x0 := x0.c0
  have d_x0 := x0.c1
  have p_x0 := x0.f0
  have q_x0 := x0.f1
  go_wp2_with fail
  clear c_x0 d_x0 p_x0 q_x0
  go_at_call 61; (with_reducible refine (terms_any n d a1 a2 b1 b2 _).mono ?_)
  rintro e W1 ⟨v, rfl, hr, hb⟩
  rw [HC.out.1, HC.out.2] at *
  replace x0 := x0.go hb
  replace xr := xr.go hb
  replace h0 := bel_go h0 h0.size hb
  clear hb
  obtain ⟨bk, off, cap, rfl, hcap1, hcap2⟩ := hr.shape
  have hlen := Lib.hid (show (t0 :: ts).length = ts.length + 1 from rfl)
  go_upto_region 6 with fail
  go_cut [8, 9] from 10 (fun s8 s9 wc => ∃ B8 B9 : Nat, s8 = .pointer (some ⟨B8, 0, none⟩) ∧ s9 = .pointer (some ⟨B9, 0, none⟩) ∧ Bx wc B8 76 (.int .i64 1) (.int .i64 0) ∧ Bx wc B9 76 (.int .i64 t0) (.int .i64 1) ∧ B8 ≠ B9 ∧ w.heap.size + 1 < B8 ∧ w.heap.size + 1 < B9 ∧ Bx wc w.heap.size 76 (.int .i64 n) (.int .i64 d) ∧ Bx wc (w.heap.size + 1) 76 (.int .i64 0) (.int .i64 0) ∧ Rl wc (.slice (some ⟨bk, off, none⟩) (ts.length + 1) cap) (t0 :: ts) ∧ Below w.heap.size w wc)
  case first =>
    refine wp_region_last (S := fun W' => Rl W' (.slice (some ⟨bk, off, none⟩) (ts.length + 1) cap) (t0 :: ts)) (m := 8) (by kernel_rfl) (by kernel_rfl) (by kernel_rfl) (hr.drew) (fun _ => ?_)
    replace x0 := x0.drew
    replace xr := xr.drew
    replace hr := hr.drew
    replace h0 := Below.drew h0
    generalize W1.drew = W1 at x0 xr hr h0 ⊢
    refine wpAnyH_take (i := 0) (v := ?_) rfl (by kernel_rfl) (by kernel_rfl) (by kernel_rfl) (fun _ _ _ h => h) (Or.inl ⟨by kernel_rfl, ?_⟩) (hr) ?_
    rotate_left
    focus (intro W' hSw; have hx0 := hSw; (try dsimp only at hx0); have hc0 := hx0.first; clear hx0; go_simp; (try with_reducible rfl))
    (try simp only [Act.put, List.setIfInBounds_toArray, List.set_cons_zero, List.set_cons_succ, List.getElem_toArray, List.getElem_cons_zero, List.getElem_cons_succ])
    refine wpAnyH_take (i := 1) (v := ?_) rfl (by kernel_rfl) (by kernel_rfl) (by kernel_rfl) (fun _ _ _ h => h) (Or.inl ⟨by kernel_rfl, ?_⟩) (hr) ?_
    rotate_left
    focus (intro W' hSw; have hx0 := hSw; (try dsimp only at hx0); have hc0 := hx0.first; clear hx0; go_simp; (try with_reducible rfl))
    (try simp only [Act.put, List.setIfInBounds_toArray, List.set_cons_zero, List.set_cons_succ, List.getElem_toArray, List.getElem_cons_zero, List.getElem_cons_succ])
    refine wpAnyH_take (i := 2) (v := ?_) rfl (by kernel_rfl) (by kernel_rfl) (by kernel_rfl) (fun _ _ _ h => h) (Or.inl ⟨by kernel_rfl, ?_⟩) (hr) ?_
    rotate_left
    focus (intro W' hSw; have hx0 := hSw; (try dsimp only at hx0); have hc0 := hx0.first; clear hx0; go_simp; (try with_reducible rfl))
    (try simp only [Act.put, List.setIfInBounds_toArray, List.set_cons_zero, List.set_cons_succ, List.getElem_toArray, List.getElem_cons_zero, List.getElem_cons_succ])
    refine wpAnyH_take (i := 3) (v := ?_) rfl (by kernel_rfl) (by kernel_rfl) (by kernel_rfl) (fun _ _ _ h => h) (Or.inl ⟨by kernel_rfl, ?_⟩) (hr) ?_
    rotate_left
    focus (intro W' hSw; have hx0 := hSw; (try dsimp only at hx0); have hc0 := hx0.first; clear hx0; go_simp; (try with_reducible rfl))
    (try simp only [Act.put, List.setIfInBounds_toArray, List.set_cons_zero, List.set_cons_succ, List.getElem_toArray, List.getElem_cons_zero, List.getElem_cons_succ])
    refine wpAnyH_take (i := 4) (v := ?_) rfl (by kernel_rfl) (by kernel_rfl) (by kernel_rfl) (fun _ _ _ h => h) (Or.inl ⟨by kernel_rfl, ?_⟩) (hr) ?_
    rotate_left
    focus (intro W' hSw; have hx0 := hSw; (try dsimp only at hx0); have hc0 := hx0.first; clear hx0; go_simp; (try with_reducible rfl))
    (try simp only [Act.put, List.setIfInBounds_toArray, List.set_cons_zero, List.set_cons_succ, List.getElem_toArray, List.getElem_cons_zero, List.getElem_cons_succ])
    refine wpAnyH_ready (rs := [5, 6]) (by kernel_rfl) (by simp) ?_
    refine AllReadyH.cons rfl (fun K hK => ?_) (AllReadyH.cons rfl (fun K hK => ?_) (AllReadyH.nil))
    · go_simp
      have hal : Below W1.heap.size W1 (W1.alloc (.cells #[.int .i64 (0), .int .i64 (0)] 76)) := (Below.refl _ _).alloc (Nat.le_refl _) _
      have xb := Bx.new W1 76 (.int .i64 (0)) (.int .i64 (0))
      have sl_xb := Lib.hid (show w.heap.size ≤ W1.heap.size from h0.size)
      have l_xb_x0 := Lib.hid x0.lt
      have l_xb_xr := Lib.hid xr.lt
      replace x0 := x0.go hal
      replace xr := xr.go hal
      replace hr := hr.go hal
      replace h0 := bel_go h0 h0.size hal
      clear hal
      generalize W1.heap.size = Bxb at xb sl_xb l_xb_x0 l_xb_xr ⊢
      generalize W1.alloc (.cells #[.int .i64 (0), .int .i64 (0)] 76) = Vxb at x0 xr hr xb h0 ⊢
      refine hK.out _ _ (hr) (fun _ => ?_)
      clear hK K
      (try simp only [Act.put, List.setIfInBounds_toArray, List.set_cons_zero, List.set_cons_succ, List.getElem_toArray, List.getElem_cons_zero, List.getElem_cons_succ])
      refine wpAnyH_ready (rs := [6]) (by kernel_rfl) (by simp) ?_
      refine AllReadyH.cons rfl (fun K hK => ?_) (AllReadyH.nil)
      go_simp
      have hal : Below Vxb.heap.size Vxb (Vxb.alloc (.cells #[.int .i64 (0), .int .i64 (0)] 76)) := (Below.refl _ _).alloc (Nat.le_refl _) _
      have xl := Bx.new Vxb 76 (.int .i64 (0)) (.int .i64 (0))
      have sl_xl := Lib.hid (show w.heap.size ≤ Vxb.heap.size from h0.size)
      have l_xl_x0 := Lib.hid x0.lt
      have l_xl_xr := Lib.hid xr.lt
      have l_xl_xb := Lib.hid xb.lt
      replace x0 := x0.go hal
      replace xr := xr.go hal
      replace xb := xb.go hal
      replace hr := hr.go hal
      replace h0 := bel_go h0 h0.size hal
      clear hal
      generalize Vxb.heap.size = Bxl at xl sl_xl l_xl_x0 l_xl_xr l_xl_xb ⊢
      generalize Vxb.alloc (.cells #[.int .i64 (0), .int .i64 (0)] 76) = Vxl at x0 xr xb hr xl h0 ⊢
      refine hK.out _ _ (hr) (fun _ => ?_)
      clear hK K
      (try simp only [Act.put, List.setIfInBounds_toArray, List.set_cons_zero, List.set_cons_succ, List.getElem_toArray, List.getElem_cons_zero, List.getElem_cons_succ])
      refine wpAnyH_ready (rs := [7]) (by kernel_rfl) (by simp) ?_
      refine AllReadyH.cons rfl (fun K hK => ?_) (AllReadyH.nil)
      have hq0 := xb.c0
      have hq1 := xb.c1
      have hr0 := xb.f0
      have hr1 := xb.f1
      go_simp
      clear hq0 hq1 hr0 hr1
      have hP := put2 Vxl (Bxb) (.int .i64 (1)) (.int .i64 (0))
      have hN := xb.stored (.int .i64 (1)) (.int .i64 (0))
      generalize (Vxl.setCell ⟨Bxb, 0, none⟩ (.int .i64 (1))).setCell ⟨Bxb, 1, none⟩ (.int .i64 (0)) = V7 at hP hN ⊢
      replace h0 := bel_put h0 (by have := sl_xb.out; omega) hP
      replace x0 := x0.put hP (by have := l_xb_x0.out; omega)
      replace xr := xr.put hP (by have := l_xb_xr.out; omega)
      replace xl := xl.put hP (by have := l_xl_xb.out; omega)
      replace hr := hr.put xb (by decide) hP
      clear hP xb
      have xb := hN
      clear hN
      refine hK.out _ _ (hr) (fun _ => ?_)
      clear hK K
      (try simp only [Act.put, List.setIfInBounds_toArray, List.set_cons_zero, List.set_cons_succ, List.getElem_toArray, List.getElem_cons_zero, List.getElem_cons_succ])
      refine wpAnyH_done (by kernel_rfl) ?_ _
      refine still1_step rfl (fun K hK => ?_)
      have hq0 := xl.c0
      have hq1 := xl.c1
      have hr0 := xl.f0
      have hr1 := xl.f1
      go_simp
      clear hq0 hq1 hr0 hr1
      have hP := put2 V7 (Bxl) (.int .i64 (t0)) (.int .i64 (1))
      have hN := xl.stored (.int .i64 (t0)) (.int .i64 (1))
      generalize (V7.setCell ⟨Bxl, 0, none⟩ (.int .i64 (t0))).setCell ⟨Bxl, 1, none⟩ (.int .i64 (1)) = V8 at hP hN ⊢
      replace h0 := bel_put h0 (by have := sl_xl.out; omega) hP
      replace x0 := x0.put hP (by have := l_xl_x0.out; omega)
      replace xr := xr.put hP (by have := l_xl_xr.out; omega)
      replace xb := xb.put hP (by have := l_xl_xb.out; omega)
      replace hr := hr.put xl (by decide) hP
      clear hP xl
      have xl := hN
      clear hN
      refine hK.out _ _ ?_
      clear hK K
      (try simp only [Act.put, List.setIfInBounds_toArray, List.set_cons_zero, List.set_cons_succ, List.getElem_toArray, List.getElem_cons_zero, List.getElem_cons_succ])
      go_wp2_with fail
      go_meet
      case rel => exact ⟨_, _, rfl, rfl, xb, xl, (by have := l_xl_xb.out; omega), (by have := sl_xb.out; have := l_xb_xr.out; omega), (by have := sl_xl.out; have := l_xl_xr.out; omega), x0, xr, hr, h0⟩
    · go_simp
      have hal : Below W1.heap.size W1 (W1.alloc (.cells #[.int .i64 (0), .int .i64 (0)] 76)) := (Below.refl _ _).alloc (Nat.le_refl _) _
      have xl := Bx.new W1 76 (.int .i64 (0)) (.int .i64 (0))
      have sl_xl := Lib.hid (show w.heap.size ≤ W1.heap.size from h0.size)
      have l_xl_x0 := Lib.hid x0.lt
      have l_xl_xr := Lib.hid xr.lt
      replace x0 := x0.go hal
      replace xr := xr.go hal
      replace hr := hr.go hal
      replace h0 := bel_go h0 h0.size hal
      clear hal
      generalize W1.heap.size = Bxl at xl sl_xl l_xl_x0 l_xl_xr ⊢
      generalize W1.alloc (.cells #[.int .i64 (0), .int .i64 (0)] 76) = Vxl at x0 xr hr xl h0 ⊢
      refine hK.out _ _ (hr) (fun _ => ?_)
      clear hK K
      (try simp only [Act.put, List.setIfInBounds_toArray, List.set_cons_zero, List.set_cons_succ, List.getElem_toArray, List.getElem_cons_zero, List.getElem_cons_succ])
      refine wpAnyH_ready (rs := [5]) (by kernel_rfl) (by simp) ?_
      refine AllReadyH.cons rfl (fun K hK => ?_) (AllReadyH.nil)
      go_simp
      have hal : Below Vxl.heap.size Vxl (Vxl.alloc (.cells #[.int .i64 (0), .int .i64 (0)] 76)) := (Below.refl _ _).alloc (Nat.le_refl _) _
      have xb := Bx.new Vxl 76 (.int .i64 (0)) (.int .i64 (0))
      have sl_xb := Lib.hid (show w.heap.size ≤ Vxl.heap.size from h0.size)
      have l_xb_x0 := Lib.hid x0.lt
      have l_xb_xr := Lib.hid xr.lt
      have l_xb_xl := Lib.hid xl.lt
      replace x0 := x0.go hal
      replace xr := xr.go hal
      replace xl := xl.go hal
      replace hr := hr.go hal
      replace h0 := bel_go h0 h0.size hal
      clear hal
      generalize Vxl.heap.size = Bxb at xb sl_xb l_xb_x0 l_xb_xr l_xb_xl ⊢
      generalize Vxl.alloc (.cells #[.int .i64 (0), .int .i64 (0)] 76) = Vxb at x0 xr xl hr xb h0 ⊢
      refine hK.out _ _ (hr) (fun _ => ?_)
      clear hK K
      (try simp only [Act.put, List.setIfInBounds_toArray, List.set_cons_zero, List.set_cons_succ, List.getElem_toArray, List.getElem_cons_zero, List.getElem_cons_succ])
      refine wpAnyH_ready (rs := [7]) (by kernel_rfl) (by simp) ?_
      refine AllReadyH.cons rfl (fun K hK => ?_) (AllReadyH.nil)
      have hq0 := xb.c0
      have hq1 := xb.c1
      have hr0 := xb.f0
      have hr1 := xb.f1
      go_simp
      clear hq0 hq1 hr0 hr1
      have hP := put2 Vxb (Bxb) (.int .i64 (1)) (.int .i64 (0))
      have hN := xb.stored (.int .i64 (1)) (.int .i64 (0))
      generalize (Vxb.setCell ⟨Bxb, 0, none⟩ (.int .i64 (1))).setCell ⟨Bxb, 1, none⟩ (.int .i64 (0)) = V7 at hP hN ⊢
      replace h0 := bel_put h0 (by have := sl_xb.out; omega) hP
      replace x0 := x0.put hP (by have := l_xb_x0.out; omega)
      replace xr := xr.put hP (by have := l_xb_xr.out; omega)
      replace xl := xl.put hP (by have := l_xb_xl.out; omega)
      replace hr := hr.put xb (by decide) hP
      clear hP xb
      have xb := hN
      clear hN
      refine hK.out _ _ (hr) (fun _ => ?_)
      clear hK K
      (try simp only [Act.put, List.setIfInBounds_toArray, List.set_cons_zero, List.set_cons_succ, List.getElem_toArray, List.getElem_cons_zero, List.getElem_cons_succ])
      refine wpAnyH_done (by kernel_rfl) ?_ _
      refine still1_step rfl (fun K hK => ?_)
      have hq0 := xl.c0
      have hq1 := xl.c1
      have hr0 := xl.f0
      have hr1 := xl.f1
      go_simp
      clear hq0 hq1 hr0 hr1
      have hP := put2 V7 (Bxl) (.int .i64 (t0)) (.int .i64 (1))
      have hN := xl.stored (.int .i64 (t0)) (.int .i64 (1))
      generalize (V7.setCell ⟨Bxl, 0, none⟩ (.int .i64 (t0))).setCell ⟨Bxl, 1, none⟩ (.int .i64 (1)) = V8 at hP hN ⊢
      replace h0 := bel_put h0 (by have := sl_xl.out; omega) hP
      replace x0 := x0.put hP (by have := l_xl_x0.out; omega)
      replace xr := xr.put hP (by have := l_xl_xr.out; omega)
      replace xb := xb.put hP (by have := l_xb_xl.out; omega)
      replace hr := hr.put xl (by decide) hP
      clear hP xl
      have xl := hN
      clear hN
      refine hK.out _ _ ?_
      clear hK K
      (try simp only [Act.put, List.setIfInBounds_toArray, List.set_cons_zero, List.set_cons_succ, List.getElem_toArray, List.getElem_cons_zero, List.getElem_cons_succ])
      go_wp2_with fail
      go_meet
      case rel => exact ⟨_, _, rfl, rfl, xb, xl, (by have := l_xb_xl.out; omega), (by have := sl_xb.out; have := l_xb_xr.out; omega), (by have := sl_xl.out; have := l_xl_xr.out; omega), x0, xr, hr, h0⟩
  case rest =>
    clear x0 xr hr h0
    obtain ⟨B8, B9, rfl, rfl, x8, x9, h89, hB8, hB9, x0, xr, hr, h0⟩ := hcut
    go_upto_region 7 with fail
    generalize hWC : wc = WC at x8 x9 x0 xr hr h0 ⊢
    clear hWC
    go_cut [36, 37, 38] from 39 (fun s36 s37 s38 wx => ∃ o2 c2 : Nat, s36 = .slice (some ⟨bk, o2, none⟩) ts.length c2 ∧ s37 = .int .i64 (ts.length : Int) ∧ s38 = .int .i64 ((0 : Nat) : Int) ∧ (ts.length = 0 ∨ o2 = off + 1) ∧ ts.length ≤ c2 ∧ wx = WC)
    case first =>
      rcases (show cap = 1 ∨ 1 < cap by omega) with rfl | hcc
      · have hz : ts.length = 0 := by omega
        go_wp2_with fail
        go_meet
        case rel => exact ⟨_, _, (by first | rfl | rw [hz]), (by first | rfl | (rw [hz]; rfl)), rfl, .inl hz, by omega, rfl⟩
      · have hce : ¬ cap = 1 := by omega
        go_wp2_with fail
        go_meet
        case rel => exact ⟨_, _, rfl, rfl, rfl, by omega, by omega, rfl⟩
    case rest =>
      obtain ⟨o2, c2, rfl, rfl, rfl, ho2, hc2, rfl⟩ := hcut
      go_wp2_with fail
      go_loopw [38] (fun s38 wr => ∃ (i : Nat) (a b p q : Int), s38 = .int .i64 (i : Int) ∧ i ≤ ts.length ∧ Bx wr B8 76 (.int .i64 a) (.int .i64 b) ∧ Bx wr B9 76 (.int .i64 p) (.int .i64 q) ∧ ((-9223372036854775808 ≤ a ∧ a ≤ 9223372036854775807) ∧ (-9223372036854775808 ≤ b ∧ b ≤ 9223372036854775807) ∧ (-9223372036854775808 ≤ p ∧ p ≤ 9223372036854775807) ∧ (-9223372036854775808 ≤ q ∧ q ≤ 9223372036854775807)) ∧ Hid (bestL n d most (ts.drop i) a b p q = some (R1, R2)) ∧ Bx wr w.heap.size 76 (.int .i64 n) (.int .i64 d) ∧ Bx wr (w.heap.size + 1) 76 (.int .i64 0) (.int .i64 0) ∧ Rl wr (.slice (some ⟨bk, off, none⟩) (ts.length + 1) cap) (t0 :: ts) ∧ Below w.heap.size w wr) (fun s38 _ => ts.length - (intOf s38).toNat)
      case atStart => exact ⟨0, 1, 0, t0, 1, rfl, by omega, x8, x9, ⟨by omega, by omega, ht0, by omega⟩, by rw [List.drop_zero]; exact HL, x0, xr, hr, h0⟩
      case round =>
        clear x8 x9 x0 xr hr h0 HL
        obtain ⟨i, a, b, p, q, rfl, hi, x8, x9, ⟨ga, gb, gpp, gq⟩, HL, x0, xr, hr, h0⟩ := hrel
        by_cases hil : i < ts.length
        · as_aux_lemma =>
          have e36 : o2 = off + 1 := by omega
          subst e36
          obtain ⟨t, ht⟩ : ∃ t, ts[i] = t := ⟨_, rfl⟩
          have hcl : wr.cell? ⟨bk, off + 1 + i, none⟩ = some (.int .i64 t) := by
            have := hr.cell (j := i + 1) (by simp; omega)
            rw [show off + 1 + i = off + (i + 1) by omega, this]
            simp [hil, ht]
          have hdr : ts.drop i = t :: ts.drop (i + 1) := by rw [← ht]; exact List.drop_eq_getElem_cons hil
          have hl := HL.out
          rw [hdr] at hl
          unfold bestL at hl
          obtain ⟨k, hk⟩ : ∃ k, min t ((most - b).tdiv q) = k := ⟨_, rfl⟩
          rw [hk] at hl
          by_cases hcnd : 1 ≤ q ∧ -9223372036854775808 ≤ most - b ∧ most - b ≤ 9223372036854775807 ∧ fits64 t = true ∧ fits64 (k * p) = true ∧ fits64 (a + k * p) = true ∧ fits64 (k * q) = true ∧ fits64 (b + k * q) = true
          rotate_left
          · rw [if_neg hcnd] at hl; cases hl
          rw [if_pos hcnd] at hl
          obtain ⟨hq1, hmb1, hmb2, ft, fkp, fP, fkq, fQ⟩ := hcnd
          replace ft := fits_iff.1 ft
          replace fkp := fits_iff.1 fkp
          replace fP := fits_iff.1 fP
          replace fkq := fits_iff.1 fkq
          replace fQ := fits_iff.1 fQ
          have hq0 : ¬ q = 0 := by omega
          have c8 := x8.c0
          have d8 := x8.c1
          have c9 := x9.c0
          have d9 := x9.c1
          have hlt : decide ((i : Int) < (ts.length : Int)) = true := decide_eq_true (by omega)
          have HLL := Lib.hid hl
          clear hl hdr ht HL
          go_upto_region 12 with fail
          obtain ⟨P, hP_⟩ : ∃ P, a + k * p = P := ⟨_, rfl⟩
          obtain ⟨Q, hQ_⟩ : ∃ Q, b + k * q = Q := ⟨_, rfl⟩
          rw [hP_, hQ_] at HLL
          rw [hP_, hQ_]
          rw [hP_] at fP
          rw [hQ_] at fQ
          clear c8 d8 c9 d9 hlt hcl hP_ hQ_ fkp fkq hq0 hk
          have hal : Below wr.heap.size wr (wr.alloc (.cells #[.int .i64 P, .int .i64 Q] 76)) := (Below.refl _ _).alloc (Nat.le_refl _) _
          have xn := Bx.new wr 76 (.int .i64 P) (.int .i64 Q)
          have n8 := x8.lt
          have n9 := x9.lt
          have nr := xr.lt
          replace x8 := x8.go hal
          replace x9 := x9.go hal
          replace x0 := x0.go hal
          replace xr := xr.go hal
          replace hr := hr.go hal
          replace h0 := bel_go h0 h0.size hal
          clear hal
          generalize wr.heap.size = BN at xn n8 n9 nr ⊢
          generalize wr.alloc (.cells #[.int .i64 P, .int .i64 Q] 76) = V1 at x8 x9 x0 xr xn hr h0 ⊢
          by_cases hkt : k < t
          · have hl := HLL.out
            rw [if_pos hkt] at hl
            by_cases hgp : gp P Q n d ≤ 9223372036854775807 ∧ gp p q n d ≤ 9223372036854775807
            rotate_left
            · rw [if_neg hgp] at hl; cases hl
            rw [if_pos hgp] at hl
            have hres : (if nearB n d p q P Q = true then fr P Q else fr p q) = fr R1 R2 := by
              by_cases hb : nearB n d p q P Q = true
              · rw [if_pos hb] at hl ⊢; cases hl; rfl
              · rw [if_neg hb] at hl ⊢; cases hl; rfl
            have HR := Lib.hid hres
            clear hl hres HLL
            have c0 := x0.c0
            have d0 := x0.c1
            have c9 := x9.c0
            have d9 := x9.c1
            have cn := xn.c0
            have dn := xn.c1
            go_wp2_with fail
            clear c0 d0 c9 d9 cn dn
            go_at_call 133; (with_reducible refine (nearer_any n d p q P Q a1 a2 b1 b2 gpp.1 gpp.2 gq.1 gq.2 fP.1 fP.2 fQ.1 fQ.2 hgp.1 hgp.2 _).mono ?_)
            rw [HR.out]
            rintro e V2 ⟨rfl, hb⟩
            replace xr := xr.go hb
            replace h0 := bel_go h0 h0.size hb
            clear hb
            have c_xr := xr.c0
            have d_xr := xr.c1
            have p_xr := xr.f0
            have q_xr := xr.f1
            go_wp2_with fail
            clear c_xr d_xr p_xr q_xr
            have hP := put2 V2 (w.heap.size + 1) (.int .i64 (R1)) (.int .i64 (R2))
            have hN := xr.stored (.int .i64 (R1)) (.int .i64 (R2))
            generalize (V2.setCell _ _).setCell _ _ = V3 at hP hN ⊢
            replace h0 := bel_put h0 (by omega) hP
            clear hP xr
            have xr := hN
            clear hN
            have e0 := xr.c0
            have e1 := xr.c1
            exact bodyPost_ret (v := .tuple #[fr (R1) (R2), .int .i64 (0)]) (by simp [results, Try.results102, go_sem, e0, e1]) rfl ⟨rfl, h0⟩
          · have hl := HLL.out
            rw [if_neg hkt] at hl
            have HLN := Lib.hid hl
            have hktb : decide (k < t) = false := decide_eq_false hkt
            clear hl HLL
            go_upto_region 14 with fail
            refine wp_region_last (S := fun W' => Bx W' (B9) 76 (.int .i64 p) (.int .i64 q) ∧ Bx W' (BN) 76 (.int .i64 P) (.int .i64 Q)) (m := 3) (by kernel_rfl) (by kernel_rfl) (by kernel_rfl) (⟨x9.drew, xn.drew⟩) (fun _ => ?_)
            replace x9 := x9.drew
            replace xn := xn.drew
            replace x8 := x8.drew
            replace x0 := x0.drew
            replace xr := xr.drew
            replace hr := hr.drew
            replace h0 := Below.drew h0
            generalize V1.drew = V1 at x9 xn x8 x0 xr hr h0 ⊢
            refine wpAnyH_take (i := 0) (v := ?_) rfl (by kernel_rfl) (by kernel_rfl) (by kernel_rfl) (fun _ _ _ h => h) (Or.inl ⟨by kernel_rfl, ?_⟩) (⟨x9, xn⟩) ?_
            rotate_left
            focus (intro W' hSw; obtain ⟨hx0, hx1⟩ := hSw; have hc0 := hx0.c0; have hc1 := hx0.c1; have hc2 := hx1.c0; have hc3 := hx1.c1; clear hx0 hx1; go_simp; (try with_reducible rfl))
            (try simp only [Act.put, List.setIfInBounds_toArray, List.set_cons_zero, List.set_cons_succ, List.getElem_toArray, List.getElem_cons_zero, List.getElem_cons_succ])
            refine wpAnyH_take (i := 1) (v := ?_) rfl (by kernel_rfl) (by kernel_rfl) (by kernel_rfl) (fun _ _ _ h => h) (Or.inl ⟨by kernel_rfl, ?_⟩) (⟨x9, xn⟩) ?_
            rotate_left
            focus (intro W' hSw; obtain ⟨hx0, hx1⟩ := hSw; have hc0 := hx0.c0; have hc1 := hx0.c1; have hc2 := hx1.c0; have hc3 := hx1.c1; clear hx0 hx1; go_simp; (try with_reducible rfl))
            (try simp only [Act.put, List.setIfInBounds_toArray, List.set_cons_zero, List.set_cons_succ, List.getElem_toArray, List.getElem_cons_zero, List.getElem_cons_succ])
            refine wpAnyH_ready (rs := [2]) (by kernel_rfl) (by simp) ?_
            refine AllReadyH.cons rfl (fun K hK => ?_) (AllReadyH.nil)
            have hq0 := x8.c0
            have hq1 := x8.c1
            have hr0 := x8.f0
            have hr1 := x8.f1
            go_simp
            clear hq0 hq1 hr0 hr1
            have hP := put2 V1 (B8) (.int .i64 (p)) (.int .i64 (q))
            have hN := x8.stored (.int .i64 (p)) (.int .i64 (q))
            generalize (V1.setCell ⟨B8, 0, none⟩ (.int .i64 (p))).setCell ⟨B8, 1, none⟩ (.int .i64 (q)) = V2 at hP hN ⊢
            replace h0 := bel_put h0 (by omega) hP
            replace x9 := x9.put hP (by omega)
            replace xn := xn.put hP (by omega)
            replace x0 := x0.put hP (by omega)
            replace xr := xr.put hP (by omega)
            replace hr := hr.put x8 (by decide) hP
            clear hP x8
            have x8 := hN
            clear hN
            refine hK.out _ _ (⟨x9, xn⟩) (fun _ => ?_)
            clear hK K
            (try simp only [Act.put, List.setIfInBounds_toArray, List.set_cons_zero, List.set_cons_succ, List.getElem_toArray, List.getElem_cons_zero, List.getElem_cons_succ])
            refine wpAnyH_done (by kernel_rfl) ?_ _
            refine still1_step rfl (fun K hK => ?_)
            have hq0 := x9.c0
            have hq1 := x9.c1
            have hr0 := x9.f0
            have hr1 := x9.f1
            go_simp
            clear hq0 hq1 hr0 hr1
            have hP := put2 V2 (B9) (.int .i64 (P)) (.int .i64 (Q))
            have hN := x9.stored (.int .i64 (P)) (.int .i64 (Q))
            generalize (V2.setCell ⟨B9, 0, none⟩ (.int .i64 (P))).setCell ⟨B9, 1, none⟩ (.int .i64 (Q)) = V3 at hP hN ⊢
            replace h0 := bel_put h0 (by omega) hP
            replace xn := xn.put hP (by omega)
            replace x8 := x8.put hP (by omega)
            replace x0 := x0.put hP (by omega)
            replace xr := xr.put hP (by omega)
            replace hr := hr.put x9 (by decide) hP
            clear hP x9
            have x9 := hN
            clear hN
            refine hK.out _ _ ?_
            clear hK K
            (try simp only [Act.put, List.setIfInBounds_toArray, List.set_cons_zero, List.set_cons_succ, List.getElem_toArray, List.getElem_cons_zero, List.getElem_cons_succ])
            have hw1 := next_ix hil hcap1 hcap2
            go_wp2_with fail
            go_roundw
            case rel => exact ⟨i + 1, p, q, P, Q, by rw [hw1], Nat.succ_le_of_lt hil, x8, x9, ⟨gpp, gq, fP, fQ⟩, HLN, x0, xr, hr, h0⟩
            case measure => rw [hw1]; exact meas_ix hil
        · have hie : i = ts.length := by omega
          have hl := HL.out
          rw [hie, List.drop_length] at hl
          unfold bestL at hl
          cases hl
          have hlt : decide ((i : Int) < (ts.length : Int)) = false := decide_eq_false (by omega)
          clear hie
          have c_x9 := x9.c0
          have d_x9 := x9.c1
          have p_x9 := x9.f0
          have q_x9 := x9.f1
          have c_xr := xr.c0
          have d_xr := xr.c1
          have p_xr := xr.f0
          have q_xr := xr.f1
          go_wp2_with fail
          clear c_x9 d_x9 p_x9 q_x9 c_xr d_xr p_xr q_xr
          have hP := put2 wr (w.heap.size + 1) (.int .i64 (R1)) (.int .i64 (R2))
          have hN := xr.stored (.int .i64 (R1)) (.int .i64 (R2))
          generalize (wr.setCell _ _).setCell _ _ = V3 at hP hN ⊢
          replace h0 := bel_put h0 (by omega) hP
          clear hP xr
          have xr := hN
          clear hN
          have e0 := xr.c0
          have e1 := xr.c1
          exact bodyPost_ret (v := .tuple #[fr (R1) (R2), .int .i64 (0)]) (by simp [results, Try.results102, go_sem, e0, e1]) rfl ⟨rfl, h0⟩
end Go.Proofs.Ytdhodjbomepfbaa

