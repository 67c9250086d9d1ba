/-
  The contract of the reference's Root.
  Conditions: those of each theorem.
-/
import Derived.Test.YtagbpehfieejcaaZG
import Derived.Test.YtagbpehfieejcaaNumG
set_option linter.unusedSimpArgs false
set_option linter.unusedVariables false
namespace Go.Proofs.Ytagbpehfieejcaa
open Go.RowKit Go.Shelf Zd Wd

/-- trim of digits that stand for X. -/
theorem trim_r (p : Option Addr) (n cap : Nat) (ds : List Int) (X : Int) (hok : Ok ds) (hX : val ds = X) (hl : ds.length ≤ 2000000) (w : World) (hv : Rd w (.slice p n cap) ds) :
    Calls Try.prog 60 #[.bool false, .slice p n cap] w fun e w' => ∃ m, e = .returned (.agg #[.bool false, .slice p m cap]) ∧ IsZ w' (.agg #[.bool false, .slice p m cap]) X ∧ Below w.heap.size w w' := by
  refine (trim_at false p n cap ds hl w hv).mono ?_
  rintro e w' ⟨rfl, h1, h2⟩
  have h0 := val_nonneg hok
  refine ⟨_, by rw [Bool.false_and], ⟨_, by rw [decide_eq_false (show ¬ X < 0 by omega)], ?_⟩, h2⟩
  rw [cut_digs hok, hX] at h1 ⊢
  rwa [show X.natAbs = X.toNat by omega]
theorem set_zero {ds : List Int} {j : Nat} (h : ds.getD j 0 = 0) : ds.set j 0 = ds := by
  induction ds generalizing j with
  | nil => rfl
  | cons d t ih =>
    cases j with
    | zero => simp at h; rw [h]; rfl
    | succ j => rw [List.set_cons_succ, ih (by simpa using h)]
theorem own_one {w : World} {base g n c : Nat} {xs : List Value} (h : w.ownsRow base 3 1 (.slice (some ⟨g, 0, none⟩) n c) n xs) : g < w.heap.size := own_lt h

set_option maxRecDepth 100000 in
set_option maxHeartbeats 8000000 in
/-- (Z).Root, rounded down. -/
theorem zroot_any (v : Value) (a : Int) (ha : 0 ≤ a) (hla : (digs a.natAbs).length ≤ 100000) (w : World) (hA : IsZ w v a) :
    Calls Try.prog 90 #[v] w fun e w' => ∃ u, e = .returned u ∧ IsZ w' u (isq a.toNat : Int) ∧ Below w.heap.size w w' := by
  obtain ⟨i0, hi, hz0, hz1, hz2⟩ := info_parts (show (Try.prog.info? 3).map (fun i => (i.zero, i.size, i.bytes)) = some (some (.int .i64 0), 1, 8) by kernel_rfl)
  obtain ⟨g, p, n, c, rfl⟩ := hA.shape
  obtain ⟨S, hS⟩ : ∃ S, (isq a.toNat : Int) = S := ⟨_, rfl⟩
  rw [hS]
  have HS := Lib.hid hS
  have LA := Lib.hid hA.rd.len
  have hn : n ≤ 100000 := by have := LA.out; omega
  have hsA : Sm a := by unfold Sm; omega
  obtain ⟨r, hr⟩ : ∃ r, r = (n + 1) / 2 := ⟨_, rfl⟩
  have r1 : n ≤ 2 * r := by omega
  have r2 : 2 * r ≤ n + 1 := by omega
  obtain ⟨W, hW, h0, b1, b2⟩ : ∃ W, W = (w.alloc (.cells #[.bool g, .slice p n c] 28)).alloc (.cells #[.bool false, .slice none 0 0] 28) ∧ Below w.heap.size w W ∧ Bx W w.heap.size 28 (.bool g) (.slice p n c) ∧ Bx W (w.heap.size + 1) 28 (.bool false) (.slice none 0 0) := by
    have e1 : (w.alloc (.cells #[.bool g, .slice p n c] 28)).heap.size = w.heap.size + 1 := by simp
    have h1 := Bx.new w 28 (.bool g) (.slice p n c)
    have h2 := Bx.new (w.alloc (.cells #[.bool g, .slice p n c] 28)) 28 (.bool false) (.slice none 0 0)
    rw [e1] at h2
    exact ⟨_, rfl, by go_grown, h1.alloc _, h2⟩
  have HW := Lib.hid hW
  have hWs := Lib.hid (show W.heap.size = w.heap.size + 1 + 1 by rw [hW]; simp)
  clear hW hr hS
  go_enter Try.func90, Try.ntmps90
  go_wp2_with (first
    | (at_make; refine wpList_make_full _ rfl _ _ 26 rfl w.heap.size 3 i0 (.int .i64 0) 1 Try.underlying26 hi hz0 hz1 .i64 .i64 _ _ r rfl rfl (by omega) (by omega) (by rw [hz2]; omega) (by unfold maxLen; omega) (by simp; omega) ?_; intro w1 hown hgrow
       rw [← HW.out] at hown hgrow
       rw [hWs.out] at hown
       have hb1 : Below W.heap.size W w1 := (Below.refl _ _).grown hgrow (Nat.le_refl _) (fun _ h => by cases h)
       replace h0 := bel_go h0 h0.size hb1
       replace b1 := b1.go hb1
       replace b2 := b2.go hb1
       clear hgrow hb1))
  rw [zero_cells] at hown
  clear HW hWs
  have HA2 := Lib.hid (show a < 1000000 ^ r * 1000000 ^ r by
    have h1 := len_le (n := a.natAbs) (k := r + r) (by have := LA.out; omega)
    rw [Nat.pow_add] at h1
    have h2 : ((1000000 ^ r * 1000000 ^ r : Nat) : Int) = 1000000 ^ r * 1000000 ^ r := by rw [Int.natCast_mul, Int.natCast_pow]; rfl
    omega)
  go_loopw [4] (fun i wr => ∃ (k : Int) (ds : List Int), i = .int .i64 k ∧ -1 ≤ k ∧ k < r ∧ Hid (Ok ds) ∧ Hid (ds.length = r) ∧ Hid (∀ t : Nat, (t : Int) ≤ k → ds.getD t 0 = 0) ∧ Hid (val ds * val ds ≤ a) ∧ Hid (a < (val ds + 1000000 ^ (k + 1).toNat) * (val ds + 1000000 ^ (k + 1).toNat)) ∧
      wr.ownsRow w.heap.size 3 1 (.slice (some ⟨w.heap.size + 1 + 1, 0, none⟩) r r) r (ds.map (Value.int .i64)) ∧ Bx wr w.heap.size 28 (.bool g) (.slice p n c) ∧ Bx wr (w.heap.size + 1) 28 (.bool false) (.slice none 0 0) ∧ Below w.heap.size w wr) (fun i _ => (intOf i + 1).toNat)
  case atStart => exact ⟨_, List.replicate r 0, rfl, by omega, by omega, Lib.hid (zeros_ok _), Lib.hid (by simp), Lib.hid (fun t _ => zeros_getD _ t), Lib.hid (by rw [zeros_val]; omega), Lib.hid (by rw [zeros_val, show ((r : Int) - 1 + 1).toNat = r by omega, Int.zero_add]; exact HA2.out), hown, b1, b2, h0⟩
  case round =>
    clear hown b1 b2 h0
    obtain ⟨k, ds, rfl, hk1, hk2, hok, hlen, hzero, hlow, hhigh, hown, b1, b2, h0⟩ := hrel
    by_cases hk : k < 0
    · have HR := Lib.hid (show Rd wr (.slice (some ⟨w.heap.size + 1 + 1, 0, none⟩) r r) ds from Rd.of_own (base := w.heap.size) (by rw [hlen.out]; exact hown))
      have hval : Hid (val ds = S) := by
        unfold Hid
        have h1 := hlow.out
        have h2 := hhigh.out
        rw [show (k + 1).toNat = 0 by omega, Int.pow_zero] at h2
        obtain ⟨q, hq⟩ := Int.eq_ofNat_of_zero_le (val_nonneg hok.out)
        rw [hq] at h1 h2 ⊢
        rw [← HS.out]
        congr 1
        refine isq_unique ?_ ?_
        · have : ((q * q : Nat) : Int) ≤ a := by rw [Int.natCast_mul]; exact h1
          omega
        · have : a < (((q + 1) * (q + 1) : Nat) : Int) := by rw [Int.natCast_mul]; exact h2
          omega
      have hll : ds.length ≤ 2000000 := by rw [hlen.out]; omega
      clear hown hlow hhigh hzero
      go_wp2_with (first
        | (go_at_call 60; (with_reducible refine (trim_r _ r r ds S hok.out hval.out hll _ HR.out).mono ?_); rintro e WE ⟨m, rfl, hx, hb⟩
           replace b2 := b2.go hb
           replace h0 := bel_go h0 h0.size hb
           clear hb HR b1
           have d0 := b2.c0
           have d1 := b2.c1
           have e0 := b2.f0
           have e1 := b2.f1))
      clear d0 d1 e0 e1
      have d0 := (b2.stored (.bool false) (.slice (some ⟨w.heap.size + 1 + 1, 0, none⟩) m r)).c0
      have d1 := (b2.stored (.bool false) (.slice (some ⟨w.heap.size + 1 + 1, 0, none⟩) m r)).c1
      refine bodyPost_ret (v := .agg #[.bool false, .slice (some ⟨w.heap.size + 1 + 1, 0, none⟩) m r]) (by simp [results, Try.results90, go_sem, d0, d1]) rfl ⟨_, rfl, ?_, ?_⟩
      · exact hx.put b2 (by decide) (put2 _ _ _ _)
      · exact bel_put h0 (by omega) (put2 _ _ _ _)
    · obtain ⟨j, rfl⟩ := Int.eq_ofNat_of_zero_le (show 0 ≤ k by omega)
      have hds0 := hzero.out j (by omega)
      obtain ⟨D, hD⟩ : ∃ D, val ds = D := ⟨_, rfl⟩
      obtain ⟨P, hP⟩ : ∃ P : Int, 1000000 ^ j = P := ⟨_, rfl⟩
      have HVS := Lib.hid (show ∀ x : Int, val (ds.set j x) = D + x * P by
        intro x
        rw [val_set x (by have := hlen.out; omega), hds0, hD, hP, Int.sub_zero, Int.mul_comm P x])
      have hD0 := val_nonneg hok.out
      rw [hD] at hD0
      have hl2 : Hid ((D + 0 * P) * (D + 0 * P) ≤ a) := by unfold Hid; have := hlow.out; rw [hD] at this; rwa [Int.zero_mul, Int.add_zero]
      have hh2 : Hid (a < (D + 1000000 * P) * (D + 1000000 * P)) := by
        unfold Hid
        have := hhigh.out
        rw [hD, show ((j : Int) + 1).toNat = j + 1 by omega, Int.pow_succ, hP, Int.mul_comm P 1000000] at this
        exact this
      have HPw := Lib.hid hP
      have hset0 := set_zero hds0
      have HZ := Lib.hid hzero.out
      clear hlow hhigh hD hds0 hzero hP
      go_wp2
      obtain ⟨wo, rfl⟩ : ∃ wo : World, wo = wr := ⟨_, rfl⟩
      have hown0 : wo.ownsRow w.heap.size 3 1 (.slice (some ⟨w.heap.size + 1 + 1, 0, none⟩) r r) r ((ds.set j 0).map (Value.int .i64)) := by rw [hset0]; exact hown
      clear hset0 hown
      go_loopw [5, 6] (fun lo hi wi => ∃ l h x : Int, lo = .int .i64 l ∧ hi = .int .i64 h ∧ 0 ≤ l ∧ l < h ∧ h ≤ 1000000 ∧ Hid ((D + l * P) * (D + l * P) ≤ a) ∧ Hid (a < (D + h * P) * (D + h * P)) ∧
          wi.ownsRow w.heap.size 3 1 (.slice (some ⟨w.heap.size + 1 + 1, 0, none⟩) r r) r ((ds.set j x).map (Value.int .i64)) ∧ Bx wi w.heap.size 28 (.bool g) (.slice p n c) ∧ Bx wi (w.heap.size + 1) 28 (.bool false) (.slice none 0 0) ∧ Below w.heap.size w wi) (fun lo hi _ => (intOf hi - intOf lo).toNat)
      case atStart => exact ⟨0, 1000000, 0, rfl, rfl, by omega, by omega, by omega, hl2, hh2, hown0, b1, b2, h0⟩
      case round =>
        clear hown0 b1 b2 h0 hl2 hh2
        obtain ⟨l, h, x, rfl, rfl, hl0, hlh, hh, hml, hmh, hown, b1, b2, h0⟩ := hrel
        have hcd := own_cell hown j (by omega) (by rw [List.length_set]; exact hlen.out)
        have hfd : wr.frozen? ⟨w.heap.size + 1 + 1, j, none⟩ = false := World.ownsRow.frozenAt hown j
        have q0 : (0 : Int) ≤ (j : Int) := by omega
        by_cases hgt : 1 < h - l
        · obtain ⟨d, hd⟩ : ∃ d, (l + h) / 2 = d := ⟨_, rfl⟩
          have hd1 : l < d := by omega
          have hd2 : d < h := by omega
          obtain ⟨X, hX⟩ : ∃ X, D + d * P = X := ⟨_, rfl⟩
          have hokd := Lib.hid (hok.out.set j (show 0 ≤ d by omega) (show d < 1000000 by omega))
          have hXv : Hid (val (ds.set j d) = X) := by unfold Hid; rw [HVS.out, hX]
          have HXe := Lib.hid hX
          have hown1 := own_set hown j d
          rw [List.set_set] at hown1
          have own1 := Lib.hid hown1
          have hP1 := put1 wr (w.heap.size + 1 + 1) j (.int .i64 d)
          have b1' := Lib.hid (b1.put hP1 (by omega))
          have b2' := Lib.hid (b2.put hP1 (by omega))
          have h0' := Lib.hid (bel_put h0 (by omega) hP1)
          have hrd := Lib.hid (show Rd (wr.setCell ⟨w.heap.size + 1 + 1, j, none⟩ (.int .i64 d)) (.slice (some ⟨w.heap.size + 1 + 1, 0, none⟩) r r) (ds.set j d) from by
            have e : (ds.set j d).length = r := by rw [List.length_set]; exact hlen.out
            have := Rd.of_own (ds := ds.set j d) (base := w.heap.size) (v := .slice (some ⟨w.heap.size + 1 + 1, 0, none⟩) r r) (w := wr.setCell ⟨w.heap.size + 1 + 1, j, none⟩ (.int .i64 d)) (by rw [e]; exact hown1)
            exact this)
          have hXl : (digs X.natAbs).length ≤ r := by
            have h1 := val_lt hokd.out
            have h2 := val_nonneg hokd.out
            rw [hXv.out, List.length_set, hlen.out] at h1
            rw [hXv.out] at h2
            have h3 : ((1000000 ^ r : Nat) : Int) = 1000000 ^ r := by rw [Int.natCast_pow]; rfl
            exact digs_len (by omega)
          have hlX : (digs X.natAbs).length + (digs X.natAbs).length ≤ 1999999 := by omega
          have hsX : Sm (X * X) := by
            unfold Sm
            rw [Int.natAbs_mul]
            have := dlen_mul X.natAbs X.natAbs
            omega
          clear hown1 hP1 hX b1 b2 h0 hown
          by_cases hle : X * X ≤ a
          · have hk : decide (cmpI (X * X) a ≤ 0) = true := by have := cmpI_pos (a := X * X) (b := a); exact decide_eq_true (by omega)
            have HLE := Lib.hid hle
            clear hle
            go_wp2_with (first
              | (go_at_call 60; (with_reducible refine (trim_r _ r r (ds.set j d) X hokd.out hXv.out (by rw [List.length_set, hlen.out]; omega) _ hrd.out).mono ?_); rintro e W1 ⟨nx, rfl, hx, hb1⟩
                 have own2 := own_go own1.out hb1
                 replace b1 := b1'.out.go hb1
                 replace b2 := b2'.out.go hb1
                 replace h0 := bel_go h0'.out h0'.out.size hb1
                 have hlt := Lib.hid (own_lt own2)
                 clear hb1 hrd own1 b1' b2' h0' hfd hcd))
            obtain ⟨WB, hWB, hal, bx⟩ := boot1 W1 (.bool false) (.slice (some ⟨w.heap.size + 1 + 1, 0, none⟩) nx r)
            rw [← hWB]
            clear hWB
            replace hx := hx.go hal
            replace b1 := b1.go hal
            replace b2 := b2.go hal
            replace own2 := own_go own2 hal
            replace h0 := bel_go h0 h0.size hal
            clear hal
            generalize W1.heap.size = BX at bx hlt ⊢
            refine wp_region_held_drew (S := fun W' => Bx W' (BX) 28 (.bool false) (.slice (some ⟨w.heap.size + 1 + 1, 0, none⟩) nx r) ∧ Bx W' (w.heap.size) 28 (.bool g) (.slice p n c)) (by kernel_rfl) (⟨bx.drew, b1.drew⟩) (fun _ => ?_)
            replace hx := hx.drew
            replace b1 := b1.drew
            replace b2 := b2.drew
            replace bx := bx.drew
            replace own2 := own_drew own2
            replace h0 := Below.drew h0
            generalize WB.drew = WB at hx b1 b2 bx own2 h0 ⊢
            refine wpAnyH_take (i := 0) (v := ?_) rfl (by kernel_rfl) (by kernel_rfl) (by kernel_rfl) (fun _ _ _ h => h) (Or.inl ⟨by kernel_rfl, ?_⟩) (⟨bx, b1⟩) ?_
            rotate_left
            focus (intro W' hSw; obtain ⟨hx0, hx1⟩ := hSw; have hc0 := hx0.c0; have hc1 := hx0.c1; have hc2 := hx1.c0; have hc3 := hx1.c1; clear hx0 hx1; go_simp; (try with_reducible rfl))
            (try simp only [Act.put, List.setIfInBounds_toArray, List.set_cons_zero, List.set_cons_succ, List.getElem_toArray, List.getElem_cons_zero, List.getElem_cons_succ])
            refine wpAnyH_take (i := 1) (v := ?_) rfl (by kernel_rfl) (by kernel_rfl) (by kernel_rfl) (fun _ _ _ h => h) (Or.inl ⟨by kernel_rfl, ?_⟩) (⟨bx, b1⟩) ?_
            rotate_left
            focus (intro W' hSw; obtain ⟨hx0, hx1⟩ := hSw; have hc0 := hx0.c0; have hc1 := hx0.c1; have hc2 := hx1.c0; have hc3 := hx1.c1; clear hx0 hx1; go_simp; (try with_reducible rfl))
            (try simp only [Act.put, List.setIfInBounds_toArray, List.set_cons_zero, List.set_cons_succ, List.getElem_toArray, List.getElem_cons_zero, List.getElem_cons_succ])
            refine wpAnyH_take (i := 3) (v := ?_) rfl (by kernel_rfl) (by kernel_rfl) (by kernel_rfl) (fun _ _ _ h => h) (Or.inl ⟨by kernel_rfl, ?_⟩) (⟨bx, b1⟩) ?_
            rotate_left
            focus (intro W' hSw; obtain ⟨hx0, hx1⟩ := hSw; have hc0 := hx0.c0; have hc1 := hx0.c1; have hc2 := hx1.c0; have hc3 := hx1.c1; clear hx0 hx1; go_simp; (try with_reducible rfl))
            (try simp only [Act.put, List.setIfInBounds_toArray, List.set_cons_zero, List.set_cons_succ, List.getElem_toArray, List.getElem_cons_zero, List.getElem_cons_succ])
            refine wpAnyH_ready (rs := [2]) (by kernel_rfl) (by simp) ?_
            refine AllReadyH.cons rfl (fun K hK => ?_) (AllReadyH.nil)
            go_simp
            go_at_call 24; refine (ztimes_any _ _ X X hlX _ hx hx).mono ?_
            rintro e Wt ⟨u, rfl, ht, hb⟩
            obtain ⟨gt, pt, nt, ct, rfl⟩ := ht.shape
            replace hx := hx.go hb
            replace b1 := b1.go hb
            replace b2 := b2.go hb
            replace bx := bx.go hb
            replace own2 := own_go own2 hb
            replace h0 := bel_go h0 h0.size hb
            clear hb
            refine hK.out _ _ (⟨bx, b1⟩) (fun _ => ?_)
            clear hK K
            (try simp only [Act.put, List.setIfInBounds_toArray, List.set_cons_zero, List.set_cons_succ, List.getElem_toArray, List.getElem_cons_zero, List.getElem_cons_succ])
            refine wpAnyH_ready (rs := [4]) (by kernel_rfl) (by simp) ?_
            refine AllReadyH.cons rfl (fun K hK => ?_) (AllReadyH.nil)
            go_simp
            have hA2 := hA.go h0
            go_at_call 58; refine (zcmp_any _ _ (X * X) a hsX hsA _ ht hA2).mono ?_
            rintro e Wc ⟨rfl, hb⟩
            clear hA2
            replace hx := hx.go hb
            replace b1 := b1.go hb
            replace b2 := b2.go hb
            replace bx := bx.go hb
            replace own2 := own_go own2 hb
            replace h0 := bel_go h0 h0.size hb
            clear hb
            refine hK.out _ _ (⟨bx, b1⟩) (fun _ => ?_)
            clear hK K
            (try simp only [Act.put, List.setIfInBounds_toArray, List.set_cons_zero, List.set_cons_succ, List.getElem_toArray, List.getElem_cons_zero, List.getElem_cons_succ])
            refine wpAnyH_take (i := 5) (v := ?_) rfl (by kernel_rfl) (by kernel_rfl) (by kernel_rfl) (fun _ _ _ h => h) (Or.inl ⟨by kernel_rfl, ?_⟩) (⟨bx, b1⟩) ?_
            rotate_left
            focus (intro W' hSw; obtain ⟨hx0, hx1⟩ := hSw; have hc0 := hx0.c0; have hc1 := hx0.c1; have hc2 := hx1.c0; have hc3 := hx1.c1; clear hx0 hx1; go_simp; (try with_reducible rfl))
            (try simp only [Act.put, List.setIfInBounds_toArray, List.set_cons_zero, List.set_cons_succ, List.getElem_toArray, List.getElem_cons_zero, List.getElem_cons_succ])
            refine wpAnyH_done (by kernel_rfl) ?_ _
            have hcd2 := own_cell own2 j (by omega) (by rw [List.length_set]; exact hlen.out)
            rw [getD_set d (by have := hlen.out; omega), if_pos rfl] at hcd2
            clear bx hx hk
            go_wp2
            go_roundw
            case rel => exact ⟨d, h, d, rfl, rfl, by omega, by omega, by omega, Lib.hid (by rw [HXe.out]; exact HLE.out), hmh, own2, b1, b2, h0⟩
            case measure => simp [intOf]; omega

          · have hk : decide (cmpI (X * X) a ≤ 0) = false := by have := cmpI_pos (a := X * X) (b := a); exact decide_eq_false (by omega)
            have HLE := Lib.hid hle
            clear hle
            go_wp2_with (first
              | (go_at_call 60; (with_reducible refine (trim_r _ r r (ds.set j d) X hokd.out hXv.out (by rw [List.length_set, hlen.out]; omega) _ hrd.out).mono ?_); rintro e W1 ⟨nx, rfl, hx, hb1⟩
                 have own2 := own_go own1.out hb1
                 replace b1 := b1'.out.go hb1
                 replace b2 := b2'.out.go hb1
                 replace h0 := bel_go h0'.out h0'.out.size hb1
                 have hlt := Lib.hid (own_lt own2)
                 clear hb1 hrd own1 b1' b2' h0' hfd hcd))
            obtain ⟨WB, hWB, hal, bx⟩ := boot1 W1 (.bool false) (.slice (some ⟨w.heap.size + 1 + 1, 0, none⟩) nx r)
            rw [← hWB]
            clear hWB
            replace hx := hx.go hal
            replace b1 := b1.go hal
            replace b2 := b2.go hal
            replace own2 := own_go own2 hal
            replace h0 := bel_go h0 h0.size hal
            clear hal
            generalize W1.heap.size = BX at bx hlt ⊢
            refine wp_region_held_drew (S := fun W' => Bx W' (BX) 28 (.bool false) (.slice (some ⟨w.heap.size + 1 + 1, 0, none⟩) nx r) ∧ Bx W' (w.heap.size) 28 (.bool g) (.slice p n c)) (by kernel_rfl) (⟨bx.drew, b1.drew⟩) (fun _ => ?_)
            replace hx := hx.drew
            replace b1 := b1.drew
            replace b2 := b2.drew
            replace bx := bx.drew
            replace own2 := own_drew own2
            replace h0 := Below.drew h0
            generalize WB.drew = WB at hx b1 b2 bx own2 h0 ⊢
            refine wpAnyH_take (i := 0) (v := ?_) rfl (by kernel_rfl) (by kernel_rfl) (by kernel_rfl) (fun _ _ _ h => h) (Or.inl ⟨by kernel_rfl, ?_⟩) (⟨bx, b1⟩) ?_
            rotate_left
            focus (intro W' hSw; obtain ⟨hx0, hx1⟩ := hSw; have hc0 := hx0.c0; have hc1 := hx0.c1; have hc2 := hx1.c0; have hc3 := hx1.c1; clear hx0 hx1; go_simp; (try with_reducible rfl))
            (try simp only [Act.put, List.setIfInBounds_toArray, List.set_cons_zero, List.set_cons_succ, List.getElem_toArray, List.getElem_cons_zero, List.getElem_cons_succ])
            refine wpAnyH_take (i := 1) (v := ?_) rfl (by kernel_rfl) (by kernel_rfl) (by kernel_rfl) (fun _ _ _ h => h) (Or.inl ⟨by kernel_rfl, ?_⟩) (⟨bx, b1⟩) ?_
            rotate_left
            focus (intro W' hSw; obtain ⟨hx0, hx1⟩ := hSw; have hc0 := hx0.c0; have hc1 := hx0.c1; have hc2 := hx1.c0; have hc3 := hx1.c1; clear hx0 hx1; go_simp; (try with_reducible rfl))
            (try simp only [Act.put, List.setIfInBounds_toArray, List.set_cons_zero, List.set_cons_succ, List.getElem_toArray, List.getElem_cons_zero, List.getElem_cons_succ])
            refine wpAnyH_take (i := 3) (v := ?_) rfl (by kernel_rfl) (by kernel_rfl) (by kernel_rfl) (fun _ _ _ h => h) (Or.inl ⟨by kernel_rfl, ?_⟩) (⟨bx, b1⟩) ?_
            rotate_left
            focus (intro W' hSw; obtain ⟨hx0, hx1⟩ := hSw; have hc0 := hx0.c0; have hc1 := hx0.c1; have hc2 := hx1.c0; have hc3 := hx1.c1; clear hx0 hx1; go_simp; (try with_reducible rfl))
            (try simp only [Act.put, List.setIfInBounds_toArray, List.set_cons_zero, List.set_cons_succ, List.getElem_toArray, List.getElem_cons_zero, List.getElem_cons_succ])
            refine wpAnyH_ready (rs := [2]) (by kernel_rfl) (by simp) ?_
            refine AllReadyH.cons rfl (fun K hK => ?_) (AllReadyH.nil)
            go_simp
            go_at_call 24; refine (ztimes_any _ _ X X hlX _ hx hx).mono ?_
            rintro e Wt ⟨u, rfl, ht, hb⟩
            obtain ⟨gt, pt, nt, ct, rfl⟩ := ht.shape
            replace hx := hx.go hb
            replace b1 := b1.go hb
            replace b2 := b2.go hb
            replace bx := bx.go hb
            replace own2 := own_go own2 hb
            replace h0 := bel_go h0 h0.size hb
            clear hb
            refine hK.out _ _ (⟨bx, b1⟩) (fun _ => ?_)
            clear hK K
            (try simp only [Act.put, List.setIfInBounds_toArray, List.set_cons_zero, List.set_cons_succ, List.getElem_toArray, List.getElem_cons_zero, List.getElem_cons_succ])
            refine wpAnyH_ready (rs := [4]) (by kernel_rfl) (by simp) ?_
            refine AllReadyH.cons rfl (fun K hK => ?_) (AllReadyH.nil)
            go_simp
            have hA2 := hA.go h0
            go_at_call 58; refine (zcmp_any _ _ (X * X) a hsX hsA _ ht hA2).mono ?_
            rintro e Wc ⟨rfl, hb⟩
            clear hA2
            replace hx := hx.go hb
            replace b1 := b1.go hb
            replace b2 := b2.go hb
            replace bx := bx.go hb
            replace own2 := own_go own2 hb
            replace h0 := bel_go h0 h0.size hb
            clear hb
            refine hK.out _ _ (⟨bx, b1⟩) (fun _ => ?_)
            clear hK K
            (try simp only [Act.put, List.setIfInBounds_toArray, List.set_cons_zero, List.set_cons_succ, List.getElem_toArray, List.getElem_cons_zero, List.getElem_cons_succ])
            refine wpAnyH_take (i := 5) (v := ?_) rfl (by kernel_rfl) (by kernel_rfl) (by kernel_rfl) (fun _ _ _ h => h) (Or.inl ⟨by kernel_rfl, ?_⟩) (⟨bx, b1⟩) ?_
            rotate_left
            focus (intro W' hSw; obtain ⟨hx0, hx1⟩ := hSw; have hc0 := hx0.c0; have hc1 := hx0.c1; have hc2 := hx1.c0; have hc3 := hx1.c1; clear hx0 hx1; go_simp; (try with_reducible rfl))
            (try simp only [Act.put, List.setIfInBounds_toArray, List.set_cons_zero, List.set_cons_succ, List.getElem_toArray, List.getElem_cons_zero, List.getElem_cons_succ])
            refine wpAnyH_done (by kernel_rfl) ?_ _
            have hcd2 := own_cell own2 j (by omega) (by rw [List.length_set]; exact hlen.out)
            rw [getD_set d (by have := hlen.out; omega), if_pos rfl] at hcd2
            clear bx hx hk
            go_wp2
            go_roundw
            case rel => exact ⟨l, d, d, rfl, rfl, by omega, by omega, by omega, hml, Lib.hid (by rw [HXe.out]; have := HLE.out; omega), own2, b1, b2, h0⟩
            case measure => simp [intOf]; omega

        · have hN := Lib.hid (show h = l + 1 by omega)
          have hP1 := put1 wr (w.heap.size + 1 + 1) j (.int .i64 l)
          have hown1 := own_set hown j l
          rw [List.set_set] at hown1
          replace b1 := b1.put hP1 (by omega)
          replace b2 := b2.put hP1 (by omega)
          replace h0 := bel_put h0 (by omega) hP1
          clear hown hP1
          go_wp2
          go_roundw
          case rel =>
            refine ⟨(j : Int) - 1, ds.set j l, rfl, by omega, by omega, Lib.hid (hok.out.set j hl0 (by omega)), Lib.hid (by rw [List.length_set]; exact hlen.out), Lib.hid (fun t ht => by rw [getD_set l (by have := hlen.out; omega), if_neg (by omega)]; exact HZ.out t (by omega)), Lib.hid (by rw [HVS.out]; exact hml.out), Lib.hid ?_, hown1, b1, b2, h0⟩
            rw [show ((j : Int) - 1 + 1).toNat = j by omega, HPw.out, HVS.out]
            have h1 := hmh.out
            have e : (l + 1) * P = l * P + P := by rw [Int.add_mul, Int.one_mul]
            rw [hN.out, e, ← Int.add_assoc] at h1
            exact h1
          case measure => simp [intOf]
end Go.Proofs.Ytagbpehfieejcaa

