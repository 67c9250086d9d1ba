/-
  The contracts of the reference's numbers: Split.
  Conditions: those of each theorem.
-/
import Derived.Test.YtfhidjldmopbgaaZA
import Derived.Test.YtfhidjldmopbgaaZM3
set_option linter.unusedSimpArgs false
set_option linter.unusedVariables false
namespace Go.Proofs.Ytfhidjldmopbgaa
open Go.RowKit Go.Shelf Zd Wd

/-- The boxes of Split's parameters and results, and that of the divisor's absolute value. -/
structure SpB (w : World) (x1 y1 x2 y2 : Value) (M : Nat) (xm ym : Value) (W : World) : Prop where
  low : Below w.heap.size w W
  a : Bx W w.heap.size 28 x1 y1
  b : Bx W (w.heap.size + 1) 28 x2 y2
  q : Bx W (w.heap.size + 1 + 1) 28 (.bool false) (.slice none 0 0)
  r : Bx W (w.heap.size + 1 + 1 + 1) 28 (.bool false) (.slice none 0 0)
  m : Bx W M 28 xm ym
section
variable {w : World} {x1 y1 x2 y2 xm ym : Value} {M : Nat} {W W' : World}
theorem SpB.go (h : SpB w x1 y1 x2 y2 M xm ym W) (hb : Below W.heap.size W W') : SpB w x1 y1 x2 y2 M xm ym W' :=
  ⟨bel_go h.low h.low.size hb, h.a.go hb, h.b.go hb, h.q.go hb, h.r.go hb, h.m.go hb⟩
theorem SpB.put (h : SpB w x1 y1 x2 y2 M xm ym W) {k : Nat} (hp : Put W k W') (h1 : w.heap.size + 1 + 1 + 1 < k) (h2 : M ≠ k) : SpB w x1 y1 x2 y2 M xm ym W' :=
  ⟨bel_put h.low (by omega) hp, h.a.put hp (by omega), h.b.put hp (by omega), h.q.put hp (by omega), h.r.put hp (by omega), h.m.put hp h2⟩
theorem SpB.drew (h : SpB w x1 y1 x2 y2 M xm ym W) : SpB w x1 y1 x2 y2 M xm ym W.drew := h.go (Below.drew (Below.refl _ _))
end
theorem own_drew {w : World} {base n : Nat} {v : Value} {xs : List Value} (h : w.ownsRow base 3 1 v n xs) : w.drew.ownsRow base 3 1 v n xs := own_go h (Below.drew (Below.refl _ _))
theorem own_lt {w : World} {base g n c : Nat} {xs : List Value} (h : w.ownsRow base 3 1 (.slice (some ⟨g, 0, none⟩) n c) n xs) : g < w.heap.size := by
  rcases h.2 with ⟨h, _⟩ | ⟨g', cap, cur, h, _, hg, _⟩
  · cases h
  · cases h; exact (Array.getElem?_eq_some_iff.1 hg).1
theorem want_pos {c : Prop} [Decidable c] {p q : Prop} (h : c) (hp : p) : if c then p else q := by rw [if_pos h]; exact hp
/-- trim of a number that is not negative. -/
theorem trim_f (p : Option Addr) (n cap : Nat) (ds ds' : List Int) (hc : cut ds = ds') (hl : ds.length ≤ 2000000) (w : World) (hv : Rd w (.slice p n cap) ds) :
    Calls Try.prog 27 #[.bool false, .slice p n cap] w fun e w' => ∃ m, e = .returned (.agg #[.bool false, .slice p m cap]) ∧ Rd w' (.slice p m cap) ds' ∧ Below w.heap.size w w' := by
  refine (trim_at false p n cap ds hl w hv).mono ?_
  rintro e w' ⟨rfl, h1, h2⟩
  rw [hc] at h1 ⊢
  exact ⟨_, by rw [Bool.false_and], h1, h2⟩
/-- trim of digits with a sign. -/
theorem trim_z (g : Bool) (v : Value) (ds : List Int) (Q : Nat) (z : Int) (e1 : z.natAbs = Q) (e2 : g = true → z ≤ 0) (e3 : g = false → 0 ≤ z) (hok : Ok ds) (hq : val ds = Q) (hl : ds.length ≤ 2000000) (w : World) (hv : Rd w v ds) :
    Calls Try.prog 27 #[.bool g, v] w fun e w' => ∃ u, e = .returned u ∧ IsZ w' u z ∧ Below w.heap.size w w' := by
  refine (trim_any g v ds hl w hv).mono ?_
  rintro e w' ⟨s, rfl, hs, hb⟩
  have hc : cut ds = digs Q := by rw [cut_digs hok, hq, Int.toNat_natCast]
  rw [hc] at hs ⊢
  exact ⟨_, rfl, ⟨s, by rw [sign_of e1 e2 e3], by rw [e1]; exact hs⟩, hb⟩
theorem dlen_mul (x y : Nat) : (digs (x * y)).length ≤ (digs x).length + (digs y).length := by
  refine digs_len ?_
  rw [Nat.pow_add]
  exact Nat.mul_lt_mul'' (len_le (Nat.le_refl _)) (len_le (Nat.le_refl _))
theorem rd_z {w : World} {p : Option Addr} {n c : Nat} {T : Nat} (h : Rd w (.slice p n c) (digs T)) : IsZ w (.agg #[.bool false, .slice p n c]) T :=
  ⟨_, by rw [decide_eq_false (show ¬ ((T : Nat) : Int) < 0 by omega)], by simpa using h⟩
/-- What is below a number has at most as many digits. -/
theorem dlen_lt {x y : Nat} (h : (x : Int) < y) : (digs x).length ≤ (digs y).length := by
  have := len_le (n := y) (Nat.le_refl _)
  exact digs_len (by omega)
theorem Rd.go {w w' : World} {v : Value} {ds : List Int} (h : Rd w v ds) (hb : Below w.heap.size w w') : Rd w' v ds := h.below hb

set_option maxRecDepth 100000 in
set_option maxHeartbeats 8000000 in
/-- (Z).Split, by the divisor's absolute value m: |a| = Q * m + R. -/
theorem split_digits (a b : Int) (ga gb : Bool) (pa pb : Option Addr) (na nb ca cb : Nat) (hb0 : b ≠ 0) (hla : na ≤ 400000) (hlb : nb ≤ 400000) (w : World) (hA : IsZ w (.agg #[.bool ga, .slice pa na ca]) a) (hB : IsZ w (.agg #[.bool gb, .slice pb nb cb]) b) :
    Calls Try.prog 49 #[.agg #[.bool ga, .slice pa na ca], .agg #[.bool gb, .slice pb nb cb]] w fun e w' => ∃ u v, e = .returned (.tuple #[u, v]) ∧ IsZ w' u (a / b) ∧ IsZ w' v (a % b) ∧ Below w.heap.size w w' := by
  obtain ⟨i0, hi, hz0, hz1, hz2⟩ := info_parts (show (Try.prog.info? 3).map (fun i => (i.zero, i.size, i.bytes)) = some (some (.int .i64 0), 1, 8) by kernel_rfl)
  have RA := Lib.hid hA.rd
  have LA := Lib.hid hA.rd.len
  have LB := Lib.hid hB.rd.len
  obtain ⟨W, hW, h0, b1, b2, b3, b4⟩ := boot4 w (.bool ga) (.slice pa na ca) (.bool gb) (.slice pb nb cb)
  have HW := Lib.hid hW
  have hWs := Lib.hid (show W.heap.size = w.heap.size + 1 + 1 + 1 + 1 by rw [hW]; simp)
  clear hW
  go_enter Try.func49, Try.ntmps49
  go_wp2_with (first
    | (go_at_call 55; (with_reducible refine (zabs_any _ b _ ?_).mono ?_); rw [← HW.out]; exact hB.go h0; rw [← HW.out]; rintro e W1 ⟨u, rfl, hm, hb1⟩
       obtain ⟨gm, pm, nm, cm, rfl⟩ := hm.shape
       replace h0 := bel_go h0 h0.size hb1
       replace b1 := b1.go hb1
       replace b2 := b2.go hb1
       replace b3 := b3.go hb1
       replace b4 := b4.go hb1
       have c11 := b1.c1
       have hzA : w.heap.size < W1.heap.size := b1.lt
       have s1 := Lib.hid (show w.heap.size + 1 + 1 + 1 < W1.heap.size from b4.lt)
       clear hb1 HW hWs)
    | (at_make; refine wpList_make_full _ rfl _ _ 26 rfl (W1.heap.size + 1) 3 i0 (.int .i64 0) 1 Try.underlying26 hi hz0 hz1 .i64 .i64 _ _ na rfl rfl (by omega) (by omega) (by rw [hz2]; omega) (by unfold maxLen; omega) (by simp) ?_; intro w2 hown hgrow
       have bm0 := Bx.new W1 28 (.bool gm) (.slice pm nm cm)
       have hal : Below W1.heap.size W1 (W1.alloc (.cells #[.bool gm, .slice pm nm cm] 28)) := (Below.refl _ _).alloc (Nat.le_refl _) _
       have hb2 : Below (W1.alloc (.cells #[.bool gm, .slice pm nm cm] 28)).heap.size (W1.alloc (.cells #[.bool gm, .slice pm nm cm] 28)) w2 := (Below.refl _ _).grown hgrow (Nat.le_refl _) (fun _ h => by cases h)
       have e1 : (W1.alloc (.cells #[.bool gm, .slice pm nm cm] 28)).heap.size = W1.heap.size + 1 := by simp
       rw [e1] at hown
       replace b1 := (b1.go hal).go hb2
       replace b2 := (b2.go hal).go hb2
       replace b3 := (b3.go hal).go hb2
       replace b4 := (b4.go hal).go hb2
       replace h0 := bel_go (bel_go h0 h0.size hal) (bel_go h0 h0.size hal).size hb2
       have bm := bm0.go hb2
       have hlow := Lib.hid (bel_go hal hal.size hb2)
       have sw2 := Lib.hid (show W1.heap.size + 1 < w2.heap.size from own_lt hown)
       clear hgrow hal hb2 e1 bm0 c11 hzA
       have c11 := b1.c1
       have hz2' : w.heap.size < w2.heap.size := b1.lt))
  rw [zero_cells] at hown
  have hsp : SpB w (.bool ga) (.slice pa na ca) (.bool gb) (.slice pb nb cb) W1.heap.size (.bool gm) (.slice pm nm cm) w2 := ⟨h0, b1, b2, b3, b4, bm⟩
  have br := Bx.new w2 28 (.bool false) (.slice none 0 0)
  have hal : Below w2.heap.size w2 (w2.alloc (.cells #[.bool false, .slice none 0 0] 28)) := (Below.refl _ _).alloc (Nat.le_refl _) _
  replace hsp := hsp.go hal
  replace hown := own_go hown hal
  replace hlow := Lib.hid (bel_go hlow.out hlow.out.size hal)
  have hr0 : IsZ (w2.alloc (.cells #[.bool false, .slice none 0 0] 28)) (.agg #[.bool false, .slice none 0 0]) 0 := ⟨_, rfl, ⟨none, 0, by simp [digs_zero], by simp [digs_zero], by unfold maxLen; omega, .inl (by simp [digs_zero])⟩⟩
  clear h0 b1 b2 b3 b4 bm hal c11 hz2'
  have s2 := Lib.hid (show W1.heap.size + 1 < w2.heap.size from sw2.out)
  clear sw2
  generalize w2.alloc (.cells #[.bool false, .slice none 0 0] 28) = w3 at hsp br hown hlow hr0 ⊢
  generalize w2.heap.size = RB at br s2 ⊢
  generalize hM : W1.heap.size = M at hsp hown s1 s2 hlow ⊢
  obtain ⟨mm, hmm⟩ : ∃ mm : Nat, b.natAbs = mm := ⟨_, rfl⟩
  rw [hmm] at hm
  have HMM := Lib.hid hmm
  have hmpos : 0 < (mm : Int) := by omega
  have HM := Lib.hid hM
  clear hM hmm
  go_loopw [9] (fun i wr => ∃ (k : Int) (qs : List Int) (R : Nat) (gr : Bool) (pr : Option Addr) (nr cr : Nat), i = .int .i64 k ∧ -1 ≤ k ∧ k < na ∧ Hid (Ok qs) ∧ Hid (qs.length = na) ∧ Hid ((R : Int) < mm) ∧ Hid (val ((digs a.natAbs).drop (k + 1).toNat) = val (qs.drop (k + 1).toNat) * mm + R) ∧
      wr.ownsRow (M + 1) 3 1 (.slice (some ⟨M + 1, 0, none⟩) na na) na (qs.map (Value.int .i64)) ∧ SpB w (.bool ga) (.slice pa na ca) (.bool gb) (.slice pb nb cb) M (.bool gm) (.slice pm nm cm) wr ∧ Bx wr RB 28 (.bool gr) (.slice pr nr cr) ∧ IsZ wr (.agg #[.bool gr, .slice pr nr cr]) R ∧ Hid (Below M W1 wr)) (fun i _ => (intOf i + 1).toNat)
  case atStart => exact ⟨_, List.replicate na 0, 0, false, none, 0, 0, rfl, by omega, by omega, Lib.hid (zeros_ok _), Lib.hid (by simp), Lib.hid (by omega), Lib.hid (by rw [List.drop_eq_nil_of_le (by have := LA.out; omega), List.drop_eq_nil_of_le (by simp)]; simp [val]), hown, hsp, br, hr0, hlow⟩
  case round =>
    clear hown hsp br hr0 hlow
    obtain ⟨k, qs, R, gr, pr, nr, cr, rfl, hk1, hk2, hok, hlen, hR, hinv, hown, hsp, br, hr, hlow⟩ := hrel
    by_cases hk : k < 0
    · have hXQ : Hid ((a.natAbs : Int) = val qs * mm + R) := by
        unfold Hid
        have h := hinv.out
        rw [show (k + 1).toNat = 0 by omega, List.drop_zero, List.drop_zero, val_digs] at h
        exact h
      obtain ⟨Q, hQ⟩ := Int.eq_ofNat_of_zero_le (val_nonneg hok.out)
      have HQv := Lib.hid hQ
      have hql := Lib.hid (show qs.length ≤ 2000000 by rw [hlen.out]; omega)
      have HRq := Lib.hid (show Rd wr (.slice (some ⟨M + 1, 0, none⟩) na na) qs from Rd.of_own (base := M + 1) (by rw [hlen.out]; exact hown))
      have hXQ2 : Hid ((a.natAbs : Int) = Q * mm + R) := by unfold Hid; have := hXQ.out; rwa [hQ] at this
      have hlm : (digs mm).length ≤ 400000 := by
        have e := HMM.out
        have l := LB.out
        rw [e] at l
        omega
      have hlR : (digs R).length ≤ 400000 := by have := dlen_lt hR.out; omega
      have hlQ : (digs Q).length ≤ 400000 := by
        have h1 := LA.out
        have h2 : Q ≤ a.natAbs := by
          have h3 := hXQ2.out
          have h4 := Int.mul_le_mul_of_nonneg_left (show (1 : Int) ≤ mm by omega) (show (0 : Int) ≤ Q by omega)
          omega
        have h5 := len_le (n := a.natAbs) (Nat.le_refl _)
        have := digs_len (n := Q) (k := (digs a.natAbs).length) (by omega)
        omega
      have hsQ : ∀ z : Int, z.natAbs ≤ Q + 1 → Sm z := by
        intro z hz
        unfold Sm
        have h5 := len_le (n := Q) (Nat.le_refl _)
        have h6 : (1000000 : Nat) ^ (digs Q).length * 1000000 = 1000000 ^ ((digs Q).length + 1) := by rw [Nat.pow_succ]
        have := digs_len (n := z.natAbs) (k := (digs Q).length + 1) (by omega)
        omega
      have HSQ := Lib.hid hsQ
      have hsmm : Sm (mm : Int) := by unfold Sm; rw [Int.natAbs_natCast]; omega
      have hsR : Sm (R : Int) := by unfold Sm; rw [Int.natAbs_natCast]; omega
      have hs1 : Sm 1 := by unfold Sm; exact Nat.le_trans (digs_len (k := 1) (by decide)) (by decide)
      have hmz := hm.below (show Below W1.heap.size W1 wr by rw [HM.out]; exact hlow.out)
      have hgb := hB.neg
      have hga := hA.neg
      clear hQ hown hsQ hinv hXQ hm hlow RA LA LB hA hB hla hlb hi hz0 hz1 hz2 hb0 hlm hlR hlQ hmpos
      cases ga
      · have hasg : 0 ≤ a := by simp at hga; omega
        clear hga
        cases gb
        · have hbsg : 0 ≤ b := by simp at hgb; omega
          clear hgb
          have c10 := hsp.a.c0
          go_wp2_with (first
            | (go_at_call 27; (with_reducible refine (trim_z false _ qs Q (Q : Int) (by omega) (fun h => by cases h) (fun _ => by omega) hok.out HQv.out hql.out _ HRq.out).mono ?_); rintro e Wq ⟨u, rfl, hz, hb1⟩
               obtain ⟨gz, pz, nz, cz, rfl⟩ := hz.shape
               have hal : Below Wq.heap.size Wq (Wq.alloc (.cells #[.bool gz, .slice pz nz cz] 28)) := (Below.refl _ _).alloc (Nat.le_refl _) _
               have bz2 := Lib.hid (Bx.new Wq 28 (.bool gz) (.slice pz nz cz))
               have hsp2 := Lib.hid ((hsp.go hb1).go hal)
               have br2 := Lib.hid ((br.go hb1).go hal)
               have hr2 := Lib.hid ((hr.go hb1).go hal)
               have hmz2 := Lib.hid ((hmz.go hb1).go hal)
               have hz2 := Lib.hid (hz.go hal)
               have sz := Lib.hid (show RB < Wq.heap.size from (br.go hb1).lt)
               have cr0 := (br.go hb1).c0
               have cr1 := (br.go hb1).c1
               have c11 := (hsp.go hb1).a.c0
               have c21 := (hsp.go hb1).b.c0
               have hlt1 : RB < Wq.heap.size := (br.go hb1).lt
               have hlt2 : w.heap.size < Wq.heap.size := (hsp.go hb1).a.lt
               have hlt3 : w.heap.size + 1 < Wq.heap.size := (hsp.go hb1).b.lt
               clear hb1 hal c10 HRq hz hsp br hr hmz))
          have hsp := hsp2.out
          have br := br2.out
          have hr := hr2.out
          have hmz := hmz2.out
          have hz := hz2.out
          have bz := bz2.out
          clear hsp2 br2 hr2 hmz2 hz2 bz2 cr0 cr1 c11 c21 hlt1 hlt2 hlt3
          generalize Wq.alloc (.cells #[.bool gz, .slice pz nz cz] 28) = WT at hsp br hr hmz hz bz ⊢
          generalize Wq.heap.size = ZB at bz sz ⊢
          have HQ := Lib.hid ((eu_pos HMM.out hR.out hXQ2.out hasg).1 hbsg)
          have hsz : Sm (Q : Int) := HSQ.out _ (by omega)
          have c20 := hsp.b.c0
          have cz0 := bz.c0
          have cz1 := bz.c1
          go_wp2
          clear c20 cz0 cz1
          have h0 := hsp.low
          have bq := hsp.q
          have brr := hsp.r
          clear hsp
          refine wp_region_last (S := fun W' => Bx W' (ZB) 28 (.bool gz) (.slice pz nz cz) ∧ Bx W' (RB) 28 (.bool gr) (.slice pr nr cr)) (m := 3) (by kernel_rfl) (by kernel_rfl) (by kernel_rfl) (⟨bz.drew, br.drew⟩) (fun _ => ?_)
          replace bz := bz.drew
          replace br := br.drew
          replace hz := hz.drew
          replace hr := hr.drew
          replace h0 := Below.drew h0
          replace bq := bq.drew
          replace brr := brr.drew
          generalize WT.drew = WT at bz br hz hr h0 bq brr ⊢
          refine wpAnyH_take (i := 0) (v := ?_) rfl (by kernel_rfl) (by kernel_rfl) (by kernel_rfl) (fun _ _ _ h => h) (Or.inl ⟨by kernel_rfl, ?_⟩) (⟨bz, br⟩) ?_
          rotate_left
          focus (intro W' hSw; obtain ⟨hx0, hx1⟩ := hSw; have hc0 := hx0.c0; have hc1 := hx0.c1; have hc2 := hx1.c0; have hc3 := hx1.c1; clear hx0 hx1; go_simp; (try with_reducible rfl))
          (try simp only [Act.put, List.setIfInBounds_toArray, List.set_cons_zero, List.set_cons_succ, List.getElem_toArray, List.getElem_cons_zero, List.getElem_cons_succ])
          refine wpAnyH_take (i := 1) (v := ?_) rfl (by kernel_rfl) (by kernel_rfl) (by kernel_rfl) (fun _ _ _ h => h) (Or.inl ⟨by kernel_rfl, ?_⟩) (⟨bz, br⟩) ?_
          rotate_left
          focus (intro W' hSw; obtain ⟨hx0, hx1⟩ := hSw; have hc0 := hx0.c0; have hc1 := hx0.c1; have hc2 := hx1.c0; have hc3 := hx1.c1; clear hx0 hx1; go_simp; (try with_reducible rfl))
          (try simp only [Act.put, List.setIfInBounds_toArray, List.set_cons_zero, List.set_cons_succ, List.getElem_toArray, List.getElem_cons_zero, List.getElem_cons_succ])
          refine wpAnyH_ready (rs := [2]) (by kernel_rfl) (by simp) ?_
          refine AllReadyH.cons rfl (fun K hK => ?_) (AllReadyH.nil)
          have hq0 := bq.c0
          have hq1 := bq.c1
          have hr0 := bq.f0
          have hr1 := bq.f1
          go_simp
          clear hq0 hq1 hr0 hr1
          have hP := put2 WT (w.heap.size + 1 + 1) (.bool gz) (.slice pz nz cz)
          have hN := bq.stored (.bool gz) (.slice pz nz cz)
          generalize (WT.setCell ⟨w.heap.size + 1 + 1, 0, none⟩ (.bool gz)).setCell ⟨w.heap.size + 1 + 1, 1, none⟩ (.slice pz nz cz) = WX at hP hN ⊢
          replace hz := hz.put bq (by decide) hP
          replace hr := hr.put bq (by decide) hP
          replace bz := bz.put hP (by have := s1.out; have := s2.out; have := sz.out; omega)
          replace br := br.put hP (by have := s1.out; have := s2.out; omega)
          replace brr := brr.put hP (by omega)
          replace h0 := bel_put h0 (by omega) hP
          clear hP bq
          have bq := hN
          clear hN
          refine hK.out _ _ (⟨bz, br⟩) (fun _ => ?_)
          clear hK K
          (try simp only [Act.put, List.setIfInBounds_toArray, List.set_cons_zero, List.set_cons_succ, List.getElem_toArray, List.getElem_cons_zero, List.getElem_cons_succ])
          refine wpAnyH_done (by kernel_rfl) ?_ _
          refine still1_step rfl (fun K hK => ?_)
          have hq0 := brr.c0
          have hq1 := brr.c1
          have hr0 := brr.f0
          have hr1 := brr.f1
          go_simp
          clear hq0 hq1 hr0 hr1
          have hP := put2 WX (w.heap.size + 1 + 1 + 1) (.bool gr) (.slice pr nr cr)
          have hN := brr.stored (.bool gr) (.slice pr nr cr)
          generalize (WX.setCell ⟨w.heap.size + 1 + 1 + 1, 0, none⟩ (.bool gr)).setCell ⟨w.heap.size + 1 + 1 + 1, 1, none⟩ (.slice pr nr cr) = WY at hP hN ⊢
          replace hz := hz.put brr (by decide) hP
          replace hr := hr.put brr (by decide) hP
          replace bq := bq.put hP (by omega)
          replace h0 := bel_put h0 (by omega) hP
          clear hP brr bz br
          have brr := hN
          clear hN
          refine hK.out _ _ ?_
          clear hK K
          (try simp only [Act.put, List.setIfInBounds_toArray, List.set_cons_zero, List.set_cons_succ, List.getElem_toArray, List.getElem_cons_zero, List.getElem_cons_succ])
          refine then_code (by assumption) ?_
          go_light
          have e0 := bq.c0
          have e1 := bq.c1
          have e2 := brr.c0
          have e3 := brr.c1
          refine wp_ret ?_
          refine bodyPost_ret (v := .tuple #[.agg #[.bool gz, .slice pz nz cz], .agg #[.bool gr, .slice pr nr cr]]) (by simp [results, Try.results49, go_sem, e0, e1, e2, e3]) rfl ⟨_, _, rfl, ?_, ?_, h0⟩
          · rw [HQ.out.1]; exact hz
          · rw [HQ.out.2]; exact hr
        · have hbsg : b < 0 := by simpa using hgb.symm
          clear hgb
          have c10 := hsp.a.c0
          go_wp2_with (first
            | (go_at_call 27; (with_reducible refine (trim_z false _ qs Q (Q : Int) (by omega) (fun h => by cases h) (fun _ => by omega) hok.out HQv.out hql.out _ HRq.out).mono ?_); rintro e Wq ⟨u, rfl, hz, hb1⟩
               obtain ⟨gz, pz, nz, cz, rfl⟩ := hz.shape
               have hal : Below Wq.heap.size Wq (Wq.alloc (.cells #[.bool gz, .slice pz nz cz] 28)) := (Below.refl _ _).alloc (Nat.le_refl _) _
               have bz2 := Lib.hid (Bx.new Wq 28 (.bool gz) (.slice pz nz cz))
               have hsp2 := Lib.hid ((hsp.go hb1).go hal)
               have br2 := Lib.hid ((br.go hb1).go hal)
               have hr2 := Lib.hid ((hr.go hb1).go hal)
               have hmz2 := Lib.hid ((hmz.go hb1).go hal)
               have hz2 := Lib.hid (hz.go hal)
               have sz := Lib.hid (show RB < Wq.heap.size from (br.go hb1).lt)
               have cr0 := (br.go hb1).c0
               have cr1 := (br.go hb1).c1
               have c11 := (hsp.go hb1).a.c0
               have c21 := (hsp.go hb1).b.c0
               have hlt1 : RB < Wq.heap.size := (br.go hb1).lt
               have hlt2 : w.heap.size < Wq.heap.size := (hsp.go hb1).a.lt
               have hlt3 : w.heap.size + 1 < Wq.heap.size := (hsp.go hb1).b.lt
               clear hb1 hal c10 HRq hz hsp br hr hmz))
          have hsp := hsp2.out
          have br := br2.out
          have hr := hr2.out
          have hmz := hmz2.out
          have hz := hz2.out
          have bz := bz2.out
          clear hsp2 br2 hr2 hmz2 hz2 bz2 cr0 cr1 c11 c21 hlt1 hlt2 hlt3
          generalize Wq.alloc (.cells #[.bool gz, .slice pz nz cz] 28) = WT at hsp br hr hmz hz bz ⊢
          generalize Wq.heap.size = ZB at bz sz ⊢
          have HQ := Lib.hid ((eu_pos HMM.out hR.out hXQ2.out hasg).2 hbsg)
          have hsz : Sm (Q : Int) := HSQ.out _ (by omega)
          have c20 := hsp.b.c0
          have cz0 := bz.c0
          have cz1 := bz.c1
          go_wp2_with (first
            | (go_at_call 9; (with_reducible refine (zminus_any _ _ hsz _ hz).mono ?_); rintro e Wm ⟨u, rfl, hn, hb1⟩
               obtain ⟨gn, pn, nn, cn, rfl⟩ := hn.shape
               replace hsp := hsp.go hb1
               replace bz := bz.go hb1
               replace br := br.go hb1
               replace hr := hr.go hb1
               clear hb1 cz0 cz1 c20 hz
               have cz0 := bz.c0
               have cz1 := bz.c1
               have fz0 := bz.f0
               have fz1 := bz.f1))
          clear cz0 cz1 fz0 fz1
          have hP := put2 Wm ZB (.bool gn) (.slice pn nn cn)
          have hN := bz.stored (.bool gn) (.slice pn nn cn)
          generalize (Wm.setCell ⟨ZB, 0, none⟩ (.bool gn)).setCell ⟨ZB, 1, none⟩ (.slice pn nn cn) = WZ at hP hN ⊢
          replace hsp := hsp.put hP (by have := s1.out; have := s2.out; have := sz.out; omega) (by have := s2.out; have := sz.out; omega)
          replace hr := hr.put bz (by decide) hP
          have hz := hn.put bz (by decide) hP
          replace br := br.put hP (by have := sz.out; omega)
          clear hP bz hn
          have bz := hN
          clear hN
          have h0 := hsp.low
          have bq := hsp.q
          have brr := hsp.r
          clear hsp
          refine wp_region_last (S := fun W' => Bx W' (ZB) 28 (.bool gn) (.slice pn nn cn) ∧ Bx W' (RB) 28 (.bool gr) (.slice pr nr cr)) (m := 3) (by kernel_rfl) (by kernel_rfl) (by kernel_rfl) (⟨bz.drew, br.drew⟩) (fun _ => ?_)
          replace bz := bz.drew
          replace br := br.drew
          replace hz := hz.drew
          replace hr := hr.drew
          replace h0 := Below.drew h0
          replace bq := bq.drew
          replace brr := brr.drew
          generalize WZ.drew = WZ at bz br hz hr h0 bq brr ⊢
          refine wpAnyH_take (i := 0) (v := ?_) rfl (by kernel_rfl) (by kernel_rfl) (by kernel_rfl) (fun _ _ _ h => h) (Or.inl ⟨by kernel_rfl, ?_⟩) (⟨bz, br⟩) ?_
          rotate_left
          focus (intro W' hSw; obtain ⟨hx0, hx1⟩ := hSw; have hc0 := hx0.c0; have hc1 := hx0.c1; have hc2 := hx1.c0; have hc3 := hx1.c1; clear hx0 hx1; go_simp; (try with_reducible rfl))
          (try simp only [Act.put, List.setIfInBounds_toArray, List.set_cons_zero, List.set_cons_succ, List.getElem_toArray, List.getElem_cons_zero, List.getElem_cons_succ])
          refine wpAnyH_take (i := 1) (v := ?_) rfl (by kernel_rfl) (by kernel_rfl) (by kernel_rfl) (fun _ _ _ h => h) (Or.inl ⟨by kernel_rfl, ?_⟩) (⟨bz, br⟩) ?_
          rotate_left
          focus (intro W' hSw; obtain ⟨hx0, hx1⟩ := hSw; have hc0 := hx0.c0; have hc1 := hx0.c1; have hc2 := hx1.c0; have hc3 := hx1.c1; clear hx0 hx1; go_simp; (try with_reducible rfl))
          (try simp only [Act.put, List.setIfInBounds_toArray, List.set_cons_zero, List.set_cons_succ, List.getElem_toArray, List.getElem_cons_zero, List.getElem_cons_succ])
          refine wpAnyH_ready (rs := [2]) (by kernel_rfl) (by simp) ?_
          refine AllReadyH.cons rfl (fun K hK => ?_) (AllReadyH.nil)
          have hq0 := bq.c0
          have hq1 := bq.c1
          have hr0 := bq.f0
          have hr1 := bq.f1
          go_simp
          clear hq0 hq1 hr0 hr1
          have hP := put2 WZ (w.heap.size + 1 + 1) (.bool gn) (.slice pn nn cn)
          have hN := bq.stored (.bool gn) (.slice pn nn cn)
          generalize (WZ.setCell ⟨w.heap.size + 1 + 1, 0, none⟩ (.bool gn)).setCell ⟨w.heap.size + 1 + 1, 1, none⟩ (.slice pn nn cn) = WX at hP hN ⊢
          replace hz := hz.put bq (by decide) hP
          replace hr := hr.put bq (by decide) hP
          replace bz := bz.put hP (by have := s1.out; have := s2.out; have := sz.out; omega)
          replace br := br.put hP (by have := s1.out; have := s2.out; omega)
          replace brr := brr.put hP (by omega)
          replace h0 := bel_put h0 (by omega) hP
          clear hP bq
          have bq := hN
          clear hN
          refine hK.out _ _ (⟨bz, br⟩) (fun _ => ?_)
          clear hK K
          (try simp only [Act.put, List.setIfInBounds_toArray, List.set_cons_zero, List.set_cons_succ, List.getElem_toArray, List.getElem_cons_zero, List.getElem_cons_succ])
          refine wpAnyH_done (by kernel_rfl) ?_ _
          refine still1_step rfl (fun K hK => ?_)
          have hq0 := brr.c0
          have hq1 := brr.c1
          have hr0 := brr.f0
          have hr1 := brr.f1
          go_simp
          clear hq0 hq1 hr0 hr1
          have hP := put2 WX (w.heap.size + 1 + 1 + 1) (.bool gr) (.slice pr nr cr)
          have hN := brr.stored (.bool gr) (.slice pr nr cr)
          generalize (WX.setCell ⟨w.heap.size + 1 + 1 + 1, 0, none⟩ (.bool gr)).setCell ⟨w.heap.size + 1 + 1 + 1, 1, none⟩ (.slice pr nr cr) = WY at hP hN ⊢
          replace hz := hz.put brr (by decide) hP
          replace hr := hr.put brr (by decide) hP
          replace bq := bq.put hP (by omega)
          replace h0 := bel_put h0 (by omega) hP
          clear hP brr bz br
          have brr := hN
          clear hN
          refine hK.out _ _ ?_
          clear hK K
          (try simp only [Act.put, List.setIfInBounds_toArray, List.set_cons_zero, List.set_cons_succ, List.getElem_toArray, List.getElem_cons_zero, List.getElem_cons_succ])
          refine then_code (by assumption) ?_
          go_light
          have e0 := bq.c0
          have e1 := bq.c1
          have e2 := brr.c0
          have e3 := brr.c1
          refine wp_ret ?_
          refine bodyPost_ret (v := .tuple #[.agg #[.bool gn, .slice pn nn cn], .agg #[.bool gr, .slice pr nr cr]]) (by simp [results, Try.results49, go_sem, e0, e1, e2, e3]) rfl ⟨_, _, rfl, ?_, ?_, h0⟩
          · rw [HQ.out.1]; exact hz
          · rw [HQ.out.2]; exact hr
      · have hasg : a < 0 := by simpa using hga.symm
        clear hga
        rcases Nat.eq_zero_or_pos R with hRz | hRz
        · have hk2 : decide (0 < cmpI (R : Int) 0) = false := by have := cmpI_pos (a := (R : Int)) (b := 0); exact decide_eq_false (by omega)
          have HRZ := Lib.hid hRz
          clear hRz
          cases gb
          · have hbsg : 0 ≤ b := by simp at hgb; omega
            clear hgb
            have c10 := hsp.a.c0
            go_wp2_with (first
              | (go_at_call 27; (with_reducible refine (trim_z true _ qs Q (-(Q : Int)) (by omega) (fun _ => by omega) (fun h => by cases h) hok.out HQv.out hql.out _ HRq.out).mono ?_); rintro e Wq ⟨u, rfl, hz, hb1⟩
                 obtain ⟨gz, pz, nz, cz, rfl⟩ := hz.shape
                 have hal : Below Wq.heap.size Wq (Wq.alloc (.cells #[.bool gz, .slice pz nz cz] 28)) := (Below.refl _ _).alloc (Nat.le_refl _) _
                 have bz2 := Lib.hid (Bx.new Wq 28 (.bool gz) (.slice pz nz cz))
                 have hsp2 := Lib.hid ((hsp.go hb1).go hal)
                 have br2 := Lib.hid ((br.go hb1).go hal)
                 have hr2 := Lib.hid ((hr.go hb1).go hal)
                 have hmz2 := Lib.hid ((hmz.go hb1).go hal)
                 have hz2 := Lib.hid (hz.go hal)
                 have sz := Lib.hid (show RB < Wq.heap.size from (br.go hb1).lt)
                 have cr0 := (br.go hb1).c0
                 have cr1 := (br.go hb1).c1
                 have c11 := (hsp.go hb1).a.c0
                 have c21 := (hsp.go hb1).b.c0
                 have hlt1 : RB < Wq.heap.size := (br.go hb1).lt
                 have hlt2 : w.heap.size < Wq.heap.size := (hsp.go hb1).a.lt
                 have hlt3 : w.heap.size + 1 < Wq.heap.size := (hsp.go hb1).b.lt
                 clear hb1 hal c10 HRq hz hsp br hr hmz))
            have hsp := hsp2.out
            have br := br2.out
            have hr := hr2.out
            have hmz := hmz2.out
            have hz := hz2.out
            have bz := bz2.out
            clear hsp2 br2 hr2 hmz2 hz2 bz2 cr0 cr1 c11 c21 hlt1 hlt2 hlt3
            generalize Wq.alloc (.cells #[.bool gz, .slice pz nz cz] 28) = WT at hsp br hr hmz hz bz ⊢
            generalize Wq.heap.size = ZB at bz sz ⊢
            have HQ := Lib.hid ((eu_zero HMM.out hR.out hXQ2.out hasg HRZ.out).1 hbsg)
            have hsz : Sm (-(Q : Int)) := HSQ.out _ (by omega)
            have cr0 := br.c0
            have cr1 := br.c1
            go_wp2_with (first
              | (go_at_call 20; (with_reducible refine (sign_any _ R _ hr).mono ?_); rintro e WT ⟨rfl, hb1⟩
                 replace hsp := hsp.go hb1
                 replace br := br.go hb1
                 replace hr := hr.go hb1
                 replace hmz := hmz.go hb1
                 replace hz := hz.go hb1
                 replace bz := bz.go hb1
                 clear hb1 cr0 cr1
                 have c21 := hsp.b.c0
                 have cz0 := bz.c0
                 have cz1 := bz.c1))
            clear c21 cz0 cz1
            have c20 := hsp.b.c0
            have cz0 := bz.c0
            have cz1 := bz.c1
            go_wp2
            clear c20 cz0 cz1
            have h0 := hsp.low
            have bq := hsp.q
            have brr := hsp.r
            clear hsp
            refine wp_region_last (S := fun W' => Bx W' (ZB) 28 (.bool gz) (.slice pz nz cz) ∧ Bx W' (RB) 28 (.bool gr) (.slice pr nr cr)) (m := 3) (by kernel_rfl) (by kernel_rfl) (by kernel_rfl) (⟨bz.drew, br.drew⟩) (fun _ => ?_)
            replace bz := bz.drew
            replace br := br.drew
            replace hz := hz.drew
            replace hr := hr.drew
            replace h0 := Below.drew h0
            replace bq := bq.drew
            replace brr := brr.drew
            generalize WT.drew = WT at bz br hz hr h0 bq brr ⊢
            refine wpAnyH_take (i := 0) (v := ?_) rfl (by kernel_rfl) (by kernel_rfl) (by kernel_rfl) (fun _ _ _ h => h) (Or.inl ⟨by kernel_rfl, ?_⟩) (⟨bz, br⟩) ?_
            rotate_left
            focus (intro W' hSw; obtain ⟨hx0, hx1⟩ := hSw; have hc0 := hx0.c0; have hc1 := hx0.c1; have hc2 := hx1.c0; have hc3 := hx1.c1; clear hx0 hx1; go_simp; (try with_reducible rfl))
            (try simp only [Act.put, List.setIfInBounds_toArray, List.set_cons_zero, List.set_cons_succ, List.getElem_toArray, List.getElem_cons_zero, List.getElem_cons_succ])
            refine wpAnyH_take (i := 1) (v := ?_) rfl (by kernel_rfl) (by kernel_rfl) (by kernel_rfl) (fun _ _ _ h => h) (Or.inl ⟨by kernel_rfl, ?_⟩) (⟨bz, br⟩) ?_
            rotate_left
            focus (intro W' hSw; obtain ⟨hx0, hx1⟩ := hSw; have hc0 := hx0.c0; have hc1 := hx0.c1; have hc2 := hx1.c0; have hc3 := hx1.c1; clear hx0 hx1; go_simp; (try with_reducible rfl))
            (try simp only [Act.put, List.setIfInBounds_toArray, List.set_cons_zero, List.set_cons_succ, List.getElem_toArray, List.getElem_cons_zero, List.getElem_cons_succ])
            refine wpAnyH_ready (rs := [2]) (by kernel_rfl) (by simp) ?_
            refine AllReadyH.cons rfl (fun K hK => ?_) (AllReadyH.nil)
            have hq0 := bq.c0
            have hq1 := bq.c1
            have hr0 := bq.f0
            have hr1 := bq.f1
            go_simp
            clear hq0 hq1 hr0 hr1
            have hP := put2 WT (w.heap.size + 1 + 1) (.bool gz) (.slice pz nz cz)
            have hN := bq.stored (.bool gz) (.slice pz nz cz)
            generalize (WT.setCell ⟨w.heap.size + 1 + 1, 0, none⟩ (.bool gz)).setCell ⟨w.heap.size + 1 + 1, 1, none⟩ (.slice pz nz cz) = WX at hP hN ⊢
            replace hz := hz.put bq (by decide) hP
            replace hr := hr.put bq (by decide) hP
            replace bz := bz.put hP (by have := s1.out; have := s2.out; have := sz.out; omega)
            replace br := br.put hP (by have := s1.out; have := s2.out; omega)
            replace brr := brr.put hP (by omega)
            replace h0 := bel_put h0 (by omega) hP
            clear hP bq
            have bq := hN
            clear hN
            refine hK.out _ _ (⟨bz, br⟩) (fun _ => ?_)
            clear hK K
            (try simp only [Act.put, List.setIfInBounds_toArray, List.set_cons_zero, List.set_cons_succ, List.getElem_toArray, List.getElem_cons_zero, List.getElem_cons_succ])
            refine wpAnyH_done (by kernel_rfl) ?_ _
            refine still1_step rfl (fun K hK => ?_)
            have hq0 := brr.c0
            have hq1 := brr.c1
            have hr0 := brr.f0
            have hr1 := brr.f1
            go_simp
            clear hq0 hq1 hr0 hr1
            have hP := put2 WX (w.heap.size + 1 + 1 + 1) (.bool gr) (.slice pr nr cr)
            have hN := brr.stored (.bool gr) (.slice pr nr cr)
            generalize (WX.setCell ⟨w.heap.size + 1 + 1 + 1, 0, none⟩ (.bool gr)).setCell ⟨w.heap.size + 1 + 1 + 1, 1, none⟩ (.slice pr nr cr) = WY at hP hN ⊢
            replace hz := hz.put brr (by decide) hP
            replace hr := hr.put brr (by decide) hP
            replace bq := bq.put hP (by omega)
            replace h0 := bel_put h0 (by omega) hP
            clear hP brr bz br
            have brr := hN
            clear hN
            refine hK.out _ _ ?_
            clear hK K
            (try simp only [Act.put, List.setIfInBounds_toArray, List.set_cons_zero, List.set_cons_succ, List.getElem_toArray, List.getElem_cons_zero, List.getElem_cons_succ])
            refine then_code (by assumption) ?_
            go_light
            have e0 := bq.c0
            have e1 := bq.c1
            have e2 := brr.c0
            have e3 := brr.c1
            refine wp_ret ?_
            refine bodyPost_ret (v := .tuple #[.agg #[.bool gz, .slice pz nz cz], .agg #[.bool gr, .slice pr nr cr]]) (by simp [results, Try.results49, go_sem, e0, e1, e2, e3]) rfl ⟨_, _, rfl, ?_, ?_, h0⟩
            · rw [HQ.out.1]; exact hz
            · rw [HQ.out.2]; exact hr
          · have hbsg : b < 0 := by simpa using hgb.symm
            clear hgb
            have c10 := hsp.a.c0
            go_wp2_with (first
              | (go_at_call 27; (with_reducible refine (trim_z true _ qs Q (-(Q : Int)) (by omega) (fun _ => by omega) (fun h => by cases h) hok.out HQv.out hql.out _ HRq.out).mono ?_); rintro e Wq ⟨u, rfl, hz, hb1⟩
                 obtain ⟨gz, pz, nz, cz, rfl⟩ := hz.shape
                 have hal : Below Wq.heap.size Wq (Wq.alloc (.cells #[.bool gz, .slice pz nz cz] 28)) := (Below.refl _ _).alloc (Nat.le_refl _) _
                 have bz2 := Lib.hid (Bx.new Wq 28 (.bool gz) (.slice pz nz cz))
                 have hsp2 := Lib.hid ((hsp.go hb1).go hal)
                 have br2 := Lib.hid ((br.go hb1).go hal)
                 have hr2 := Lib.hid ((hr.go hb1).go hal)
                 have hmz2 := Lib.hid ((hmz.go hb1).go hal)
                 have hz2 := Lib.hid (hz.go hal)
                 have sz := Lib.hid (show RB < Wq.heap.size from (br.go hb1).lt)
                 have cr0 := (br.go hb1).c0
                 have cr1 := (br.go hb1).c1
                 have c11 := (hsp.go hb1).a.c0
                 have c21 := (hsp.go hb1).b.c0
                 have hlt1 : RB < Wq.heap.size := (br.go hb1).lt
                 have hlt2 : w.heap.size < Wq.heap.size := (hsp.go hb1).a.lt
                 have hlt3 : w.heap.size + 1 < Wq.heap.size := (hsp.go hb1).b.lt
                 clear hb1 hal c10 HRq hz hsp br hr hmz))
            have hsp := hsp2.out
            have br := br2.out
            have hr := hr2.out
            have hmz := hmz2.out
            have hz := hz2.out
            have bz := bz2.out
            clear hsp2 br2 hr2 hmz2 hz2 bz2 cr0 cr1 c11 c21 hlt1 hlt2 hlt3
            generalize Wq.alloc (.cells #[.bool gz, .slice pz nz cz] 28) = WT at hsp br hr hmz hz bz ⊢
            generalize Wq.heap.size = ZB at bz sz ⊢
            have HQ := Lib.hid ((eu_zero HMM.out hR.out hXQ2.out hasg HRZ.out).2 hbsg)
            have hsz : Sm (-(Q : Int)) := HSQ.out _ (by omega)
            have cr0 := br.c0
            have cr1 := br.c1
            go_wp2_with (first
              | (go_at_call 20; (with_reducible refine (sign_any _ R _ hr).mono ?_); rintro e WT ⟨rfl, hb1⟩
                 replace hsp := hsp.go hb1
                 replace br := br.go hb1
                 replace hr := hr.go hb1
                 replace hmz := hmz.go hb1
                 replace hz := hz.go hb1
                 replace bz := bz.go hb1
                 clear hb1 cr0 cr1
                 have c21 := hsp.b.c0
                 have cz0 := bz.c0
                 have cz1 := bz.c1))
            clear c21 cz0 cz1
            have c20 := hsp.b.c0
            have cz0 := bz.c0
            have cz1 := bz.c1
            go_wp2_with (first
              | (go_at_call 9; (with_reducible refine (zminus_any _ _ hsz _ hz).mono ?_); rintro e Wm ⟨u, rfl, hn, hb1⟩
                 obtain ⟨gn, pn, nn, cn, rfl⟩ := hn.shape
                 replace hsp := hsp.go hb1
                 replace bz := bz.go hb1
                 replace br := br.go hb1
                 replace hr := hr.go hb1
                 clear hb1 cz0 cz1 c20 hz
                 have cz0 := bz.c0
                 have cz1 := bz.c1
                 have fz0 := bz.f0
                 have fz1 := bz.f1))
            clear cz0 cz1 fz0 fz1
            have hP := put2 Wm ZB (.bool gn) (.slice pn nn cn)
            have hN := bz.stored (.bool gn) (.slice pn nn cn)
            generalize (Wm.setCell ⟨ZB, 0, none⟩ (.bool gn)).setCell ⟨ZB, 1, none⟩ (.slice pn nn cn) = WZ at hP hN ⊢
            replace hsp := hsp.put hP (by have := s1.out; have := s2.out; have := sz.out; omega) (by have := s2.out; have := sz.out; omega)
            replace hr := hr.put bz (by decide) hP
            have hz := hn.put bz (by decide) hP
            replace br := br.put hP (by have := sz.out; omega)
            clear hP bz hn
            have bz := hN
            clear hN
            have h0 := hsp.low
            have bq := hsp.q
            have brr := hsp.r
            clear hsp
            refine wp_region_last (S := fun W' => Bx W' (ZB) 28 (.bool gn) (.slice pn nn cn) ∧ Bx W' (RB) 28 (.bool gr) (.slice pr nr cr)) (m := 3) (by kernel_rfl) (by kernel_rfl) (by kernel_rfl) (⟨bz.drew, br.drew⟩) (fun _ => ?_)
            replace bz := bz.drew
            replace br := br.drew
            replace hz := hz.drew
            replace hr := hr.drew
            replace h0 := Below.drew h0
            replace bq := bq.drew
            replace brr := brr.drew
            generalize WZ.drew = WZ at bz br hz hr h0 bq brr ⊢
            refine wpAnyH_take (i := 0) (v := ?_) rfl (by kernel_rfl) (by kernel_rfl) (by kernel_rfl) (fun _ _ _ h => h) (Or.inl ⟨by kernel_rfl, ?_⟩) (⟨bz, br⟩) ?_
            rotate_left
            focus (intro W' hSw; obtain ⟨hx0, hx1⟩ := hSw; have hc0 := hx0.c0; have hc1 := hx0.c1; have hc2 := hx1.c0; have hc3 := hx1.c1; clear hx0 hx1; go_simp; (try with_reducible rfl))
            (try simp only [Act.put, List.setIfInBounds_toArray, List.set_cons_zero, List.set_cons_succ, List.getElem_toArray, List.getElem_cons_zero, List.getElem_cons_succ])
            refine wpAnyH_take (i := 1) (v := ?_) rfl (by kernel_rfl) (by kernel_rfl) (by kernel_rfl) (fun _ _ _ h => h) (Or.inl ⟨by kernel_rfl, ?_⟩) (⟨bz, br⟩) ?_
            rotate_left
            focus (intro W' hSw; obtain ⟨hx0, hx1⟩ := hSw; have hc0 := hx0.c0; have hc1 := hx0.c1; have hc2 := hx1.c0; have hc3 := hx1.c1; clear hx0 hx1; go_simp; (try with_reducible rfl))
            (try simp only [Act.put, List.setIfInBounds_toArray, List.set_cons_zero, List.set_cons_succ, List.getElem_toArray, List.getElem_cons_zero, List.getElem_cons_succ])
            refine wpAnyH_ready (rs := [2]) (by kernel_rfl) (by simp) ?_
            refine AllReadyH.cons rfl (fun K hK => ?_) (AllReadyH.nil)
            have hq0 := bq.c0
            have hq1 := bq.c1
            have hr0 := bq.f0
            have hr1 := bq.f1
            go_simp
            clear hq0 hq1 hr0 hr1
            have hP := put2 WZ (w.heap.size + 1 + 1) (.bool gn) (.slice pn nn cn)
            have hN := bq.stored (.bool gn) (.slice pn nn cn)
            generalize (WZ.setCell ⟨w.heap.size + 1 + 1, 0, none⟩ (.bool gn)).setCell ⟨w.heap.size + 1 + 1, 1, none⟩ (.slice pn nn cn) = WX at hP hN ⊢
            replace hz := hz.put bq (by decide) hP
            replace hr := hr.put bq (by decide) hP
            replace bz := bz.put hP (by have := s1.out; have := s2.out; have := sz.out; omega)
            replace br := br.put hP (by have := s1.out; have := s2.out; omega)
            replace brr := brr.put hP (by omega)
            replace h0 := bel_put h0 (by omega) hP
            clear hP bq
            have bq := hN
            clear hN
            refine hK.out _ _ (⟨bz, br⟩) (fun _ => ?_)
            clear hK K
            (try simp only [Act.put, List.setIfInBounds_toArray, List.set_cons_zero, List.set_cons_succ, List.getElem_toArray, List.getElem_cons_zero, List.getElem_cons_succ])
            refine wpAnyH_done (by kernel_rfl) ?_ _
            refine still1_step rfl (fun K hK => ?_)
            have hq0 := brr.c0
            have hq1 := brr.c1
            have hr0 := brr.f0
            have hr1 := brr.f1
            go_simp
            clear hq0 hq1 hr0 hr1
            have hP := put2 WX (w.heap.size + 1 + 1 + 1) (.bool gr) (.slice pr nr cr)
            have hN := brr.stored (.bool gr) (.slice pr nr cr)
            generalize (WX.setCell ⟨w.heap.size + 1 + 1 + 1, 0, none⟩ (.bool gr)).setCell ⟨w.heap.size + 1 + 1 + 1, 1, none⟩ (.slice pr nr cr) = WY at hP hN ⊢
            replace hz := hz.put brr (by decide) hP
            replace hr := hr.put brr (by decide) hP
            replace bq := bq.put hP (by omega)
            replace h0 := bel_put h0 (by omega) hP
            clear hP brr bz br
            have brr := hN
            clear hN
            refine hK.out _ _ ?_
            clear hK K
            (try simp only [Act.put, List.setIfInBounds_toArray, List.set_cons_zero, List.set_cons_succ, List.getElem_toArray, List.getElem_cons_zero, List.getElem_cons_succ])
            refine then_code (by assumption) ?_
            go_light
            have e0 := bq.c0
            have e1 := bq.c1
            have e2 := brr.c0
            have e3 := brr.c1
            refine wp_ret ?_
            refine bodyPost_ret (v := .tuple #[.agg #[.bool gn, .slice pn nn cn], .agg #[.bool gr, .slice pr nr cr]]) (by simp [results, Try.results49, go_sem, e0, e1, e2, e3]) rfl ⟨_, _, rfl, ?_, ?_, h0⟩
            · rw [HQ.out.1]; exact hz
            · rw [HQ.out.2]; exact hr
        · have hk2 : decide (0 < cmpI (R : Int) 0) = true := by have := cmpI_pos (a := (R : Int)) (b := 0); exact decide_eq_true (by omega)
          have hgb2 := Lib.hid hgb
          clear hgb
          have c10 := hsp.a.c0
          go_wp2_with (first
            | (go_at_call 27; (with_reducible refine (trim_z true _ qs Q (-(Q : Int)) (by omega) (fun _ => by omega) (fun h => by cases h) hok.out HQv.out hql.out _ HRq.out).mono ?_); rintro e Wq ⟨u, rfl, hz, hb1⟩
               obtain ⟨gz, pz, nz, cz, rfl⟩ := hz.shape
               have hal : Below Wq.heap.size Wq (Wq.alloc (.cells #[.bool gz, .slice pz nz cz] 28)) := (Below.refl _ _).alloc (Nat.le_refl _) _
               have bz2 := Lib.hid (Bx.new Wq 28 (.bool gz) (.slice pz nz cz))
               have hsp2 := Lib.hid ((hsp.go hb1).go hal)
               have br2 := Lib.hid ((br.go hb1).go hal)
               have hr2 := Lib.hid ((hr.go hb1).go hal)
               have hmz2 := Lib.hid ((hmz.go hb1).go hal)
               have hz2 := Lib.hid (hz.go hal)
               have sz := Lib.hid (show RB < Wq.heap.size from (br.go hb1).lt)
               have cr0 := (br.go hb1).c0
               have cr1 := (br.go hb1).c1
               have c11 := (hsp.go hb1).a.c0
               have c21 := (hsp.go hb1).b.c0
               have hlt1 : RB < Wq.heap.size := (br.go hb1).lt
               have hlt2 : w.heap.size < Wq.heap.size := (hsp.go hb1).a.lt
               have hlt3 : w.heap.size + 1 < Wq.heap.size := (hsp.go hb1).b.lt
               clear hb1 hal c10 HRq hz hsp br hr hmz))
          have hsp := hsp2.out
          have br := br2.out
          have hr := hr2.out
          have hmz := hmz2.out
          have hz := hz2.out
          have bz := bz2.out
          clear hsp2 br2 hr2 hmz2 hz2 bz2 cr0 cr1 c11 c21 hlt1 hlt2 hlt3
          generalize Wq.alloc (.cells #[.bool gz, .slice pz nz cz] 28) = WT at hsp br hr hmz hz bz ⊢
          generalize Wq.heap.size = ZB at bz sz ⊢
          have hsz : Sm (-(Q : Int)) := HSQ.out _ (by omega)
          have cr0 := br.c0
          have cr1 := br.c1
          go_wp2_with (first
            | (go_at_call 20; (with_reducible refine (sign_any _ R _ hr).mono ?_); rintro e WT ⟨rfl, hb1⟩
               replace hsp := hsp.go hb1
               replace br := br.go hb1
               replace hr := hr.go hb1
               replace hmz := hmz.go hb1
               replace hz := hz.go hb1
               replace bz := bz.go hb1
               clear hb1 cr0 cr1
               have c21 := hsp.b.c0
               have cz0 := bz.c0
               have cz1 := bz.c1))
          clear c21 cz0 cz1
          have hbm := hsp.m
          refine wp_region_last (S := fun W' => Bx W' (M) 28 (.bool gm) (.slice pm nm cm) ∧ Bx W' (RB) 28 (.bool gr) (.slice pr nr cr)) (m := 7) (by kernel_rfl) (by kernel_rfl) (by kernel_rfl) (⟨hbm.drew, br.drew⟩) (fun _ => ?_)
          replace hsp := hsp.drew
          replace br := br.drew
          replace hbm := hbm.drew
          replace hmz := hmz.drew
          replace hr := hr.drew
          replace hz := hz.drew
          replace bz := bz.drew
          generalize WT.drew = WT at hsp br hbm hmz hr hz bz ⊢
          refine wpAnyH_take (i := 3) (v := ?_) rfl (by kernel_rfl) (by kernel_rfl) (by kernel_rfl) (fun _ _ _ h => h) (Or.inl ⟨by kernel_rfl, ?_⟩) (⟨hbm, br⟩) ?_
          rotate_left
          focus (intro W' hSw; obtain ⟨hx0, hx1⟩ := hSw; have hc0 := hx0.c0; have hc1 := hx0.c1; have hc2 := hx1.c0; have hc3 := hx1.c1; clear hx0 hx1; go_simp; (try with_reducible rfl))
          (try simp only [Act.put, List.setIfInBounds_toArray, List.set_cons_zero, List.set_cons_succ, List.getElem_toArray, List.getElem_cons_zero, List.getElem_cons_succ])
          refine wpAnyH_take (i := 4) (v := ?_) rfl (by kernel_rfl) (by kernel_rfl) (by kernel_rfl) (fun _ _ _ h => h) (Or.inl ⟨by kernel_rfl, ?_⟩) (⟨hbm, br⟩) ?_
          rotate_left
          focus (intro W' hSw; obtain ⟨hx0, hx1⟩ := hSw; have hc0 := hx0.c0; have hc1 := hx0.c1; have hc2 := hx1.c0; have hc3 := hx1.c1; clear hx0 hx1; go_simp; (try with_reducible rfl))
          (try simp only [Act.put, List.setIfInBounds_toArray, List.set_cons_zero, List.set_cons_succ, List.getElem_toArray, List.getElem_cons_zero, List.getElem_cons_succ])
          refine wpAnyH_ready (rs := [0, 1]) (by kernel_rfl) (by simp) ?_
          refine AllReadyH.cons rfl (fun K hK => ?_) (AllReadyH.cons rfl (fun K hK => ?_) (AllReadyH.nil))
          · have cz0 := bz.c0
            have cz1 := bz.c1
            go_simp
            clear cz0 cz1
            refine hK.out _ _ (⟨hbm, br⟩) (fun _ => ?_)
            clear hK K
            (try simp only [Act.put, List.setIfInBounds_toArray, List.set_cons_zero, List.set_cons_succ, List.getElem_toArray, List.getElem_cons_zero, List.getElem_cons_succ])
            refine wpAnyH_ready (rs := [1]) (by kernel_rfl) (by simp) ?_
            refine AllReadyH.cons rfl (fun K hK => ?_) (AllReadyH.nil)
            go_simp
            go_at_call 10; refine (i_any 1 (by omega) (by omega) _).mono ?_
            rintro e WT ⟨u, rfl, hi1, hb1⟩
            obtain ⟨gi, pi, ni, ci, rfl⟩ := hi1.shape
            replace hsp := hsp.go hb1
            replace br := br.go hb1
            replace hbm := hbm.go hb1
            replace hmz := hmz.go hb1
            replace hr := hr.go hb1
            replace hz := hz.go hb1
            replace bz := bz.go hb1
            clear hb1
            refine hK.out _ _ (⟨hbm, br⟩) (fun _ => ?_)
            clear hK K
            (try simp only [Act.put, List.setIfInBounds_toArray, List.set_cons_zero, List.set_cons_succ, List.getElem_toArray, List.getElem_cons_zero, List.getElem_cons_succ])
            refine wpAnyH_ready (rs := [2]) (by kernel_rfl) (by simp) ?_
            refine AllReadyH.cons rfl (fun K hK => ?_) (AllReadyH.nil)
            go_simp
            go_at_call 8; refine (zless_any _ _ _ _ hsz hs1 _ hz hi1).mono ?_
            rintro e Ws ⟨u, rfl, hs, hb1⟩
            obtain ⟨gs, ps, ns, cs, rfl⟩ := hs.shape
            replace hsp := hsp.go hb1
            replace br := br.go hb1
            replace hbm := hbm.go hb1
            replace hmz := hmz.go hb1
            replace hr := hr.go hb1
            replace hz := hz.go hb1
            replace bz := bz.go hb1
            clear hb1
            refine hK.out _ _ (⟨hbm, br⟩) (fun _ => ?_)
            clear hK K
            (try simp only [Act.put, List.setIfInBounds_toArray, List.set_cons_zero, List.set_cons_succ, List.getElem_toArray, List.getElem_cons_zero, List.getElem_cons_succ])
            refine wpAnyH_ready (rs := [5]) (by kernel_rfl) (by simp) ?_
            refine AllReadyH.cons rfl (fun K hK => ?_) (AllReadyH.nil)
            go_simp
            go_at_call 8; refine (zless_any _ _ _ _ hsmm hsR _ hmz hr).mono ?_
            rintro e Wv ⟨u, rfl, hv, hb1⟩
            obtain ⟨gv, pv, nv, cv, rfl⟩ := hv.shape
            replace hsp := hsp.go hb1
            replace br := br.go hb1
            replace hbm := hbm.go hb1
            replace bz := bz.go hb1
            replace hs := hs.go hb1
            clear hb1
            refine hK.out _ _ (⟨hbm, br⟩) (fun _ => ?_)
            clear hK K
            (try simp only [Act.put, List.setIfInBounds_toArray, List.set_cons_zero, List.set_cons_succ, List.getElem_toArray, List.getElem_cons_zero, List.getElem_cons_succ])
            refine wpAnyH_ready (rs := [6]) (by kernel_rfl) (by simp) ?_
            refine AllReadyH.cons rfl (fun K hK => ?_) (AllReadyH.nil)
            have hq0 := bz.c0
            have hq1 := bz.c1
            have hr0 := bz.f0
            have hr1 := bz.f1
            go_simp
            clear hq0 hq1 hr0 hr1
            have hP := put2 Wv ZB (.bool gs) (.slice ps ns cs)
            have hN := bz.stored (.bool gs) (.slice ps ns cs)
            generalize (Wv.setCell ⟨ZB, 0, none⟩ (.bool gs)).setCell ⟨ZB, 1, none⟩ (.slice ps ns cs) = WP at hP hN ⊢
            replace hsp := hsp.put hP (by have := s1.out; have := s2.out; have := sz.out; omega) (by have := s2.out; have := sz.out; omega)
            replace hs := hs.put bz (by decide) hP
            replace br := br.put hP (by have := sz.out; omega)
            replace hbm := hbm.put hP (by have := s2.out; have := sz.out; omega)
            replace hv := hv.put bz (by decide) hP
            clear hP bz
            have bz := hN
            clear hN
            refine hK.out _ _ (⟨hbm, br⟩) (fun _ => ?_)
            clear hK K
            (try simp only [Act.put, List.setIfInBounds_toArray, List.set_cons_zero, List.set_cons_succ, List.getElem_toArray, List.getElem_cons_zero, List.getElem_cons_succ])
            refine wpAnyH_done (by kernel_rfl) ?_ _
            refine still1_step rfl (fun K hK => ?_)
            have hq0 := br.c0
            have hq1 := br.c1
            have hr0 := br.f0
            have hr1 := br.f1
            go_simp
            clear hq0 hq1 hr0 hr1 hbm
            have hP := put2 WP RB (.bool gv) (.slice pv nv cv)
            have hN := br.stored (.bool gv) (.slice pv nv cv)
            generalize (WP.setCell ⟨RB, 0, none⟩ (.bool gv)).setCell ⟨RB, 1, none⟩ (.slice pv nv cv) = WT at hP hN ⊢
            replace hsp := hsp.put hP (by have := s1.out; have := s2.out; omega) (by have := s2.out; omega)
            have hz := hs.put br (by decide) hP
            replace bz := bz.put hP (by have := sz.out; omega)
            have hr := hv.put br (by decide) hP
            clear hP br hs hv
            have br := hN
            clear hN
            refine hK.out _ _ ?_
            clear hK K
            (try simp only [Act.put, List.setIfInBounds_toArray, List.set_cons_zero, List.set_cons_succ, List.getElem_toArray, List.getElem_cons_zero, List.getElem_cons_succ])
            refine then_code (by assumption) ?_
            go_light
            have hgb := hgb2.out
            clear hgb2
            cases gb
            · have hbsg : 0 ≤ b := by simp at hgb; omega
              clear hgb
              have HQ := Lib.hid ((eu_rest HMM.out hR.out hXQ2.out hasg hRz).1 hbsg)
              have hszT : Sm (-(Q : Int) - 1) := HSQ.out _ (by omega)
              have c20 := hsp.b.c0
              have cz0 := bz.c0
              have cz1 := bz.c1
              go_wp2
              clear c20 cz0 cz1
              have h0 := hsp.low
              have bq := hsp.q
              have brr := hsp.r
              clear hsp
              refine wp_region_last (S := fun W' => Bx W' (ZB) 28 (.bool gs) (.slice ps ns cs) ∧ Bx W' (RB) 28 (.bool gv) (.slice pv nv cv)) (m := 3) (by kernel_rfl) (by kernel_rfl) (by kernel_rfl) (⟨bz.drew, br.drew⟩) (fun _ => ?_)
              replace bz := bz.drew
              replace br := br.drew
              replace hz := hz.drew
              replace hr := hr.drew
              replace h0 := Below.drew h0
              replace bq := bq.drew
              replace brr := brr.drew
              generalize WT.drew = WT at bz br hz hr h0 bq brr ⊢
              refine wpAnyH_take (i := 0) (v := ?_) rfl (by kernel_rfl) (by kernel_rfl) (by kernel_rfl) (fun _ _ _ h => h) (Or.inl ⟨by kernel_rfl, ?_⟩) (⟨bz, br⟩) ?_
              rotate_left
              focus (intro W' hSw; obtain ⟨hx0, hx1⟩ := hSw; have hc0 := hx0.c0; have hc1 := hx0.c1; have hc2 := hx1.c0; have hc3 := hx1.c1; clear hx0 hx1; go_simp; (try with_reducible rfl))
              (try simp only [Act.put, List.setIfInBounds_toArray, List.set_cons_zero, List.set_cons_succ, List.getElem_toArray, List.getElem_cons_zero, List.getElem_cons_succ])
              refine wpAnyH_take (i := 1) (v := ?_) rfl (by kernel_rfl) (by kernel_rfl) (by kernel_rfl) (fun _ _ _ h => h) (Or.inl ⟨by kernel_rfl, ?_⟩) (⟨bz, br⟩) ?_
              rotate_left
              focus (intro W' hSw; obtain ⟨hx0, hx1⟩ := hSw; have hc0 := hx0.c0; have hc1 := hx0.c1; have hc2 := hx1.c0; have hc3 := hx1.c1; clear hx0 hx1; go_simp; (try with_reducible rfl))
              (try simp only [Act.put, List.setIfInBounds_toArray, List.set_cons_zero, List.set_cons_succ, List.getElem_toArray, List.getElem_cons_zero, List.getElem_cons_succ])
              refine wpAnyH_ready (rs := [2]) (by kernel_rfl) (by simp) ?_
              refine AllReadyH.cons rfl (fun K hK => ?_) (AllReadyH.nil)
              have hq0 := bq.c0
              have hq1 := bq.c1
              have hr0 := bq.f0
              have hr1 := bq.f1
              go_simp
              clear hq0 hq1 hr0 hr1
              have hP := put2 WT (w.heap.size + 1 + 1) (.bool gs) (.slice ps ns cs)
              have hN := bq.stored (.bool gs) (.slice ps ns cs)
              generalize (WT.setCell ⟨w.heap.size + 1 + 1, 0, none⟩ (.bool gs)).setCell ⟨w.heap.size + 1 + 1, 1, none⟩ (.slice ps ns cs) = WX at hP hN ⊢
              replace hz := hz.put bq (by decide) hP
              replace hr := hr.put bq (by decide) hP
              replace bz := bz.put hP (by have := s1.out; have := s2.out; have := sz.out; omega)
              replace br := br.put hP (by have := s1.out; have := s2.out; omega)
              replace brr := brr.put hP (by omega)
              replace h0 := bel_put h0 (by omega) hP
              clear hP bq
              have bq := hN
              clear hN
              refine hK.out _ _ (⟨bz, br⟩) (fun _ => ?_)
              clear hK K
              (try simp only [Act.put, List.setIfInBounds_toArray, List.set_cons_zero, List.set_cons_succ, List.getElem_toArray, List.getElem_cons_zero, List.getElem_cons_succ])
              refine wpAnyH_done (by kernel_rfl) ?_ _
              refine still1_step rfl (fun K hK => ?_)
              have hq0 := brr.c0
              have hq1 := brr.c1
              have hr0 := brr.f0
              have hr1 := brr.f1
              go_simp
              clear hq0 hq1 hr0 hr1
              have hP := put2 WX (w.heap.size + 1 + 1 + 1) (.bool gv) (.slice pv nv cv)
              have hN := brr.stored (.bool gv) (.slice pv nv cv)
              generalize (WX.setCell ⟨w.heap.size + 1 + 1 + 1, 0, none⟩ (.bool gv)).setCell ⟨w.heap.size + 1 + 1 + 1, 1, none⟩ (.slice pv nv cv) = WY at hP hN ⊢
              replace hz := hz.put brr (by decide) hP
              replace hr := hr.put brr (by decide) hP
              replace bq := bq.put hP (by omega)
              replace h0 := bel_put h0 (by omega) hP
              clear hP brr bz br
              have brr := hN
              clear hN
              refine hK.out _ _ ?_
              clear hK K
              (try simp only [Act.put, List.setIfInBounds_toArray, List.set_cons_zero, List.set_cons_succ, List.getElem_toArray, List.getElem_cons_zero, List.getElem_cons_succ])
              refine then_code (by assumption) ?_
              go_light
              have e0 := bq.c0
              have e1 := bq.c1
              have e2 := brr.c0
              have e3 := brr.c1
              refine wp_ret ?_
              refine bodyPost_ret (v := .tuple #[.agg #[.bool gs, .slice ps ns cs], .agg #[.bool gv, .slice pv nv cv]]) (by simp [results, Try.results49, go_sem, e0, e1, e2, e3]) rfl ⟨_, _, rfl, ?_, ?_, h0⟩
              · rw [HQ.out.1]; exact hz
              · rw [HQ.out.2]; exact hr
            · have hbsg : b < 0 := by simpa using hgb.symm
              clear hgb
              have HQ := Lib.hid ((eu_rest HMM.out hR.out hXQ2.out hasg hRz).2 hbsg)
              have hszT : Sm (-(Q : Int) - 1) := HSQ.out _ (by omega)
              have c20 := hsp.b.c0
              have cz0 := bz.c0
              have cz1 := bz.c1
              go_wp2_with (first
                | (go_at_call 9; (with_reducible refine (zminus_any _ _ hszT _ hz).mono ?_); rintro e Wm ⟨u, rfl, hn, hb1⟩
                   obtain ⟨gn, pn, nn, cn, rfl⟩ := hn.shape
                   replace hsp := hsp.go hb1
                   replace bz := bz.go hb1
                   replace br := br.go hb1
                   replace hr := hr.go hb1
                   clear hb1 cz0 cz1 c20 hz
                   have cz0 := bz.c0
                   have cz1 := bz.c1
                   have fz0 := bz.f0
                   have fz1 := bz.f1))
              clear cz0 cz1 fz0 fz1
              have hP := put2 Wm ZB (.bool gn) (.slice pn nn cn)
              have hN := bz.stored (.bool gn) (.slice pn nn cn)
              generalize (Wm.setCell ⟨ZB, 0, none⟩ (.bool gn)).setCell ⟨ZB, 1, none⟩ (.slice pn nn cn) = WZ at hP hN ⊢
              replace hsp := hsp.put hP (by have := s1.out; have := s2.out; have := sz.out; omega) (by have := s2.out; have := sz.out; omega)
              replace hr := hr.put bz (by decide) hP
              have hz := hn.put bz (by decide) hP
              replace br := br.put hP (by have := sz.out; omega)
              clear hP bz hn
              have bz := hN
              clear hN
              have h0 := hsp.low
              have bq := hsp.q
              have brr := hsp.r
              clear hsp
              refine wp_region_last (S := fun W' => Bx W' (ZB) 28 (.bool gn) (.slice pn nn cn) ∧ Bx W' (RB) 28 (.bool gv) (.slice pv nv cv)) (m := 3) (by kernel_rfl) (by kernel_rfl) (by kernel_rfl) (⟨bz.drew, br.drew⟩) (fun _ => ?_)
              replace bz := bz.drew
              replace br := br.drew
              replace hz := hz.drew
              replace hr := hr.drew
              replace h0 := Below.drew h0
              replace bq := bq.drew
              replace brr := brr.drew
              generalize WZ.drew = WZ at bz br hz hr h0 bq brr ⊢
              refine wpAnyH_take (i := 0) (v := ?_) rfl (by kernel_rfl) (by kernel_rfl) (by kernel_rfl) (fun _ _ _ h => h) (Or.inl ⟨by kernel_rfl, ?_⟩) (⟨bz, br⟩) ?_
              rotate_left
              focus (intro W' hSw; obtain ⟨hx0, hx1⟩ := hSw; have hc0 := hx0.c0; have hc1 := hx0.c1; have hc2 := hx1.c0; have hc3 := hx1.c1; clear hx0 hx1; go_simp; (try with_reducible rfl))
              (try simp only [Act.put, List.setIfInBounds_toArray, List.set_cons_zero, List.set_cons_succ, List.getElem_toArray, List.getElem_cons_zero, List.getElem_cons_succ])
              refine wpAnyH_take (i := 1) (v := ?_) rfl (by kernel_rfl) (by kernel_rfl) (by kernel_rfl) (fun _ _ _ h => h) (Or.inl ⟨by kernel_rfl, ?_⟩) (⟨bz, br⟩) ?_
              rotate_left
              focus (intro W' hSw; obtain ⟨hx0, hx1⟩ := hSw; have hc0 := hx0.c0; have hc1 := hx0.c1; have hc2 := hx1.c0; have hc3 := hx1.c1; clear hx0 hx1; go_simp; (try with_reducible rfl))
              (try simp only [Act.put, List.setIfInBounds_toArray, List.set_cons_zero, List.set_cons_succ, List.getElem_toArray, List.getElem_cons_zero, List.getElem_cons_succ])
              refine wpAnyH_ready (rs := [2]) (by kernel_rfl) (by simp) ?_
              refine AllReadyH.cons rfl (fun K hK => ?_) (AllReadyH.nil)
              have hq0 := bq.c0
              have hq1 := bq.c1
              have hr0 := bq.f0
              have hr1 := bq.f1
              go_simp
              clear hq0 hq1 hr0 hr1
              have hP := put2 WZ (w.heap.size + 1 + 1) (.bool gn) (.slice pn nn cn)
              have hN := bq.stored (.bool gn) (.slice pn nn cn)
              generalize (WZ.setCell ⟨w.heap.size + 1 + 1, 0, none⟩ (.bool gn)).setCell ⟨w.heap.size + 1 + 1, 1, none⟩ (.slice pn nn cn) = WX at hP hN ⊢
              replace hz := hz.put bq (by decide) hP
              replace hr := hr.put bq (by decide) hP
              replace bz := bz.put hP (by have := s1.out; have := s2.out; have := sz.out; omega)
              replace br := br.put hP (by have := s1.out; have := s2.out; omega)
              replace brr := brr.put hP (by omega)
              replace h0 := bel_put h0 (by omega) hP
              clear hP bq
              have bq := hN
              clear hN
              refine hK.out _ _ (⟨bz, br⟩) (fun _ => ?_)
              clear hK K
              (try simp only [Act.put, List.setIfInBounds_toArray, List.set_cons_zero, List.set_cons_succ, List.getElem_toArray, List.getElem_cons_zero, List.getElem_cons_succ])
              refine wpAnyH_done (by kernel_rfl) ?_ _
              refine still1_step rfl (fun K hK => ?_)
              have hq0 := brr.c0
              have hq1 := brr.c1
              have hr0 := brr.f0
              have hr1 := brr.f1
              go_simp
              clear hq0 hq1 hr0 hr1
              have hP := put2 WX (w.heap.size + 1 + 1 + 1) (.bool gv) (.slice pv nv cv)
              have hN := brr.stored (.bool gv) (.slice pv nv cv)
              generalize (WX.setCell ⟨w.heap.size + 1 + 1 + 1, 0, none⟩ (.bool gv)).setCell ⟨w.heap.size + 1 + 1 + 1, 1, none⟩ (.slice pv nv cv) = WY at hP hN ⊢
              replace hz := hz.put brr (by decide) hP
              replace hr := hr.put brr (by decide) hP
              replace bq := bq.put hP (by omega)
              replace h0 := bel_put h0 (by omega) hP
              clear hP brr bz br
              have brr := hN
              clear hN
              refine hK.out _ _ ?_
              clear hK K
              (try simp only [Act.put, List.setIfInBounds_toArray, List.set_cons_zero, List.set_cons_succ, List.getElem_toArray, List.getElem_cons_zero, List.getElem_cons_succ])
              refine then_code (by assumption) ?_
              go_light
              have e0 := bq.c0
              have e1 := bq.c1
              have e2 := brr.c0
              have e3 := brr.c1
              refine wp_ret ?_
              refine bodyPost_ret (v := .tuple #[.agg #[.bool gn, .slice pn nn cn], .agg #[.bool gv, .slice pv nv cv]]) (by simp [results, Try.results49, go_sem, e0, e1, e2, e3]) rfl ⟨_, _, rfl, ?_, ?_, h0⟩
              · rw [HQ.out.1]; exact hz
              · rw [HQ.out.2]; exact hr
          · go_simp
            go_at_call 10; refine (i_any 1 (by omega) (by omega) _).mono ?_
            rintro e WT ⟨u, rfl, hi1, hb1⟩
            obtain ⟨gi, pi, ni, ci, rfl⟩ := hi1.shape
            replace hsp := hsp.go hb1
            replace br := br.go hb1
            replace hbm := hbm.go hb1
            replace hmz := hmz.go hb1
            replace hr := hr.go hb1
            replace hz := hz.go hb1
            replace bz := bz.go hb1
            clear hb1
            refine hK.out _ _ (⟨hbm, br⟩) (fun _ => ?_)
            clear hK K
            (try simp only [Act.put, List.setIfInBounds_toArray, List.set_cons_zero, List.set_cons_succ, List.getElem_toArray, List.getElem_cons_zero, List.getElem_cons_succ])
            refine wpAnyH_ready (rs := [0]) (by kernel_rfl) (by simp) ?_
            refine AllReadyH.cons rfl (fun K hK => ?_) (AllReadyH.nil)
            have cz0 := bz.c0
            have cz1 := bz.c1
            go_simp
            clear cz0 cz1
            refine hK.out _ _ (⟨hbm, br⟩) (fun _ => ?_)
            clear hK K
            (try simp only [Act.put, List.setIfInBounds_toArray, List.set_cons_zero, List.set_cons_succ, List.getElem_toArray, List.getElem_cons_zero, List.getElem_cons_succ])
            refine wpAnyH_ready (rs := [2]) (by kernel_rfl) (by simp) ?_
            refine AllReadyH.cons rfl (fun K hK => ?_) (AllReadyH.nil)
            go_simp
            go_at_call 8; refine (zless_any _ _ _ _ hsz hs1 _ hz hi1).mono ?_
            rintro e Ws ⟨u, rfl, hs, hb1⟩
            obtain ⟨gs, ps, ns, cs, rfl⟩ := hs.shape
            replace hsp := hsp.go hb1
            replace br := br.go hb1
            replace hbm := hbm.go hb1
            replace hmz := hmz.go hb1
            replace hr := hr.go hb1
            replace hz := hz.go hb1
            replace bz := bz.go hb1
            clear hb1
            refine hK.out _ _ (⟨hbm, br⟩) (fun _ => ?_)
            clear hK K
            (try simp only [Act.put, List.setIfInBounds_toArray, List.set_cons_zero, List.set_cons_succ, List.getElem_toArray, List.getElem_cons_zero, List.getElem_cons_succ])
            refine wpAnyH_ready (rs := [5]) (by kernel_rfl) (by simp) ?_
            refine AllReadyH.cons rfl (fun K hK => ?_) (AllReadyH.nil)
            go_simp
            go_at_call 8; refine (zless_any _ _ _ _ hsmm hsR _ hmz hr).mono ?_
            rintro e Wv ⟨u, rfl, hv, hb1⟩
            obtain ⟨gv, pv, nv, cv, rfl⟩ := hv.shape
            replace hsp := hsp.go hb1
            replace br := br.go hb1
            replace hbm := hbm.go hb1
            replace bz := bz.go hb1
            replace hs := hs.go hb1
            clear hb1
            refine hK.out _ _ (⟨hbm, br⟩) (fun _ => ?_)
            clear hK K
            (try simp only [Act.put, List.setIfInBounds_toArray, List.set_cons_zero, List.set_cons_succ, List.getElem_toArray, List.getElem_cons_zero, List.getElem_cons_succ])
            refine wpAnyH_ready (rs := [6]) (by kernel_rfl) (by simp) ?_
            refine AllReadyH.cons rfl (fun K hK => ?_) (AllReadyH.nil)
            have hq0 := bz.c0
            have hq1 := bz.c1
            have hr0 := bz.f0
            have hr1 := bz.f1
            go_simp
            clear hq0 hq1 hr0 hr1
            have hP := put2 Wv ZB (.bool gs) (.slice ps ns cs)
            have hN := bz.stored (.bool gs) (.slice ps ns cs)
            generalize (Wv.setCell ⟨ZB, 0, none⟩ (.bool gs)).setCell ⟨ZB, 1, none⟩ (.slice ps ns cs) = WP at hP hN ⊢
            replace hsp := hsp.put hP (by have := s1.out; have := s2.out; have := sz.out; omega) (by have := s2.out; have := sz.out; omega)
            replace hs := hs.put bz (by decide) hP
            replace br := br.put hP (by have := sz.out; omega)
            replace hbm := hbm.put hP (by have := s2.out; have := sz.out; omega)
            replace hv := hv.put bz (by decide) hP
            clear hP bz
            have bz := hN
            clear hN
            refine hK.out _ _ (⟨hbm, br⟩) (fun _ => ?_)
            clear hK K
            (try simp only [Act.put, List.setIfInBounds_toArray, List.set_cons_zero, List.set_cons_succ, List.getElem_toArray, List.getElem_cons_zero, List.getElem_cons_succ])
            refine wpAnyH_done (by kernel_rfl) ?_ _
            refine still1_step rfl (fun K hK => ?_)
            have hq0 := br.c0
            have hq1 := br.c1
            have hr0 := br.f0
            have hr1 := br.f1
            go_simp
            clear hq0 hq1 hr0 hr1 hbm
            have hP := put2 WP RB (.bool gv) (.slice pv nv cv)
            have hN := br.stored (.bool gv) (.slice pv nv cv)
            generalize (WP.setCell ⟨RB, 0, none⟩ (.bool gv)).setCell ⟨RB, 1, none⟩ (.slice pv nv cv) = WT at hP hN ⊢
            replace hsp := hsp.put hP (by have := s1.out; have := s2.out; omega) (by have := s2.out; omega)
            have hz := hs.put br (by decide) hP
            replace bz := bz.put hP (by have := sz.out; omega)
            have hr := hv.put br (by decide) hP
            clear hP br hs hv
            have br := hN
            clear hN
            refine hK.out _ _ ?_
            clear hK K
            (try simp only [Act.put, List.setIfInBounds_toArray, List.set_cons_zero, List.set_cons_succ, List.getElem_toArray, List.getElem_cons_zero, List.getElem_cons_succ])
            refine then_code (by assumption) ?_
            go_light
            have hgb := hgb2.out
            clear hgb2
            cases gb
            · have hbsg : 0 ≤ b := by simp at hgb; omega
              clear hgb
              have HQ := Lib.hid ((eu_rest HMM.out hR.out hXQ2.out hasg hRz).1 hbsg)
              have hszT : Sm (-(Q : Int) - 1) := HSQ.out _ (by omega)
              have c20 := hsp.b.c0
              have cz0 := bz.c0
              have cz1 := bz.c1
              go_wp2
              clear c20 cz0 cz1
              have h0 := hsp.low
              have bq := hsp.q
              have brr := hsp.r
              clear hsp
              refine wp_region_last (S := fun W' => Bx W' (ZB) 28 (.bool gs) (.slice ps ns cs) ∧ Bx W' (RB) 28 (.bool gv) (.slice pv nv cv)) (m := 3) (by kernel_rfl) (by kernel_rfl) (by kernel_rfl) (⟨bz.drew, br.drew⟩) (fun _ => ?_)
              replace bz := bz.drew
              replace br := br.drew
              replace hz := hz.drew
              replace hr := hr.drew
              replace h0 := Below.drew h0
              replace bq := bq.drew
              replace brr := brr.drew
              generalize WT.drew = WT at bz br hz hr h0 bq brr ⊢
              refine wpAnyH_take (i := 0) (v := ?_) rfl (by kernel_rfl) (by kernel_rfl) (by kernel_rfl) (fun _ _ _ h => h) (Or.inl ⟨by kernel_rfl, ?_⟩) (⟨bz, br⟩) ?_
              rotate_left
              focus (intro W' hSw; obtain ⟨hx0, hx1⟩ := hSw; have hc0 := hx0.c0; have hc1 := hx0.c1; have hc2 := hx1.c0; have hc3 := hx1.c1; clear hx0 hx1; go_simp; (try with_reducible rfl))
              (try simp only [Act.put, List.setIfInBounds_toArray, List.set_cons_zero, List.set_cons_succ, List.getElem_toArray, List.getElem_cons_zero, List.getElem_cons_succ])
              refine wpAnyH_take (i := 1) (v := ?_) rfl (by kernel_rfl) (by kernel_rfl) (by kernel_rfl) (fun _ _ _ h => h) (Or.inl ⟨by kernel_rfl, ?_⟩) (⟨bz, br⟩) ?_
              rotate_left
              focus (intro W' hSw; obtain ⟨hx0, hx1⟩ := hSw; have hc0 := hx0.c0; have hc1 := hx0.c1; have hc2 := hx1.c0; have hc3 := hx1.c1; clear hx0 hx1; go_simp; (try with_reducible rfl))
              (try simp only [Act.put, List.setIfInBounds_toArray, List.set_cons_zero, List.set_cons_succ, List.getElem_toArray, List.getElem_cons_zero, List.getElem_cons_succ])
              refine wpAnyH_ready (rs := [2]) (by kernel_rfl) (by simp) ?_
              refine AllReadyH.cons rfl (fun K hK => ?_) (AllReadyH.nil)
              have hq0 := bq.c0
              have hq1 := bq.c1
              have hr0 := bq.f0
              have hr1 := bq.f1
              go_simp
              clear hq0 hq1 hr0 hr1
              have hP := put2 WT (w.heap.size + 1 + 1) (.bool gs) (.slice ps ns cs)
              have hN := bq.stored (.bool gs) (.slice ps ns cs)
              generalize (WT.setCell ⟨w.heap.size + 1 + 1, 0, none⟩ (.bool gs)).setCell ⟨w.heap.size + 1 + 1, 1, none⟩ (.slice ps ns cs) = WX at hP hN ⊢
              replace hz := hz.put bq (by decide) hP
              replace hr := hr.put bq (by decide) hP
              replace bz := bz.put hP (by have := s1.out; have := s2.out; have := sz.out; omega)
              replace br := br.put hP (by have := s1.out; have := s2.out; omega)
              replace brr := brr.put hP (by omega)
              replace h0 := bel_put h0 (by omega) hP
              clear hP bq
              have bq := hN
              clear hN
              refine hK.out _ _ (⟨bz, br⟩) (fun _ => ?_)
              clear hK K
              (try simp only [Act.put, List.setIfInBounds_toArray, List.set_cons_zero, List.set_cons_succ, List.getElem_toArray, List.getElem_cons_zero, List.getElem_cons_succ])
              refine wpAnyH_done (by kernel_rfl) ?_ _
              refine still1_step rfl (fun K hK => ?_)
              have hq0 := brr.c0
              have hq1 := brr.c1
              have hr0 := brr.f0
              have hr1 := brr.f1
              go_simp
              clear hq0 hq1 hr0 hr1
              have hP := put2 WX (w.heap.size + 1 + 1 + 1) (.bool gv) (.slice pv nv cv)
              have hN := brr.stored (.bool gv) (.slice pv nv cv)
              generalize (WX.setCell ⟨w.heap.size + 1 + 1 + 1, 0, none⟩ (.bool gv)).setCell ⟨w.heap.size + 1 + 1 + 1, 1, none⟩ (.slice pv nv cv) = WY at hP hN ⊢
              replace hz := hz.put brr (by decide) hP
              replace hr := hr.put brr (by decide) hP
              replace bq := bq.put hP (by omega)
              replace h0 := bel_put h0 (by omega) hP
              clear hP brr bz br
              have brr := hN
              clear hN
              refine hK.out _ _ ?_
              clear hK K
              (try simp only [Act.put, List.setIfInBounds_toArray, List.set_cons_zero, List.set_cons_succ, List.getElem_toArray, List.getElem_cons_zero, List.getElem_cons_succ])
              refine then_code (by assumption) ?_
              go_light
              have e0 := bq.c0
              have e1 := bq.c1
              have e2 := brr.c0
              have e3 := brr.c1
              refine wp_ret ?_
              refine bodyPost_ret (v := .tuple #[.agg #[.bool gs, .slice ps ns cs], .agg #[.bool gv, .slice pv nv cv]]) (by simp [results, Try.results49, go_sem, e0, e1, e2, e3]) rfl ⟨_, _, rfl, ?_, ?_, h0⟩
              · rw [HQ.out.1]; exact hz
              · rw [HQ.out.2]; exact hr
            · have hbsg : b < 0 := by simpa using hgb.symm
              clear hgb
              have HQ := Lib.hid ((eu_rest HMM.out hR.out hXQ2.out hasg hRz).2 hbsg)
              have hszT : Sm (-(Q : Int) - 1) := HSQ.out _ (by omega)
              have c20 := hsp.b.c0
              have cz0 := bz.c0
              have cz1 := bz.c1
              go_wp2_with (first
                | (go_at_call 9; (with_reducible refine (zminus_any _ _ hszT _ hz).mono ?_); rintro e Wm ⟨u, rfl, hn, hb1⟩
                   obtain ⟨gn, pn, nn, cn, rfl⟩ := hn.shape
                   replace hsp := hsp.go hb1
                   replace bz := bz.go hb1
                   replace br := br.go hb1
                   replace hr := hr.go hb1
                   clear hb1 cz0 cz1 c20 hz
                   have cz0 := bz.c0
                   have cz1 := bz.c1
                   have fz0 := bz.f0
                   have fz1 := bz.f1))
              clear cz0 cz1 fz0 fz1
              have hP := put2 Wm ZB (.bool gn) (.slice pn nn cn)
              have hN := bz.stored (.bool gn) (.slice pn nn cn)
              generalize (Wm.setCell ⟨ZB, 0, none⟩ (.bool gn)).setCell ⟨ZB, 1, none⟩ (.slice pn nn cn) = WZ at hP hN ⊢
              replace hsp := hsp.put hP (by have := s1.out; have := s2.out; have := sz.out; omega) (by have := s2.out; have := sz.out; omega)
              replace hr := hr.put bz (by decide) hP
              have hz := hn.put bz (by decide) hP
              replace br := br.put hP (by have := sz.out; omega)
              clear hP bz hn
              have bz := hN
              clear hN
              have h0 := hsp.low
              have bq := hsp.q
              have brr := hsp.r
              clear hsp
              refine wp_region_last (S := fun W' => Bx W' (ZB) 28 (.bool gn) (.slice pn nn cn) ∧ Bx W' (RB) 28 (.bool gv) (.slice pv nv cv)) (m := 3) (by kernel_rfl) (by kernel_rfl) (by kernel_rfl) (⟨bz.drew, br.drew⟩) (fun _ => ?_)
              replace bz := bz.drew
              replace br := br.drew
              replace hz := hz.drew
              replace hr := hr.drew
              replace h0 := Below.drew h0
              replace bq := bq.drew
              replace brr := brr.drew
              generalize WZ.drew = WZ at bz br hz hr h0 bq brr ⊢
              refine wpAnyH_take (i := 0) (v := ?_) rfl (by kernel_rfl) (by kernel_rfl) (by kernel_rfl) (fun _ _ _ h => h) (Or.inl ⟨by kernel_rfl, ?_⟩) (⟨bz, br⟩) ?_
              rotate_left
              focus (intro W' hSw; obtain ⟨hx0, hx1⟩ := hSw; have hc0 := hx0.c0; have hc1 := hx0.c1; have hc2 := hx1.c0; have hc3 := hx1.c1; clear hx0 hx1; go_simp; (try with_reducible rfl))
              (try simp only [Act.put, List.setIfInBounds_toArray, List.set_cons_zero, List.set_cons_succ, List.getElem_toArray, List.getElem_cons_zero, List.getElem_cons_succ])
              refine wpAnyH_take (i := 1) (v := ?_) rfl (by kernel_rfl) (by kernel_rfl) (by kernel_rfl) (fun _ _ _ h => h) (Or.inl ⟨by kernel_rfl, ?_⟩) (⟨bz, br⟩) ?_
              rotate_left
              focus (intro W' hSw; obtain ⟨hx0, hx1⟩ := hSw; have hc0 := hx0.c0; have hc1 := hx0.c1; have hc2 := hx1.c0; have hc3 := hx1.c1; clear hx0 hx1; go_simp; (try with_reducible rfl))
              (try simp only [Act.put, List.setIfInBounds_toArray, List.set_cons_zero, List.set_cons_succ, List.getElem_toArray, List.getElem_cons_zero, List.getElem_cons_succ])
              refine wpAnyH_ready (rs := [2]) (by kernel_rfl) (by simp) ?_
              refine AllReadyH.cons rfl (fun K hK => ?_) (AllReadyH.nil)
              have hq0 := bq.c0
              have hq1 := bq.c1
              have hr0 := bq.f0
              have hr1 := bq.f1
              go_simp
              clear hq0 hq1 hr0 hr1
              have hP := put2 WZ (w.heap.size + 1 + 1) (.bool gn) (.slice pn nn cn)
              have hN := bq.stored (.bool gn) (.slice pn nn cn)
              generalize (WZ.setCell ⟨w.heap.size + 1 + 1, 0, none⟩ (.bool gn)).setCell ⟨w.heap.size + 1 + 1, 1, none⟩ (.slice pn nn cn) = WX at hP hN ⊢
              replace hz := hz.put bq (by decide) hP
              replace hr := hr.put bq (by decide) hP
              replace bz := bz.put hP (by have := s1.out; have := s2.out; have := sz.out; omega)
              replace br := br.put hP (by have := s1.out; have := s2.out; omega)
              replace brr := brr.put hP (by omega)
              replace h0 := bel_put h0 (by omega) hP
              clear hP bq
              have bq := hN
              clear hN
              refine hK.out _ _ (⟨bz, br⟩) (fun _ => ?_)
              clear hK K
              (try simp only [Act.put, List.setIfInBounds_toArray, List.set_cons_zero, List.set_cons_succ, List.getElem_toArray, List.getElem_cons_zero, List.getElem_cons_succ])
              refine wpAnyH_done (by kernel_rfl) ?_ _
              refine still1_step rfl (fun K hK => ?_)
              have hq0 := brr.c0
              have hq1 := brr.c1
              have hr0 := brr.f0
              have hr1 := brr.f1
              go_simp
              clear hq0 hq1 hr0 hr1
              have hP := put2 WX (w.heap.size + 1 + 1 + 1) (.bool gv) (.slice pv nv cv)
              have hN := brr.stored (.bool gv) (.slice pv nv cv)
              generalize (WX.setCell ⟨w.heap.size + 1 + 1 + 1, 0, none⟩ (.bool gv)).setCell ⟨w.heap.size + 1 + 1 + 1, 1, none⟩ (.slice pv nv cv) = WY at hP hN ⊢
              replace hz := hz.put brr (by decide) hP
              replace hr := hr.put brr (by decide) hP
              replace bq := bq.put hP (by omega)
              replace h0 := bel_put h0 (by omega) hP
              clear hP brr bz br
              have brr := hN
              clear hN
              refine hK.out _ _ ?_
              clear hK K
              (try simp only [Act.put, List.setIfInBounds_toArray, List.set_cons_zero, List.set_cons_succ, List.getElem_toArray, List.getElem_cons_zero, List.getElem_cons_succ])
              refine then_code (by assumption) ?_
              go_light
              have e0 := bq.c0
              have e1 := bq.c1
              have e2 := brr.c0
              have e3 := brr.c1
              refine wp_ret ?_
              refine bodyPost_ret (v := .tuple #[.agg #[.bool gn, .slice pn nn cn], .agg #[.bool gv, .slice pv nv cv]]) (by simp [results, Try.results49, go_sem, e0, e1, e2, e3]) rfl ⟨_, _, rfl, ?_, ?_, h0⟩
              · rw [HQ.out.1]; exact hz
              · rw [HQ.out.2]; exact hr
    · obtain ⟨j, rfl⟩ := Int.eq_ofNat_of_zero_le (show 0 ≤ k by omega)
      obtain ⟨ba, oa, rfl, hba, hxa⟩ := RA.out.at_ (k := j) (by omega)
      obtain ⟨x, hx⟩ : ∃ x, (digs a.natAbs).getD j 0 = x := ⟨_, rfl⟩
      have hxb := (digs_ok a.natAbs).getD (k := j) (by have := LA.out; omega)
      rw [hx] at hxa hxb
      obtain ⟨hx0, hx1⟩ := hxb
      have hcx : wr.cell? ⟨ba, oa + j, none⟩ = some (.int .i64 x) := (hsp.low.cell (p := ⟨ba, oa + j, none⟩) hba).trans hxa
      have hinv' : Hid (val ((digs a.natAbs).drop (j + 1)) = val (qs.drop (j + 1)) * mm + R) := by unfold Hid; have := hinv.out; rwa [show ((j : Int) + 1).toNat = j + 1 by omega] at this
      have HX := Lib.hid hx
      have q0 : (0 : Int) ≤ (j : Int) := by omega
      have HCX := Lib.hid hcx
      clear hinv hx hxa hcx
      go_wp2
      obtain ⟨wo, rfl⟩ : ∃ wo : World, wo = wr := ⟨_, rfl⟩
      have hnr := hr.rd.len
      have hnrl : nr ≤ 400001 := by
        rw [← hnr]
        have := dlen_lt hR.out
        have e := HMM.out
        have l := LB.out
        rw [e] at l
        simp only [Int.natAbs_natCast]
        omega
      have HNR := Lib.hid hnr
      clear hnr
      have ha1 := hsp.a
      have hcx := HCX.out
      refine wp_region_last (S := fun W' => Bx W' (w.heap.size) 28 (.bool ga) (.slice (some ⟨ba, oa, none⟩) na ca) ∧ Bx W' (RB) 28 (.bool gr) (.slice pr nr cr) ∧ W'.cell? ⟨ba, oa + j, none⟩ = some (.int .i64 x)) (m := 10) (by kernel_rfl) (by kernel_rfl) (by kernel_rfl) (⟨ha1.drew, br.drew, hcx⟩) (fun _ => ?_)
      replace hsp := hsp.drew
      replace br := br.drew
      replace ha1 := ha1.drew
      replace hr := hr.drew
      replace hown := own_drew hown
      replace hlow := Lib.hid (Below.drew hlow.out)
      replace hcx := show wo.drew.cell? _ = _ from hcx
      generalize wo.drew = wo at hsp br ha1 hr hown hlow hcx ⊢
      refine wpAnyH_take (i := 0) (v := ?_) rfl (by kernel_rfl) (by kernel_rfl) (by kernel_rfl) (fun _ _ _ h => h) (Or.inl ⟨by kernel_rfl, ?_⟩) (⟨ha1, br, hcx⟩) ?_
      rotate_left
      focus (intro W' hSw; obtain ⟨hx0, hx1, hx2⟩ := hSw; have hc0 := hx0.c0; have hc1 := hx0.c1; have hc2 := hx1.c0; have hc3 := hx1.c1; have hc4 := hx2; clear hx0 hx1 hx2; go_simp; (try with_reducible rfl))
      (try simp only [Act.put, List.setIfInBounds_toArray, List.set_cons_zero, List.set_cons_succ, List.getElem_toArray, List.getElem_cons_zero, List.getElem_cons_succ])
      refine wpAnyH_take (i := 1) (v := ?_) rfl (by kernel_rfl) (by kernel_rfl) (by kernel_rfl) (fun _ _ _ h => h) (Or.inl ⟨by kernel_rfl, ?_⟩) (⟨ha1, br, hcx⟩) ?_
      rotate_left
      focus (intro W' hSw; obtain ⟨hx0, hx1, hx2⟩ := hSw; have hc0 := hx0.c0; have hc1 := hx0.c1; have hc2 := hx1.c0; have hc3 := hx1.c1; have hc4 := hx2; clear hx0 hx1 hx2; go_simp; (try with_reducible rfl))
      (try simp only [Act.put, List.setIfInBounds_toArray, List.set_cons_zero, List.set_cons_succ, List.getElem_toArray, List.getElem_cons_zero, List.getElem_cons_succ])
      refine wpAnyH_take (i := 2) (v := ?_) rfl (by kernel_rfl) (by kernel_rfl) (by kernel_rfl) (fun _ _ _ h => h) (Or.inl ⟨by kernel_rfl, ?_⟩) (⟨ha1, br, hcx⟩) ?_
      rotate_left
      focus (intro W' hSw; obtain ⟨hx0, hx1, hx2⟩ := hSw; have hc0 := hx0.c0; have hc1 := hx0.c1; have hc2 := hx1.c0; have hc3 := hx1.c1; have hc4 := hx2; clear hx0 hx1 hx2; go_simp; (try with_reducible rfl))
      (try simp only [Act.put, List.setIfInBounds_toArray, List.set_cons_zero, List.set_cons_succ, List.getElem_toArray, List.getElem_cons_zero, List.getElem_cons_succ])
      refine wpAnyH_take (i := 3) (v := ?_) rfl (by kernel_rfl) (by kernel_rfl) (by kernel_rfl) (fun _ _ _ h => h) (Or.inl ⟨by kernel_rfl, ?_⟩) (⟨ha1, br, hcx⟩) ?_
      rotate_left
      focus (intro W' hSw; obtain ⟨hx0, hx1, hx2⟩ := hSw; have hc0 := hx0.c0; have hc1 := hx0.c1; have hc2 := hx1.c0; have hc3 := hx1.c1; have hc4 := hx2; clear hx0 hx1 hx2; go_simp; (try with_reducible rfl))
      (try simp only [Act.put, List.setIfInBounds_toArray, List.set_cons_zero, List.set_cons_succ, List.getElem_toArray, List.getElem_cons_zero, List.getElem_cons_succ])
      refine wpAnyH_take (i := 4) (v := ?_) rfl (by kernel_rfl) (by kernel_rfl) (by kernel_rfl) (fun _ _ _ h => h) (Or.inl ⟨by kernel_rfl, ?_⟩) (⟨ha1, br, hcx⟩) ?_
      rotate_left
      focus (intro W' hSw; obtain ⟨hx0, hx1, hx2⟩ := hSw; have hc0 := hx0.c0; have hc1 := hx0.c1; have hc2 := hx1.c0; have hc3 := hx1.c1; have hc4 := hx2; clear hx0 hx1 hx2; go_simp; (try with_reducible rfl))
      (try simp only [Act.put, List.setIfInBounds_toArray, List.set_cons_zero, List.set_cons_succ, List.getElem_toArray, List.getElem_cons_zero, List.getElem_cons_succ])
      refine wpAnyH_take (i := 6) (v := ?_) rfl (by kernel_rfl) (by kernel_rfl) (by kernel_rfl) (fun _ _ _ h => h) (Or.inl ⟨by kernel_rfl, ?_⟩) (⟨ha1, br, hcx⟩) ?_
      rotate_left
      focus (intro W' hSw; obtain ⟨hx0, hx1, hx2⟩ := hSw; have hc0 := hx0.c0; have hc1 := hx0.c1; have hc2 := hx1.c0; have hc3 := hx1.c1; have hc4 := hx2; clear hx0 hx1 hx2; go_simp; (try with_reducible rfl))
      (try simp only [Act.put, List.setIfInBounds_toArray, List.set_cons_zero, List.set_cons_succ, List.getElem_toArray, List.getElem_cons_zero, List.getElem_cons_succ])
      refine wpAnyH_take (i := 7) (v := ?_) rfl (by kernel_rfl) (by kernel_rfl) (by kernel_rfl) (fun _ _ _ h => h) (Or.inl ⟨by kernel_rfl, ?_⟩) (⟨ha1, br, hcx⟩) ?_
      rotate_left
      focus (intro W' hSw; obtain ⟨hx0, hx1, hx2⟩ := hSw; have hc0 := hx0.c0; have hc1 := hx0.c1; have hc2 := hx1.c0; have hc3 := hx1.c1; have hc4 := hx2; clear hx0 hx1 hx2; go_simp; (try with_reducible rfl))
      (try simp only [Act.put, List.setIfInBounds_toArray, List.set_cons_zero, List.set_cons_succ, List.getElem_toArray, List.getElem_cons_zero, List.getElem_cons_succ])
      refine wpAnyH_ready (rs := [5]) (by kernel_rfl) (by simp) ?_
      refine AllReadyH.cons rfl (fun K hK => ?_) (AllReadyH.nil)
      go_simp
      have hal : Below wo.heap.size wo (wo.alloc (.cells #[.int .i64 x] 3)) := (Below.refl _ _).alloc (Nat.le_refl _) _
      refine hK.out _ _ ⟨ha1.go hal, br.go hal, (hal.cell (World.block_lt_of_cell? _ _ hcx)).trans hcx⟩ (fun _ => ?_)
      clear hK K
      (try simp only [Act.put, List.setIfInBounds_toArray, List.set_cons_zero, List.set_cons_succ, List.getElem_toArray, List.getElem_cons_zero, List.getElem_cons_succ])
      refine wpAnyH_ready (rs := [8]) (by kernel_rfl) (by simp) ?_
      refine AllReadyH.cons rfl (fun K hK => ?_) (AllReadyH.nil)
      refine want_pos (by kernel_rfl) ?_
      refine wp_push wo x _ _ rfl (by rfl) pr nr cr (digs R) (by rfl) (by have := (hr.go hal).rd; simpa using this) (by omega) ?_
      intro pp cp W4 hrd4 hfr hb4
      clear hal
      have sM := Lib.hid (own_lt hown)
      have swo := Lib.hid (show RB < wo.heap.size from br.lt)
      replace hcx := (hb4.cell (World.block_lt_of_cell? _ _ hcx)).trans hcx
      replace ha1 := ha1.go hb4
      replace br := br.go hb4
      replace hsp := hsp.go hb4
      replace hown := own_go hown hb4
      replace hlow := Lib.hid (bel_go hlow.out (by have := hlow.out.size; have := HM.out; omega) hb4)
      clear hr hb4
      refine hK.out _ _ (⟨ha1, br, hcx⟩) (fun _ => ?_)
      clear hK K
      (try simp only [Act.put, List.setIfInBounds_toArray, List.set_cons_zero, List.set_cons_succ, List.getElem_toArray, List.getElem_cons_zero, List.getElem_cons_succ])
      refine wpAnyH_ready (rs := [9]) (by kernel_rfl) (by simp) ?_
      refine AllReadyH.cons rfl (fun K hK => ?_) (AllReadyH.nil)
      go_simp
      obtain ⟨T, hT⟩ : ∃ T : Nat, (T : Int) = x + 1000000 * R := ⟨x.toNat + 1000000 * R, by omega⟩
      have hcut : Hid (cut (x :: digs R) = digs T) := by
        unfold Hid
        rw [cut_digs (Ok.cons hx0 hx1 (digs_ok R)), val, val_digs, ← hT, Int.toNat_natCast]
      have HT := Lib.hid hT
      clear hT
      have hnr' := HNR.out
      simp only [Int.natAbs_natCast] at hnr'
      go_at_call 27; refine (trim_f pp (nr + 1) cp (x :: digs R) (digs T) hcut.out (by rw [List.length_cons]; omega) _ hrd4).mono ?_
      rintro e W5 ⟨nt, rfl, hrd5, hb5⟩
      clear hnr' hcut hrd4
      replace hcx := (hb5.cell (World.block_lt_of_cell? _ _ hcx)).trans hcx
      replace ha1 := ha1.go hb5
      replace br := br.go hb5
      replace hsp := hsp.go hb5
      replace hown := own_go hown hb5
      replace hlow := Lib.hid (bel_go hlow.out (by have := hlow.out.size; have := HM.out; omega) hb5)
      clear hb5
      refine hK.out _ _ (⟨ha1, br, hcx⟩) (fun _ => ?_)
      clear hK K
      (try simp only [Act.put, List.setIfInBounds_toArray, List.set_cons_zero, List.set_cons_succ, List.getElem_toArray, List.getElem_cons_zero, List.getElem_cons_succ])
      refine wpAnyH_done (by kernel_rfl) ?_ _
      refine still1_step rfl (fun K hK => ?_)
      have hq0 := br.c0
      have hq1 := br.c1
      have hr0 := br.f0
      have hr1 := br.f1
      go_simp
      clear hq0 hq1 hr0 hr1 hcx ha1
      have hP := put2 W5 RB (.bool false) (.slice pp nt cp)
      have hN := br.stored (.bool false) (.slice pp nt cp)
      generalize (W5.setCell ⟨RB, 0, none⟩ (.bool false)).setCell ⟨RB, 1, none⟩ (.slice pp nt cp) = W6 at hP hN ⊢
      replace hsp := hsp.put hP (by have := s1.out; have := s2.out; omega) (by have := s2.out; omega)
      replace hrd5 := hrd5.put br (by decide) hP
      replace hown := own_put hown br (by decide) hP
      replace hlow := Lib.hid (bel_put hlow.out (by have := s2.out; omega) hP)
      clear hP br
      have br := hN
      clear hN
      refine hK.out _ _ ?_
      clear hK K
      (try simp only [Act.put, List.setIfInBounds_toArray, List.set_cons_zero, List.set_cons_succ, List.getElem_toArray, List.getElem_cons_zero, List.getElem_cons_succ])
      have hrT := rd_z hrd5
      have hmz := hm.below (show Below W1.heap.size W1 W6 by rw [HM.out]; exact hlow.out)
      have hTm : Hid ((T : Int) < mm * 1000000) := by
        unfold Hid
        have h1 := hR.out
        have h2 := HT.out
        rw [h2]; omega
      have hlT : (digs T).length ≤ 400002 := by
        have h1 := hrd5.len
        have h3 : (digs T).length ≤ (digs (mm * 1000000)).length := dlen_lt (by have := hTm.out; omega)
        have h4 := dlen_mul mm 1000000
        have h5 : (digs 1000000).length ≤ 2 := digs_len (by decide)
        have e := HMM.out
        have l := LB.out
        rw [e] at l
        omega
      have hlm : (digs mm).length ≤ 400000 := by
        have e := HMM.out
        have l := LB.out
        rw [e] at l
        omega
      go_wp2
      go_loopw [10, 11] (fun lo hi wi => ∃ l h : Int, lo = .int .i64 l ∧ hi = .int .i64 h ∧ 0 ≤ l ∧ l < h ∧ h ≤ 1000000 ∧ Hid ((mm : Int) * l ≤ T) ∧ Hid ((T : Int) < mm * h) ∧ Hid (Below W6.heap.size W6 wi)) (fun lo hi _ => (intOf hi - intOf lo).toNat)
      case atStart => exact ⟨0, 1000000, rfl, rfl, by omega, by omega, by omega, Lib.hid (by omega), hTm, Lib.hid (Below.refl _ _)⟩
      case round =>
        obtain ⟨l, h, rfl, rfl, hl0, hlh, hh, hml, hmh, hbi⟩ := hrel
        have hbm := hsp.m.go hbi.out
        have bri := br.go hbi.out
        have hmi := hmz.go hbi.out
        have hri := hrT.go hbi.out
        by_cases hgt : 1 < h - l
        · obtain ⟨d, hd⟩ : ∃ d, (l + h) / 2 = d := ⟨_, rfl⟩
          have hd1 : l < d := by omega
          have hd2 : d < h := by omega
          obtain ⟨D, hD⟩ := Int.eq_ofNat_of_zero_le (show 0 ≤ d by omega)
          have hsm : Sm ((mm : Int) * d) := by
            unfold Sm
            rw [hD, ← Int.natCast_mul, Int.natAbs_natCast]
            have h1 := dlen_mul mm D
            have h2 : (digs D).length ≤ 2 := digs_len (by omega)
            omega
          have hsT : Sm (T : Int) := by unfold Sm; rw [Int.natAbs_natCast]; omega
          have hdl : (digs (mm : Int).natAbs).length + (digs d.natAbs).length ≤ 1999999 := by
            rw [Int.natAbs_natCast]
            have h2 : (digs d.natAbs).length ≤ 2 := digs_len (by omega)
            omega
          clear hD
          by_cases hle : (mm : Int) * d ≤ T
          · have hk : decide (cmpI ((mm : Int) * d) T ≤ 0) = true := by have := cmpI_pos (a := (mm : Int) * d) (b := T); exact decide_eq_true (by omega)
            go_wp2
            refine wp_region_held_drew (S := fun W' => Bx W' (M) 28 (.bool gm) (.slice pm nm cm) ∧ Bx W' (RB) 28 (.bool false) (.slice pp nt cp)) (by kernel_rfl) (⟨hbm.drew, bri.drew⟩) (fun _ => ?_)
            replace hbm := hbm.drew
            replace bri := bri.drew
            replace hmi := hmi.drew
            replace hri := hri.drew
            replace hbi := Lib.hid (Below.drew hbi.out)
            generalize wr.drew = wr at hbm bri hmi hri hbi ⊢
            refine wpAnyH_take (i := 0) (v := ?_) rfl (by kernel_rfl) (by kernel_rfl) (by kernel_rfl) (fun _ _ _ h => h) (Or.inl ⟨by kernel_rfl, ?_⟩) (⟨hbm, bri⟩) ?_
            rotate_left
            focus (intro W' hSw; obtain ⟨hx0, hx1⟩ := hSw; have hc0 := hx0.c0; have hc1 := hx0.c1; have hc2 := hx1.c0; have hc3 := hx1.c1; clear hx0 hx1; go_simp; (try with_reducible rfl))
            (try simp only [Act.put, List.setIfInBounds_toArray, List.set_cons_zero, List.set_cons_succ, List.getElem_toArray, List.getElem_cons_zero, List.getElem_cons_succ])
            refine wpAnyH_take (i := 1) (v := ?_) rfl (by kernel_rfl) (by kernel_rfl) (by kernel_rfl) (fun _ _ _ h => h) (Or.inl ⟨by kernel_rfl, ?_⟩) (⟨hbm, bri⟩) ?_
            rotate_left
            focus (intro W' hSw; obtain ⟨hx0, hx1⟩ := hSw; have hc0 := hx0.c0; have hc1 := hx0.c1; have hc2 := hx1.c0; have hc3 := hx1.c1; clear hx0 hx1; go_simp; (try with_reducible rfl))
            (try simp only [Act.put, List.setIfInBounds_toArray, List.set_cons_zero, List.set_cons_succ, List.getElem_toArray, List.getElem_cons_zero, List.getElem_cons_succ])
            refine wpAnyH_take (i := 5) (v := ?_) rfl (by kernel_rfl) (by kernel_rfl) (by kernel_rfl) (fun _ _ _ h => h) (Or.inl ⟨by kernel_rfl, ?_⟩) (⟨hbm, bri⟩) ?_
            rotate_left
            focus (intro W' hSw; obtain ⟨hx0, hx1⟩ := hSw; have hc0 := hx0.c0; have hc1 := hx0.c1; have hc2 := hx1.c0; have hc3 := hx1.c1; clear hx0 hx1; go_simp; (try with_reducible rfl))
            (try simp only [Act.put, List.setIfInBounds_toArray, List.set_cons_zero, List.set_cons_succ, List.getElem_toArray, List.getElem_cons_zero, List.getElem_cons_succ])
            refine wpAnyH_ready (rs := [2]) (by kernel_rfl) (by simp) ?_
            refine AllReadyH.cons rfl (fun K hK => ?_) (AllReadyH.nil)
            go_simp
            have hal : Below wr.heap.size wr (wr.alloc (.cells #[.int .i64 d] 3)) := (Below.refl _ _).alloc (Nat.le_refl _) _
            have hlit := lit_z wr d (by omega) (by omega)
            replace hbm := hbm.go hal
            replace bri := bri.go hal
            replace hmi := hmi.go hal
            replace hri := hri.go hal
            replace hbi := Lib.hid (bel_go hbi.out hbi.out.size hal)
            generalize wr.heap.size = LL at hlit ⊢
            generalize wr.alloc (.cells #[.int .i64 d] 3) = Wl at hlit hbm bri hmi hri hbi ⊢
            refine hK.out _ _ (⟨hbm, bri⟩) (fun _ => ?_)
            clear hK K
            (try simp only [Act.put, List.setIfInBounds_toArray, List.set_cons_zero, List.set_cons_succ, List.getElem_toArray, List.getElem_cons_zero, List.getElem_cons_succ])
            clear hal
            refine wpAnyH_take (i := 3) (v := ?_) rfl (by kernel_rfl) (by kernel_rfl) (by kernel_rfl) (fun _ _ _ h => h) (Or.inl ⟨by kernel_rfl, ?_⟩) (⟨hbm, bri⟩) ?_
            rotate_left
            focus (intro W' hSw; obtain ⟨hx0, hx1⟩ := hSw; have hc0 := hx0.c0; have hc1 := hx0.c1; have hc2 := hx1.c0; have hc3 := hx1.c1; clear hx0 hx1; go_simp; (try with_reducible rfl))
            (try simp only [Act.put, List.setIfInBounds_toArray, List.set_cons_zero, List.set_cons_succ, List.getElem_toArray, List.getElem_cons_zero, List.getElem_cons_succ])
            refine wpAnyH_ready (rs := [4]) (by kernel_rfl) (by simp) ?_
            refine AllReadyH.cons rfl (fun K hK => ?_) (AllReadyH.nil)
            go_simp
            go_at_call 19; refine (ztimes_any _ _ mm d hdl _ hmi hlit).mono ?_
            rintro e Wt ⟨u, rfl, ht, hb1⟩
            obtain ⟨gt, pt, nt, ct, rfl⟩ := ht.shape
            replace hbm := hbm.go hb1
            replace bri := bri.go hb1
            replace hri := hri.go hb1
            replace hbi := Lib.hid (bel_go hbi.out hbi.out.size hb1)
            clear hb1
            refine hK.out _ _ (⟨hbm, bri⟩) (fun _ => ?_)
            clear hK K
            (try simp only [Act.put, List.setIfInBounds_toArray, List.set_cons_zero, List.set_cons_succ, List.getElem_toArray, List.getElem_cons_zero, List.getElem_cons_succ])
            refine wpAnyH_ready (rs := [6]) (by kernel_rfl) (by simp) ?_
            refine AllReadyH.cons rfl (fun K hK => ?_) (AllReadyH.nil)
            go_simp
            go_at_call 25; refine (zcmp_any _ _ _ _ hsm hsT _ ht hri).mono ?_
            rintro e Wc ⟨rfl, hb2⟩
            replace hbm := hbm.go hb2
            replace bri := bri.go hb2
            replace hbi := Lib.hid (bel_go hbi.out hbi.out.size hb2)
            clear hb2
            refine hK.out _ _ (⟨hbm, bri⟩) (fun _ => ?_)
            clear hK K
            (try simp only [Act.put, List.setIfInBounds_toArray, List.set_cons_zero, List.set_cons_succ, List.getElem_toArray, List.getElem_cons_zero, List.getElem_cons_succ])
            refine wpAnyH_take (i := 7) (v := ?_) rfl (by kernel_rfl) (by kernel_rfl) (by kernel_rfl) (fun _ _ _ h => h) (Or.inl ⟨by kernel_rfl, ?_⟩) (⟨hbm, bri⟩) ?_
            rotate_left
            focus (intro W' hSw; obtain ⟨hx0, hx1⟩ := hSw; have hc0 := hx0.c0; have hc1 := hx0.c1; have hc2 := hx1.c0; have hc3 := hx1.c1; clear hx0 hx1; go_simp; (try with_reducible rfl))
            (try simp only [Act.put, List.setIfInBounds_toArray, List.set_cons_zero, List.set_cons_succ, List.getElem_toArray, List.getElem_cons_zero, List.getElem_cons_succ])
            refine wpAnyH_done (by kernel_rfl) ?_ _
            have HLE := Lib.hid hle
            clear hle hk
            go_wp2
            go_roundw
            case rel => exact ⟨d, h, rfl, rfl, by omega, by omega, by omega, HLE, hmh, hbi⟩
            case measure => simp [intOf]; omega
          · have hk : decide (cmpI ((mm : Int) * d) T ≤ 0) = false := by have := cmpI_pos (a := (mm : Int) * d) (b := T); exact decide_eq_false (by omega)
            go_wp2
            refine wp_region_held_drew (S := fun W' => Bx W' (M) 28 (.bool gm) (.slice pm nm cm) ∧ Bx W' (RB) 28 (.bool false) (.slice pp nt cp)) (by kernel_rfl) (⟨hbm.drew, bri.drew⟩) (fun _ => ?_)
            replace hbm := hbm.drew
            replace bri := bri.drew
            replace hmi := hmi.drew
            replace hri := hri.drew
            replace hbi := Lib.hid (Below.drew hbi.out)
            generalize wr.drew = wr at hbm bri hmi hri hbi ⊢
            refine wpAnyH_take (i := 0) (v := ?_) rfl (by kernel_rfl) (by kernel_rfl) (by kernel_rfl) (fun _ _ _ h => h) (Or.inl ⟨by kernel_rfl, ?_⟩) (⟨hbm, bri⟩) ?_
            rotate_left
            focus (intro W' hSw; obtain ⟨hx0, hx1⟩ := hSw; have hc0 := hx0.c0; have hc1 := hx0.c1; have hc2 := hx1.c0; have hc3 := hx1.c1; clear hx0 hx1; go_simp; (try with_reducible rfl))
            (try simp only [Act.put, List.setIfInBounds_toArray, List.set_cons_zero, List.set_cons_succ, List.getElem_toArray, List.getElem_cons_zero, List.getElem_cons_succ])
            refine wpAnyH_take (i := 1) (v := ?_) rfl (by kernel_rfl) (by kernel_rfl) (by kernel_rfl) (fun _ _ _ h => h) (Or.inl ⟨by kernel_rfl, ?_⟩) (⟨hbm, bri⟩) ?_
            rotate_left
            focus (intro W' hSw; obtain ⟨hx0, hx1⟩ := hSw; have hc0 := hx0.c0; have hc1 := hx0.c1; have hc2 := hx1.c0; have hc3 := hx1.c1; clear hx0 hx1; go_simp; (try with_reducible rfl))
            (try simp only [Act.put, List.setIfInBounds_toArray, List.set_cons_zero, List.set_cons_succ, List.getElem_toArray, List.getElem_cons_zero, List.getElem_cons_succ])
            refine wpAnyH_take (i := 5) (v := ?_) rfl (by kernel_rfl) (by kernel_rfl) (by kernel_rfl) (fun _ _ _ h => h) (Or.inl ⟨by kernel_rfl, ?_⟩) (⟨hbm, bri⟩) ?_
            rotate_left
            focus (intro W' hSw; obtain ⟨hx0, hx1⟩ := hSw; have hc0 := hx0.c0; have hc1 := hx0.c1; have hc2 := hx1.c0; have hc3 := hx1.c1; clear hx0 hx1; go_simp; (try with_reducible rfl))
            (try simp only [Act.put, List.setIfInBounds_toArray, List.set_cons_zero, List.set_cons_succ, List.getElem_toArray, List.getElem_cons_zero, List.getElem_cons_succ])
            refine wpAnyH_ready (rs := [2]) (by kernel_rfl) (by simp) ?_
            refine AllReadyH.cons rfl (fun K hK => ?_) (AllReadyH.nil)
            go_simp
            have hal : Below wr.heap.size wr (wr.alloc (.cells #[.int .i64 d] 3)) := (Below.refl _ _).alloc (Nat.le_refl _) _
            have hlit := lit_z wr d (by omega) (by omega)
            replace hbm := hbm.go hal
            replace bri := bri.go hal
            replace hmi := hmi.go hal
            replace hri := hri.go hal
            replace hbi := Lib.hid (bel_go hbi.out hbi.out.size hal)
            generalize wr.heap.size = LL at hlit ⊢
            generalize wr.alloc (.cells #[.int .i64 d] 3) = Wl at hlit hbm bri hmi hri hbi ⊢
            refine hK.out _ _ (⟨hbm, bri⟩) (fun _ => ?_)
            clear hK K
            (try simp only [Act.put, List.setIfInBounds_toArray, List.set_cons_zero, List.set_cons_succ, List.getElem_toArray, List.getElem_cons_zero, List.getElem_cons_succ])
            clear hal
            refine wpAnyH_take (i := 3) (v := ?_) rfl (by kernel_rfl) (by kernel_rfl) (by kernel_rfl) (fun _ _ _ h => h) (Or.inl ⟨by kernel_rfl, ?_⟩) (⟨hbm, bri⟩) ?_
            rotate_left
            focus (intro W' hSw; obtain ⟨hx0, hx1⟩ := hSw; have hc0 := hx0.c0; have hc1 := hx0.c1; have hc2 := hx1.c0; have hc3 := hx1.c1; clear hx0 hx1; go_simp; (try with_reducible rfl))
            (try simp only [Act.put, List.setIfInBounds_toArray, List.set_cons_zero, List.set_cons_succ, List.getElem_toArray, List.getElem_cons_zero, List.getElem_cons_succ])
            refine wpAnyH_ready (rs := [4]) (by kernel_rfl) (by simp) ?_
            refine AllReadyH.cons rfl (fun K hK => ?_) (AllReadyH.nil)
            go_simp
            go_at_call 19; refine (ztimes_any _ _ mm d hdl _ hmi hlit).mono ?_
            rintro e Wt ⟨u, rfl, ht, hb1⟩
            obtain ⟨gt, pt, nt, ct, rfl⟩ := ht.shape
            replace hbm := hbm.go hb1
            replace bri := bri.go hb1
            replace hri := hri.go hb1
            replace hbi := Lib.hid (bel_go hbi.out hbi.out.size hb1)
            clear hb1
            refine hK.out _ _ (⟨hbm, bri⟩) (fun _ => ?_)
            clear hK K
            (try simp only [Act.put, List.setIfInBounds_toArray, List.set_cons_zero, List.set_cons_succ, List.getElem_toArray, List.getElem_cons_zero, List.getElem_cons_succ])
            refine wpAnyH_ready (rs := [6]) (by kernel_rfl) (by simp) ?_
            refine AllReadyH.cons rfl (fun K hK => ?_) (AllReadyH.nil)
            go_simp
            go_at_call 25; refine (zcmp_any _ _ _ _ hsm hsT _ ht hri).mono ?_
            rintro e Wc ⟨rfl, hb2⟩
            replace hbm := hbm.go hb2
            replace bri := bri.go hb2
            replace hbi := Lib.hid (bel_go hbi.out hbi.out.size hb2)
            clear hb2
            refine hK.out _ _ (⟨hbm, bri⟩) (fun _ => ?_)
            clear hK K
            (try simp only [Act.put, List.setIfInBounds_toArray, List.set_cons_zero, List.set_cons_succ, List.getElem_toArray, List.getElem_cons_zero, List.getElem_cons_succ])
            refine wpAnyH_take (i := 7) (v := ?_) rfl (by kernel_rfl) (by kernel_rfl) (by kernel_rfl) (fun _ _ _ h => h) (Or.inl ⟨by kernel_rfl, ?_⟩) (⟨hbm, bri⟩) ?_
            rotate_left
            focus (intro W' hSw; obtain ⟨hx0, hx1⟩ := hSw; have hc0 := hx0.c0; have hc1 := hx0.c1; have hc2 := hx1.c0; have hc3 := hx1.c1; clear hx0 hx1; go_simp; (try with_reducible rfl))
            (try simp only [Act.put, List.setIfInBounds_toArray, List.set_cons_zero, List.set_cons_succ, List.getElem_toArray, List.getElem_cons_zero, List.getElem_cons_succ])
            refine wpAnyH_done (by kernel_rfl) ?_ _
            have HLE := Lib.hid hle
            clear hle hk
            go_wp2
            go_roundw
            case rel => exact ⟨l, d, rfl, rfl, by omega, by omega, by omega, hml, Lib.hid (by have := HLE.out; omega), hbi⟩
            case measure => simp [intOf]; omega
        · have hN := Lib.hid (show h = l + 1 by omega)
          have hlo := split_digit (m := (mm : Int)) (R := R) (x := x) (lo := l) (by omega) hR.out hx1 (by rw [← HT.out]; exact hml.out) (by rw [← HT.out, ← hN.out]; exact hmh.out)
          rw [← HT.out] at hlo
          have HLO := Lib.hid hlo
          have hstep := Lib.hid (split_step (lo := l) hinv'.out (by have := LA.out; omega) (by have := hlen.out; omega) HX.out)
          have hl1 : l < 1000000 := hlo.1
          have hown' := own_go hown hbi.out
          have hcd := own_cell hown' j (by omega) hlen.out
          have hfd : wr.frozen? ⟨M + 1, j, none⟩ = false := World.ownsRow.frozenAt hown' j
          have hrd6 := hrd5.go hbi.out
          replace hsp := hsp.go hbi.out
          replace hlow := Lib.hid (bel_go hlow.out (by have := hlow.out.size; have := HM.out; omega) hbi.out)
          clear hlo hinv' hown hri hmi hbm hbi hrT hmz br hrd5
          go_wp2
          have hP := put1 wr (M + 1) j (.int .i64 l)
          replace hsp := hsp.put hP (by have := s1.out; omega) (by omega)
          replace bri := bri.put hP (by have := s2.out; omega)
          have hown2 := own_set hown' j l
          replace hrd6 := hrd6.put_fr (fun q hq => Nat.le_trans (by have := sM.out; omega) (hfr q hq)) hP
          replace hlow := Lib.hid (bel_put hlow.out (by omega) hP)
          clear hown' hP hcd hfd
          generalize wr.setCell ⟨M + 1, j, none⟩ (.int .i64 l) = W7 at hsp bri hown2 hrd6 hlow ⊢
          have hrz := rd_z hrd6
          have hmz := hm.below (show Below W1.heap.size W1 W7 by rw [HM.out]; exact hlow.out)
          have hbm := hsp.m
          obtain ⟨ll, hll⟩ := Int.eq_ofNat_of_zero_le hl0
          have HLL := Lib.hid hll
          have hsl : (digs ll).length ≤ 1 := digs_len (by omega)
          have hcl : Hid (cut [l] = digs ll) := by
            unfold Hid
            rw [cut_digs (Ok.cons hl0 hl1 Ok.nil), hll]
            simp [val]
          have hdl : (digs (mm : Int).natAbs).length + (digs (ll : Int).natAbs).length ≤ 1999999 := by rw [Int.natAbs_natCast, Int.natAbs_natCast]; omega
          have hsT : Sm (T : Int) := by unfold Sm; rw [Int.natAbs_natCast]; omega
          have hsm : Sm ((mm : Int) * ll) := by
            unfold Sm
            rw [← Int.natCast_mul, Int.natAbs_natCast]
            have h1 := dlen_mul mm ll
            omega
          clear hll hrd6
          refine wp_region_last (S := fun W' => Bx W' (RB) 28 (.bool false) (.slice pp nt cp) ∧ Bx W' (M) 28 (.bool gm) (.slice pm nm cm)) (m := 7) (by kernel_rfl) (by kernel_rfl) (by kernel_rfl) (⟨bri.drew, hbm.drew⟩) (fun _ => ?_)
          replace hsp := hsp.drew
          replace bri := bri.drew
          replace hbm := hbm.drew
          replace hmz := hmz.drew
          replace hrz := hrz.drew
          replace hown2 := own_drew hown2
          replace hlow := Lib.hid (Below.drew hlow.out)
          generalize W7.drew = W7 at hsp bri hbm hmz hrz hown2 hlow ⊢
          refine wpAnyH_take (i := 0) (v := ?_) rfl (by kernel_rfl) (by kernel_rfl) (by kernel_rfl) (fun _ _ _ h => h) (Or.inl ⟨by kernel_rfl, ?_⟩) (⟨bri, hbm⟩) ?_
          rotate_left
          focus (intro W' hSw; obtain ⟨hx0, hx1⟩ := hSw; have hc0 := hx0.c0; have hc1 := hx0.c1; have hc2 := hx1.c0; have hc3 := hx1.c1; clear hx0 hx1; go_simp; (try with_reducible rfl))
          (try simp only [Act.put, List.setIfInBounds_toArray, List.set_cons_zero, List.set_cons_succ, List.getElem_toArray, List.getElem_cons_zero, List.getElem_cons_succ])
          refine wpAnyH_take (i := 1) (v := ?_) rfl (by kernel_rfl) (by kernel_rfl) (by kernel_rfl) (fun _ _ _ h => h) (Or.inl ⟨by kernel_rfl, ?_⟩) (⟨bri, hbm⟩) ?_
          rotate_left
          focus (intro W' hSw; obtain ⟨hx0, hx1⟩ := hSw; have hc0 := hx0.c0; have hc1 := hx0.c1; have hc2 := hx1.c0; have hc3 := hx1.c1; clear hx0 hx1; go_simp; (try with_reducible rfl))
          (try simp only [Act.put, List.setIfInBounds_toArray, List.set_cons_zero, List.set_cons_succ, List.getElem_toArray, List.getElem_cons_zero, List.getElem_cons_succ])
          refine wpAnyH_take (i := 2) (v := ?_) rfl (by kernel_rfl) (by kernel_rfl) (by kernel_rfl) (fun _ _ _ h => h) (Or.inl ⟨by kernel_rfl, ?_⟩) (⟨bri, hbm⟩) ?_
          rotate_left
          focus (intro W' hSw; obtain ⟨hx0, hx1⟩ := hSw; have hc0 := hx0.c0; have hc1 := hx0.c1; have hc2 := hx1.c0; have hc3 := hx1.c1; clear hx0 hx1; go_simp; (try with_reducible rfl))
          (try simp only [Act.put, List.setIfInBounds_toArray, List.set_cons_zero, List.set_cons_succ, List.getElem_toArray, List.getElem_cons_zero, List.getElem_cons_succ])
          refine wpAnyH_ready (rs := [3]) (by kernel_rfl) (by simp) ?_
          refine AllReadyH.cons rfl (fun K hK => ?_) (AllReadyH.nil)
          go_simp
          have hal : Below W7.heap.size W7 (W7.alloc (.cells #[.int .i64 l] 3)) := (Below.refl _ _).alloc (Nat.le_refl _) _
          have hlit := lit_rd W7 l
          replace hsp := hsp.go hal
          replace bri := bri.go hal
          replace hbm := hbm.go hal
          replace hmz := hmz.go hal
          replace hrz := hrz.go hal
          replace hown2 := own_go hown2 hal
          replace hlow := Lib.hid (bel_go hlow.out (by have := hlow.out.size; have := HM.out; omega) hal)
          clear hal
          generalize W7.heap.size = LL at hlit ⊢
          generalize W7.alloc (.cells #[.int .i64 l] 3) = W8 at hlit hsp bri hbm hmz hrz hown2 hlow ⊢
          refine hK.out _ _ (⟨bri, hbm⟩) (fun _ => ?_)
          clear hK K
          (try simp only [Act.put, List.setIfInBounds_toArray, List.set_cons_zero, List.set_cons_succ, List.getElem_toArray, List.getElem_cons_zero, List.getElem_cons_succ])
          refine wpAnyH_ready (rs := [4]) (by kernel_rfl) (by simp) ?_
          refine AllReadyH.cons rfl (fun K hK => ?_) (AllReadyH.nil)
          go_simp
          go_at_call 27; refine (trim_f _ _ _ [l] (digs ll) hcl.out (by simp) _ hlit).mono ?_
          rintro e W9 ⟨nl, rfl, hrl, hb1⟩
          replace hsp := hsp.go hb1
          replace bri := bri.go hb1
          replace hbm := hbm.go hb1
          replace hmz := hmz.go hb1
          replace hrz := hrz.go hb1
          replace hown2 := own_go hown2 hb1
          replace hlow := Lib.hid (bel_go hlow.out (by have := hlow.out.size; have := HM.out; omega) hb1)
          clear hb1
          have hlz := rd_z hrl
          clear hrl hlit
          refine hK.out _ _ (⟨bri, hbm⟩) (fun _ => ?_)
          clear hK K
          (try simp only [Act.put, List.setIfInBounds_toArray, List.set_cons_zero, List.set_cons_succ, List.getElem_toArray, List.getElem_cons_zero, List.getElem_cons_succ])
          refine wpAnyH_ready (rs := [5]) (by kernel_rfl) (by simp) ?_
          refine AllReadyH.cons rfl (fun K hK => ?_) (AllReadyH.nil)
          go_simp
          go_at_call 19; refine (ztimes_any _ _ mm ll hdl _ hmz hlz).mono ?_
          rintro e Wt ⟨u, rfl, ht, hb1⟩
          obtain ⟨gt, pt, nt, ct, rfl⟩ := ht.shape
          replace hsp := hsp.go hb1
          replace bri := bri.go hb1
          replace hbm := hbm.go hb1
          replace hmz := hmz.go hb1
          replace hrz := hrz.go hb1
          replace hown2 := own_go hown2 hb1
          replace hlow := Lib.hid (bel_go hlow.out (by have := hlow.out.size; have := HM.out; omega) hb1)
          clear hb1
          refine hK.out _ _ (⟨bri, hbm⟩) (fun _ => ?_)
          clear hK K
          (try simp only [Act.put, List.setIfInBounds_toArray, List.set_cons_zero, List.set_cons_succ, List.getElem_toArray, List.getElem_cons_zero, List.getElem_cons_succ])
          refine wpAnyH_ready (rs := [6]) (by kernel_rfl) (by simp) ?_
          refine AllReadyH.cons rfl (fun K hK => ?_) (AllReadyH.nil)
          go_simp
          go_at_call 8; refine (zless_any _ _ _ _ hsT hsm _ hrz ht).mono ?_
          rintro e Ws ⟨u, rfl, hs, hb1⟩
          obtain ⟨gs, ps, ns, cs, rfl⟩ := hs.shape
          replace hsp := hsp.go hb1
          replace bri := bri.go hb1
          replace hbm := hbm.go hb1
          replace hown2 := own_go hown2 hb1
          replace hlow := Lib.hid (bel_go hlow.out (by have := hlow.out.size; have := HM.out; omega) hb1)
          clear hb1
          refine hK.out _ _ (⟨bri, hbm⟩) (fun _ => ?_)
          clear hK K
          (try simp only [Act.put, List.setIfInBounds_toArray, List.set_cons_zero, List.set_cons_succ, List.getElem_toArray, List.getElem_cons_zero, List.getElem_cons_succ])
          refine wpAnyH_done (by kernel_rfl) ?_ _
          refine still1_step rfl (fun K hK => ?_)
          have hq0 := bri.c0
          have hq1 := bri.c1
          have hr0 := bri.f0
          have hr1 := bri.f1
          go_simp
          clear hq0 hq1 hr0 hr1 hbm
          have hP := put2 Ws RB (.bool gs) (.slice ps ns cs)
          have hN := bri.stored (.bool gs) (.slice ps ns cs)
          generalize (Ws.setCell ⟨RB, 0, none⟩ (.bool gs)).setCell ⟨RB, 1, none⟩ (.slice ps ns cs) = WA at hP hN ⊢
          replace hsp := hsp.put hP (by have := s1.out; have := s2.out; omega) (by have := s2.out; omega)
          replace hs := hs.put bri (by decide) hP
          replace hown2 := own_put hown2 bri (by decide) hP
          replace hlow := Lib.hid (bel_put hlow.out (by have := s2.out; omega) hP)
          clear hP bri
          have br := hN
          clear hN
          refine hK.out _ _ ?_
          clear hK K
          (try simp only [Act.put, List.setIfInBounds_toArray, List.set_cons_zero, List.set_cons_succ, List.getElem_toArray, List.getElem_cons_zero, List.getElem_cons_succ])
          go_wp2
          go_roundw
          case rel =>
            obtain ⟨R', hR'⟩ := Int.eq_ofNat_of_zero_le (show 0 ≤ (T : Int) - mm * ll by rw [← HLL.out]; exact HLO.out.2.1)
            refine ⟨(j : Int) - 1, qs.set j l, R', gs, ps, ns, cs, rfl, by omega, by omega, Lib.hid (hok.out.set _ hl0 hl1), Lib.hid (by rw [List.length_set]; exact hlen.out), Lib.hid (by rw [← hR', ← HLL.out]; exact HLO.out.2.2), ?_, hown2, hsp, br, by rw [← hR']; exact hs, hlow⟩
            unfold Hid
            rw [show ((j : Int) - 1 + 1).toNat = j by omega, hstep.out, ← hR', HT.out, HLL.out]
          case measure => simp [intOf]

/-- (Z).Split. -/
theorem zsplit_any (va vb : Value) (a b : Int) (hb0 : b ≠ 0) (hla : (digs a.natAbs).length ≤ 400000) (hlb : (digs b.natAbs).length ≤ 400000) (w : World) (hA : IsZ w va a) (hB : IsZ w vb b) :
    Calls Try.prog 49 #[va, vb] w fun e w' => ∃ u v, e = .returned (.tuple #[u, v]) ∧ IsZ w' u (a / b) ∧ IsZ w' v (a % b) ∧ Below w.heap.size w w' := by
  obtain ⟨ga, pa, na, ca, rfl⟩ := hA.shape
  obtain ⟨gb, pb, nb, cb, rfl⟩ := hB.shape
  have la := hA.rd.len
  have lb := hB.rd.len
  exact split_digits a b ga gb pa pb na nb ca cb hb0 (by omega) (by omega) w hA hB
end Go.Proofs.Ytfhidjldmopbgaa

