/-
  The contracts of the reference's numbers, eighth part: Times.
  Conditions: those of each theorem.
-/
import Derived.Test.YtfhidjldmopbgaaZ7
import Derived.Test.YtfhidjldmopbgaaZM2
set_option linter.unusedSimpArgs false
namespace Go.Proofs.Ytfhidjldmopbgaa
open Go.RowKit Go.Shelf Zd Wd

theorem Rd.len {w : World} {p : Option Addr} {n c : Nat} {ds : List Int} (h : Rd w (.slice p n c) ds) : ds.length = n := by
  obtain ⟨_, _, h1, _⟩ := h
  simp at h1
  exact h1.2.1.symm
theorem Rd.at_ {w : World} {p : Option Addr} {n c : Nat} {ds : List Int} (h : Rd w (.slice p n c) ds) {k : Nat} (hk : k < n) : ∃ b off, p = some ⟨b, off, none⟩ ∧ b < w.heap.size ∧ w.cell? ⟨b, off + k, none⟩ = some (.int .i64 (ds.getD k 0)) := by
  have hl := h.len
  obtain ⟨p', cap, h1, _, _, h4⟩ := h
  simp at h1
  obtain ⟨rfl, _, _⟩ := h1
  rcases h4 with h4 | ⟨b, off, g1, g2, _, g3⟩
  · rw [h4] at hl; simp at hl; omega
  · exact ⟨b, off, g1, g2, g3 k (by omega)⟩
/-- Only block b has turned, by one cell. -/
theorem put1 (w : World) (b o : Nat) (x : Value) : Put w b (w.setCell ⟨b, o, none⟩ x) where
  os := rfl
  tape := rfl
  output := rfl
  size := by simp [World.setCell]
  block := fun k hk => Below.heap_setCell _ _ _ _ hk
theorem own_set {w : World} {base G N : Nat} {ds : List Int} (h : w.ownsRow base 3 1 (.slice (some ⟨G, 0, none⟩) N N) N (ds.map (Value.int .i64))) (k : Nat) (v : Int) :
    (w.setCell ⟨G, k, none⟩ (.int .i64 v)).ownsRow base 3 1 (.slice (some ⟨G, 0, none⟩) N N) N ((ds.set k v).map (Value.int .i64)) := by
  rw [List.map_set]; exact (World.ownsRow.stored h k (.int .i64 v)).1
theorem own_cell {w : World} {base G N : Nat} {ds : List Int} (h : w.ownsRow base 3 1 (.slice (some ⟨G, 0, none⟩) N N) N (ds.map (Value.int .i64))) (k : Nat) (hk : k < N) (hl : ds.length = N) :
    w.cell? ⟨G, k, none⟩ = some (.int .i64 (ds.getD k 0)) := by
  rw [World.ownsRow.cellAt h k (by omega)]
  simp [hl, hk]

theorem zero_cells (n : Nat) : (madeCells (Value.int .i64 0).cells (n * 1)).toList = (List.replicate n (0 : Int)).map (Value.int .i64) := by
  apply List.ext_getElem
  · simp [madeCells]
  · intro i h1 h2
    simp [madeCells, Value.cells, Nat.mod_one]

set_option maxRecDepth 100000 in
set_option maxHeartbeats 4000000 in
/-- (Z).Times, by digits. -/
theorem times_digits (g1 g2 : Bool) (X Y : Nat) (pa pb : Option Addr) (na nb ca cb : Nat) (hl : na + nb ≤ 1999999) (w : World) (RA : Hid (Rd w (.slice pa na ca) (digs X))) (RB : Hid (Rd w (.slice pb nb cb) (digs Y))) :
    Calls Try.prog 19 #[.agg #[.bool g1, .slice pa na ca], .agg #[.bool g2, .slice pb nb cb]] w fun e w' => ∃ s, e = .returned (.agg #[.bool ((g1 != g2) && decide (digs (X * Y) ≠ [])), s]) ∧ Rd w' s (digs (X * Y)) ∧ Below w.heap.size w w' := by
  obtain ⟨i0, hi, hz0, hz1, hz2⟩ := info_parts (show (Try.prog.info? 3).map (fun i => (i.zero, i.size, i.bytes)) = some (some (.int .i64 0), 1, 8) by kernel_rfl)
  have LA := Lib.hid RA.out.len
  have LB := Lib.hid RB.out.len
  obtain ⟨W, hW, h0, b1, b2, b3⟩ := boot3 w (.bool g1) (.slice pa na ca) (.bool g2) (.slice pb nb cb)
  have HW := Lib.hid hW
  have hWs := Lib.hid (show W.heap.size = w.heap.size + 1 + 1 + 1 by rw [hW]; simp)
  clear hW
  go_enter Try.func19, Try.ntmps19
  go_wp2_with (first
    | (at_make; refine wpList_make_full _ rfl _ _ 26 rfl w.heap.size 3 i0 (.int .i64 0) 1 Try.underlying26 hi hz0 hz1 .i64 .i64 _ _ (na + nb + 1) rfl rfl (by omega) (by omega) (by rw [hz2]; omega) (by unfold maxLen; omega) (by simp; omega) ?_; intro w1 hown hgrow
       rw [← HW.out] at hown hgrow
       rw [hWs.out] at hown
       have hb1 : Below W.heap.size W w1 := (Below.refl _ _).grown hgrow (Nat.le_refl _) (fun _ h => by cases h)
       replace h0 := bel_go h0 h0.size hb1
       replace b1 := b1.go hb1
       replace b2 := b2.go hb1
       replace b3 := b3.go hb1
       have s1 := Lib.hid (show w.heap.size + 1 + 1 + 1 ≤ w1.heap.size by have := hb1.size; have := hWs.out; omega)
       clear hgrow hb1
       have c11 := b1.c1
       have c21 := b2.c1))
  rw [zero_cells] at hown
  clear c11 c21 hWs HW
  go_loopw [23] (fun i wr => ∃ (k : Nat) (ds : List Int), i = .int .i64 k ∧ k ≤ na ∧ Hid (Ok ds) ∧ Hid (ds.length = na + nb + 1) ∧ Hid (∀ t, k + nb ≤ t → ds.getD t 0 = 0) ∧ Hid (val ds = val ((digs X).take k) * val (digs Y)) ∧
      wr.ownsRow w.heap.size 3 1 (.slice (some ⟨w.heap.size + 1 + 1 + 1, 0, none⟩) (na + nb + 1) (na + nb + 1)) (na + nb + 1) (ds.map (Value.int .i64)) ∧ Below w.heap.size w wr ∧ Bx wr w.heap.size 28 (.bool g1) (.slice pa na ca) ∧ Bx wr (w.heap.size + 1) 28 (.bool g2) (.slice pb nb cb) ∧ Bx wr (w.heap.size + 1 + 1) 28 (.bool false) (.slice none 0 0) ∧ Hid (w.heap.size + 1 + 1 + 1 ≤ wr.heap.size)) (fun i _ => na - (intOf i).toNat)
  case atStart => exact ⟨0, List.replicate (na + nb + 1) 0, rfl, by omega, Lib.hid (zeros_ok _), Lib.hid (by simp), Lib.hid (fun t _ => zeros_getD _ t), Lib.hid (by rw [zeros_val]; simp [val]), hown, h0, b1, b2, b3, s1⟩
  case round =>
    clear hown h0 b1 b2 b3 s1
    obtain ⟨k, ds, rfl, hk, hok, hlen, hz, hval, hown, h0, b1, b2, b3, s1⟩ := hrel
    by_cases hlt : k < na
    · obtain ⟨ba, oa, rfl, hba, hxa⟩ := RA.out.at_ hlt
      obtain ⟨x, hx⟩ : ∃ x, (digs X).getD k 0 = x := ⟨_, rfl⟩
      have hxb := (digs_ok X).getD (k := k) (by have := LA.out; omega)
      rw [hx] at hxa hxb
      obtain ⟨hx0, hx1⟩ := hxb
      have hcx : wr.cell? ⟨ba, oa + k, none⟩ = some (.int .i64 x) := (h0.cell (p := ⟨ba, oa + k, none⟩) hba).trans hxa
      have HX := Lib.hid hx
      have c21 := b2.c1
      clear hx hxa
      go_wp2
      obtain ⟨wo, rfl⟩ : ∃ wo : World, wo = wr := ⟨_, rfl⟩
      clear hcx c21
      go_loopw [31, 8] (fun j c wi => ∃ (l : Nat) (es : List Int) (cy : Int), j = .int .i64 l ∧ c = .int .i64 cy ∧ l ≤ nb ∧ 0 ≤ cy ∧ cy < 1000000 ∧ Hid (Ok es) ∧ Hid (es.length = na + nb + 1) ∧ Hid (∀ t, k + nb ≤ t → es.getD t 0 = 0) ∧
          Hid (val es + 1000000 ^ (k + l) * cy = val ds + 1000000 ^ k * (x * val ((digs Y).take l))) ∧ wi.ownsRow w.heap.size 3 1 (.slice (some ⟨w.heap.size + 1 + 1 + 1, 0, none⟩) (na + nb + 1) (na + nb + 1)) (na + nb + 1) (es.map (Value.int .i64)) ∧ Below w.heap.size w wi ∧ Bx wi w.heap.size 28 (.bool g1) (.slice (some ⟨ba, oa, none⟩) na ca) ∧ Bx wi (w.heap.size + 1) 28 (.bool g2) (.slice pb nb cb) ∧ Bx wi (w.heap.size + 1 + 1) 28 (.bool false) (.slice none 0 0) ∧ Hid (w.heap.size + 1 + 1 + 1 ≤ wi.heap.size)) (fun j _ _ => nb - (intOf j).toNat)
      case atStart => exact ⟨0, ds, 0, rfl, rfl, by omega, by omega, by omega, hok, hlen, hz, Lib.hid (by simp [val]), hown, h0, b1, b2, b3, s1⟩
      case round =>
        clear hown h0 b1 b2 b3 s1
        obtain ⟨l, es, cy, rfl, rfl, hl2, hc0, hc1, hok2, hlen2, hz2, hinv, hown, h0, b1, b2, b3, s1⟩ := hrel
        by_cases hlt2 : l < nb
        · obtain ⟨bb, ob, rfl, hbb, hyb⟩ := RB.out.at_ hlt2
          obtain ⟨y, hy⟩ : ∃ y, (digs Y).getD l 0 = y := ⟨_, rfl⟩
          have hyd := (digs_ok Y).getD (k := l) (by have := LB.out; omega)
          rw [hy] at hyb hyd
          obtain ⟨hy0, hy1⟩ := hyd
          have hcy : wr.cell? ⟨bb, ob + l, none⟩ = some (.int .i64 y) := (h0.cell (p := ⟨bb, ob + l, none⟩) hbb).trans hyb
          obtain ⟨d, hd⟩ : ∃ d, es.getD (k + l) 0 = d := ⟨_, rfl⟩
          have hdd := hok2.out.getD (k := k + l) (by have := hlen2.out; omega)
          have hcd := own_cell hown (k + l) (by omega) hlen2.out
          have hfd : wr.frozen? ⟨w.heap.size + 1 + 1 + 1, k + l, none⟩ = false := World.ownsRow.frozenAt hown (k + l)
          rw [hd] at hcd hdd
          obtain ⟨hd0, hd1⟩ := hdd
          obtain ⟨hp0, hp1⟩ := mul_digit hx0 hx1 hy0 hy1
          obtain ⟨t, ht⟩ : ∃ t, cy + (d + x * y) = t := ⟨_, rfl⟩
          have hstep := Lib.hid (times_step (t := t) hinv.out (by have := LB.out; omega) (by have := hlen2.out; omega) hy hd ht.symm)
          have ht0 : 0 ≤ t ∧ t < 1000000000000 := by omega
          obtain ⟨ht0, ht1⟩ := ht0
          have hr0 : 0 ≤ t % 1000000 ∧ t % 1000000 < 1000000 ∧ 0 ≤ t / 1000000 ∧ t / 1000000 < 1000000 := by omega
          have HT := Lib.hid ht
          clear hinv hy hd ht hyb
          go_wp2
          go_roundw
          case rel =>
            have ht := HT.out
            subst ht
            exact ⟨l + 1, es.set (k + l) ((cy + (d + x * y)) % 1000000), (cy + (d + x * y)) / 1000000, by go_num, rfl, by omega, hr0.2.2.1, hr0.2.2.2, Lib.hid (hok2.out.set _ hr0.1 hr0.2.1), Lib.hid (by rw [List.length_set]; exact hlen2.out),
              Lib.hid (fun u hu => by rw [getD_set _ (by have := hlen2.out; omega), if_neg (by omega)]; exact hz2.out u hu), hstep, own_set hown _ _, bel_put h0 (by omega) (put1 wr (w.heap.size + 1 + 1 + 1) (k + l) (.int .i64 ((cy + (d + x * y)) % 1000000))), b1.put (put1 wr (w.heap.size + 1 + 1 + 1) (k + l) (.int .i64 ((cy + (d + x * y)) % 1000000))) (by omega), b2.put (put1 wr (w.heap.size + 1 + 1 + 1) (k + l) (.int .i64 ((cy + (d + x * y)) % 1000000))) (by omega), b3.put (put1 wr (w.heap.size + 1 + 1 + 1) (k + l) (.int .i64 ((cy + (d + x * y)) % 1000000))) (by omega), Lib.hid (by have := s1.out; simp [World.setCell]; omega)⟩
          case measure => simp [intOf]; omega
        · obtain rfl : l = nb := by omega
          have hD0 := hz2.out (k + l) (by omega)
          have hcd := own_cell hown (k + l) (by omega) hlen2.out
          have hfd : wr.frozen? ⟨w.heap.size + 1 + 1 + 1, k + l, none⟩ = false := World.ownsRow.frozenAt hown (k + l)
          rw [hD0] at hcd
          have c21 := b2.c1
          have hend := Lib.hid (times_end hinv.out LB.out (by have := LA.out; omega) (by have := hlen2.out; omega) HX.out hD0 hval.out rfl)
          clear hinv hD0
          go_wp2
          go_roundw
          case rel => exact ⟨k + 1, es.set (k + l) cy, by go_num, by omega, Lib.hid (hok2.out.set _ hc0 hc1), Lib.hid (by rw [List.length_set]; exact hlen2.out),
              Lib.hid (fun u hu => by rw [getD_set _ (by have := hlen2.out; omega), if_neg (by omega)]; exact hz2.out u (by omega)), Lib.hid (by have := hend.out; rwa [Int.zero_add] at this), own_set hown _ _, bel_put h0 (by omega) (put1 wr (w.heap.size + 1 + 1 + 1) (k + l) (.int .i64 (cy))), b1.put (put1 wr (w.heap.size + 1 + 1 + 1) (k + l) (.int .i64 (cy))) (by omega), b2.put (put1 wr (w.heap.size + 1 + 1 + 1) (k + l) (.int .i64 (cy))) (by omega), b3.put (put1 wr (w.heap.size + 1 + 1 + 1) (k + l) (.int .i64 (cy))) (by omega), Lib.hid (by have := s1.out; simp [World.setCell]; omega)⟩
          case measure => simp [intOf]; omega
    · obtain rfl : k = na := by omega
      have HR := Lib.hid (show Rd wr (.slice (some ⟨w.heap.size + 1 + 1 + 1, 0, none⟩) (k + nb + 1) (k + nb + 1)) ds from Rd.of_own (base := w.heap.size) (by rw [hlen.out]; exact hown))
      have hll : ds.length ≤ 2000000 := by rw [hlen.out]; omega
      have hcut : Hid (cut ds = digs (X * Y)) := by
        unfold Hid
        rw [cut_digs hok.out, hval.out, take_all (by have := LA.out; omega), val_digs, val_digs, ← Int.natCast_mul, Int.toNat_natCast]
      have c10 := b1.c0
      have c20 := b2.c0
      clear hown hz hval
      obtain ⟨sg, hsg⟩ : ∃ sg, (!(g1 == g2)) = sg := ⟨_, rfl⟩
      go_wp2_with (first
        | (go_at_call 27; (with_reducible refine (trim_any sg _ ds hll _ HR.out).mono ?_); rintro e w2 ⟨s, rfl, hs, hb2⟩
           obtain ⟨ps, cs, rfl⟩ := hs.shape
           have HS := Lib.hid hs
           replace h0 := bel_go h0 h0.size hb2
           replace b3 := b3.go hb2
           clear hs hb2 c10 c20 HR b1 b2
           have d0 := b3.c0
           have d1 := b3.c1
           have e0 := b3.f0
           have e1 := b3.f1))
      refine bodyPost_ret (v := .agg #[.bool (sg && !decide (cut ds = [])), .slice ps (cut ds).length cs]) (by simp [results, Try.results19, go_sem, d0, d1]) rfl ⟨.slice ps (cut ds).length cs, ?_, ?_, ?_⟩
      · rw [← hcut.out, ← hsg]; cases g1 <;> cases g2 <;> simp
      · rw [← hcut.out]; exact HS.out.put b3 (by decide) (put2 _ _ _ _)
      · exact bel_put h0 (by omega) (put2 _ _ _ _)

/-- (Z).Times: at most 1999999 digits of the base in both together. -/
theorem ztimes_any (va vb : Value) (a b : Int) (hl : (digs a.natAbs).length + (digs b.natAbs).length ≤ 1999999) (w : World) (hA : IsZ w va a) (hB : IsZ w vb b) :
    Calls Try.prog 19 #[va, vb] w fun e w' => ∃ u, e = .returned u ∧ IsZ w' u (a * b) ∧ Below w.heap.size w w' := by
  obtain ⟨ga, pa, na, ca, rfl⟩ := hA.shape
  obtain ⟨gb, pb, nb, cb, rfl⟩ := hB.shape
  have ra := hA.rd
  have rb := hB.rd
  refine (times_digits ga gb a.natAbs b.natAbs pa pb na nb ca cb (by rw [← ra.len, ← rb.len]; exact hl) w (Lib.hid ra) (Lib.hid rb)).mono ?_
  rintro e w' ⟨s, rfl, hs, hbel⟩
  refine ⟨_, rfl, ⟨s, ?_, by rw [Int.natAbs_mul]; exact hs⟩, hbel⟩
  rw [hA.neg, hB.neg]
  have : ((decide (a < 0) != decide (b < 0)) && decide (digs (a.natAbs * b.natAbs) ≠ [])) = decide (a * b < 0) := by
    rw [← Int.natAbs_mul]
    by_cases h0 : a * b = 0
    · rw [h0]; simp [digs_zero]
    · have ha0 : a ≠ 0 := fun h => h0 (by rw [h, Int.zero_mul])
      have hb0 : b ≠ 0 := fun h => h0 (by rw [h, Int.mul_zero])
      have hd : digs (a * b).natAbs ≠ [] := fun h => by have := digs_nil.1 h; omega
      rw [decide_eq_true hd, Bool.and_true]
      rcases Int.lt_or_gt_of_ne ha0 with g1 | g1 <;> rcases Int.lt_or_gt_of_ne hb0 with g2 | g2
      · have := Int.mul_pos_of_neg_of_neg g1 g2
        rw [decide_eq_true g1, decide_eq_true g2, decide_eq_false (by omega)]; rfl
      · have := Int.mul_neg_of_neg_of_pos g1 g2
        rw [decide_eq_true g1, decide_eq_false (show ¬ b < 0 by omega), decide_eq_true (by omega)]; rfl
      · have := Int.mul_neg_of_pos_of_neg g1 g2
        rw [decide_eq_false (show ¬ a < 0 by omega), decide_eq_true g2, decide_eq_true (by omega)]; rfl
      · have := Int.mul_pos g1 g2
        rw [decide_eq_false (show ¬ a < 0 by omega), decide_eq_false (show ¬ b < 0 by omega), decide_eq_false (by omega)]; rfl
  rw [this]
end Go.Proofs.Ytfhidjldmopbgaa

