/-
  The contracts of the reference's numbers, third part: from 64 bits, the sign, the comparison.
  Conditions: those of each theorem.
-/
import Derived.Test.YtokkaeaciigapaaDoorZ2
namespace Go.Proofs.YtokkaeaciigapaaDoor
open Go.RowKit Go.Shelf Zd Wd

theorem Rd.shape {w : World} {v : Value} {ds : List Int} (h : Rd w v ds) : ∃ p cap, v = .slice p ds.length cap := by
  obtain ⟨p, cap, h1, _⟩ := h
  exact ⟨p, cap, h1⟩

theorem setCell_kind {w : World} {b : Nat} {c : Array Value} {T : TypeId} {fr : Nat × Nat} (h : w.heap[b]? = some (.cells c T fr)) (a : Addr) (u : Value) : ∃ c', (w.setCell a u).heap[b]? = some (.cells c' T fr) := by
  simp only [World.setCell, Array.getElem?_modify, h]
  by_cases e : a.block = b
  · simp [e]
  · simp [e]
/-- The two cells of a result of type Z are written: no digit turns. -/
theorem Rd.setCell2 {w : World} {v : Value} {ds : List Int} (h : Rd w v ds) {b o1 o2 : Nat} {c : Array Value} {T : TypeId} (ha : w.heap[b]? = some (.cells c T (0, 0))) (hT : T ≠ 3) (u1 u2 : Value) :
    Rd ((w.setCell ⟨b, o1, none⟩ u1).setCell ⟨b, o2, none⟩ u2) v ds := by
  obtain ⟨c', hc'⟩ := setCell_kind ha ⟨b, o1, none⟩ u1
  exact (h.setCell (a := ⟨b, o1, none⟩) ha hT u1).setCell (a := ⟨b, o2, none⟩) hc' hT u2

set_option maxHeartbeats 1000000 in
/-- spyref1.I. -/
theorem i_any (x : Int) (x1 : -9223372036854775808 ≤ x) (x2 : x ≤ 9223372036854775807) (w : World) :
    Calls Tryd.prog 29 #[.int .i64 x] w fun e w' => ∃ v, e = .returned v ∧ IsZ w' v x ∧ Below w.heap.size w w' := by
  obtain ⟨X, hX⟩ : ∃ X, x.natAbs = X := ⟨_, rfl⟩
  by_cases hneg : x < 0
  · have e1 : IntKind.u64.wrap (-IntKind.u64.wrap x) = (X : Int) := by rw [IntKind.wrap_u64, IntKind.wrap_u64]; omega
    have t1 : decide (x < 0) = true := decide_eq_true hneg
    have HX := Lib.hid hX
    have hXl : X < 18446744073709551616 := by omega
    clear hX
    go_enter Tryd.func29, Tryd.ntmps29
    go_wp2_with (first
      | (go_at_call 48; (with_reducible refine (u_any X hXl _).mono ?_); rintro e w1 ⟨s, rfl, hs, hb1⟩
         obtain ⟨p, cap, rfl⟩ := hs.shape
         have HS := Lib.hid hs
         clear hs
         obtain ⟨hB1, hs1, hc1, hf1⟩ := Below.after hb1 (B := w.heap.size) (w0 := w) (by go_grown) (by simp)
         have hz1 : w.heap.size < w1.heap.size := by simp at hs1; omega
         have hblk := Lib.hid ((hb1.block w.heap.size (by simp)).trans (MapKept.heap_alloc w (.cells #[.bool false, .slice none 0 0] 38)).1)))
    refine bodyPost_ret (v := .agg #[.bool true, .slice p (digs X).length cap]) (by simp [results, Tryd.results29, go_sem, hc1, hz1]) rfl ⟨_, rfl, ⟨_, by rw [t1], ?_⟩, ?_⟩
    · rw [HX.out]
      exact ((HS.out.setCell2 hblk.out (by decide) _ _).alloc _)
    · exact ((hB1.setCell (by simp) _).setCell (by simp) _).alloc (by simp; omega) _
  · have e1 : IntKind.u64.wrap x = (X : Int) := by rw [IntKind.wrap_u64]; omega
    have t1 : decide (x < 0) = false := decide_eq_false hneg
    have HX := Lib.hid hX
    have hXl : X < 18446744073709551616 := by omega
    clear hX
    go_enter Tryd.func29, Tryd.ntmps29
    go_wp2_with (first
      | (go_at_call 48; (with_reducible refine (u_any X hXl _).mono ?_); rintro e w1 ⟨s, rfl, hs, hb1⟩
         obtain ⟨p, cap, rfl⟩ := hs.shape
         have HS := Lib.hid hs
         clear hs
         obtain ⟨hB1, hs1, hc1, hf1⟩ := Below.after hb1 (B := w.heap.size) (w0 := w) (by go_grown) (by simp)
         have hz1 : w.heap.size < w1.heap.size := by simp at hs1; omega
         have hblk := Lib.hid ((hb1.block w.heap.size (by simp)).trans (MapKept.heap_alloc w (.cells #[.bool false, .slice none 0 0] 38)).1)))
    refine bodyPost_ret (v := .agg #[.bool false, .slice p (digs X).length cap]) (by simp [results, Tryd.results29, go_sem, hc1]) rfl ⟨_, rfl, ⟨_, by rw [t1], ?_⟩, ?_⟩
    · rw [HX.out]
      exact HS.out.setCell2 hblk.out (by decide) _ _
    · exact (hB1.setCell (by simp) _).setCell (by simp) _

theorem IsZ.sm {z : Int} (h : Sm z) : (digs z.natAbs).length ≤ 1000000 := h

set_option maxHeartbeats 1000000 in
/-- (Z).Cmp. -/
theorem zcmp_any (va vb : Value) (a b : Int) (ha : Sm a) (hb : Sm b) (w : World) (hA : IsZ w va a) (hB : IsZ w vb b) :
    Calls Tryd.prog 28 #[va, vb] w fun e w' => e = .returned (.int .i64 (cmpI a b)) ∧ Below w.heap.size w w' := by
  obtain ⟨sa, rfl, ra⟩ := hA
  obtain ⟨sb, rfl, rb⟩ := hB
  obtain ⟨p, c1, rfl⟩ := ra.shape
  obtain ⟨q, c2, rfl⟩ := rb.shape
  have RA := Lib.hid ra
  have RB := Lib.hid rb
  obtain ⟨n, hn⟩ : ∃ n, (digs a.natAbs).length = n := ⟨_, rfl⟩
  obtain ⟨m, hm⟩ : ∃ m, (digs b.natAbs).length = m := ⟨_, rfl⟩
  rw [hn] at RA ⊢
  rw [hm] at RB ⊢
  clear ra rb hn hm
  by_cases h1 : a < 0 <;> by_cases h2 : b < 0
  · have t1 : decide (a < 0) = true := decide_eq_true h1
    have t2 : decide (b < 0) = true := decide_eq_true h2
    have K : Hid (cmpI (b.natAbs : Int) (a.natAbs : Int) = cmpI a b) := by
      unfold Hid cmpI
      repeat' split
      all_goals omega
    rw [t1, t2]
    go_enter Tryd.func28, Tryd.ntmps28
    go_wp2_with (go_at_call 47; (with_reducible refine (cmpd_any b.natAbs a.natAbs (.slice q m c2) (.slice p n c1) (IsZ.sm hb) (IsZ.sm ha) _ ?_ ?_).mono ?_); exact (RB.out.alloc _).alloc _; exact (RA.out.alloc _).alloc _; rintro e w1 ⟨rfl, hb1⟩)
    go_ret
    exact ⟨ret_i64 K.out, hb1.mono (by simp; omega) |> fun h => (((Below.refl _ _).alloc (Nat.le_refl _) _).alloc (by simp) _).trans h⟩
  · have t1 : decide (a < 0) = true := decide_eq_true h1
    have t2 : decide (b < 0) = false := decide_eq_false h2
    rw [t1, t2]
    go_enter Tryd.func28, Tryd.ntmps28
    go_wp2
    go_ret
    exact ⟨ret_i64 (cmpI_lt (by omega)).symm, by go_grown⟩
  · have t1 : decide (a < 0) = false := decide_eq_false h1
    have t2 : decide (b < 0) = true := decide_eq_true h2
    rw [t1, t2]
    go_enter Tryd.func28, Tryd.ntmps28
    go_wp2
    go_ret
    exact ⟨ret_i64 (cmpI_gt (by omega)).symm, by go_grown⟩
  · have t1 : decide (a < 0) = false := decide_eq_false h1
    have t2 : decide (b < 0) = false := decide_eq_false h2
    have K : Hid (cmpI (a.natAbs : Int) (b.natAbs : Int) = cmpI a b) := by
      unfold Hid cmpI
      repeat' split
      all_goals omega
    rw [t1, t2]
    go_enter Tryd.func28, Tryd.ntmps28
    go_wp2_with (go_at_call 47; (with_reducible refine (cmpd_any a.natAbs b.natAbs (.slice p n c1) (.slice q m c2) (IsZ.sm ha) (IsZ.sm hb) _ ?_ ?_).mono ?_); exact (RA.out.alloc _).alloc _; exact (RB.out.alloc _).alloc _; rintro e w1 ⟨rfl, hb1⟩)
    go_ret
    exact ⟨ret_i64 K.out, hb1.mono (by simp; omega) |> fun h => (((Below.refl _ _).alloc (Nat.le_refl _) _).alloc (by simp) _).trans h⟩

end Go.Proofs.YtokkaeaciigapaaDoor

