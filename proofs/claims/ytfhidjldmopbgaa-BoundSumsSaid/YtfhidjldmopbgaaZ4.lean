/-
  The contracts of the reference's numbers, fourth part: the sign turned, the sum, the difference.
  Conditions: those of each theorem.
-/
import Derived.Test.YtfhidjldmopbgaaZ3
namespace Go.Proofs.Ytfhidjldmopbgaa
open Go.RowKit Go.Shelf Zd Wd

theorem heap2 (w : World) (A R : Obj) : ((w.alloc A).alloc R).heap[w.heap.size + 1]? = some R := by
  have h := (MapKept.heap_alloc (w.alloc A) R).1
  rwa [show (w.alloc A).heap.size = w.heap.size + 1 by simp] at h
theorem cut_of_digs (n : Nat) : cut (digs n) = digs n := cut_full (fun h => digs_last n h)

set_option maxHeartbeats 1000000 in
/-- (Z).Minus. -/
theorem zminus_any (v : Value) (z : Int) (hz : Sm z) (w : World) (hv : IsZ w v z) :
    Calls Try.prog 9 #[v] w fun e w' => ∃ u, e = .returned u ∧ IsZ w' u (-z) ∧ Below w.heap.size w w' := by
  obtain ⟨s, rfl, hs⟩ := hv
  obtain ⟨p, cap, rfl⟩ := hs.shape
  have HS := Lib.hid hs
  have hl : (digs z.natAbs).length ≤ 2000000 := by have := IsZ.sm hz; omega
  obtain ⟨n, hn⟩ : ∃ n, (digs z.natAbs).length = n := ⟨_, rfl⟩
  obtain ⟨g, hg⟩ : ∃ g, decide (z < 0) = g := ⟨_, rfl⟩
  have HSG : Hid ((!g && !decide (digs z.natAbs = [])) = decide (-z < 0)) := by
    unfold Hid
    rw [← hg]
    by_cases h : z < 0
    · rw [decide_eq_true h, decide_eq_false (show ¬ -z < 0 by omega)]; rfl
    · rw [decide_eq_false h]
      by_cases h0 : z = 0
      · subst h0; simp [digs_zero]
      · have : digs z.natAbs ≠ [] := fun e => by have := digs_nil.1 e; omega
        rw [decide_eq_false this, decide_eq_true (show -z < 0 by omega)]; rfl
  rw [hn] at HS ⊢
  rw [hg]
  clear hs hn hg
  go_enter Try.func9, Try.ntmps9
  go_wp2_with (first
    | (go_at_call 27; (with_reducible refine (trim_any (!g) (.slice p n cap) (digs z.natAbs) hl _ ?_).mono ?_); exact (HS.out.alloc _).alloc _; rw [cut_of_digs]; rintro e w1 ⟨s, rfl, hs, hb1⟩
       obtain ⟨q, c2, rfl⟩ := hs.shape
       have HT := Lib.hid hs
       clear hs
       obtain ⟨hB1, hs1, hc1, hf1⟩ := Below.after hb1 (B := w.heap.size) (w0 := w) (by go_grown) (by simp; omega)
       have hz1 : w.heap.size + 1 < w1.heap.size := by simp at hs1; omega
       have hblk := Lib.hid ((hb1.block (w.heap.size + 1) (by simp)).trans (heap2 w _ _))))
  refine bodyPost_ret (v := .agg #[.bool (!g && !decide (digs z.natAbs = [])), .slice q (digs z.natAbs).length c2]) (by simp [results, Try.results9, go_sem, hc1]) rfl ⟨_, rfl, ⟨_, by rw [HSG.out], ?_⟩, ?_⟩
  · rw [Int.natAbs_neg]
    exact HT.out.setCell2 hblk.out (by decide) _ _
  · exact (hB1.setCell (by simp) _).setCell (by simp) _

theorem Rd.for_sum {w : World} {v : Value} {ds : List Int} (h : Rd w v ds) : ∃ (p : Option Addr) (cap : Nat), v = .slice p ds.length cap ∧ (ds.length = 0 ∨ ∃ b off, p = some ⟨b, off, none⟩ ∧ b < w.heap.size ∧ Hid (∀ j, j < ds.length → w.cell? ⟨b, off + j, none⟩ = some (.int .i64 (ds.getD j 0)))) := by
  obtain ⟨p, cap, h1, _, _, h4⟩ := h
  refine ⟨p, cap, h1, ?_⟩
  rcases h4 with rfl | ⟨b, off, g1, g2, _, g3⟩
  · exact .inl rfl
  · exact .inr ⟨b, off, g1, g2, Lib.hid g3⟩
/-- spyref1.sum with the sign 1, of two numbers' digits. -/
theorem sum_addR (x y : Nat) (va vb : Value) (hx : (digs x).length ≤ 1000000) (hy : (digs y).length ≤ 1000000) (w : World) (ha : Rd w va (digs x)) (hb : Rd w vb (digs y)) :
    Calls Try.prog 28 #[va, vb, .int .i64 1] w fun e w' => ∃ s ds, e = .returned s ∧ Rd w' s ds ∧ Ok ds ∧ val ds = x + y ∧ ds.length ≤ 1000001 ∧ Below w.heap.size w w' := by
  obtain ⟨p, c1, rfl, hp⟩ := ha.for_sum
  obtain ⟨q, c2, rfl, hq⟩ := hb.for_sum
  have h := sum_add (digs x) (digs y) _ _ hx hy (digs_ok x) (digs_ok y) (by rw [val_digs, val_digs]; omega) w p q c1 c2 (Lib.hid rfl) (Lib.hid rfl) hp hq
  refine h.mono ?_
  rintro e w' ⟨s, ds, h1, h2, h3, h4, h5, h6⟩
  rw [val_digs, val_digs] at h4
  exact ⟨s, ds, h1, h2, h3, by omega, h5, h6⟩
/-- spyref1.sum with the sign -1; what is subtracted is not greater. -/
theorem sum_subR (x y : Nat) (va vb : Value) (hx : (digs x).length ≤ 1000000) (hy : (digs y).length ≤ 1000000) (hle : y ≤ x) (w : World) (ha : Rd w va (digs x)) (hb : Rd w vb (digs y)) :
    Calls Try.prog 28 #[va, vb, .int .i64 (-1)] w fun e w' => ∃ s ds, e = .returned s ∧ Rd w' s ds ∧ Ok ds ∧ val ds = (x : Int) - y ∧ ds.length ≤ 1000001 ∧ Below w.heap.size w w' := by
  obtain ⟨p, c1, rfl, hp⟩ := ha.for_sum
  obtain ⟨q, c2, rfl, hq⟩ := hb.for_sum
  have h := sum_sub (digs x) (digs y) _ _ hx hy (digs_ok x) (digs_ok y) (by rw [val_digs, val_digs]; omega) w p q c1 c2 (Lib.hid rfl) (Lib.hid rfl) hp hq
  refine h.mono ?_
  rintro e w' ⟨s, ds, h1, h2, h3, h4, h5, h6⟩
  rw [val_digs, val_digs] at h4
  exact ⟨s, ds, h1, h2, h3, by omega, h5, h6⟩
end Go.Proofs.Ytfhidjldmopbgaa

