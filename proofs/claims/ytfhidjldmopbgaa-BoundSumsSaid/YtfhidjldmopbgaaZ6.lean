/-
  The contracts of the reference's numbers, sixth part: Plus and Less, of numbers.
  Conditions: those of each theorem.
-/
import Derived.Test.YtfhidjldmopbgaaZ5
namespace Go.Proofs.Ytfhidjldmopbgaa
open Go.RowKit Go.Shelf Zd Wd

theorem sign_of {g : Bool} {n : Nat} {z : Int} (h1 : z.natAbs = n) (h2 : g = true → z ≤ 0) (h3 : g = false → 0 ≤ z) : (g && decide (digs n ≠ [])) = decide (z < 0) := by
  by_cases h0 : n = 0
  · have hz : z = 0 := by omega
    subst h0 hz
    simp [digs_zero]
  · have hd : digs n ≠ [] := fun e => h0 (digs_nil.1 e)
    rw [decide_eq_true hd, Bool.and_true]
    cases g
    · have := h3 rfl; rw [decide_eq_false (by omega)]
    · have := h2 rfl; rw [decide_eq_true (by omega)]
/-- (Z).Plus. -/
theorem zplus_any (va vb : Value) (a b : Int) (ha : Sm a) (hb : Sm b) (w : World) (hA : IsZ w va a) (hB : IsZ w vb b) :
    Calls Try.prog 7 #[va, vb] w fun e w' => ∃ v, e = .returned v ∧ IsZ w' v (a + b) ∧ Below w.heap.size w w' := by
  obtain ⟨sa, rfl, ra⟩ := hA
  obtain ⟨sb, rfl, rb⟩ := hB
  obtain ⟨p, c1, rfl⟩ := ra.shape
  obtain ⟨q, c2, rfl⟩ := rb.shape
  have fin : ∀ (g : Bool) (n : Nat), (a + b).natAbs = n → (g = true → a + b ≤ 0) → (g = false → 0 ≤ a + b) → ∀ e w', (∃ s, e = Ending.returned (.agg #[.bool (g && decide (digs n ≠ [])), s]) ∧ Rd w' s (digs n) ∧ Below w.heap.size w w') →
      ∃ v, e = Ending.returned v ∧ IsZ w' v (a + b) ∧ Below w.heap.size w w' := by
    rintro g n h1 h2 h3 e w' ⟨s, rfl, hs, hbl⟩
    exact ⟨_, rfl, ⟨s, by rw [sign_of h1 h2 h3], by rw [h1]; exact hs⟩, hbl⟩
  by_cases h1 : a < 0 <;> by_cases h2 : b < 0
  · rw [decide_eq_true h1, decide_eq_true h2]
    exact (plus_same true a.natAbs b.natAbs p q _ _ c1 c2 ha hb w (Lib.hid ra) (Lib.hid rb)).mono (fun e w' h => fin true _ (by omega) (fun _ => by omega) (fun h => by cases h) e w' h)
  · rw [decide_eq_true h1, decide_eq_false h2]
    by_cases hxy : b.natAbs ≤ a.natAbs
    · exact (plus_ge true a.natAbs b.natAbs p q _ _ c1 c2 ha hb hxy w (Lib.hid ra) (Lib.hid rb)).mono (fun e w' h => fin true _ (by omega) (fun _ => by omega) (fun h => by cases h) e w' h)
    · exact (plus_lt true a.natAbs b.natAbs p q _ _ c1 c2 ha hb (by omega) w (Lib.hid ra) (Lib.hid rb)).mono (fun e w' h => fin false _ (by omega) (fun h => by cases h) (fun _ => by omega) e w' h)
  · rw [decide_eq_false h1, decide_eq_true h2]
    by_cases hxy : b.natAbs ≤ a.natAbs
    · exact (plus_ge false a.natAbs b.natAbs p q _ _ c1 c2 ha hb hxy w (Lib.hid ra) (Lib.hid rb)).mono (fun e w' h => fin false _ (by omega) (fun h => by cases h) (fun _ => by omega) e w' h)
    · exact (plus_lt false a.natAbs b.natAbs p q _ _ c1 c2 ha hb (by omega) w (Lib.hid ra) (Lib.hid rb)).mono (fun e w' h => fin true _ (by omega) (fun _ => by omega) (fun h => by cases h) e w' h)
  · rw [decide_eq_false h1, decide_eq_false h2]
    exact (plus_same false a.natAbs b.natAbs p q _ _ c1 c2 ha hb w (Lib.hid ra) (Lib.hid rb)).mono (fun e w' h => fin false _ (by omega) (fun h => by cases h) (fun _ => by omega) e w' h)
end Go.Proofs.Ytfhidjldmopbgaa

