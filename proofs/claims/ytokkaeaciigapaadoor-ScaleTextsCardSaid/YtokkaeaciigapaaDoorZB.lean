/-
  Boxes: blocks of two cells that hold a number of the reference; what a world keeps over calls, draws and stores.
  Conditions: those of each lemma.
-/
import Derived.Test.YtokkaeaciigapaaDoorZ6
import Derived.Test.YtokkaeaciigapaaDoorBx
namespace Go.Proofs.YtokkaeaciigapaaDoor
open Go.RowKit Go.Shelf Zd Wd

section
variable {w w' : World} {b k : Nat} {T : TypeId} {x y : Value}
theorem Rd.put {v : Value} {ds : List Int} (h : Rd w v ds) (hk : Bx w b T x y) (hT : T ≠ 3) (hp : Put w b w') : Rd w' v ds := by
  obtain ⟨p, cap, h1, h2, h3, h4⟩ := h
  refine ⟨p, cap, h1, h2, h3, ?_⟩
  rcases h4 with h4 | ⟨g, off, g1, g2, ⟨cur, hcur⟩, g3⟩
  · exact .inl h4
  · have hne : g ≠ b := by
      rintro rfl
      have := hk.blk
      rw [hcur] at this
      cases this
      exact hT rfl
    have e := hp.block g hne
    exact .inr ⟨g, off, g1, by rw [hp.size]; exact g2, ⟨cur, by rw [e]; exact hcur⟩, fun j hj => (World.cell?_of_block (w := w) (a := ⟨g, off + j, none⟩) e).trans (g3 j hj)⟩
theorem IsZ.put {v : Value} {z : Int} (h : IsZ w v z) (hk : Bx w b T x y) (hT : T ≠ 3) (hp : Put w b w') : IsZ w' v z := by
  obtain ⟨s, h1, h2⟩ := h
  exact ⟨s, h1, h2.put hk hT hp⟩
theorem IsZ.drew {v : Value} {z : Int} (h : IsZ w v z) : IsZ w.drew v z := h.below (Below.drew (Below.refl _ _))
theorem IsZ.go {v : Value} {z : Int} (h : IsZ w v z) (hb : Below w.heap.size w w') : IsZ w' v z := h.below hb
end
theorem IsZ.shape {w : World} {v : Value} {z : Int} (h : IsZ w v z) : ∃ g p n c, v = .agg #[.bool g, .slice p n c] := by
  obtain ⟨s, h1, h2⟩ := h
  obtain ⟨p, c, rfl⟩ := h2.shape
  exact ⟨_, p, _, c, h1⟩
theorem IsZ.neg {w : World} {g : Bool} {s : Value} {z : Int} (h : IsZ w (.agg #[.bool g, s]) z) : g = decide (z < 0) := by
  obtain ⟨s', h1, _⟩ := h
  simp at h1
  exact h1.1
theorem IsZ.rd {w : World} {g : Bool} {s : Value} {z : Int} (h : IsZ w (.agg #[.bool g, s]) z) : Rd w s (digs z.natAbs) := by
  obtain ⟨s', h1, h2⟩ := h
  simp at h1
  rw [h1.2]; exact h2

/-- The boxes of two parameters and a result of type Z. -/
theorem boot3 (w : World) (x1 y1 x2 y2 : Value) : ∃ W, W = ((w.alloc (.cells #[x1, y1] 38)).alloc (.cells #[x2, y2] 38)).alloc (.cells #[.bool false, .slice none 0 0] 38) ∧
    Below w.heap.size w W ∧ Bx W w.heap.size 38 x1 y1 ∧ Bx W (w.heap.size + 1) 38 x2 y2 ∧ Bx W (w.heap.size + 1 + 1) 38 (.bool false) (.slice none 0 0) := by
  have e1 : (w.alloc (.cells #[x1, y1] 38)).heap.size = w.heap.size + 1 := by simp
  have e2 : ((w.alloc (.cells #[x1, y1] 38)).alloc (.cells #[x2, y2] 38)).heap.size = w.heap.size + 1 + 1 := by simp
  have h1 := Bx.new w 38 x1 y1
  have h2 := Bx.new (w.alloc (.cells #[x1, y1] 38)) 38 x2 y2
  have h3 := Bx.new ((w.alloc (.cells #[x1, y1] 38)).alloc (.cells #[x2, y2] 38)) 38 (.bool false) (.slice none 0 0)
  rw [e1] at h2
  rw [e2] at h3
  exact ⟨_, rfl, by go_grown, (h1.alloc _).alloc _, h2.alloc _, h3⟩
/-- The boxes of two parameters and two results of type Z. -/
theorem boot4 (w : World) (x1 y1 x2 y2 : Value) : ∃ W, W = (((w.alloc (.cells #[x1, y1] 38)).alloc (.cells #[x2, y2] 38)).alloc (.cells #[.bool false, .slice none 0 0] 38)).alloc (.cells #[.bool false, .slice none 0 0] 38) ∧
    Below w.heap.size w W ∧ Bx W w.heap.size 38 x1 y1 ∧ Bx W (w.heap.size + 1) 38 x2 y2 ∧ Bx W (w.heap.size + 1 + 1) 38 (.bool false) (.slice none 0 0) ∧ Bx W (w.heap.size + 1 + 1 + 1) 38 (.bool false) (.slice none 0 0) := by
  obtain ⟨W, hW, h0, h1, h2, h3⟩ := boot3 w x1 y1 x2 y2
  have e : W.heap.size = w.heap.size + 1 + 1 + 1 := by rw [hW]; simp
  have h4 := Bx.new W 38 (.bool false) (.slice none 0 0)
  rw [e] at h4
  exact ⟨_, by rw [hW], h0.alloc (by omega) _, h1.alloc _, h2.alloc _, h3.alloc _, h4⟩
end Go.Proofs.YtokkaeaciigapaaDoor

