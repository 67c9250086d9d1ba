/-
  The contracts of the reference's numbers, fifth part: Plus and Less.
  Conditions: those of each theorem.
-/
import Derived.Test.YtokkaeaciigapaaDoorZ4
set_option linter.unusedSimpArgs false
namespace Go.Proofs.YtokkaeaciigapaaDoor
open Go.RowKit Go.Shelf Zd Wd

/-- What holds of the world while Plus runs: w: where it began; the two numbers' cells, the result's. -/
structure PlusS (w : World) (ga gb : Bool) (sa sb : Value) (w' : World) : Prop where
  below : Below w.heap.size w w'
  size : w.heap.size + 3 ≤ w'.heap.size
  a0 : w'.cell? ⟨w.heap.size, 0, none⟩ = some (.bool ga)
  a1 : w'.cell? ⟨w.heap.size, 1, none⟩ = some sa
  b0 : w'.cell? ⟨w.heap.size + 1, 0, none⟩ = some (.bool gb)
  b1 : w'.cell? ⟨w.heap.size + 1, 1, none⟩ = some sb
/-- The result's two cells, not yet written. -/
structure PlusR (w w' : World) : Prop where
  r0 : w'.cell? ⟨w.heap.size + 1 + 1, 0, none⟩ = some (.bool false)
  r1 : w'.cell? ⟨w.heap.size + 1 + 1, 1, none⟩ = some (.slice none 0 0)
  f0 : w'.frozen? ⟨w.heap.size + 1 + 1, 0, none⟩ = false
  f1 : w'.frozen? ⟨w.heap.size + 1 + 1, 1, none⟩ = false
  kind : w'.heap[w.heap.size + 1 + 1]? = some (.cells #[.bool false, .slice none 0 0] 38 (0, 0))
theorem PlusS.go {w w1 w2 : World} {ga gb : Bool} {sa sb : Value} (h : PlusS w ga gb sa sb w1) (hb : Below w1.heap.size w1 w2) : PlusS w ga gb sa sb w2 where
  below := h.below.trans (hb.mono h.below.size)
  size := Nat.le_trans h.size hb.size
  a0 := (hb.cell (p := ⟨w.heap.size, 0, none⟩) (by have := h.size; simp; omega)).trans h.a0
  a1 := (hb.cell (p := ⟨w.heap.size, 1, none⟩) (by have := h.size; simp; omega)).trans h.a1
  b0 := (hb.cell (p := ⟨w.heap.size + 1, 0, none⟩) (by have := h.size; simp; omega)).trans h.b0
  b1 := (hb.cell (p := ⟨w.heap.size + 1, 1, none⟩) (by have := h.size; simp; omega)).trans h.b1
theorem PlusS.setCell {w w1 : World} {ga gb : Bool} {sa sb : Value} (h : PlusS w ga gb sa sb w1) (o : Nat) (u : Value) : PlusS w ga gb sa sb (w1.setCell ⟨w.heap.size + 1 + 1, o, none⟩ u) where
  below := h.below.setCell (by simp; omega) u
  size := by have := h.size; simpa [World.setCell] using this
  a0 := (World.cell?_of_block (w := w1) (a := ⟨w.heap.size, 0, none⟩) (Below.heap_setCell _ _ _ _ (by simp; omega))).trans h.a0
  a1 := (World.cell?_of_block (w := w1) (a := ⟨w.heap.size, 1, none⟩) (Below.heap_setCell _ _ _ _ (by simp; omega))).trans h.a1
  b0 := (World.cell?_of_block (w := w1) (a := ⟨w.heap.size + 1, 0, none⟩) (Below.heap_setCell _ _ _ _ (by simp))).trans h.b0
  b1 := (World.cell?_of_block (w := w1) (a := ⟨w.heap.size + 1, 1, none⟩) (Below.heap_setCell _ _ _ _ (by simp))).trans h.b1
theorem PlusR.go {w w1 w2 : World} (h : PlusR w w1) (hs : w.heap.size + 3 ≤ w1.heap.size) (hb : Below w1.heap.size w1 w2) : PlusR w w2 where
  r0 := (hb.cell (p := ⟨w.heap.size + 1 + 1, 0, none⟩) (by have := hs; simp; omega)).trans h.r0
  r1 := (hb.cell (p := ⟨w.heap.size + 1 + 1, 1, none⟩) (by have := hs; simp; omega)).trans h.r1
  f0 := (hb.frozen (p := ⟨w.heap.size + 1 + 1, 0, none⟩) (by have := hs; simp; omega)).trans h.f0
  f1 := (hb.frozen (p := ⟨w.heap.size + 1 + 1, 1, none⟩) (by have := hs; simp; omega)).trans h.f1
  kind := (hb.block _ (by have := hs; omega)).trans h.kind
theorem PlusS.start (w : World) (ga gb : Bool) (sa sb : Value) : PlusS w ga gb sa sb (((w.alloc (.cells #[.bool ga, sa] 38)).alloc (.cells #[.bool gb, sb] 38)).alloc (.cells #[.bool false, .slice none 0 0] 38)) where
  below := by go_grown
  size := by simp
  a0 := by simp [go_sem, World.cell?_alloc_past]
  a1 := by simp [go_sem, World.cell?_alloc_past]
  b0 := by simp [go_sem, World.cell?_alloc_past]
  b1 := by simp [go_sem, World.cell?_alloc_past]
theorem PlusR.start (w : World) (ga gb : Bool) (sa sb : Value) : PlusR w (((w.alloc (.cells #[.bool ga, sa] 38)).alloc (.cells #[.bool gb, sb] 38)).alloc (.cells #[.bool false, .slice none 0 0] 38)) where
  r0 := by simp [go_sem]
  r1 := by simp [go_sem]
  f0 := by simp [go_sem]
  f1 := by simp [go_sem]
  kind := by
    have h := (MapKept.heap_alloc ((w.alloc (.cells #[.bool ga, sa] 38)).alloc (.cells #[.bool gb, sb] 38)) (.cells #[.bool false, .slice none 0 0] 38)).1
    rwa [show ((w.alloc (.cells #[.bool ga, sa] 38)).alloc (.cells #[.bool gb, sb] 38)).heap.size = w.heap.size + 1 + 1 by simp] at h
theorem Rd.below' {w w' : World} {v : Value} {ds : List Int} (h : Rd w v ds) (hb : Below w.heap.size w w') : Rd w' v ds := h.below hb
theorem PlusS.drew {w w1 : World} {ga gb : Bool} {sa sb : Value} (h : PlusS w ga gb sa sb w1) : PlusS w ga gb sa sb w1.drew := h.go (Below.refl _ _).drew

end Go.Proofs.YtokkaeaciigapaaDoor

