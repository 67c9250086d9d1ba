/-
  Boxes: blocks of two cells; what a world keeps over calls, draws and stores.
  Conditions: those of each lemma.
-/
import Derived.Test.YtocheeocnbfbiaaDoorNumS
import Derived.Test.YtocheeocnbfbiaaDoorRg
import Derived.Deep.Light
import Derived.Deep.Cut
import Derived.Deep.LoopGhost
namespace Go.Proofs.YtocheeocnbfbiaaDoor
open Go.RowKit Go.Shelf Wd

/-- Behind an operation's region: the code that follows, laid open. -/
theorem then_code {P : Program} {c : Code} {Q R : Exit → Act → World → Prop} {K : Act → World → Prop} {a : Act} {w : World} (h : ∀ (a : Act) (w : World), Code.wp P c Q a w → K a w) (h2 : Code.wp P c Q a w) : Exit.then K R .normal a w := h a w h2

/-- Block b is these two cells, of this type, none of them frozen. -/
def Bx (w : World) (b : Nat) (T : TypeId) (x y : Value) : Prop := w.heap[b]? = some (.cells #[x, y] T (0, 0))
section
variable {w w' : World} {b k : Nat} {T : TypeId} {x y : Value}
theorem Bx.lt (h : Bx w b T x y) : b < w.heap.size := by
  rcases Nat.lt_or_ge b w.heap.size with g | g
  · exact g
  · unfold Bx at h; rw [Array.getElem?_eq_none g] at h; cases h
theorem Bx.c0 (h : Bx w b T x y) : w.cell? ⟨b, 0, none⟩ = some x := cell_of_row w b 0 #[x, y] T (0, 0) h
theorem Bx.c1 (h : Bx w b T x y) : w.cell? ⟨b, 1, none⟩ = some y := cell_of_row w b 1 #[x, y] T (0, 0) h
theorem Bx.f0 (h : Bx w b T x y) : w.frozen? ⟨b, 0, none⟩ = false := by unfold Bx at h; simp [World.frozen?, h]
theorem Bx.f1 (h : Bx w b T x y) : w.frozen? ⟨b, 1, none⟩ = false := by unfold Bx at h; simp [World.frozen?, h]
theorem Bx.drew (h : Bx w b T x y) : Bx w.drew b T x y := h
theorem Bx.drewN (h : Bx w b T x y) (n : Nat) : Bx (w.drewN n) b T x y := by
  induction n generalizing w with
  | zero => exact h
  | succ n ih => exact ih (w := w.drew) h
theorem Bx.go (h : Bx w b T x y) (hb : Below w.heap.size w w') : Bx w' b T x y := (hb.block b h.lt).trans h
theorem Bx.alloc (h : Bx w b T x y) (o : Obj) : Bx (w.alloc o) b T x y := (Below.heap_alloc w o b h.lt).trans h
theorem Bx.new (w : World) (T : TypeId) (x y : Value) : Bx (w.alloc (.cells #[x, y] T)) w.heap.size T x y := (MapKept.heap_alloc w _).1

/-- Only block b has turned. -/
structure Put (w : World) (b : Nat) (w' : World) : Prop where
  os : w'.os = w.os
  tape : w'.tape = w.tape
  output : w'.output = w.output
  size : w'.heap.size = w.heap.size
  block : ∀ k, k ≠ b → w'.heap[k]? = w.heap[k]?
theorem put2 (w : World) (b : Nat) (x y : Value) : Put w b ((w.setCell ⟨b, 0, none⟩ x).setCell ⟨b, 1, none⟩ y) where
  os := rfl
  tape := rfl
  output := rfl
  size := by simp [World.setCell]
  block := fun k hk => by rw [Below.heap_setCell _ _ _ _ hk, Below.heap_setCell _ _ _ _ hk]
theorem Bx.stored (h : Bx w b T x y) (u v : Value) : Bx ((w.setCell ⟨b, 0, none⟩ u).setCell ⟨b, 1, none⟩ v) b T u v := by
  unfold Bx at h ⊢
  simp [World.setCell, Array.getElem?_modify, h]
theorem Bx.put (h : Bx w b T x y) (hp : Put w k w') (hne : b ≠ k) : Bx w' b T x y := (hp.block b hne).trans h
theorem Bx.blk (h : Bx w b T x y) : w.heap[b]? = some (.cells #[x, y] T (0, 0)) := h
theorem bel_go {B : Nat} {a : World} (h : Below B a w) (hB : B ≤ w.heap.size) (hb : Below w.heap.size w w') : Below B a w' := h.trans (hb.mono hB)
theorem bel_put {B : Nat} {a : World} (h : Below B a w) (hB : B ≤ b) (hp : Put w b w') : Below B a w' :=
  h.trans ⟨hp.os, hp.tape, hp.output, by rw [hp.size]; exact Nat.le_refl _, fun k hk => hp.block k (by omega)⟩
end
end Go.Proofs.YtocheeocnbfbiaaDoor

