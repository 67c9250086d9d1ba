/-
  Boxes: blocks of two cells that hold a number of the reference; what a world keeps over calls, draws and stores.
  Conditions: those of each lemma.
-/
import Derived.Test.YtalonppmoimmjaaZ6
import Derived.Test.YtalonppmoimmjaaRg
import Derived.Deep.Light
namespace Go.Proofs.Ytalonppmoimmjaa
open Go.RowKit Go.Shelf Zd Wd

/-- Behind an operation's region: the code that follows, laid open. -/
theorem then_code {P : Program} {c : Code} {Q R : Exit → Act → World → Prop} {K : Act → World → Prop} {a : Act} {w : World} (h : ∀ (a : Act) (w : World), Code.wp P c Q a w → K a w) (h2 : Code.wp P c Q a w) : Exit.then K R .normal a w := h a w h2

/-- Block b is these two cells, of this type, none of them frozen. -/
def Bx (w : World) (b : Nat) (T : TypeId) (x y : Value) : Prop := w.heap[b]? = some (.cells #[x, y] T (0, 0))
section
variable {w w' : World} {b k : Nat} {T : TypeId} {x y : Value}
theorem Bx.lt (h : Bx w b T x y) : b < w.heap.size := by
  rcases Nat.lt_or_ge b w.heap.size with g | g
  · exact g
  · unfold Bx at h; rw [Array.getElem?_eq_none g] at h; cases h
theorem Bx.c0 (h : Bx w b T x y) : w.cell? ⟨b, 0, none⟩ = some x := cell_of_row w b 0 #[x, y] T (0, 0) h
theorem Bx.c1 (h : Bx w b T x y) : w.cell? ⟨b, 1, none⟩ = some y := cell_of_row w b 1 #[x, y] T (0, 0) h
theorem Bx.f0 (h : Bx w b T x y) : w.frozen? ⟨b, 0, none⟩ = false := by unfold Bx at h; simp [World.frozen?, h]
theorem Bx.f1 (h : Bx w b T x y) : w.frozen? ⟨b, 1, none⟩ = false := by unfold Bx at h; simp [World.frozen?, h]
theorem Bx.drew (h : Bx w b T x y) : Bx w.drew b T x y := h
theorem Bx.go (h : Bx w b T x y) (hb : Below w.heap.size w w') : Bx w' b T x y := (hb.block b h.lt).trans h
theorem Bx.alloc (h : Bx w b T x y) (o : Obj) : Bx (w.alloc o) b T x y := (Below.heap_alloc w o b h.lt).trans h
theorem Bx.new (w : World) (T : TypeId) (x y : Value) : Bx (w.alloc (.cells #[x, y] T)) w.heap.size T x y := (MapKept.heap_alloc w _).1

/-- Only block b has turned. -/
structure Put (w : World) (b : Nat) (w' : World) : Prop where
  os : w'.os = w.os
  tape : w'.tape = w.tape
  output : w'.output = w.output
  size : w'.heap.size = w.heap.size
  block : ∀ k, k ≠ b → w'.heap[k]? = w.heap[k]?
theorem put2 (w : World) (b : Nat) (x y : Value) : Put w b ((w.setCell ⟨b, 0, none⟩ x).setCell ⟨b, 1, none⟩ y) where
  os := rfl
  tape := rfl
  output := rfl
  size := by simp [World.setCell]
  block := fun k hk => by rw [Below.heap_setCell _ _ _ _ hk, Below.heap_setCell _ _ _ _ hk]
theorem Bx.stored (h : Bx w b T x y) (u v : Value) : Bx ((w.setCell ⟨b, 0, none⟩ u).setCell ⟨b, 1, none⟩ v) b T u v := by
  unfold Bx at h ⊢
  simp [World.setCell, Array.getElem?_modify, h]
theorem Bx.put (h : Bx w b T x y) (hp : Put w k w') (hne : b ≠ k) : Bx w' b T x y := (hp.block b hne).trans h
theorem Bx.blk (h : Bx w b T x y) : w.heap[b]? = some (.cells #[x, y] T (0, 0)) := h
theorem Rd.put {v : Value} {ds : List Int} (h : Rd w v ds) (hk : Bx w b T x y) (hT : T ≠ 3) (hp : Put w b w') : Rd w' v ds := by
  obtain ⟨p, cap, h1, h2, h3, h4⟩ := h
  refine ⟨p, cap, h1, h2, h3, ?_⟩
  rcases h4 with h4 | ⟨g, off, g1, g2, ⟨cur, hcur⟩, g3⟩
  · exact .inl h4
  · have hne : g ≠ b := by
      rintro rfl
      have := hk.blk
      rw [hcur] at this
      cases this
      exact hT rfl
    have e := hp.block g hne
    exact .inr ⟨g, off, g1, by rw [hp.size]; exact g2, ⟨cur, by rw [e]; exact hcur⟩, fun j hj => (World.cell?_of_block (w := w) (a := ⟨g, off + j, none⟩) e).trans (g3 j hj)⟩
theorem IsZ.put {v : Value} {z : Int} (h : IsZ w v z) (hk : Bx w b T x y) (hT : T ≠ 3) (hp : Put w b w') : IsZ w' v z := by
  obtain ⟨s, h1, h2⟩ := h
  exact ⟨s, h1, h2.put hk hT hp⟩
theorem IsZ.drew {v : Value} {z : Int} (h : IsZ w v z) : IsZ w.drew v z := h.below (Below.drew (Below.refl _ _))
theorem IsZ.go {v : Value} {z : Int} (h : IsZ w v z) (hb : Below w.heap.size w w') : IsZ w' v z := h.below hb
theorem bel_go {B : Nat} {a : World} (h : Below B a w) (hB : B ≤ w.heap.size) (hb : Below w.heap.size w w') : Below B a w' := h.trans (hb.mono hB)
theorem bel_put {B : Nat} {a : World} (h : Below B a w) (hB : B ≤ b) (hp : Put w b w') : Below B a w' :=
  h.trans ⟨hp.os, hp.tape, hp.output, by rw [hp.size]; exact Nat.le_refl _, fun k hk => hp.block k (by omega)⟩
end
theorem IsZ.shape {w : World} {v : Value} {z : Int} (h : IsZ w v z) : ∃ g p n c, v = .agg #[.bool g, .slice p n c] := by
  obtain ⟨s, h1, h2⟩ := h
  obtain ⟨p, c, rfl⟩ := h2.shape
  exact ⟨_, p, _, c, h1⟩
theorem IsZ.neg {w : World} {g : Bool} {s : Value} {z : Int} (h : IsZ w (.agg #[.bool g, s]) z) : g = decide (z < 0) := by
  obtain ⟨s', h1, _⟩ := h
  simp at h1
  exact h1.1
theorem IsZ.rd {w : World} {g : Bool} {s : Value} {z : Int} (h : IsZ w (.agg #[.bool g, s]) z) : Rd w s (digs z.natAbs) := by
  obtain ⟨s', h1, h2⟩ := h
  simp at h1
  rw [h1.2]; exact h2

/-- The boxes of two parameters and a result of type Z. -/
theorem boot3 (w : World) (x1 y1 x2 y2 : Value) : ∃ W, W = ((w.alloc (.cells #[x1, y1] 27)).alloc (.cells #[x2, y2] 27)).alloc (.cells #[.bool false, .slice none 0 0] 27) ∧
    Below w.heap.size w W ∧ Bx W w.heap.size 27 x1 y1 ∧ Bx W (w.heap.size + 1) 27 x2 y2 ∧ Bx W (w.heap.size + 1 + 1) 27 (.bool false) (.slice none 0 0) := by
  have e1 : (w.alloc (.cells #[x1, y1] 27)).heap.size = w.heap.size + 1 := by simp
  have e2 : ((w.alloc (.cells #[x1, y1] 27)).alloc (.cells #[x2, y2] 27)).heap.size = w.heap.size + 1 + 1 := by simp
  have h1 := Bx.new w 27 x1 y1
  have h2 := Bx.new (w.alloc (.cells #[x1, y1] 27)) 27 x2 y2
  have h3 := Bx.new ((w.alloc (.cells #[x1, y1] 27)).alloc (.cells #[x2, y2] 27)) 27 (.bool false) (.slice none 0 0)
  rw [e1] at h2
  rw [e2] at h3
  exact ⟨_, rfl, by go_grown, (h1.alloc _).alloc _, h2.alloc _, h3⟩
/-- The boxes of two parameters and two results of type Z. -/
theorem boot4 (w : World) (x1 y1 x2 y2 : Value) : ∃ W, W = (((w.alloc (.cells #[x1, y1] 27)).alloc (.cells #[x2, y2] 27)).alloc (.cells #[.bool false, .slice none 0 0] 27)).alloc (.cells #[.bool false, .slice none 0 0] 27) ∧
    Below w.heap.size w W ∧ Bx W w.heap.size 27 x1 y1 ∧ Bx W (w.heap.size + 1) 27 x2 y2 ∧ Bx W (w.heap.size + 1 + 1) 27 (.bool false) (.slice none 0 0) ∧ Bx W (w.heap.size + 1 + 1 + 1) 27 (.bool false) (.slice none 0 0) := by
  obtain ⟨W, hW, h0, h1, h2, h3⟩ := boot3 w x1 y1 x2 y2
  have e : W.heap.size = w.heap.size + 1 + 1 + 1 := by rw [hW]; simp
  have h4 := Bx.new W 27 (.bool false) (.slice none 0 0)
  rw [e] at h4
  exact ⟨_, by rw [hW], h0.alloc (by omega) _, h1.alloc _, h2.alloc _, h3.alloc _, h4⟩
end Go.Proofs.Ytalonppmoimmjaa
