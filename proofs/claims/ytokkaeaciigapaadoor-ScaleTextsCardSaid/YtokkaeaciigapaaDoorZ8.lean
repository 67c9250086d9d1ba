/-
  The contracts of the reference's numbers, eighth part: Times.
  Conditions: those of each theorem.
-/
import Derived.Test.YtokkaeaciigapaaDoorZ7
import Derived.Test.YtokkaeaciigapaaDoorZM2
set_option linter.unusedSimpArgs false
namespace Go.Proofs.YtokkaeaciigapaaDoor
open Go.RowKit Go.Shelf Zd Wd

theorem Rd.len {w : World} {p : Option Addr} {n c : Nat} {ds : List Int} (h : Rd w (.slice p n c) ds) : ds.length = n := by
  obtain ⟨_, _, h1, _⟩ := h
  simp at h1
  exact h1.2.1.symm
theorem Rd.at_ {w : World} {p : Option Addr} {n c : Nat} {ds : List Int} (h : Rd w (.slice p n c) ds) {k : Nat} (hk : k < n) : ∃ b off, p = some ⟨b, off, none⟩ ∧ b < w.heap.size ∧ w.cell? ⟨b, off + k, none⟩ = some (.int .i64 (ds.getD k 0)) := by
  have hl := h.len
  obtain ⟨p', cap, h1, _, _, h4⟩ := h
  simp at h1
  obtain ⟨rfl, _, _⟩ := h1
  rcases h4 with h4 | ⟨b, off, g1, g2, _, g3⟩
  · rw [h4] at hl; simp at hl; omega
  · exact ⟨b, off, g1, g2, g3 k (by omega)⟩
/-- Only block b has turned, by one cell. -/
theorem put1 (w : World) (b o : Nat) (x : Value) : Put w b (w.setCell ⟨b, o, none⟩ x) where
  os := rfl
  tape := rfl
  output := rfl
  size := by simp [World.setCell]
  block := fun k hk => Below.heap_setCell _ _ _ _ hk
theorem own_set {w : World} {base G N : Nat} {ds : List Int} (h : w.ownsRow base 3 1 (.slice (some ⟨G, 0, none⟩) N N) N (ds.map (Value.int .i64))) (k : Nat) (v : Int) :
    (w.setCell ⟨G, k, none⟩ (.int .i64 v)).ownsRow base 3 1 (.slice (some ⟨G, 0, none⟩) N N) N ((ds.set k v).map (Value.int .i64)) := by
  rw [List.map_set]; exact (World.ownsRow.stored h k (.int .i64 v)).1
theorem own_cell {w : World} {base G N : Nat} {ds : List Int} (h : w.ownsRow base 3 1 (.slice (some ⟨G, 0, none⟩) N N) N (ds.map (Value.int .i64))) (k : Nat) (hk : k < N) (hl : ds.length = N) :
    w.cell? ⟨G, k, none⟩ = some (.int .i64 (ds.getD k 0)) := by
  rw [World.ownsRow.cellAt h k (by omega)]
  simp [hl, hk]

theorem zero_cells (n : Nat) : (madeCells (Value.int .i64 0).cells (n * 1)).toList = (List.replicate n (0 : Int)).map (Value.int .i64) := by
  apply List.ext_getElem
  · simp [madeCells]
  · intro i h1 h2
    simp [madeCells, Value.cells, Nat.mod_one]

end Go.Proofs.YtokkaeaciigapaaDoor

