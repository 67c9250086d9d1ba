/-
  The contracts of the reference's numbers, fourth part: the sign turned, the sum, the difference.
  Conditions: those of each theorem.
-/
import Derived.Test.YtokkaeaciigapaaDoorZ3
namespace Go.Proofs.YtokkaeaciigapaaDoor
open Go.RowKit Go.Shelf Zd Wd

theorem heap2 (w : World) (A R : Obj) : ((w.alloc A).alloc R).heap[w.heap.size + 1]? = some R := by
  have h := (MapKept.heap_alloc (w.alloc A) R).1
  rwa [show (w.alloc A).heap.size = w.heap.size + 1 by simp] at h
theorem cut_of_digs (n : Nat) : cut (digs n) = digs n := cut_full (fun h => digs_last n h)

theorem Rd.for_sum {w : World} {v : Value} {ds : List Int} (h : Rd w v ds) : ∃ (p : Option Addr) (cap : Nat), v = .slice p ds.length cap ∧ (ds.length = 0 ∨ ∃ b off, p = some ⟨b, off, none⟩ ∧ b < w.heap.size ∧ Hid (∀ j, j < ds.length → w.cell? ⟨b, off + j, none⟩ = some (.int .i64 (ds.getD j 0)))) := by
  obtain ⟨p, cap, h1, _, _, h4⟩ := h
  refine ⟨p, cap, h1, ?_⟩
  rcases h4 with rfl | ⟨b, off, g1, g2, _, g3⟩
  · exact .inl rfl
  · exact .inr ⟨b, off, g1, g2, Lib.hid g3⟩
end Go.Proofs.YtokkaeaciigapaaDoor

