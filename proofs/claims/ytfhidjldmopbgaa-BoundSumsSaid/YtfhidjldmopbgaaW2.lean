/-
  The walk of the law NumMulDivs.
  Conditions: those of each theorem; arguments are 64-bit numbers.
-/
import Derived.Test.YtfhidjldmopbgaaW1
import Derived.Test.YtfhidjldmopbgaaZQ
set_option linter.unusedSimpArgs false
set_option linter.unusedVariables false
namespace Go.Proofs.Ytfhidjldmopbgaa
open Go.RowKit Go.Shelf Zd Wd


theorem boot2 (w : World) (x1 y1 x2 y2 : Value) : ∃ W, W = (w.alloc (.cells #[x1, y1] 28)).alloc (.cells #[x2, y2] 28) ∧ Below w.heap.size w W ∧ Bx W w.heap.size 28 x1 y1 ∧ Bx W (w.heap.size + 1) 28 x2 y2 := by
  have e1 : (w.alloc (.cells #[x1, y1] 28)).heap.size = w.heap.size + 1 := by simp
  have h1 := Bx.new w 28 x1 y1
  have h2 := Bx.new (w.alloc (.cells #[x1, y1] 28)) 28 x2 y2
  rw [e1] at h2
  exact ⟨_, rfl, by go_grown, h1.alloc _, h2⟩

end Go.Proofs.Ytfhidjldmopbgaa

