/-
  The walk of the law NumMulDivs.
  Conditions: those of each theorem; arguments are 64-bit numbers.
-/
import Derived.Test.YtjegnlnnjcchaaaW1
import Derived.Test.YtjegnlnnjcchaaaZQ
set_option linter.unusedSimpArgs false
set_option linter.unusedVariables false
namespace Go.Proofs.Ytjegnlnnjcchaaa
open Go.RowKit Go.Shelf Zd Wd


theorem boot2 (w : World) (x1 y1 x2 y2 : Value) : ∃ W, W = (w.alloc (.cells #[x1, y1] 27)).alloc (.cells #[x2, y2] 27) ∧ Below w.heap.size w W ∧ Bx W w.heap.size 27 x1 y1 ∧ Bx W (w.heap.size + 1) 27 x2 y2 := by
  have e1 : (w.alloc (.cells #[x1, y1] 27)).heap.size = w.heap.size + 1 := by simp
  have h1 := Bx.new w 27 x1 y1
  have h2 := Bx.new (w.alloc (.cells #[x1, y1] 27)) 27 x2 y2
  rw [e1] at h2
  exact ⟨_, rfl, by go_grown, h1.alloc _, h2⟩

end Go.Proofs.Ytjegnlnnjcchaaa

