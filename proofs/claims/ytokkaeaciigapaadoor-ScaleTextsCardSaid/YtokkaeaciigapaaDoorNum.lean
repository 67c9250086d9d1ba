/-
  The contracts of package num's Wide and of what it calls, over this program: each returns the number that its name says; of what was in memory nothing turns.
  Conditions: integer arguments lie in their kinds' ranges.
-/
import Derived.Test.YtokkaeaciigapaaDoorProg
import Derived.Test.YtokkaeaciigapaaDoorShelf
import Derived.Test.YtokkaeaciigapaaDoorDiv
import Derived.Test.YtokkaeaciigapaaDoorNumM
import Derived.WalkKit
import Derived.WalkSpells
import Derived.Handy
import Derived.BigQuiet
import Derived.Deep.QuietTactic
import Derived.RowKit3
import Derived.Lib.Hide
namespace Go.Proofs.YtokkaeaciigapaaDoor
open Go.RowKit Go.Shelf Wd

theorem bcell {W w1 : World} (hb : Below W.heap.size W w1) : (∀ b o, b < W.heap.size → w1.cell? ⟨b, o, none⟩ = W.cell? ⟨b, o, none⟩) ∧ (∀ b o, b < W.heap.size → w1.frozen? ⟨b, o, none⟩ = W.frozen? ⟨b, o, none⟩) :=
  ⟨fun b o h => hb.cell (p := ⟨b, o, none⟩) h, fun b o h => hb.frozen (p := ⟨b, o, none⟩) h⟩
theorem Below.drewN {B : Nat} {a w : World} (h : Below B a w) (n : Nat) : Below B a (w.drewN n) := by
  induction n generalizing w with
  | zero => exact h
  | succ n ih => exact (ih h).drew

/-- Behind a call that makes memory. -/
theorem Below.after {B : Nat} {w0 W w1 : World} (hb : Below W.heap.size W w1) (h0 : Below B w0 W) (hB : B ≤ W.heap.size) :
    Below B w0 w1 ∧ W.heap.size ≤ w1.heap.size ∧ (∀ b o, b < W.heap.size → w1.cell? ⟨b, o, none⟩ = W.cell? ⟨b, o, none⟩) ∧ (∀ b o, b < W.heap.size → w1.frozen? ⟨b, o, none⟩ = W.frozen? ⟨b, o, none⟩) :=
  ⟨h0.trans (hb.mono hB), hb.size, (bcell hb).1, (bcell hb).2⟩

theorem Below.go {W w1 w2 : World} (h2 : Below w1.heap.size w1 w2) (h : Below W.heap.size W w1) : Below W.heap.size W w2 := h.trans (h2.mono h.size)

theorem flip_in {n : Int} (hn : InW n) : InW (-n - 1) := by unfold InW at *; omega

/-- What Div returns. -/
def divV (n d : Int) : Int := if d < 1 then 0 else if n / d < -9223372036854775808 ∨ 9223372036854775807 < n / d then 0 else n / d
def divE (n d : Int) : Int := if d < 1 then 1 else if n / d < -9223372036854775808 ∨ 9223372036854775807 < n / d then 2 else 0

theorem ret_div {a b c d : Int} (h1 : a = c) (h2 : b = d) : Ending.returned (.tuple #[.int .i64 a, .int .i64 b]) = .returned (.tuple #[.int .i64 c, .int .i64 d]) := by rw [h1, h2]
end Go.Proofs.YtokkaeaciigapaaDoor

