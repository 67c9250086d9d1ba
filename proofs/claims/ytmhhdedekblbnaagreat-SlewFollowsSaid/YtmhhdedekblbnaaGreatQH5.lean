/-
 Package spymake: what Arc, Slope, Site and Vec make out of streams.
 Conditions: those of each theorem.
-/
import Derived.Test.YtmhhdedekblbnaaGreatQH1
import Derived.Test.YtmhhdedekblbnaaGreatQST
set_option maxRecDepth 100000
set_option linter.unusedVariables false
set_option linter.unusedSimpArgs false
namespace Go.Proofs.YtmhhdedekblbnaaGreat.AtHz
open Go.RowKit Ev Wd
open Go.Proofs.YtmhhdedekblbnaaGreat
variable {F : Type}
noncomputable section

def moV (k : Int) : Int := if k = 0 then 3 else if k = 1 then 100 else if k = 2 then 5000 else 1048576
def v0V (l : List Int) (a m : Int) : V3 := ⟨rangeV l (a + 1) (-m) m, rangeV l (a + 1 + 1) (-m) m, rangeV l (a + 1 + 1 + 1) (-m) m⟩
def veV (l : List Int) (a : Int) : V3 := if zeC (v0V l a (moV (nextV l a 4))) = true then ⟨1, 0, 0⟩ else v0V l a (moV (nextV l a 4))
theorem mo_in (k : Int) : 1 <= moV k /\ moV k <= 1048576 := by unfold moV; split <;> (try split) <;> (try split) <;> omega
theorem ve_in (l : List Int) (a : Int) : vE (veV l a) = 0 := by
 have m := mo_in (nextV l a 4)
 unfold veV
 generalize moV (nextV l a 4) = M at *
 have h1 := rangeV_in l (a + 1) (-M) M (by omega)
 have h2 := rangeV_in l (a + 1 + 1) (-M) M (by omega)
 have h3 := rangeV_in l (a + 1 + 1 + 1) (-M) M (by omega)
 by_cases h : zeC (v0V l a M) = true
 · rw [if_pos h]; decide
 · rw [if_neg h, vE_iff]
   rw [zeC_iff] at h
   unfold v0V at *
   simp only at *
   omega
end
end Go.Proofs.YtmhhdedekblbnaaGreat.AtHz
