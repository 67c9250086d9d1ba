/-
  One round of ClockAgreeTruth: a running clock's value tells the truth (pure mathematics).
  Conditions: those of each theorem.
-/
import Derived.Test.YtjegnlnnjcchaaaA6
import Derived.Test.YtjegnlnnjcchaaaC9
set_option linter.unusedVariables false
set_option linter.unusedSimpArgs false
namespace Go.Proofs.Ytjegnlnnjcchaaa.AtCk
open Ev Go.RowKit Go.Shelf Wd
open Go.Proofs.Ytjegnlnnjcchaaa

/-- The clock of a round, and its row. -/
def ruC (l : List Int) (a : Int) : Ck := ⟨ruS l a, ⟨ruLo l a, ruHi l a, false⟩, ruD l a⟩
def ruR (l : List Int) (a : Int) : List Int := [ruS l a, ruLo l a, ruHi l a, 0, ruD l a]
theorem ckO_ru (l : List Int) (a : Int) : ckO (ruR l a) = ruC l a := rfl
theorem round_ok (l : List Int) (a : Int) {t : Int} (h1 : 1000 ≤ t) (h2 : t ≤ 21000) :
    rdE (ruS l a) (ruA l a) (ruT l a) t = 0 ∧ ckE (ruC l a) = 0 ∧ (uniC (ruC l a) (rdV (ruS l a) (ruA l a) (ruT l a) t)).u = false ∧ hasB (uniC (ruC l a) (rdV (ruS l a) (ruA l a) (ruT l a) t)) t = true := by
  obtain ⟨q1, q2, q3, q4, q5, q6⟩ := rg_vals l a
  obtain ⟨g1, g2, g3, g4, _⟩ := ru_ok l a
  have e : rdE (ruS l a) (ruA l a) (ruT l a) t = 0 := by
    unfold rdE
    rw [if_neg (by omega), if_pos ⟨tmC_iff.2 (by omega), by omega, by omega⟩]
  have eV : rdV (ruS l a) (ruA l a) (ruT l a) t = ruS l a + gnT (ruT l a) (t - ruA l a) / 1000000 := if_pos e
  have hk : ckE (ruC l a) = 0 := by
    unfold ckE ruC
    have e : chkB ⟨ruLo l a, ruHi l a, false⟩ = 0 := by
      unfold chkB
      rw [inB_iff.2 (by simp only; omega), inB_iff.2 (by simp only; omega), decide_eq_false (show ¬ ruLo l a > ruHi l a by omega)]; rfl
    rw [if_pos e, if_pos (by simp only [Bool.and_eq_true, tmC_iff, drC_iff]; omega)]
  have H : Tells (ruS l a) (ruA l a) (ruT l a) (ruC l a) (ruA l a) := by
    refine ⟨g1, g3, q3.1, q3.2, Int.le_refl _, ?_, q5.2, q6.1⟩
    show ruS l a = ruS l a + gnT (ruT l a) (ruA l a - ruA l a) / 1000000
    have := gn_pos (x := ruA l a - ruA l a) g2 (by omega)
    omega
  have U := truth_uni H (t := t) (by omega)
  have P := gn_pos (x := t - ruA l a) g2 (by omega)
  refine ⟨e, hk, ?_, by rw [eV]; exact U⟩
  rw [eV]
  generalize gnT (ruT l a) (t - ruA l a) = G at *
  exact (uni_known (c := ruC l a) (x := ruS l a + G / 1000000) (tl_iff.2 ⟨hk, rfl⟩) (tmC_iff.2 (by omega)) (by show ruS l a ≤ ruS l a + G / 1000000; omega)).1
end Go.Proofs.Ytjegnlnnjcchaaa.AtCk

