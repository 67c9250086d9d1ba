/-
  A struct of seven integers and a slice of pairs of integers, as a law is handed them: what they hold.
  Conditions: those of each theorem.
-/
import Derived.Test.YtoaoifiklnbknaaLV
import Derived.Test.YtoaoifiklnbknaaBase
import Derived.WalkKit
import Derived.ProofKit
import Derived.OpenShut
import Derived.Lib.SmallJoins
import Derived.Deep.SlicePairs
namespace Go.Proofs.Ytoaoifiklnbknaa
open Go.ChangeShapes Go.WideShapes Go.ChangeAt Go.RowKit Go.Joins Go.Deep Ev
set_option linter.unusedVariables false
variable {H : Type} {enc : TypeId × Value → H} {P : Program} {w : World} {base : Nat} {spare : Nat → Bool} {held : Bool}

theorem list7 {α : Type} {l : List α} (h : l.length = 7) : ∃ a0 a1 a2 a3 a4 a5 a6, l = [a0, a1, a2, a3, a4, a5, a6] := by
  match l, h with
  | [a0, a1, a2, a3, a4, a5, a6], _ => exact ⟨a0, a1, a2, a3, a4, a5, a6, rfl⟩
theorem array7 {α : Type} {cs : Array α} (h : cs.size = 7) : ∃ a0 a1 a2 a3 a4 a5 a6, cs = #[a0, a1, a2, a3, a4, a5, a6] := by
  obtain ⟨l⟩ := cs
  obtain ⟨a0, a1, a2, a3, a4, a5, a6, rfl⟩ := list7 (l := l) h
  exact ⟨a0, a1, a2, a3, a4, a5, a6, rfl⟩
theorem open_civil {r : Reach} {b0 : Nat} {t ti : TypeId} {f0 f1 f2 f3 f4 f5 f6 : Field} {v : Value} {d : DataW H} {p : List MemPlace} (hs : P.underlying t = some (.struct #[f0, f1, f2, f3, f4, f5, f6])) (hone : oneCellFields P #[f0, f1, f2, f3, f4, f5, f6] = true) (hC : P.cellsOf t = 7) (hi : P.underlying ti = some (.int .i64))
    (e0 : f0.type = ti) (e1 : f1.type = ti) (e2 : f2.type = ti) (e3 : f3.type = ti) (e4 : f4.type = ti) (e5 : f5.type = ti) (e6 : f6.type = ti) (hv : Value.okWide P w r b0 t v) (h : DataW.Trod enc P w base spare held t v d p) :
    (∃ z0 z1 z2 z3 z4 z5 z6 : Int, v = .agg #[.int .i64 z0, .int .i64 z1, .int .i64 z2, .int .i64 z3, .int .i64 z4, .int .i64 z5, .int .i64 z6]) ∧ p = [] := by
  obtain ⟨cs, rfl, hsz⟩ := okWide_struct hs hv
  obtain ⟨c0, c1, c2, c3, c4, c5, c6, rfl⟩ := array7 (hsz.trans hC)
  obtain ⟨fuel, hf⟩ := h
  obtain ⟨xs, n, _, hx, hl, hlen, hg⟩ := DataW.trod_struct hs hf
  obtain ⟨y0, y1, y2, y3, y4, y5, y6, rfl⟩ := list7 (l := xs) (by simpa using hlen)
  obtain ⟨o0, k0⟩ := hone_of hone 0 f0 rfl
  have g0 := hg 0 f0 rfl
  rw [k0, o0, e0] at g0
  obtain ⟨m0, q0, s0, _⟩ := DataW.trod_int hi g0
  have q0 : c0 = .int .i64 m0 := by simpa [Value.cells] using q0
  obtain ⟨o1, k1⟩ := hone_of hone 1 f1 rfl
  have g1 := hg 1 f1 rfl
  rw [k1, o1, e1] at g1
  obtain ⟨m1, q1, s1, _⟩ := DataW.trod_int hi g1
  have q1 : c1 = .int .i64 m1 := by simpa [Value.cells] using q1
  obtain ⟨o2, k2⟩ := hone_of hone 2 f2 rfl
  have g2 := hg 2 f2 rfl
  rw [k2, o2, e2] at g2
  obtain ⟨m2, q2, s2, _⟩ := DataW.trod_int hi g2
  have q2 : c2 = .int .i64 m2 := by simpa [Value.cells] using q2
  obtain ⟨o3, k3⟩ := hone_of hone 3 f3 rfl
  have g3 := hg 3 f3 rfl
  rw [k3, o3, e3] at g3
  obtain ⟨m3, q3, s3, _⟩ := DataW.trod_int hi g3
  have q3 : c3 = .int .i64 m3 := by simpa [Value.cells] using q3
  obtain ⟨o4, k4⟩ := hone_of hone 4 f4 rfl
  have g4 := hg 4 f4 rfl
  rw [k4, o4, e4] at g4
  obtain ⟨m4, q4, s4, _⟩ := DataW.trod_int hi g4
  have q4 : c4 = .int .i64 m4 := by simpa [Value.cells] using q4
  obtain ⟨o5, k5⟩ := hone_of hone 5 f5 rfl
  have g5 := hg 5 f5 rfl
  rw [k5, o5, e5] at g5
  obtain ⟨m5, q5, s5, _⟩ := DataW.trod_int hi g5
  have q5 : c5 = .int .i64 m5 := by simpa [Value.cells] using q5
  obtain ⟨o6, k6⟩ := hone_of hone 6 f6 rfl
  have g6 := hg 6 f6 rfl
  rw [k6, o6, e6] at g6
  obtain ⟨m6, q6, s6, _⟩ := DataW.trod_int hi g6
  have q6 : c6 = .int .i64 m6 := by simpa [Value.cells] using q6
  refine ⟨⟨m0, m1, m2, m3, m4, m5, m6, by rw [q0, q1, q2, q3, q4, q5, q6]⟩, ?_⟩
  have := congrArg Prod.snd hx
  simp only [s0, s1, s2, s3, s4, s5, s6] at this
  simpa using this
def numV : Value → Int
  | .int _ n => n
  | _ => 0
/-- A slice of pairs of integers. -/
theorem open_pairs {t e : TypeId} {f0 f1 : Field} {ti : TypeId} {fuel : Nat} {p : Option Addr} {len cap : Nat} {x : DataW H × List MemPlace} (ht : P.underlying t = some (.slice e)) (he : P.underlying e = some (.struct #[f0, f1]))
    (ce : P.cellsOf e = 2) (o0 : f0.offset = 0) (o1 : f1.offset = 1) (e0 : f0.type = ti) (e1 : f1.type = ti) (hi : P.underlying ti = some (.int .i64)) (ci : P.cellsOf ti = 1)
    (hspot : ∀ a, p = some a → a.spot = none) (h : DataW.trod enc P w base spare held fuel t [.slice p len cap] = some x) : ∃ l : List (Int × Int), prHv (fun _ _ => False) w (.slice p len cap) l := by
  rcases open_slice_pairs ht he ce o0 o1 (by rw [e0]; exact ci) (by rw [e1]; exact ci) h with ⟨hcs, _⟩ | ⟨a, len', cap', m, n, V0, V1, D0, D1, P0, P1, hcs, _, hl, hm, hmm, _, hx⟩
  · simp only [List.cons.injEq, Value.slice.injEq, and_true] at hcs
    obtain ⟨rfl, rfl, rfl⟩ := hcs
    exact ⟨[], none, 0, rfl, Nat.le_refl _, by unfold maxLen; omega, fun _ => rfl, fun a ha => by cases ha⟩
  · simp only [List.cons.injEq, Value.slice.injEq, and_true] at hcs
    obtain ⟨rfl, rfl, rfl⟩ := hcs
    have hml : len ≤ m := by rw [hmm]; split <;> omega
    have hlen : ((List.range len).map fun i => (numV (V0 i), numV (V1 i))).length = len := by simp
    refine ⟨(List.range len).map fun i => (numV (V0 i), numV (V1 i)), some a, cap, by rw [hlen], by rw [hlen]; exact hl, hm, fun h => (by cases h), fun a' ha => ?_⟩
    cases ha
    have hsp := hspot a rfl
    obtain ⟨b, off, spot⟩ := a
    simp only at hsp
    subst hsp
    refine ⟨rfl, fun j hj => ?_⟩
    rw [hlen] at hj
    obtain ⟨g0, g1, g2, g3⟩ := hx j (by omega)
    rw [e0] at g2
    rw [e1] at g3
    obtain ⟨m0, q0, _, _⟩ := DataW.trod_int hi g2
    obtain ⟨m1, q1, _, _⟩ := DataW.trod_int hi g3
    have q0 : V0 j = .int .i64 m0 := by simpa using q0
    have q1 : V1 j = .int .i64 m1 := by simpa using q1
    have hget : ((List.range len).map fun i => (numV (V0 i), numV (V1 i))).getD j (0, 0) = (m0, m1) := by
      rw [List.getD_eq_getElem?_getD, List.getElem?_map, List.getElem?_range hj]
      simp [q0, q1, numV]
    rw [hget]
    rw [Addr.add_lit, q0] at g0
    rw [Addr.add_lit, q1] at g1
    exact ⟨⟨id, by simpa using g0⟩, id, g1⟩
end Go.Proofs.Ytoaoifiklnbknaa

