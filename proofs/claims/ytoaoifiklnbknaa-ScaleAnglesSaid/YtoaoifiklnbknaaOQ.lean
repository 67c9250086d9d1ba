/-
  A rotation (a struct of two integers and a struct of two integers) as a law is handed it: what it holds.
  Conditions: those of the theorem.
-/
import Derived.Test.YtoaoifiklnbknaaBase
import Derived.WalkKit
import Derived.ProofKit
import Derived.OpenShut
import Derived.Lib.SmallJoins
import Derived.Deep.SlicePairs
namespace Go.Proofs.Ytoaoifiklnbknaa
open Go.ChangeShapes Go.WideShapes Go.ChangeAt Go.RowKit Go.Joins Go.Deep
set_option linter.unusedVariables false
variable {H : Type} {enc : TypeId × Value → H} {P : Program} {w : World} {base : Nat} {spare : Nat → Bool} {held : Bool}

theorem list4 {α : Type} {l : List α} (h : l.length = 4) : ∃ a b c d, l = [a, b, c, d] := by
  match l, h with
  | [a, b, c, d], _ => exact ⟨a, b, c, d, rfl⟩
theorem list3 {α : Type} {l : List α} (h : l.length = 3) : ∃ a b c, l = [a, b, c] := by
  match l, h with
  | [a, b, c], _ => exact ⟨a, b, c, rfl⟩
theorem list2 {α : Type} {l : List α} (h : l.length = 2) : ∃ a b, l = [a, b] := by
  match l, h with
  | [a, b], _ => exact ⟨a, b, rfl⟩
theorem array4 {α : Type} {cs : Array α} (h : cs.size = 4) : ∃ a b c d, cs = #[a, b, c, d] := by
  obtain ⟨l⟩ := cs
  obtain ⟨a, b, c, d, rfl⟩ := list4 (l := l) h
  exact ⟨a, b, c, d, rfl⟩
theorem open_rate {r : Reach} {b0 : Nat} {t : TypeId} {f0 f1 f2 g0 g1 : Field} {v : Value} {d : DataW H} {p : List MemPlace} (hs : P.underlying t = some (.struct #[f0, f1, f2])) (hC : P.cellsOf t = 4)
    (o0 : f0.offset = 0) (o1 : f1.offset = 1) (o2 : f2.offset = 2) (k0 : P.cellsOf f0.type = 1) (k1 : P.cellsOf f1.type = 1) (k2 : P.cellsOf f2.type = 2)
    (u0 : P.underlying f0.type = some (.int .i64)) (u1 : P.underlying f1.type = some (.int .i64)) (u2 : P.underlying f2.type = some (.struct #[g0, g1]))
    (p0 : g0.offset = 0) (p1 : g1.offset = 1) (l0 : P.cellsOf g0.type = 1) (l1 : P.cellsOf g1.type = 1) (v0 : P.underlying g0.type = some (.int .i64)) (v1 : P.underlying g1.type = some (.int .i64))
    (hv : Value.okWide P w r b0 t v) (h : DataW.Trod enc P w base spare held t v d p) :
    ∃ z0 z1 z2 z3 : Int, v = .agg #[.int .i64 z0, .int .i64 z1, .int .i64 z2, .int .i64 z3] ∧ (Lit.int .i64 z0).wf = true ∧ (Lit.int .i64 z1).wf = true ∧ (Lit.int .i64 z2).wf = true ∧ (Lit.int .i64 z3).wf = true ∧ p = [] := by
  obtain ⟨cs, rfl, hsz⟩ := okWide_struct hs hv
  obtain ⟨c0, c1, c2, c3, rfl⟩ := array4 (hsz.trans hC)
  obtain ⟨fuel, hf⟩ := h
  obtain ⟨xs, n, _, hx, hl, hlen, hg⟩ := DataW.trod_struct hs hf
  obtain ⟨y0, y1, y2, rfl⟩ := list3 (l := xs) (by simpa using hlen)
  have h0 := hg 0 f0 rfl
  have h1 := hg 1 f1 rfl
  have h2 := hg 2 f2 rfl
  rw [k0, o0] at h0
  rw [k1, o1] at h1
  rw [k2, o2] at h2
  obtain ⟨m0, q0, s0, w0⟩ := DataW.trod_int u0 h0
  obtain ⟨m1, q1, s1, w1⟩ := DataW.trod_int u1 h1
  obtain ⟨ys, n', _, hx', hl', hlen', hg'⟩ := DataW.trod_struct u2 h2
  obtain ⟨a0, a1, rfl⟩ := list2 (l := ys) (by simpa using hlen')
  have i0 := hg' 0 g0 rfl
  have i1 := hg' 1 g1 rfl
  rw [l0, p0] at i0
  rw [l1, p1] at i1
  obtain ⟨m2, q2, s2, w2⟩ := DataW.trod_int v0 i0
  obtain ⟨m3, q3, s3, w3⟩ := DataW.trod_int v1 i1
  have q0 : c0 = .int .i64 m0 := by simpa [Value.cells] using q0
  have q1 : c1 = .int .i64 m1 := by simpa [Value.cells] using q1
  have q2 : c2 = .int .i64 m2 := by simpa [Value.cells] using q2
  have q3 : c3 = .int .i64 m3 := by simpa [Value.cells] using q3
  refine ⟨m0, m1, m2, m3, by rw [q0, q1, q2, q3], w0, w1, w2, w3, ?_⟩
  have := congrArg Prod.snd hx
  have e := congrArg Prod.snd hx'
  simp only [s2, s3, List.flatMap_cons, List.flatMap_nil, List.append_nil] at e
  simp only [s0, s1, e, List.flatMap_cons, List.flatMap_nil, List.append_nil] at this
  exact this
end Go.Proofs.Ytoaoifiklnbknaa

