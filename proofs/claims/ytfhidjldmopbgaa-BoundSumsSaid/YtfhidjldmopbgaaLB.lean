/-
  Loops that do not care whether a Boolean in a block is known or not: their specifications are stated for unknown ones.
  Conditions: none.
-/
import Derived.Test.YtfhidjldmopbgaaEv2
set_option linter.unusedVariables false
set_option linter.unusedSimpArgs false
namespace Go.Proofs.Ytfhidjldmopbgaa.Ev
open Go.RowKit
variable {F : Type}
def AC.boo : AC F → AC F
  | .yes b => .bool b
  | c => c
def Blk.boo (b : Blk F) : Blk F := ⟨b.ty, b.cs.map AC.boo⟩
theorem AC.boo_R {E : Env F} {c : AC F} {v : Value} : c.boo.R E v ↔ c.R E v := by cases c <;> exact Iff.rfl
theorem boo_all {E : Env F} : ∀ {l : List (AC F)} {vs : List Value}, All2 (AC.R E) (l.map AC.boo) vs ↔ All2 (AC.R E) l vs
  | [], vs => Iff.rfl
  | c :: l, vs => by
    constructor
    · intro h
      cases h with
      | cons r h => exact .cons (AC.boo_R.1 r) (boo_all.1 h)
    · intro h
      cases h with
      | cons r h => exact .cons (AC.boo_R.2 r) (boo_all.2 h)
theorem AC.boo_tok {c : AC F} {n sz : Nat} (h : c.boo = .tok n sz) : c = .tok n sz := by cases c <;> first | exact h | cases h
theorem AC.boo_arr {c : AC F} {ks : List (Option IntKind)} {l : List (List Int)} (h : c.boo = .arr ks l) : c = .arr ks l := by cases c <;> first | exact h | cases h
theorem boo_one {c : AC F} {cs : List (AC F)} (h : cs.map AC.boo = [c.boo]) : ∃ d, cs = [d] ∧ d.boo = c.boo := by
  cases cs with
  | nil => cases h
  | cons d cs =>
    cases cs with
    | nil => simp only [List.map_cons, List.map_nil, List.cons.injEq, and_true] at h; exact ⟨d, rfl, h⟩
    | cons e cs => simp at h
/-- Blocks that differ in known Booleans alone: what stands in a row's slot is the same. -/
theorem boo_tokB {b b' : Blk F} (h : b.boo = b'.boo) {n sz : Nat} (ht : b.tok = some (n, sz)) : b' = b := by
  simp only [Blk.boo, Blk.mk.injEq] at h
  obtain ⟨ty, cs⟩ := b
  obtain ⟨ty', cs'⟩ := b'
  simp only at h
  obtain ⟨rfl, h⟩ := h
  unfold Blk.tok at ht
  split at ht
  · rename_i n' sz' e
    simp only at e
    subst e
    obtain ⟨d, rfl, hd⟩ := boo_one (c := .tok n' sz') h.symm
    rw [AC.boo_tok hd]
  · rename_i ks l e
    simp only at e
    subst e
    obtain ⟨d, rfl, hd⟩ := boo_one (c := .arr ks l) h.symm
    rw [AC.boo_arr hd]
  · cases ht
theorem boo_tokN {b b' : Blk F} (h : b.boo = b'.boo) (ht : b.tok = none) : b'.tok = none := by
  cases h' : b'.tok with
  | none => rfl
  | some p =>
    obtain ⟨n, sz⟩ := p
    have := boo_tokB h.symm h'
    rw [this, h'] at ht; cases ht
theorem Mem.boo {I : Interp F} {w0 : Start} {w : World} {E : Env F} {hp hp' : List (Nat × Blk F)} (H : Mem I w0 E hp w) (h : ∀ i, (look i hp').map Blk.boo = (look i hp).map Blk.boo) : Mem I w0 E hp' w := by
  have at' : ∀ i x, look i hp' = some x → ∃ y, look i hp = some y ∧ y.boo = x.boo := fun i x hx => by
    have := h i
    rw [hx] at this
    cases hy : look i hp with
    | none => rw [hy] at this; cases this
    | some y => rw [hy] at this; simp only [Option.map_some, Option.some.injEq] at this; exact ⟨y, rfl, this.symm⟩
  refine ⟨fun b x hb ht => ?_, fun b x n sz hb ht => ?_, H.exc, H.inj, H.loc, H.ext, H.kept, H.new, H.low, H.bsz, fun f v hv => I.hv_mono f _ _ w w v (H.fv f v hv) (fun k o _ hd => ?_) fun _ _ => .inl rfl, H.apt⟩
  · obtain ⟨y, hy, e⟩ := at' b x hb
    obtain ⟨k, vs, g1, g2, g3⟩ := H.hp b y hy (boo_tokN e.symm ht)
    have e1 : y.ty = x.ty := (show y.boo.ty = x.boo.ty by rw [e])
    have e2 : y.cs.map AC.boo = x.cs.map AC.boo := (show y.boo.cs = x.boo.cs by rw [e])
    exact ⟨k, vs, g1, by rw [← e1]; exact g2, boo_all.1 (e2 ▸ boo_all.2 g3)⟩
  · obtain ⟨y, hy, e⟩ := at' b x hb
    have := boo_tokB e.symm ht
    subst this
    exact H.tok b _ n sz hy ht
  · rcases hd with hd | ⟨b, hd⟩ | ⟨b, x, n, sz, u, h1, h2, h3⟩
    · exact .inl hd
    · exact .inr (.inl ⟨b, hd⟩)
    · obtain ⟨y, hy, e⟩ := at' b x h1
      have := boo_tokB e.symm h2
      subst this
      exact .inr (.inr ⟨b, _, n, sz, u, hy, h2, h3⟩)
def booH (hp : List (Nat × Blk F)) : List (Nat × Blk F) := hp.map fun p => (p.1, p.2.boo)
theorem look_boo (i : Nat) : ∀ hp : List (Nat × Blk F), look i (booH hp) = (look i hp).map Blk.boo
  | [] => rfl
  | (j, b) :: hp => by
    show look i ((j, b.boo) :: booH hp) = _
    rw [look_cons, look_cons]
    by_cases e : j = i
    · rw [if_pos e, if_pos e]; rfl
    · rw [if_neg e, if_neg e]; exact look_boo i hp
theorem boo_boo (b : Blk F) : b.boo.boo = b.boo := by
  have : ∀ l : List (AC F), (l.map AC.boo).map AC.boo = l.map AC.boo := fun l => by
    rw [List.map_map]
    refine List.map_congr_left fun c _ => ?_
    cases c <;> rfl
  unfold Blk.boo
  rw [this]
theorem look_app {α : Type} (i : Nat) : ∀ (l k : List (Nat × α)), look i (l ++ k) = match look i l with | some x => some x | none => look i k
  | [], k => rfl
  | (j, b) :: l, k => by
    rw [List.cons_append, look_cons, look_cons]
    by_cases e : j = i
    · rw [if_pos e, if_pos e]
    · rw [if_neg e, if_neg e]; exact look_app i l k
/-- The same loop, given blocks whose Booleans are known. -/
def LpSp.boo (sp : LpSp F) : LpSp F := ⟨sp.W, fun tm hp => sp.fk tm (booH hp), fun tm hp β => sp.run tm (booH hp) β⟩
theorem LpOk.boo {P : Program} {I : Interp F} {nt : Nat} {x : Code} {sp : LpSp F} (h : LpOk P I nt x sp) : LpOk P I nt x sp.boo where
  keys := fun tm hp β ex outs wb cd hr => h.keys tm (booH hp) β ex outs wb cd hr
  run := fun tm hp β ex outs wb cd hr hfk hc ro ds E w0 a w Q ht hm hQ =>
    h.run tm (booH hp) β ex outs wb cd hr hfk hc ro ds E w0 a w Q ht (hm.boo fun i => by rw [look_boo]; cases look i hp <;> simp [boo_boo]) fun E' a' w' q1 q2 q3 q4 q5 q6 =>
      hQ E' a' w' q1 q2 q3 q4 q5 (q6.boo fun i => by
        rw [look_app, look_app]
        cases look i wb with
        | some y => rfl
        | none => simp only [look_boo]; cases look i hp <;> simp [boo_boo])
end Go.Proofs.Ytfhidjldmopbgaa.Ev

