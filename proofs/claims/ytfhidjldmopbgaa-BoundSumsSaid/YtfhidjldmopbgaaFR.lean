/-
  Ranges over functions that hand on all they have: a contract for iterators (also for those that range over another iterator and call yield within a round), and the law for the loop.
  The fence is the wide one; the body never leaves.
-/
import Derived.RangeFuncNested
import Derived.RangeFuncBound
import Derived.RangeFuncCalls
import Derived.RangeFuncLeaves
namespace Go.Proofs.Ytfhidjldmopbgaa
open Go.RowKit
set_option linter.unusedVariables false
set_option linter.unusedSimpArgs false

/-- A round that goes on: it leaves alone what lies below n₀ and what it does not own; O: the blocks that it owns ahead of it, O': behind it. -/
def LetsO (n₀ : Nat) (O O' : Nat → Prop) (A B : World) : Prop := Below n₀ A B ∧ ∀ k, k < A.heap.size → ¬ O k → B.heap[k]? = A.heap[k]? ∧ ¬ O' k
theorem LetsO.of_below {n₀ : Nat} {O : Nat → Prop} {A B : World} (h : Below A.heap.size A B) (hn : n₀ ≤ A.heap.size) : LetsO n₀ O O A B :=
  ⟨h.mono hn, fun k hk ho => ⟨h.block k hk, ho⟩⟩
theorem LetsO.trans {n₀ : Nat} {O O' O'' : Nat → Prop} {A B C : World} (h : LetsO n₀ O O' A B) (k : LetsO n₀ O' O'' B C) : LetsO n₀ O O'' A C :=
  ⟨h.1.trans k.1, fun i hi ho => by
    obtain ⟨a1, a2⟩ := h.2 i hi ho
    obtain ⟨b1, b2⟩ := k.2 i (Nat.lt_of_lt_of_le hi h.1.size) a2
    exact ⟨b1.trans a1, b2⟩⟩

/-- An invariant that speaks of cells, and of blocks that the rounds own (s.2): it stands while the world grows and an object from B on turns that is neither. -/
def Stays {β : Type} (B : Nat) (I : β × (Nat → Prop) → World → Prop) : Prop :=
  ∀ s W W' row, I s W → W.grownBy W' row → (∀ r, row = some r → B ≤ r ∧ ¬ s.2 r ∧ ∃ o : Obj, W.heap[r]? = some o ∧ o.isCells = false) → I s W'
theorem Stays.putObj {β : Type} {B : Nat} {I : β × (Nat → Prop) → World → Prop} (h : Stays B I) {s : β × (Nat → Prop)} {W : World} {l : Nat} {o : Obj} (o' : Obj) (hs : I s W) (hB : B ≤ l) (hn : ¬ s.2 l) (hl : W.heap[l]? = some o) (ho : o.isCells = false) : I s (W.putObj l o') :=
  h s W _ (some l) hs (grownBy_putObj' W l o') (fun r e => by cases e; exact ⟨hB, hn, o, hl, ho⟩)
theorem Stays.below {β : Type} {B : Nat} {I : β × (Nat → Prop) → World → Prop} (h : Stays B I) {s : β × (Nat → Prop)} {W W' : World} (hs : I s W) (hb : Below W.heap.size W W') : I s W' :=
  h s W W' none hs ⟨hb.os, hb.tape, hb.output, hb.size, fun k hk _ => hb.block k hk⟩ (fun r e => by cases e)
theorem Stays.mono {β : Type} {B B' : Nat} {I : β × (Nat → Prop) → World → Prop} (h : Stays B I) (hB : B ≤ B') : Stays B' I :=
  fun s W W' row hs hg hr => h s W W' row hs hg fun r e => ⟨Nat.le_trans hB (hr r e).1, (hr r e).2⟩

/-- The iterator hands on xs, one after another, to a body that never says 'no more'. -/
def SeqAll {α : Type} (P : Program) (g : Nat) (lb : Array Value) (encs : α → Array Value) (n₀ : Nat) (xs : List α) (N : Nat) (w0 : World) : Prop :=
  ∀ (n l : Nat) (J : List α × (Nat → Prop) → World → Prop) (W : World) (O : Nat → Prop), Below w0.heap.size w0 W → Stays W.heap.size J → (∀ k, O k → k < W.heap.size) →
    (∀ pre O x W1, J (pre, O) W1 → pre.length < N → ∀ m, YieldAt Fence.wide m P l (encs x) W1 fun e W' => e = .returned (.bool true) ∧ ∃ O', J (pre ++ [x], O') W' ∧ LetsO n₀ O O' W1 W') →
    J ([], O) W → CallsIn Fence.wide n P g (#[.func (.yield l) #[] #[]] ++ lb) W fun e W' => (∃ v, e = .returned v) ∧ ∃ O', J (xs, O') W'

theorem wide_depth {n m : Nat} {P : Program} {f : FuncId} {args : Array Value} {w : World} {R : Ending → World → Prop} (h : CallsIn Fence.wide n P f args w R) : CallsIn Fence.wide m P f args w R :=
  callsIn_wide.2 (callsIn_wide.1 h)
theorem round_depth {n m l f : Nat} {P : Program} {tmps : Array Value} {assign body : Code} {w : World} {R : Ending → World → Prop} (h : RoundIn Fence.wide n P l f tmps assign body w R) : RoundIn Fence.wide m P l f tmps assign body w R :=
  ⟨h.1, fun c cs hr => h.2 c cs (room_wide _)⟩
/-- The loop: its body is walked once, on whatever has come so far. -/
theorem wpIn_all {α : Type} {n : Nat} {P : Program} {g : Operand} {ps : Array Tmp} {assign body : Code} {Q : Exit → Act → World → Prop} {a : Act} {w : World}
    {gf : Nat} {lb : Array Value} (hg : a.eval g = .func (.func gf) #[] lb) (eg : ∀ args w, (callFunc gf args).run P w = .ok (.enter gf args) w)
    {encs : α → Array Value} {n₀ : Nat} {xs : List α} {N : Nat} {w0 : World} (hseq : SeqAll P gf lb encs n₀ xs N w0) (hn₀ : n₀ ≤ w.heap.size) (hb0 : Below w0.heap.size w0 w) (hps : ∀ x, (encs x).size = ps.size)
    (I : List α × (Nat → Prop) → World → Prop) (hI : Stays w.heap.size I) (O : Nat → Prop) (hO : ∀ k, O k → k < w.heap.size) (h0 : I ([], O) w) (Ax : α → Act → List α × (Nat → Prop) → World → Prop) (hAx : ∀ x a', Stays w.heap.size (Ax x a'))
    (hassign : ∀ (l m : Nat) (pre : List α) (O : Nat → Prop) (x : α) (W : World) (K : Act → World → Prop), w.heap.size ≤ W.heap.size → I (pre, O) W → pre.length < N → (∀ a' W' O', LetsO n₀ O O' W W' → Ax x a' (pre, O') W' → K a' W') →
      assign.wpIn (Fence.wide.inRound l) m P (Exit.then K (fun _ _ _ => False)) { tmps := (ps.zip (encs x)).foldl (fun t (p, v) => t.setIfInBounds p v) a.tmps, defers := [] } W)
    (hbody : ∀ (l m : Nat) (pre : List α) (O : Nat → Prop) (x : α) (a' : Act) (W : World), w.heap.size ≤ W.heap.size → Ax x a' (pre, O) W → pre.length < N →
      body.wpIn (Fence.wide.inRound l) m P (Exit.then (fun _ W' => ∃ O', LetsO n₀ O O' W W' ∧ I (pre ++ [x], O') W') (fun _ _ _ => False)) a' W)
    (hdone : ∀ (D : Nat) (O : Nat → Prop) (W : World), w.heap.size ≤ D → D + 1 < W.heap.size → ¬ O D → I (xs, O) W → W.heap[D]? = some (.deferred (some [])) → Q .normal { a with defers := { target := .collected D, args := #[] } :: a.defers } W) :
    (Code.rangeFunc g ps assign body).wpIn Fence.wide n P Q a w := by
  refine wpIn_rangeFunc fun fn hfn => ?_
  let r : LoopState → Loop := fun st => { state := st, pending := none, fn, tmps := a.tmps, params := ps, assign, body, defers := w.heap.size }
  let wk := w.alloc (.deferred (some []))
  let w1 := wk.alloc (.loop (r .ready))
  have sk : wk.heap.size = w.heap.size + 1 := World.size_alloc _ _
  have s1 : w1.heap.size = w.heap.size + 2 := (World.size_alloc _ _).trans (by rw [sk])
  have hrec : w1.heap[w.heap.size + 1]? = some (.loop (r .ready)) := by have := World.alloc_heap_new wk (.loop (r .ready)); rwa [sk] at this
  have hdef : w1.heap[w.heap.size]? = some (.deferred (some [])) := (Below.heap_alloc _ _ _ (by omega)).trans (World.alloc_heap_new w _)
  have hgrow : Below w.heap.size w w1 := ((Below.refl _ w).alloc (Nat.le_refl _) _).alloc (by rw [World.size_alloc]; omega) _
  have hi1 : I ([], O) w1 := hI.below h0 hgrow
  let J : List α × (Nat → Prop) → World → Prop := fun s W => I s W ∧ W.heap[w.heap.size + 1]? = some (.loop (r .ready)) ∧ W.heap[w.heap.size]? = some (.deferred (some [])) ∧ ¬ s.2 (w.heap.size + 1) ∧ ¬ s.2 w.heap.size
  have hJ : Stays w1.heap.size J := by
    rintro s A B row ⟨h1, h2, h3, h4⟩ hgr hr
    refine ⟨hI s A B row h1 hgr fun q e => ⟨by have := (hr q e).1; omega, (hr q e).2⟩, (hgr.block _ (Array.getElem?_eq_some_iff.1 h2).1 fun e => ?_).trans h2, (hgr.block _ (Array.getElem?_eq_some_iff.1 h3).1 fun e => ?_).trans h3, h4⟩
    · have := (hr _ e.symm).1; omega
    · have := (hr _ e.symm).1; omega
  refine ⟨w.heap.size + 1, [{ target := .collected w.heap.size, args := #[] }], w1, { target := .fn (.func gf) lb, args := #[.func (.yield (w.heap.size + 1)) #[] #[]] }, w1, gf, #[.func (.yield (w.heap.size + 1)) #[] #[]] ++ lb, w1,
    run_enterLoop_outer _ _ _ _ _, ?_, fun _ _ => trivial, ?_, fun h => (by cases h), ?_⟩
  · simp only [resolve, hg]
    simp [go_sem]
  · simp [invoke, go_sem, eg]
  refine (hseq (n - 1) (w.heap.size + 1) J w1 O (hb0.trans (hgrow.mono hb0.size)) hJ (fun k hk => by have := hO k hk; omega) ?_ ⟨hi1, hrec, hdef, fun h => by have := hO _ h; omega, fun h => by have := hO _ h; omega⟩).mono ?_
  · rintro pre O x W ⟨hi, hl, hd, hno, hnd⟩ hlen m
    have hlt : w.heap.size + 1 < W.heap.size := (Array.getElem?_eq_some_iff.1 hl).1
    refine ⟨fn, _, assign, body, run_yield hl (hps x), roundIn_of_wpIn hfn (hassign _ _ pre O x W _ (by omega) hi hlen fun a' Wa Oa hla hax => ?_)⟩
    obtain ⟨ha, hnoa⟩ := hla.2 _ hlt hno
    obtain ⟨hb, hnda⟩ := hla.2 w.heap.size (by omega) hnd
    rw [hl] at ha
    rw [hd] at hb
    have hlta : w.heap.size + 1 < Wa.heap.size := (Array.getElem?_eq_some_iff.1 ha).1
    refine ⟨_, run_beginRound ha rfl, ?_⟩
    refine wpIn_mono (hbody _ _ pre Oa x a' _ (by simp; omega) ((hAx x a').putObj _ hax (by omega) hnoa ha rfl) hlen) ?_
    rintro e a3 W3 hp
    cases e with
    | normal =>
      obtain ⟨O', hl3, hi3⟩ := hp
      obtain ⟨h2, hno'⟩ := hl3.2 (w.heap.size + 1) (by simpa using hlta) hnoa
      obtain ⟨h3, hnd'⟩ := hl3.2 w.heap.size (by simp; omega) hnda
      rw [World.putObj_heap_same hlta] at h2
      rw [World.putObj_heap_other (by omega), hb] at h3
      have hlt3 := (Array.getElem?_eq_some_iff.1 h2).1
      have e1 := hl3.1.size
      have e2 := hla.1.size
      simp at e1
      refine ⟨_, _, run_endRound none h2, rfl, O', ⟨hI.putObj _ hi3 (by omega) hno' h2 rfl, World.putObj_heap_same hlt3, (World.putObj_heap_other (by omega)).trans h3, hno', hnd'⟩, ⟨?_, ?_, ?_, ?_, fun k hk => ?_⟩, fun k hk ho => ?_⟩
      · exact (show _ = _ from hl3.1.os).trans hla.1.os
      · exact (show _ = _ from hl3.1.tape).trans hla.1.tape
      · exact (show _ = _ from hl3.1.output).trans hla.1.output
      · simp; omega
      · exact (World.putObj_heap_other (by omega)).trans ((hl3.1.block k hk).trans ((World.putObj_heap_other (by omega)).trans (hla.1.block k hk)))
      · obtain ⟨q1, q2⟩ := hla.2 k hk ho
        obtain ⟨r1, r2⟩ := hl3.2 k (by simp; omega) q2
        refine ⟨?_, r2⟩
        by_cases hkl : k = w.heap.size + 1
        · subst hkl
          exact (World.putObj_heap_same hlt3).trans hl.symm
        · exact (World.putObj_heap_other hkl).trans (r1.trans ((World.putObj_heap_other hkl).trans q1))
    | ret => exact hp.elim
    | exit id => exact hp.elim
    | goto t => exact hp.elim
    | panic ch => exact hp.elim
    | outgrown => exact hp.elim
  · rintro e W2 ⟨⟨v, rfl⟩, O', hi, hl, hd, hno, hnd⟩
    have hlt : w.heap.size + 1 < W2.heap.size := (Array.getElem?_eq_some_iff.1 hl).1
    exact ⟨none, _, run_endLoop hl (by simp [r]), hdone _ O' _ (Nat.le_refl _) (by simp; omega) hnd (hI.putObj _ hi (by omega) hno hl rfl) ((World.putObj_heap_other (by omega)).trans hd)⟩
end Go.Proofs.Ytfhidjldmopbgaa

