/-
  The reference's numbers as foreign values of the evaluator: a number's digits by a fact; functions of numbers and plain values out of their contracts.
  Conditions: those of each theorem.
-/
import Derived.Test.YtlhofholfgfphaaEv2
import Derived.Test.YtlhofholfgfphaaNS
import Derived.Test.YtlhofholfgfphaaZB
set_option linter.unusedVariables false
set_option linter.unusedSimpArgs false
namespace Go.Proofs.Ytlhofholfgfphaa
open Go.RowKit Go.Shelf Ev Zd Wd

/-- A foreign value: a slice that holds the digits of a number; any value that no one looks at. -/
inductive Nm where
  | num (z : Int)
  | any
def nmSafe (t : TypeId) : Bool := !(Nat.beq t 3)
theorem Rd.keep {w w' : World} {v : Value} {ds : List Int} (h : Rd w v ds)
    (hk : ∀ k, k < w.heap.size → w'.heap[k]? = w.heap[k]? ∨ 0 ≤ k ∧ ∃ c c' ty fr, w.heap[k]? = some (.cells c ty fr) ∧ nmSafe ty = true ∧ w'.heap[k]? = some (.cells c' ty fr)) : Rd w' v ds := by
  obtain ⟨p, cap, h1, h2, h3, h4⟩ := h
  refine ⟨p, cap, h1, h2, h3, ?_⟩
  rcases h4 with h4 | ⟨b, off, g1, g2, gb, g3⟩
  · exact .inl h4
  · obtain ⟨cur, hcur⟩ := gb
    have e : w'.heap[b]? = w.heap[b]? := by
      rcases hk b g2 with h | ⟨_, c, c', ty, fr, q1, q2, _⟩
      · exact h
      · rw [hcur] at q1; cases q1; cases q2
    refine .inr ⟨b, off, g1, ?_, ⟨cur, by rw [e]; exact hcur⟩, fun j hj => (World.cell?_of_block (w := w) (a := ⟨b, off + j, none⟩) e).trans (g3 j hj)⟩
    rcases Nat.lt_or_ge b w'.heap.size with q | q
    · exact q
    · rw [Array.getElem?_eq_none q] at e; rw [← e] at hcur; cases hcur
theorem Rd.slc {w : World} {v : Value} {ds : List Int} (h : Rd w v ds) : isCell v = true := by
  obtain ⟨p, cap, rfl, _⟩ := h; rfl
def numI : Interp Nm where
  holds := fun _ _ _ => False
  base := 0
  safe := nmSafe
  slen := fun _ => none
  sget := fun _ _ => none
  mono := fun _ _ _ _ h => h.elim
  slen_ok := fun _ _ _ _ h => by cases h
  sget_ok := fun _ _ _ _ _ _ _ _ h => by cases h
  hv := fun f w v => match f with | .num z => Rd w v (digs z.natAbs) | .any => isCell v = true
  vlen := fun _ => none
  vesz := fun _ => 0
  vget := fun _ _ _ => none
  hv_mono := fun f w w' v h hk => by
    cases f with
    | num z => exact Rd.keep h hk
    | any => exact h
  hv_cell := fun f w v h => by
    cases f with
    | num z => exact Rd.slc h
    | any => exact h
  vlen_ok := fun _ _ _ _ h => by cases h
  vget_ok := fun _ _ _ _ _ _ _ _ _ _ h => by cases h
/-- A number, xa a value of the evaluator. -/
def nA (z : Int) : AW Nm := .agg [.bool (decide (z < 0)), .fv (.num z)]

/-- What a function of numbers is given. -/
inductive Ar where
  | num (z : Int)
  | pl (v : Value)
def Ar.R (w : World) : Ar → Value → Prop
  | .num z, u => IsZ w u z
  | .pl v, u => u = v
def arOf : AV Nm → Option (Ar × List (Bool × Bool))
  | .w (.agg [.bool b, .fv (.num z)]) => some (.num z, [(b == decide (z < 0), true)])
  | .w (.agg [.yes false, .lit (.slice none 0 0)]) => some (.num 0, [])
  | x => match x.val with
    | some v => some (.pl v, [])
    | none => none
def arsOf : List (AV Nm) → Option (List Ar × List (Bool × Bool))
  | [] => some ([], [])
  | x :: l => match arOf x with
    | some (a, cd) => match arsOf l with
      | some (xa, cd') => some (a :: xa, cd ++ cd')
      | none => none
    | none => none
theorem isZ_zero (w : World) : IsZ w (.agg #[.bool false, .slice none 0 0]) 0 := by
  refine ⟨.slice none 0 0, by simp, none, 0, ?_, ?_, by unfold maxLen; omega, .inl ?_⟩
  · rw [show (0 : Int).natAbs = 0 from rfl, digs_zero]; rfl
  · rw [show (0 : Int).natAbs = 0 from rfl, digs_zero]; exact Nat.le_refl _
  · rw [show (0 : Int).natAbs = 0 from rfl, digs_zero]
theorem arOf_R {x : AV Nm} {a : Ar} {cd : List (Bool × Bool)} (h : arOf x = some (a, cd)) (hc : ∀ p ∈ cd, p.1 = p.2) {E : Env Nm} {w : World} (hE : ∀ f v, E.h f v → numI.hv f w v) {u : Value} (hx : x.R E u) : a.R w u := by
  unfold arOf at h
  split at h
  · rename_i b z
    cases h
    have hb : b = decide (z < 0) := by simpa using hc (b == decide (z < 0), true) (by simp)
    obtain ⟨vs, rfl, hvs⟩ := hx
    obtain ⟨u0, u1, rfl, h0, h1⟩ := all2_two hvs
    cases (h0 : u0 = _)
    have h1 : E.h (.num z) u1 := h1
    exact ⟨u1, by rw [hb], hE _ _ h1⟩
  · cases h
    obtain ⟨vs, rfl, hvs⟩ := hx
    obtain ⟨u0, u1, rfl, h0, h1⟩ := all2_two hvs
    cases (h0 : u0 = _)
    cases (h1 : u1 = _)
    exact isZ_zero w
  · split at h
    · rename_i v hv
      cases h
      exact AV.val_R hv hx
    · cases h
theorem arsOf_R {E : Env Nm} {w : World} (hE : ∀ f v, E.h f v → numI.hv f w v) : ∀ {xs : List (AV Nm)} {xa : List Ar} {cd : List (Bool × Bool)} {us : List Value}, arsOf xs = some (xa, cd) → (∀ p ∈ cd, p.1 = p.2) → All2 (AV.R E) xs us → All2 (Ar.R w) xa us
  | [], xa, cd, us, h, hc, hx => by cases h; cases hx; exact .nil
  | x :: xs, xa, cd, us, h, hc, hx => by
    cases hx with
    | cons hx hxs =>
      simp only [arsOf] at h
      split at h
      · rename_i a cd1 h1
        split at h
        · rename_i xa' cd2 h2
          cases h
          exact .cons (arOf_R h1 (fun p hp => hc p (List.mem_append_left _ hp)) hE hx) (arsOf_R hE h2 (fun p hp => hc p (List.mem_append_right _ hp)) hxs)
        · cases h
      · cases h
/-- What it returns. -/
inductive Rs where
  | num (z : Int)
  | pl (x : AW Nm)
  | any
def Rs.A : Rs → AW Nm
  | .num z => nA z
  | .pl x => x
  | .any => .one (.fv .any)
def Rs.R (w : World) : Rs → Value → Prop
  | .num z, u => IsZ w u z
  | .pl x, u => x.val = some u
  | .any, u => isCell u = true
def retV (us : List Value) : Value := if h : us.toArray.size = 1 then us.toArray[0] else .tuple us.toArray
theorem Rs.R_A {w : World} {E : Env Nm} (hE : ∀ f v, numI.hv f w v → E.h f v) {r : Rs} {u : Value} (h : r.R w u) : r.A.R E u := by
  cases r with
  | num z =>
    obtain ⟨s, rfl, hs⟩ := h
    exact ⟨[.bool (decide (z < 0)), s], rfl, .cons rfl (.cons (hE (.num z) s hs) .nil)⟩
  | pl x => exact AW.R_val h
  | any => exact hE .any u h
theorem rsA_R {w : World} {E : Env Nm} (hE : ∀ f v, numI.hv f w v → E.h f v) : ∀ {rs : List Rs} {us : List Value}, All2 (Rs.R w) rs us → All2 (AW.R E) (rs.map Rs.A) us
  | [], us, h => by cases h; exact .nil
  | r :: rs, us, h => by
    cases h with
    | cons h hs => exact .cons (Rs.R_A hE h) (rsA_R hE hs)
/-- A function of numbers and plain values. -/
def nfn (g : List Ar → Option (List Rs × List (Bool × Bool))) : FnSp Nm where
  blocks := fun _ => []
  run := fun _ args _ => match arsOf args with
    | some (xa, cd) => match g xa with
      | some (rs, cd') => some ⟨oneOrAll (rs.map Rs.A), [], cd ++ cd'⟩
      | none => none
    | none => none
/-- What a contract says of a call with these arguments. -/
def NCalls (f : FuncId) (xa : List Ar) (rs : List Rs) : Prop := ∀ w us, All2 (Ar.R w) xa us → Calls Try.prog f us.toArray w fun e w' => ∃ vs, All2 (Rs.R w') rs vs ∧ e = .returned (retV vs) ∧ Below w.heap.size w w'
theorem nfn_ok {f : FuncId} {g : List Ar → Option (List Rs × List (Bool × Bool))} (h : ∀ xa rs cd, g xa = some (rs, cd) → (∀ p ∈ cd, p.1 = p.2) → NCalls f xa rs) : (nfn g).ok Try.prog numI f := by
  intro E hp w slot args us bs out hrun ha hb hm hf hc
  simp only [nfn] at hrun
  split at hrun
  · rename_i xa cd has
    split at hrun
    · rename_i rs cd' hg
      cases hrun
      have hA := arsOf_R hm.fv has (fun p hp => hc p (List.mem_append_left _ hp)) ha
      refine (h xa rs cd' hg (fun p hp => hc p (List.mem_append_right _ hp)) w us hA).mono ?_
      rintro e w' ⟨vs, h1, rfl, h3⟩
      exact ⟨E.addh (Holds numI w'), retV vs, But.addh _ _ _, rfl, oneOrAll_R (rsA_R (fun f v h => Or.inr h) h1), (hm.below h3).addh fun _ _ h => h⟩
    · cases hrun
  · cases hrun
/-! Shapes of contracts. -/
theorem n_ret1 {w' : World} {r : Rs} {u : Value} (h : r.R w' u) : ∃ vs, All2 (Rs.R w') [r] vs ∧ Ending.returned u = .returned (retV vs) := ⟨[u], .cons h .nil, rfl⟩
theorem n_ret2 {w' : World} {r s : Rs} {u v : Value} (h : r.R w' u) (k : s.R w' v) : ∃ vs, All2 (Rs.R w') [r, s] vs ∧ Ending.returned (.tuple #[u, v]) = .returned (retV vs) := ⟨[u, v], .cons h (.cons k .nil), rfl⟩
theorem n_ret3 {w' : World} {r s t : Rs} {u v x : Value} (h : r.R w' u) (k : s.R w' v) (l : t.R w' x) : ∃ vs, All2 (Rs.R w') [r, s, t] vs ∧ Ending.returned (.tuple #[u, v, x]) = .returned (retV vs) := ⟨[u, v, x], .cons h (.cons k (.cons l .nil)), rfl⟩
/-- A function of a number to a number. -/
theorem n_num1 {f : FuncId} {a z : Int} (h : ∀ v w, IsZ w v a → Calls Try.prog f #[v] w fun e w' => ∃ u, e = .returned u ∧ IsZ w' u z ∧ Below w.heap.size w w') : NCalls f [.num a] [.num z] := fun w us hA => by
  obtain ⟨u, rfl, hu⟩ := all2_one hA
  refine (h u w hu).mono ?_
  rintro e w' ⟨v, rfl, h2, h3⟩
  exact ⟨[v], .cons h2 .nil, rfl, h3⟩
theorem n_num2 {f : FuncId} {a b z : Int} (h : ∀ va vb w, IsZ w va a → IsZ w vb b → Calls Try.prog f #[va, vb] w fun e w' => ∃ u, e = .returned u ∧ IsZ w' u z ∧ Below w.heap.size w w') : NCalls f [.num a, .num b] [.num z] := fun w us hA => by
  obtain ⟨u, v, rfl, hu, hv⟩ := all2_two hA
  refine (h u v w hu hv).mono ?_
  rintro e w' ⟨v, rfl, h2, h3⟩
  exact ⟨[v], .cons h2 .nil, rfl, h3⟩
/-- A function of numbers to a plain value. -/
theorem n_pl1 {f : FuncId} {a : Int} {x : AW Nm} {r : Value} (hx : x.val = some r) (h : ∀ v w, IsZ w v a → Calls Try.prog f #[v] w fun e w' => e = .returned r ∧ Below w.heap.size w w') : NCalls f [.num a] [.pl x] := fun w us hA => by
  obtain ⟨u, rfl, hu⟩ := all2_one hA
  refine (h u w hu).mono ?_
  rintro e w' ⟨rfl, h3⟩
  exact ⟨[r], .cons hx .nil, rfl, h3⟩
theorem n_pl2 {f : FuncId} {a b : Int} {x : AW Nm} {r : Value} (hx : x.val = some r) (h : ∀ va vb w, IsZ w va a → IsZ w vb b → Calls Try.prog f #[va, vb] w fun e w' => e = .returned r ∧ Below w.heap.size w w') : NCalls f [.num a, .num b] [.pl x] := fun w us hA => by
  obtain ⟨u, v, rfl, hu, hv⟩ := all2_two hA
  refine (h u v w hu hv).mono ?_
  rintro e w' ⟨rfl, h3⟩
  exact ⟨[r], .cons hx .nil, rfl, h3⟩
/-- Two plain results of numbers. -/
theorem n_tup2 {f : FuncId} {a b : Int} {x y : AW Nm} {r s : Value} (hx : x.val = some r) (hy : y.val = some s) (h : ∀ va vb w, IsZ w va a → IsZ w vb b → Calls Try.prog f #[va, vb] w fun e w' => e = .returned (.tuple #[r, s]) ∧ Below w.heap.size w w') : NCalls f [.num a, .num b] [.pl x, .pl y] := fun w us hA => by
  obtain ⟨u, v, rfl, hu, hv⟩ := all2_two hA
  refine (h u v w hu hv).mono ?_
  rintro e w' ⟨rfl, h3⟩
  exact ⟨[r, s], .cons hx (.cons hy .nil), rfl, h3⟩
theorem n_tup1 {f : FuncId} {a : Int} {x y : AW Nm} {r s : Value} (hx : x.val = some r) (hy : y.val = some s) (h : ∀ va w, IsZ w va a → Calls Try.prog f #[va] w fun e w' => e = .returned (.tuple #[r, s]) ∧ Below w.heap.size w w') : NCalls f [.num a] [.pl x, .pl y] := fun w us hA => by
  obtain ⟨u, rfl, hu⟩ := all2_one hA
  refine (h u w hu).mono ?_
  rintro e w' ⟨rfl, h3⟩
  exact ⟨[r, s], .cons hx (.cons hy .nil), rfl, h3⟩
theorem all2_pl {w : World} : ∀ {vs us : List Value}, All2 (Ar.R w) (vs.map Ar.pl) us → us = vs
  | [], us, h => by cases h; rfl
  | v :: vs, us, h => by
    cases h with
    | cons h hs => rw [show _ = v from h, all2_pl hs]
/-- A function of plain values to a number. -/
theorem n_of {f : FuncId} {vs : List Value} {z : Int} (h : ∀ w, Calls Try.prog f vs.toArray w fun e w' => ∃ u, e = .returned u ∧ IsZ w' u z ∧ Below w.heap.size w w') : NCalls f (vs.map Ar.pl) [.num z] := fun w us hA => by
  rw [all2_pl hA]
  refine (h w).mono ?_
  rintro e w' ⟨u, rfl, h2, h3⟩
  exact ⟨[u], .cons h2 .nil, rfl, h3⟩
/-- A number of not too many digits. -/
def szB (z : Int) : Bool := decide ((digs z.natAbs).length ≤ 1000)
theorem szB_iff {z : Int} : szB z = true ↔ (digs z.natAbs).length ≤ 1000 := by unfold szB; simp
end Go.Proofs.Ytlhofholfgfphaa

