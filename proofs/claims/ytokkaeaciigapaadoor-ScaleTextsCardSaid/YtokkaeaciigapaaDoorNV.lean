/-
  The reference's numbers as foreign values of the evaluator: a number's digits by a fact; functions of numbers and plain values out of their contracts.
  Conditions: those of each theorem.
-/
import Derived.Test.YtokkaeaciigapaaDoorEv2
import Derived.Test.YtokkaeaciigapaaDoorNS
import Derived.Test.YtokkaeaciigapaaDoorZB
import Derived.Test.YtokkaeaciigapaaDoorTB
set_option linter.unusedVariables false
set_option linter.unusedSimpArgs false
namespace Go.Proofs.YtokkaeaciigapaaDoor
open Go.RowKit Go.Shelf Ev Zd Wd

/-- A foreign value: a slice that holds the digits of a number; a slice of 64-bit integers; any value that no one looks at; a slice of structs of numbers (some k) and Booleans (none: 1 is true). -/
inductive Nm where
  | num (z : Int)
  | row (l : List Int)
  | any
  | tab (ks : List (Option IntKind)) (l : List (List Int))
def nmSafe (t : TypeId) : Bool := !(Nat.beq t 3)
theorem Rd.keep {w w' : World} {v : Value} {ds : List Int} (h : Rd w v ds)
    (hk : ∀ k, k < w.heap.size → w'.heap[k]? = w.heap[k]? ∨ 0 ≤ k ∧ ∃ c c' ty fr, w.heap[k]? = some (.cells c ty fr) ∧ nmSafe ty = true ∧ w'.heap[k]? = some (.cells c' ty fr)) : Rd w' v ds := by
  obtain ⟨p, cap, h1, h2, h3, h4⟩ := h
  refine ⟨p, cap, h1, h2, h3, ?_⟩
  rcases h4 with h4 | ⟨b, off, g1, g2, gb, g3⟩
  · exact .inl h4
  · obtain ⟨cur, hcur⟩ := gb
    have e : w'.heap[b]? = w.heap[b]? := by
      rcases hk b g2 with h | ⟨_, c, c', ty, fr, q1, q2, _⟩
      · exact h
      · rw [hcur] at q1; cases q1; cases q2
    refine .inr ⟨b, off, g1, ?_, ⟨cur, by rw [e]; exact hcur⟩, fun j hj => (World.cell?_of_block (w := w) (a := ⟨b, off + j, none⟩) e).trans (g3 j hj)⟩
    rcases Nat.lt_or_ge b w'.heap.size with q | q
    · exact q
    · rw [Array.getElem?_eq_none q] at e; rw [← e] at hcur; cases hcur
theorem Rd.slc {w : World} {v : Value} {ds : List Int} (h : Rd w v ds) : isCell v = true := by
  obtain ⟨p, cap, rfl, _⟩ := h; rfl
/-- A slice of 64-bit integers, none of which lies where the facts may not lean. -/
def rowHv (D : Nat → Nat → Prop) (w : World) (v : Value) (l : List Int) : Prop :=
  ∃ (p : Option Addr) (cap : Nat), v = .slice p l.length cap ∧ l.length ≤ cap ∧ cap ≤ maxLen ∧ (p = none → l.length = 0) ∧
    ∀ a, p = some a → a = ⟨a.block, a.off, none⟩ ∧ ∀ j, j < l.length → ¬ D a.block (a.off + j) ∧ w.cell? ⟨a.block, a.off + j, none⟩ = some (.int .i64 (l.getD j 0))
theorem cell_keep {D : Nat → Nat → Prop} {w w' : World} {base : Nat} {safe : TypeId → Bool} (hk : ∀ k, k < w.heap.size → w'.heap[k]? = w.heap[k]? ∨ base ≤ k ∧ ∃ c c' ty fr, w.heap[k]? = some (.cells c ty fr) ∧ safe ty = true ∧ w'.heap[k]? = some (.cells c' ty fr) ∧ ∀ o, c'[o]? = c[o]? ∨ D k o)
    {k o : Nat} {u : Value} (h : w.cell? ⟨k, o, none⟩ = some u) (hd : ¬ D k o) : k < w.heap.size ∧ w'.cell? ⟨k, o, none⟩ = some u := by
  have hlt : k < w.heap.size := by
    rcases Nat.lt_or_ge k w.heap.size with q | q
    · exact q
    · simp [World.cell?, Array.getElem?_eq_none q] at h
  refine ⟨hlt, ?_⟩
  rcases hk k hlt with e | ⟨_, c, c', ty, fr, q1, _, q3, q4⟩
  · rw [← h]; exact World.cell?_of_block e
  · simp only [World.cell?, q1] at h
    simp only [World.cell?, q3]
    rcases q4 o with q | q
    · rw [q]; exact h
    · exact absurd q hd
theorem rowHv.keep {D D' : Nat → Nat → Prop} {w w' : World} {v : Value} {l : List Int} {base : Nat} {safe : TypeId → Bool} (h : rowHv D w v l) (hD : ∀ k o, k < w.heap.size → D' k o → D k o)
    (hk : ∀ k, k < w.heap.size → w'.heap[k]? = w.heap[k]? ∨ base ≤ k ∧ ∃ c c' ty fr, w.heap[k]? = some (.cells c ty fr) ∧ safe ty = true ∧ w'.heap[k]? = some (.cells c' ty fr) ∧ ∀ o, c'[o]? = c[o]? ∨ D k o) : rowHv D' w' v l := by
  obtain ⟨p, cap, h1, h2, h3, h4, h5⟩ := h
  refine ⟨p, cap, h1, h2, h3, h4, fun a ha => ⟨(h5 a ha).1, fun j hj => ?_⟩⟩
  obtain ⟨g1, g2⟩ := (h5 a ha).2 j hj
  obtain ⟨q1, q2⟩ := cell_keep hk g2 g1
  exact ⟨fun hd => g1 (hD _ _ q1 hd), q2⟩
theorem rowHv.sub {D : Nat → Nat → Prop} {w : World} {v : Value} {l : List Int} (h : rowHv D w v l) {a b : Int} (h0 : 0 ≤ a) (h1 : a ≤ b) (h2 : b ≤ lenI l) :
    ∃ p m cap, v = .slice p m cap ∧ lenI l = (m : Int) ∧ b ≤ (cap : Int) ∧ rowHv D w (.slice (if cap = a.toNat then p else p.map (·.add (a.toNat * 1))) (b.toNat - a.toNat) (cap - a.toNat)) ((l.take b.toNat).drop a.toNat) := by
  obtain ⟨p, cap, rfl, g2, g3, g4, g5⟩ := h
  unfold lenI at h2 ⊢
  have hl : ((l.take b.toNat).drop a.toNat).length = b.toNat - a.toNat := by simp only [List.length_drop, List.length_take]; omega
  refine ⟨p, l.length, cap, rfl, rfl, by omega, _, cap - a.toNat, by rw [hl], by rw [hl]; omega, by omega, fun hp => ?_, fun ad had => ?_⟩
  · rw [hl]
    split at hp
    · omega
    · cases p with
      | none => have := g4 rfl; omega
      | some q => cases hp
  · split at had
    · obtain ⟨e1, _⟩ := g5 ad had
      exact ⟨e1, fun j hj => by rw [hl] at hj; omega⟩
    · cases p with
      | none => cases had
      | some q =>
        obtain ⟨e1, e2⟩ := g5 q rfl
        rw [e1] at had
        simp only [Option.map_some, Nat.mul_one, Addr.add_lit, Option.some.injEq] at had
        subst had
        refine ⟨rfl, fun j hj => ?_⟩
        rw [hl] at hj
        obtain ⟨r1, r2⟩ := e2 (a.toNat + j) (by omega)
        simp only [← Nat.add_assoc] at r1 r2
        refine ⟨r1, r2.trans ?_⟩
        congr 2
        simp only [List.getD_eq_getElem?_getD, List.getElem?_drop, List.getElem?_take]
        rw [if_pos (by omega)]
def intsOf : List (AC Nm) → Option (List Int)
  | [] => some []
  | .int .i64 x :: r => match intsOf r with
    | some l => some (x :: l)
    | none => none
  | _ => none
theorem intsOf_get {hv : Nm → World → Value → Prop} {w : World} : ∀ {xs : List (AC Nm)} {is : List Int} {us : List Value}, intsOf xs = some is → All2 (fun x u => isCell u = true ∧ x.is hv w u) xs us → is.length = xs.length ∧ ∀ j, j < is.length → us[j]? = some (.int .i64 (is.getD j 0))
  | [], is, us, h, H => by cases h; exact ⟨rfl, fun j hj => by simp at hj⟩
  | x :: xs, is, us, h, H => by
    unfold intsOf at h
    split at h
    · cases ‹_ :: _ = []›
    · rename_i y r heq
      cases heq
      split at h
      · rename_i l hl
        cases h
        cases H with
        | cons r H =>
          obtain ⟨g1, g2⟩ := intsOf_get hl H
          refine ⟨by simp [g1], fun j hj => ?_⟩
          cases j with
          | zero =>
            have := r.2
            simp only [AC.is, AC.lv, Option.some.injEq] at this
            simp [← this]
          | succ j => simpa using g2 j (by simpa using hj)
      · cases h
    · cases h
def numI : Interp Nm where
  holds := fun _ _ _ => False
  base := 0
  safe := nmSafe
  slen := fun _ => none
  sget := fun _ _ => none
  mono := fun _ _ _ _ h => h.elim
  slen_ok := fun _ _ _ _ h => by cases h
  sget_ok := fun _ _ _ _ _ _ _ _ h => by cases h
  hv := fun f D w v => match f with | .num z => Rd w v (digs z.natAbs) | .row l => rowHv D w v l | .any => isCell v = true | .tab ks l => tabHv D w v ks l
  vlen := fun f => match f with | .row l => some (lenI l) | .tab _ l => some (lenT l) | _ => none
  vesz := fun f => match f with | .row _ => 1 | .tab ks _ => ks.length | _ => 0
  vget := fun f i o => match f, o with | .row l, 0 => some (.int .i64 (getI l i)) | .tab ks l, o => (match ks[o]? with | some kd => some (kdC kd (cel l i o)) | none => none) | _, _ => none
  vsub := fun f a b => match f with | .row l => some (.row ((l.take b.toNat).drop a.toNat)) | .tab ks l => some (.tab ks ((l.take b.toNat).drop a.toNat)) | _ => none
  vapp := fun f xs m => match f with
    | .row l => match intsOf xs with
      | some is => some (.row (l ++ is))
      | none => none
    | .tab ks l => match rowsOf ks m xs with
      | some rs => some (.tab ks (l ++ rs))
      | none => none
    | _ => none
  nil := fun _ => none
  hv_mono := fun f D D' w w' v h hD hk => by
    cases f with
    | num z => exact Rd.keep h fun k hlt => (hk k hlt).imp id fun ⟨h0, c, c', ty, fr, h1, h2, h3, _⟩ => ⟨h0, c, c', ty, fr, h1, h2, h3⟩
    | row l => exact rowHv.keep h hD hk
    | any => exact h
    | tab ks l => exact tabHv.keep h hD hk
  hv_cell := fun f D w v h => by
    cases f with
    | num z => exact Rd.slc h
    | row l => obtain ⟨p, cap, rfl, _⟩ := h; rfl
    | any => exact h
    | tab ks l => obtain ⟨p, cap, rfl, _⟩ := h; rfl
  vlen_ok := fun f n D w v hn h => by
    cases f with
    | num z => cases hn
    | any => cases hn
    | row l =>
      cases hn
      obtain ⟨p, cap, rfl, g2, g3, g4, g5⟩ := h
      exact ⟨p, l.length, cap, rfl, rfl, g4, fun a ha => (g5 a ha).1⟩
    | tab ks l =>
      cases hn
      obtain ⟨p, cap, rfl, g2, g3, g4, g5⟩ := h
      exact ⟨p, l.length, cap, rfl, rfl, g4, fun a ha => (g5 a ha).1⟩
  vget_ok := fun f n i o x D w b off m cap hn hx h0 h1 h => by
    cases f with
    | num z => cases hn
    | any => cases hn
    | row l =>
      cases hn
      cases o with
      | succ o => cases hx
      | zero =>
        cases hx
        obtain ⟨p, cap', e, g2, g3, g4, g5⟩ := h
        cases e
        unfold lenI at h1
        obtain ⟨_, e2⟩ := (g5 _ rfl).2 i.toNat (by omega)
        refine ⟨.int .i64 (getI l i), ?_, rfl, rfl⟩
        rw [Nat.mul_one]
        exact e2
    | tab ks l =>
      cases hn
      obtain ⟨p, cap', e, g2, g3, g4, g5⟩ := h
      cases e
      unfold lenT at h1
      simp only at hx
      split at hx
      · rename_i k hk
        cases hx
        exact ⟨_, ((g5 _ rfl).2 i.toNat (by omega) o _ hk).2, kdV_cell _ _, kdC_is _ _⟩
      · cases hx
  vsub_ok := fun f g n a b D w v hg hn h0 h1 h2 h => by
    cases f with
    | num z => cases hn
    | any => cases hn
    | row l => cases hn; cases hg; exact rowHv.sub h h0 h1 h2
    | tab ks l => cases hn; cases hg; exact tabHv.sub h h0 h1 h2
  vapp_ok := fun f g xs m n D w v k cap us hg hn h hv hx hu h1 h2 h3 h4 h5 h6 h7 => by
    cases f with
    | num z => cases hn
    | any => cases hn
    | row l =>
      simp only at hg
      split at hg
      · rename_i is his
        cases hg
        have hn : l.length = n := by simp only [lenI, Option.some.injEq] at hn; omega
        obtain ⟨g1, g2⟩ := intsOf_get his hu
        have hx : xs.length = m := by simpa using hx
        have hlen : (l ++ is).length = n + m := by rw [List.length_append]; omega
        refine ⟨some ⟨k, 0, none⟩, cap, by rw [hlen], by omega, h6, fun e => (by cases e), fun a ha => ?_⟩
        cases ha
        refine ⟨rfl, fun j hj => ?_⟩
        rw [hlen] at hj
        simp only [Nat.zero_add, Nat.mul_one] at h1 h2 h3 ⊢
        refine ⟨h3 j hj, ?_⟩
        rcases Nat.lt_or_ge j n with q | q
        · rcases hv with rfl | ⟨kv, c, rfl⟩
          · obtain ⟨p, cap', e, _⟩ := h
            simp only [Value.slice.injEq] at e
            omega
          · rw [h1 kv c rfl j q]
            obtain ⟨p, cap', e, e2, e3, e4, e5⟩ := h
            simp only [Value.slice.injEq] at e
            have := ((e5 _ e.1.symm).2 j (by omega)).2
            simp only [Nat.zero_add] at this
            rw [this]
            congr 2
            simp only [List.getD_eq_getElem?_getD]
            rw [List.getElem?_append_left (by omega)]
        · have := h2 (j - n) _ (g2 (j - n) (by omega))
          rw [show n + (j - n) = j by omega] at this
          rw [this]
          congr 2
          simp only [List.getD_eq_getElem?_getD]
          rw [List.getElem?_append_right (by omega), hn]
      · cases hg
    | tab ks l =>
      simp only at hg
      split at hg
      · rename_i rs hrs
        cases hg
        have hn : l.length = n := by simp only [lenT, Option.some.injEq] at hn; omega
        obtain ⟨g0, _, g2⟩ := rowsOf_get hrs hu
        have hlen : (l ++ rs).length = n + m := by rw [List.length_append]; omega
        refine ⟨some ⟨k, 0, none⟩, cap, by rw [hlen], by omega, h6, fun e => (by cases e), fun a ha => ?_⟩
        cases ha
        refine ⟨rfl, fun j hj o kd ho => ?_⟩
        rw [hlen] at hj
        have hol : o < ks.length := (List.getElem?_eq_some_iff.1 ho).1
        have hjo : j * ks.length + o < (n + m) * ks.length := by
          have : (j + 1) * ks.length ≤ (n + m) * ks.length := Nat.mul_le_mul_right _ (by omega)
          rw [Nat.add_mul] at this; omega
        simp only [Nat.zero_add] at h1 h2 h3 ⊢
        refine ⟨h3 _ hjo, ?_⟩
        rcases Nat.lt_or_ge j n with q | q
        · have hjn : j * ks.length + o < n * ks.length := by
            have : (j + 1) * ks.length ≤ n * ks.length := Nat.mul_le_mul_right _ (by omega)
            rw [Nat.add_mul] at this; omega
          rcases hv with rfl | ⟨kv, c, rfl⟩
          · obtain ⟨p, cap', e, _⟩ := h
            simp only [Value.slice.injEq] at e
            omega
          · rw [h1 kv c rfl _ hjn]
            obtain ⟨p, cap', e, e2, e3, e4, e5⟩ := h
            simp only [Value.slice.injEq] at e
            have := ((e5 _ e.1.symm).2 j (by omega) o kd ho).2
            simp only [Nat.zero_add] at this
            rw [this]
            congr 3
            simp only [List.getD_eq_getElem?_getD]
            rw [List.getElem?_append_left (by omega)]
        · have := h2 ((j - n) * ks.length + o) _ (g2 (j - n) (by omega) o kd ho)
          rw [show n * ks.length + ((j - n) * ks.length + o) = j * ks.length + o by rw [← Nat.add_assoc, ← Nat.add_mul, show n + (j - n) = j by omega]] at this
          rw [this]
          congr 3
          simp only [List.getD_eq_getElem?_getD]
          rw [List.getElem?_append_right (by omega), hn]
      · cases hg
  nil_ok := fun _ _ _ _ h => by cases h
theorem nil_row (D : Nat → Nat → Prop) (w : World) : numI.hv (.row []) D w (.slice none 0 0) := ⟨none, 0, rfl, Nat.le_refl _, by unfold maxLen; omega, fun _ => rfl, fun a ha => by cases ha⟩
/-- A number, xa a value of the evaluator. -/
def nA (z : Int) : AW Nm := .agg [.bool (decide (z < 0)), .fv (.num z)]

/-- What a function of numbers is given. -/
inductive Ar where
  | num (z : Int)
  | pl (v : Value)
def Ar.R (w : World) : Ar → Value → Prop
  | .num z, u => IsZ w u z
  | .pl v, u => u = v
def arOf : AV Nm → Option (Ar × List (Bool × Bool))
  | .w (.agg [.bool b, .fv (.num z)]) => some (.num z, [(b == decide (z < 0), true)])
  | .w (.agg [.yes false, .lit (.slice none 0 0)]) => some (.num 0, [])
  | x => match x.val with
    | some v => some (.pl v, [])
    | none => none
def arsOf : List (AV Nm) → Option (List Ar × List (Bool × Bool))
  | [] => some ([], [])
  | x :: l => match arOf x with
    | some (a, cd) => match arsOf l with
      | some (xa, cd') => some (a :: xa, cd ++ cd')
      | none => none
    | none => none
theorem isZ_zero (w : World) : IsZ w (.agg #[.bool false, .slice none 0 0]) 0 := by
  refine ⟨.slice none 0 0, by simp, none, 0, ?_, ?_, by unfold maxLen; omega, .inl ?_⟩
  · rw [show (0 : Int).natAbs = 0 from rfl, digs_zero]; rfl
  · rw [show (0 : Int).natAbs = 0 from rfl, digs_zero]; exact Nat.le_refl _
  · rw [show (0 : Int).natAbs = 0 from rfl, digs_zero]
theorem arOf_R {D : Nat → Nat → Prop} {x : AV Nm} {a : Ar} {cd : List (Bool × Bool)} (h : arOf x = some (a, cd)) (hc : ∀ p ∈ cd, p.1 = p.2) {E : Env Nm} {w : World} (hE : ∀ f v, E.h f v → numI.hv f D w v) {u : Value} (hx : x.R E u) : a.R w u := by
  unfold arOf at h
  split at h
  · rename_i b z
    cases h
    have hb : b = decide (z < 0) := by simpa using hc (b == decide (z < 0), true) (by simp)
    obtain ⟨vs, rfl, hvs⟩ := hx
    obtain ⟨u0, u1, rfl, h0, h1⟩ := all2_two hvs
    cases (h0 : u0 = _)
    have h1 : E.h (.num z) u1 := h1
    exact ⟨u1, by rw [hb], hE _ _ h1⟩
  · cases h
    obtain ⟨vs, rfl, hvs⟩ := hx
    obtain ⟨u0, u1, rfl, h0, h1⟩ := all2_two hvs
    cases (h0 : u0 = _)
    cases (h1 : u1 = _)
    exact isZ_zero w
  · split at h
    · rename_i v hv
      cases h
      exact AV.val_R hv hx
    · cases h
theorem arsOf_R {D : Nat → Nat → Prop} {E : Env Nm} {w : World} (hE : ∀ f v, E.h f v → numI.hv f D w v) : ∀ {xs : List (AV Nm)} {xa : List Ar} {cd : List (Bool × Bool)} {us : List Value}, arsOf xs = some (xa, cd) → (∀ p ∈ cd, p.1 = p.2) → All2 (AV.R E) xs us → All2 (Ar.R w) xa us
  | [], xa, cd, us, h, hc, hx => by cases h; cases hx; exact .nil
  | x :: xs, xa, cd, us, h, hc, hx => by
    cases hx with
    | cons hx hxs =>
      simp only [arsOf] at h
      split at h
      · rename_i a cd1 h1
        split at h
        · rename_i xa' cd2 h2
          cases h
          exact .cons (arOf_R h1 (fun p hp => hc p (List.mem_append_left _ hp)) hE hx) (arsOf_R hE h2 (fun p hp => hc p (List.mem_append_right _ hp)) hxs)
        · cases h
      · cases h
/-- What it returns. -/
inductive Rs where
  | num (z : Int)
  | pl (x : AW Nm)
  | any
def Rs.A : Rs → AW Nm
  | .num z => nA z
  | .pl x => x
  | .any => .one (.fv .any)
def Rs.R (w : World) : Rs → Value → Prop
  | .num z, u => IsZ w u z
  | .pl x, u => x.val = some u
  | .any, u => isCell u = true
def retV (us : List Value) : Value := if h : us.toArray.size = 1 then us.toArray[0] else .tuple us.toArray
theorem Rs.R_A {D : Nat → Nat → Prop} {w : World} {E : Env Nm} (hE : ∀ f v, numI.hv f D w v → E.h f v) {r : Rs} {u : Value} (h : r.R w u) : r.A.R E u := by
  cases r with
  | num z =>
    obtain ⟨s, rfl, hs⟩ := h
    exact ⟨[.bool (decide (z < 0)), s], rfl, .cons rfl (.cons (hE (.num z) s hs) .nil)⟩
  | pl x => exact AW.R_val h
  | any => exact hE .any u h
theorem rsA_R {D : Nat → Nat → Prop} {w : World} {E : Env Nm} (hE : ∀ f v, numI.hv f D w v → E.h f v) : ∀ {rs : List Rs} {us : List Value}, All2 (Rs.R w) rs us → All2 (AW.R E) (rs.map Rs.A) us
  | [], us, h => by cases h; exact .nil
  | r :: rs, us, h => by
    cases h with
    | cons h hs => exact .cons (Rs.R_A hE h) (rsA_R hE hs)
/-- A function of numbers and plain values. -/
def nfn (g : List Ar → Option (List Rs × List (Bool × Bool))) : FnSp Nm where
  blocks := fun _ => []
  run := fun _ args _ => match arsOf args with
    | some (xa, cd) => match g xa with
      | some (rs, cd') => some ⟨oneOrAll (rs.map Rs.A), [], cd ++ cd'⟩
      | none => none
    | none => none
/-- What a contract says of a call with these arguments. -/
def NCalls (f : FuncId) (xa : List Ar) (rs : List Rs) : Prop := ∀ w us, All2 (Ar.R w) xa us → Calls Tryd.prog f us.toArray w fun e w' => ∃ vs, All2 (Rs.R w') rs vs ∧ e = .returned (retV vs) ∧ Below w.heap.size w w'
theorem nfn_ok {f : FuncId} {g : List Ar → Option (List Rs × List (Bool × Bool))} (h : ∀ xa rs cd, g xa = some (rs, cd) → (∀ p ∈ cd, p.1 = p.2) → NCalls f xa rs) : (nfn g).ok Tryd.prog numI f := by
  intro E hp w slot args us bs out dt hrun ha hb hm hf hc
  simp only [nfn] at hrun
  split at hrun
  · rename_i xa cd has
    split at hrun
    · rename_i rs cd' hg
      cases hrun
      have hA := arsOf_R hm.fv has (fun p hp => hc p (List.mem_append_left _ hp)) ha
      refine (h xa rs cd' hg (fun p hp => hc p (List.mem_append_right _ hp)) w us hA).mono ?_
      rintro e w' ⟨vs, h1, rfl, h3⟩
      exact ⟨E.addh (Holds numI (Dt ⟨w, E.ran, dt⟩ E hp) w'), retV vs, But.addh _ _ _, rfl, oneOrAll_R (rsA_R (fun f v h => Or.inr h) h1), (hm.below h3).addh fun _ _ h => h⟩
    · cases hrun
  · cases hrun
/-! Shapes of contracts. -/
theorem n_ret1 {w' : World} {r : Rs} {u : Value} (h : r.R w' u) : ∃ vs, All2 (Rs.R w') [r] vs ∧ Ending.returned u = .returned (retV vs) := ⟨[u], .cons h .nil, rfl⟩
theorem n_ret2 {w' : World} {r s : Rs} {u v : Value} (h : r.R w' u) (k : s.R w' v) : ∃ vs, All2 (Rs.R w') [r, s] vs ∧ Ending.returned (.tuple #[u, v]) = .returned (retV vs) := ⟨[u, v], .cons h (.cons k .nil), rfl⟩
theorem n_ret3 {w' : World} {r s t : Rs} {u v x : Value} (h : r.R w' u) (k : s.R w' v) (l : t.R w' x) : ∃ vs, All2 (Rs.R w') [r, s, t] vs ∧ Ending.returned (.tuple #[u, v, x]) = .returned (retV vs) := ⟨[u, v, x], .cons h (.cons k (.cons l .nil)), rfl⟩
/-- A function of a number to a number. -/
theorem n_num1 {f : FuncId} {a z : Int} (h : ∀ v w, IsZ w v a → Calls Tryd.prog f #[v] w fun e w' => ∃ u, e = .returned u ∧ IsZ w' u z ∧ Below w.heap.size w w') : NCalls f [.num a] [.num z] := fun w us hA => by
  obtain ⟨u, rfl, hu⟩ := all2_one hA
  refine (h u w hu).mono ?_
  rintro e w' ⟨v, rfl, h2, h3⟩
  exact ⟨[v], .cons h2 .nil, rfl, h3⟩
theorem n_num2 {f : FuncId} {a b z : Int} (h : ∀ va vb w, IsZ w va a → IsZ w vb b → Calls Tryd.prog f #[va, vb] w fun e w' => ∃ u, e = .returned u ∧ IsZ w' u z ∧ Below w.heap.size w w') : NCalls f [.num a, .num b] [.num z] := fun w us hA => by
  obtain ⟨u, v, rfl, hu, hv⟩ := all2_two hA
  refine (h u v w hu hv).mono ?_
  rintro e w' ⟨v, rfl, h2, h3⟩
  exact ⟨[v], .cons h2 .nil, rfl, h3⟩
/-- A function of numbers to a plain value. -/
theorem n_pl1 {f : FuncId} {a : Int} {x : AW Nm} {r : Value} (hx : x.val = some r) (h : ∀ v w, IsZ w v a → Calls Tryd.prog f #[v] w fun e w' => e = .returned r ∧ Below w.heap.size w w') : NCalls f [.num a] [.pl x] := fun w us hA => by
  obtain ⟨u, rfl, hu⟩ := all2_one hA
  refine (h u w hu).mono ?_
  rintro e w' ⟨rfl, h3⟩
  exact ⟨[r], .cons hx .nil, rfl, h3⟩
theorem n_pl2 {f : FuncId} {a b : Int} {x : AW Nm} {r : Value} (hx : x.val = some r) (h : ∀ va vb w, IsZ w va a → IsZ w vb b → Calls Tryd.prog f #[va, vb] w fun e w' => e = .returned r ∧ Below w.heap.size w w') : NCalls f [.num a, .num b] [.pl x] := fun w us hA => by
  obtain ⟨u, v, rfl, hu, hv⟩ := all2_two hA
  refine (h u v w hu hv).mono ?_
  rintro e w' ⟨rfl, h3⟩
  exact ⟨[r], .cons hx .nil, rfl, h3⟩
/-- Two plain results of numbers. -/
theorem n_tup2 {f : FuncId} {a b : Int} {x y : AW Nm} {r s : Value} (hx : x.val = some r) (hy : y.val = some s) (h : ∀ va vb w, IsZ w va a → IsZ w vb b → Calls Tryd.prog f #[va, vb] w fun e w' => e = .returned (.tuple #[r, s]) ∧ Below w.heap.size w w') : NCalls f [.num a, .num b] [.pl x, .pl y] := fun w us hA => by
  obtain ⟨u, v, rfl, hu, hv⟩ := all2_two hA
  refine (h u v w hu hv).mono ?_
  rintro e w' ⟨rfl, h3⟩
  exact ⟨[r, s], .cons hx (.cons hy .nil), rfl, h3⟩
theorem n_tup1 {f : FuncId} {a : Int} {x y : AW Nm} {r s : Value} (hx : x.val = some r) (hy : y.val = some s) (h : ∀ va w, IsZ w va a → Calls Tryd.prog f #[va] w fun e w' => e = .returned (.tuple #[r, s]) ∧ Below w.heap.size w w') : NCalls f [.num a] [.pl x, .pl y] := fun w us hA => by
  obtain ⟨u, rfl, hu⟩ := all2_one hA
  refine (h u w hu).mono ?_
  rintro e w' ⟨rfl, h3⟩
  exact ⟨[r, s], .cons hx (.cons hy .nil), rfl, h3⟩
theorem all2_pl {w : World} : ∀ {vs us : List Value}, All2 (Ar.R w) (vs.map Ar.pl) us → us = vs
  | [], us, h => by cases h; rfl
  | v :: vs, us, h => by
    cases h with
    | cons h hs => rw [show _ = v from h, all2_pl hs]
/-- A function of plain values to a number. -/
theorem n_of {f : FuncId} {vs : List Value} {z : Int} (h : ∀ w, Calls Tryd.prog f vs.toArray w fun e w' => ∃ u, e = .returned u ∧ IsZ w' u z ∧ Below w.heap.size w w') : NCalls f (vs.map Ar.pl) [.num z] := fun w us hA => by
  rw [all2_pl hA]
  refine (h w).mono ?_
  rintro e w' ⟨u, rfl, h2, h3⟩
  exact ⟨[u], .cons h2 .nil, rfl, h3⟩
/-- A number of not too many digits. -/
def szB (z : Int) : Bool := decide ((digs z.natAbs).length ≤ 1000)
theorem szB_iff {z : Int} : szB z = true ↔ (digs z.natAbs).length ≤ 1000 := by unfold szB; simp
end Go.Proofs.YtokkaeaciigapaaDoor

