/-
  Slices of integers and tables as foreign values of the evaluator, without the reference's numbers.
  Conditions: those of each theorem.
-/
import Derived.Test.YtocheeocnbfbiaaDoorEv2
import Derived.Test.YtocheeocnbfbiaaDoorNS
import Derived.Test.YtocheeocnbfbiaaDoorF7
import Derived.Test.YtocheeocnbfbiaaDoorTB
set_option linter.unusedVariables false
set_option linter.unusedSimpArgs false
namespace Go.Proofs.YtocheeocnbfbiaaDoor
open Go.RowKit Go.Shelf Ev Wd

/-- A foreign value: a slice of 64-bit integers; any value that no one looks at; a slice of structs of numbers (some k) and Booleans (none: 1 is true). -/
inductive Nm where
  | row (l : List Int)
  | any
  | tab (ks : List (Option IntKind)) (l : List (List Int))
def nmSafe (t : TypeId) : Bool := !(Nat.beq t 3)
/-- A slice of 64-bit integers, none of which lies where the facts may not lean. -/
def rowHv (D : Nat → Nat → Prop) (w : World) (v : Value) (l : List Int) : Prop :=
  ∃ (p : Option Addr) (cap : Nat), v = .slice p l.length cap ∧ l.length ≤ cap ∧ cap ≤ maxLen ∧ (p = none → l.length = 0) ∧
    ∀ a, p = some a → a = ⟨a.block, a.off, none⟩ ∧ ∀ j, j < l.length → ¬ D a.block (a.off + j) ∧ w.cell? ⟨a.block, a.off + j, none⟩ = some (.int .i64 (l.getD j 0))
theorem cell_keep {D : Nat → Nat → Prop} {w w' : World} {base : Nat} {safe : TypeId → Bool} (hk : ∀ k, k < w.heap.size → w'.heap[k]? = w.heap[k]? ∨ base ≤ k ∧ ∃ c c' ty fr, w.heap[k]? = some (.cells c ty fr) ∧ safe ty = true ∧ w'.heap[k]? = some (.cells c' ty fr) ∧ ∀ o, c'[o]? = c[o]? ∨ D k o)
    {k o : Nat} {u : Value} (h : w.cell? ⟨k, o, none⟩ = some u) (hd : ¬ D k o) : k < w.heap.size ∧ w'.cell? ⟨k, o, none⟩ = some u := by
  have hlt : k < w.heap.size := by
    rcases Nat.lt_or_ge k w.heap.size with q | q
    · exact q
    · simp [World.cell?, Array.getElem?_eq_none q] at h
  refine ⟨hlt, ?_⟩
  rcases hk k hlt with e | ⟨_, c, c', ty, fr, q1, _, q3, q4⟩
  · rw [← h]; exact World.cell?_of_block e
  · simp only [World.cell?, q1] at h
    simp only [World.cell?, q3]
    rcases q4 o with q | q
    · rw [q]; exact h
    · exact absurd q hd
theorem rowHv.keep {D D' : Nat → Nat → Prop} {w w' : World} {v : Value} {l : List Int} {base : Nat} {safe : TypeId → Bool} (h : rowHv D w v l) (hD : ∀ k o, k < w.heap.size → D' k o → D k o)
    (hk : ∀ k, k < w.heap.size → w'.heap[k]? = w.heap[k]? ∨ base ≤ k ∧ ∃ c c' ty fr, w.heap[k]? = some (.cells c ty fr) ∧ safe ty = true ∧ w'.heap[k]? = some (.cells c' ty fr) ∧ ∀ o, c'[o]? = c[o]? ∨ D k o) : rowHv D' w' v l := by
  obtain ⟨p, cap, h1, h2, h3, h4, h5⟩ := h
  refine ⟨p, cap, h1, h2, h3, h4, fun a ha => ⟨(h5 a ha).1, fun j hj => ?_⟩⟩
  obtain ⟨g1, g2⟩ := (h5 a ha).2 j hj
  obtain ⟨q1, q2⟩ := cell_keep hk g2 g1
  exact ⟨fun hd => g1 (hD _ _ q1 hd), q2⟩
theorem rowHv.sub {D : Nat → Nat → Prop} {w : World} {v : Value} {l : List Int} (h : rowHv D w v l) {a b : Int} (h0 : 0 ≤ a) (h1 : a ≤ b) (h2 : b ≤ lenI l) :
    ∃ p m cap, v = .slice p m cap ∧ lenI l = (m : Int) ∧ b ≤ (cap : Int) ∧ rowHv D w (.slice (if cap = a.toNat then p else p.map (·.add (a.toNat * 1))) (b.toNat - a.toNat) (cap - a.toNat)) ((l.take b.toNat).drop a.toNat) := by
  obtain ⟨p, cap, rfl, g2, g3, g4, g5⟩ := h
  unfold lenI at h2 ⊢
  have hl : ((l.take b.toNat).drop a.toNat).length = b.toNat - a.toNat := by simp only [List.length_drop, List.length_take]; omega
  refine ⟨p, l.length, cap, rfl, rfl, by omega, _, cap - a.toNat, by rw [hl], by rw [hl]; omega, by omega, fun hp => ?_, fun ad had => ?_⟩
  · rw [hl]
    split at hp
    · omega
    · cases p with
      | none => have := g4 rfl; omega
      | some q => cases hp
  · split at had
    · obtain ⟨e1, _⟩ := g5 ad had
      exact ⟨e1, fun j hj => by rw [hl] at hj; omega⟩
    · cases p with
      | none => cases had
      | some q =>
        obtain ⟨e1, e2⟩ := g5 q rfl
        rw [e1] at had
        simp only [Option.map_some, Nat.mul_one, Addr.add_lit, Option.some.injEq] at had
        subst had
        refine ⟨rfl, fun j hj => ?_⟩
        rw [hl] at hj
        obtain ⟨r1, r2⟩ := e2 (a.toNat + j) (by omega)
        simp only [← Nat.add_assoc] at r1 r2
        refine ⟨r1, r2.trans ?_⟩
        congr 2
        simp only [List.getD_eq_getElem?_getD, List.getElem?_drop, List.getElem?_take]
        rw [if_pos (by omega)]
def intsOf : List (AC Nm) → Option (List Int)
  | [] => some []
  | .int .i64 x :: r => match intsOf r with
    | some l => some (x :: l)
    | none => none
  | _ => none
theorem intsOf_get {hv : Nm → World → Value → Prop} {w : World} : ∀ {xs : List (AC Nm)} {is : List Int} {us : List Value}, intsOf xs = some is → All2 (fun x u => isCell u = true ∧ x.is hv w u) xs us → is.length = xs.length ∧ ∀ j, j < is.length → us[j]? = some (.int .i64 (is.getD j 0))
  | [], is, us, h, H => by cases h; exact ⟨rfl, fun j hj => by simp at hj⟩
  | x :: xs, is, us, h, H => by
    unfold intsOf at h
    split at h
    · cases ‹_ :: _ = []›
    · rename_i y r heq
      cases heq
      split at h
      · rename_i l hl
        cases h
        cases H with
        | cons r H =>
          obtain ⟨g1, g2⟩ := intsOf_get hl H
          refine ⟨by simp [g1], fun j hj => ?_⟩
          cases j with
          | zero =>
            have := r.2
            simp only [AC.is, AC.lv, Option.some.injEq] at this
            simp [← this]
          | succ j => simpa using g2 j (by simpa using hj)
      · cases h
    · cases h
def numI : Interp Nm where
  holds := fun _ _ _ => False
  base := 0
  safe := nmSafe
  slen := fun _ => none
  sget := fun _ _ => none
  mono := fun _ _ _ _ h => h.elim
  slen_ok := fun _ _ _ _ h => by cases h
  sget_ok := fun _ _ _ _ _ _ _ _ h => by cases h
  hv := fun f D w v => match f with | .row l => rowHv D w v l | .any => isCell v = true | .tab ks l => tabHv D w v ks l
  vlen := fun f => match f with | .row l => some (lenI l) | .tab _ l => some (lenT l) | _ => none
  vesz := fun f => match f with | .row _ => 1 | .tab ks _ => ks.length | _ => 0
  vget := fun f i o => match f, o with | .row l, 0 => some (.int .i64 (getI l i)) | .tab ks l, o => (match ks[o]? with | some kd => some (kdC kd (cel l i o)) | none => none) | _, _ => none
  vsub := fun f a b => match f with | .row l => some (.row ((l.take b.toNat).drop a.toNat)) | .tab ks l => some (.tab ks ((l.take b.toNat).drop a.toNat)) | _ => none
  vapp := fun f xs m => match f with
    | .row l => match intsOf xs with
      | some is => some (.row (l ++ is))
      | none => none
    | .tab ks l => match rowsOf ks m xs with
      | some rs => some (.tab ks (l ++ rs))
      | none => none
    | _ => none
  nil := fun _ => none
  hv_mono := fun f D D' w w' v h hD hk => by
    cases f with
    | row l => exact rowHv.keep h hD hk
    | any => exact h
    | tab ks l => exact tabHv.keep h hD hk
  hv_cell := fun f D w v h => by
    cases f with
    | row l => obtain ⟨p, cap, rfl, _⟩ := h; rfl
    | any => exact h
    | tab ks l => obtain ⟨p, cap, rfl, _⟩ := h; rfl
  vlen_ok := fun f n D w v hn h => by
    cases f with
    | any => cases hn
    | row l =>
      cases hn
      obtain ⟨p, cap, rfl, g2, g3, g4, g5⟩ := h
      exact ⟨p, l.length, cap, rfl, rfl, g4, fun a ha => (g5 a ha).1⟩
    | tab ks l =>
      cases hn
      obtain ⟨p, cap, rfl, g2, g3, g4, g5⟩ := h
      exact ⟨p, l.length, cap, rfl, rfl, g4, fun a ha => (g5 a ha).1⟩
  vget_ok := fun f n i o x D w b off m cap hn hx h0 h1 h => by
    cases f with
    | any => cases hn
    | row l =>
      cases hn
      cases o with
      | succ o => cases hx
      | zero =>
        cases hx
        obtain ⟨p, cap', e, g2, g3, g4, g5⟩ := h
        cases e
        unfold lenI at h1
        obtain ⟨_, e2⟩ := (g5 _ rfl).2 i.toNat (by omega)
        refine ⟨.int .i64 (getI l i), ?_, rfl, rfl⟩
        rw [Nat.mul_one]
        exact e2
    | tab ks l =>
      cases hn
      obtain ⟨p, cap', e, g2, g3, g4, g5⟩ := h
      cases e
      unfold lenT at h1
      simp only at hx
      split at hx
      · rename_i k hk
        cases hx
        exact ⟨_, ((g5 _ rfl).2 i.toNat (by omega) o _ hk).2, kdV_cell _ _, kdC_is _ _⟩
      · cases hx
  vsub_ok := fun f g n a b D w v hg hn h0 h1 h2 h => by
    cases f with
    | any => cases hn
    | row l => cases hn; cases hg; exact rowHv.sub h h0 h1 h2
    | tab ks l => cases hn; cases hg; exact tabHv.sub h h0 h1 h2
  vapp_ok := fun f g xs m n D w v k cap us hg hn h hv hx hu h1 h2 h3 h4 h5 h6 h7 => by
    cases f with
    | any => cases hn
    | row l =>
      simp only at hg
      split at hg
      · rename_i is his
        cases hg
        have hn : l.length = n := by simp only [lenI, Option.some.injEq] at hn; omega
        obtain ⟨g1, g2⟩ := intsOf_get his hu
        have hx : xs.length = m := by simpa using hx
        have hlen : (l ++ is).length = n + m := by rw [List.length_append]; omega
        refine ⟨some ⟨k, 0, none⟩, cap, by rw [hlen], by omega, h6, fun e => (by cases e), fun a ha => ?_⟩
        cases ha
        refine ⟨rfl, fun j hj => ?_⟩
        rw [hlen] at hj
        simp only [Nat.zero_add, Nat.mul_one] at h1 h2 h3 ⊢
        refine ⟨h3 j hj, ?_⟩
        rcases Nat.lt_or_ge j n with q | q
        · rcases hv with rfl | ⟨kv, c, rfl⟩
          · obtain ⟨p, cap', e, _⟩ := h
            simp only [Value.slice.injEq] at e
            omega
          · rw [h1 kv c rfl j q]
            obtain ⟨p, cap', e, e2, e3, e4, e5⟩ := h
            simp only [Value.slice.injEq] at e
            have := ((e5 _ e.1.symm).2 j (by omega)).2
            simp only [Nat.zero_add] at this
            rw [this]
            congr 2
            simp only [List.getD_eq_getElem?_getD]
            rw [List.getElem?_append_left (by omega)]
        · have := h2 (j - n) _ (g2 (j - n) (by omega))
          rw [show n + (j - n) = j by omega] at this
          rw [this]
          congr 2
          simp only [List.getD_eq_getElem?_getD]
          rw [List.getElem?_append_right (by omega), hn]
      · cases hg
    | tab ks l =>
      simp only at hg
      split at hg
      · rename_i rs hrs
        cases hg
        have hn : l.length = n := by simp only [lenT, Option.some.injEq] at hn; omega
        obtain ⟨g0, _, g2⟩ := rowsOf_get hrs hu
        have hlen : (l ++ rs).length = n + m := by rw [List.length_append]; omega
        refine ⟨some ⟨k, 0, none⟩, cap, by rw [hlen], by omega, h6, fun e => (by cases e), fun a ha => ?_⟩
        cases ha
        refine ⟨rfl, fun j hj o kd ho => ?_⟩
        rw [hlen] at hj
        have hol : o < ks.length := (List.getElem?_eq_some_iff.1 ho).1
        have hjo : j * ks.length + o < (n + m) * ks.length := by
          have : (j + 1) * ks.length ≤ (n + m) * ks.length := Nat.mul_le_mul_right _ (by omega)
          rw [Nat.add_mul] at this; omega
        simp only [Nat.zero_add] at h1 h2 h3 ⊢
        refine ⟨h3 _ hjo, ?_⟩
        rcases Nat.lt_or_ge j n with q | q
        · have hjn : j * ks.length + o < n * ks.length := by
            have : (j + 1) * ks.length ≤ n * ks.length := Nat.mul_le_mul_right _ (by omega)
            rw [Nat.add_mul] at this; omega
          rcases hv with rfl | ⟨kv, c, rfl⟩
          · obtain ⟨p, cap', e, _⟩ := h
            simp only [Value.slice.injEq] at e
            omega
          · rw [h1 kv c rfl _ hjn]
            obtain ⟨p, cap', e, e2, e3, e4, e5⟩ := h
            simp only [Value.slice.injEq] at e
            have := ((e5 _ e.1.symm).2 j (by omega) o kd ho).2
            simp only [Nat.zero_add] at this
            rw [this]
            congr 3
            simp only [List.getD_eq_getElem?_getD]
            rw [List.getElem?_append_left (by omega)]
        · have := h2 ((j - n) * ks.length + o) _ (g2 (j - n) (by omega) o kd ho)
          rw [show n * ks.length + ((j - n) * ks.length + o) = j * ks.length + o by rw [← Nat.add_assoc, ← Nat.add_mul, show n + (j - n) = j by omega]] at this
          rw [this]
          congr 3
          simp only [List.getD_eq_getElem?_getD]
          rw [List.getElem?_append_right (by omega), hn]
      · cases hg
  nil_ok := fun _ _ _ _ h => by cases h
theorem nil_row (D : Nat → Nat → Prop) (w : World) : numI.hv (.row []) D w (.slice none 0 0) := ⟨none, 0, rfl, Nat.le_refl _, by unfold maxLen; omega, fun _ => rfl, fun a ha => by cases ha⟩
structure Frq where
  n : Int
  d : Int
abbrev frA {F : Type} (n d : Int) : AW F := .agg [.int .i64 n, .int .i64 d]
def dFr {F : Type} : Dec F Frq where
  dec := fun x => match x with
    | .w (.agg [.int .i64 a, .int .i64 b]) => some ⟨a, b⟩
    | _ => none
  enc := fun x => fr x.n x.d
  ok := fun x a h => by
    split at h
    · cases h; rfl
    · cases h
def okI2 (x y : Int) : List (Bool × Bool) := [(i64B x, true), (i64B y, true)]
abbrev r2 (a b e : Int) : AV Nm := .tup [frA a b, .one (.int .i64 e)]
theorem okI2_i {x y : Int} (h : ∀ p ∈ okI2 x y, p.1 = p.2) : (-9223372036854775808 ≤ x ∧ x ≤ 9223372036854775807) ∧ (-9223372036854775808 ≤ y ∧ y ≤ 9223372036854775807) := ⟨i64B_iff.1 (h (i64B x, true) (by simp [okI2])), i64B_iff.1 (h (i64B y, true) (by simp [okI2]))⟩
abbrev eqsF : TypeId → Bool := fun t => Nat.beq t 23
theorem eqsF_ok : EqOk Tryd.prog (tabOf Tryd.prog) eqsF := eq_of fun t ht => by
  have := Nat.eq_of_beq_eq_true ht
  subst this
  exact ⟨by kernel_rfl, by kernel_rfl, by kernel_rfl⟩
theorem eq_self_b (x : Bool) : (x == x) = true := beq_self_eq_true x
def gT (n : Int) : Nat → Int
  | 0 => n
  | d + 1 => gT ((d + 1 : Nat) : Int) (n % ((d + 1 : Nat) : Int)).toNat
termination_by d => d
decreasing_by
  have h1 := Int.emod_nonneg n (b := ((d + 1 : Nat) : Int)) (by omega)
  have h2 := Int.emod_lt_of_pos n (b := ((d + 1 : Nat) : Int)) (by omega)
  omega
theorem gT_zero (n : Int) : gT n 0 = n := by rw [gT]
theorem gT_pos (n : Int) {d : Nat} (h : 0 < d) : gT n d = gT d (n % (d : Int)).toNat := by
  cases d with
  | zero => omega
  | succ d => rw [gT]
theorem abs_div {n d : Int} (h1 : -1152921504606846976 ≤ n) (h2 : n ≤ 1152921504606846976) (h3 : 0 < d) : -1152921504606846976 ≤ n / d ∧ n / d ≤ 1152921504606846976 := by
  constructor
  · exact (Int.le_ediv_iff_mul_le h3).2 (by
      have : (-1152921504606846976 : Int) * d ≤ -1152921504606846976 * 1 := Int.mul_le_mul_of_nonpos_left (by omega) (by omega)
      omega)
  · exact Int.ediv_le_of_le_mul h3 (by
      have : (1152921504606846976 : Int) * 1 ≤ 1152921504606846976 * d := Int.mul_le_mul_of_nonneg_left (by omega) (by omega)
      omega)
end Go.Proofs.YtocheeocnbfbiaaDoor

