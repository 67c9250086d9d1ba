/-
  Slices of pairs of integers (tables of leap seconds) as foreign values of the evaluator; a callee whose last argument is such a slice, foreign or local.
  Conditions: those of each theorem.
-/
import Derived.Test.YtokkaeaciigapaaDoorProg
import Derived.Test.YtokkaeaciigapaaDoorEv2
set_option linter.unusedVariables false
set_option linter.unusedSimpArgs false
namespace Go.Proofs.YtokkaeaciigapaaDoor
open Go.RowKit Ev
variable {F : Type}

/-! ### A last argument that is a fact or a local block -/
theorem all2_snoc {α β : Type} {R : α → β → Prop} {x : α} : ∀ {l : List α} {us : List β}, All2 R (l ++ [x]) us → ∃ us' u, us = us' ++ [u] ∧ All2 R l us' ∧ R x u
  | [], us, h => by
    cases h with
    | cons r h => cases h; exact ⟨[], _, rfl, .nil, r⟩
  | a :: l, us, h => by
    cases h with
    | cons r h =>
      obtain ⟨us', u, rfl, h1, h2⟩ := all2_snoc h
      exact ⟨_ :: us', u, rfl, .cons r h1, h2⟩
theorem all2_snoc_mk {α β : Type} {R : α → β → Prop} {x : α} {u : β} (hx : R x u) : ∀ {l : List α} {us : List β}, All2 R l us → All2 R (l ++ [x]) (us ++ [u])
  | [], us, h => by cases h; exact .cons hx .nil
  | a :: l, us, h => by
    cases h with
    | cons r h => exact .cons r (all2_snoc_mk hx h)
/-- A callee whose last argument is a slice: a fact as it comes, a local block by the fact that holds of it. -/
def bothSp (mk : Blk F → Nat → Nat → Option F) (g : List (AV F) → Option (AV F × List (Bool × Bool))) : FnSp F where
  blocks := fun args => match args.getLast? with
    | some (.w (.one (.slc b 0 _ _))) => [b]
    | _ => []
  run := fun _ args bs => match bs with
    | [blk] => match args.getLast? with
      | some (.w (.one (.slc _ 0 n c))) => match mk blk n c with
        | some f => match g (args.dropLast ++ [.w (.one (.fv f))]) with
          | some (v, cd) => bif v.val.isSome then some ⟨v, [], cd⟩ else none
          | none => none
        | none => none
      | _ => none
    | _ => match g args with
      | some (v, cd) => some ⟨v, [], cd⟩
      | none => none
theorem bothSp_ok {P : Program} {I : Interp F} {c : Ctx F} (hC : CtxOk P I c) (hmix : P.follows .mixedOrders = true) {f : FuncId} {fn : Func} (hf : P.funcs[f]? = some fn) (hb : fn.body.isSome = true) (hL : LpsOk P I c.lps fn.ntmps (bodyOf fn))
    {mk : Blk F → Nat → Nat → Option F} {g : List (AV F) → Option (AV F × List (Bool × Bool))}
    (hmk : ∀ blk n cap x, mk blk n cap = some x → ∀ (E : Env F) (w : World) (k : Nat) (D : Nat → Nat → Prop) (vs : List Value), w.heap[k]? = some (.cells vs.toArray blk.ty (0, 0)) → All2 (AC.R E) blk.cs vs → (∀ o, ¬ D k o) → I.hv x D w (.slice (some ⟨k, 0, none⟩) n cap))
    (h : ∀ args v cd, g args = some (v, cd) → (∀ p ∈ cd, p.1 = p.2) → args.all AV.flat = true ∧ v.flat = true ∧ Nat.ble args.length fn.ntmps = true ∧
      ∃ path x cd', evR c fn args path = some (x, cd') ∧ (∀ E u, x.untip.R E u → v.R E u) ∧ ∀ p ∈ cd', p.1 = p.2) : (bothSp mk g).ok P I f := by
  intro E hp w slot args us bs out dt hrun ha hbl hm hfr hc
  simp only [bothSp] at hrun hbl
  split at hrun
  · rename_i blk
    split at hrun
    · rename_i b n cap hlast
      rw [hlast] at hbl
      simp only at hbl
      split at hrun
      · rename_i x hx
        split at hrun
        · rename_i v cd hg
          cases hv : v.val with
          | none => rw [hv] at hrun; cases hrun
          | some u0 =>
          rw [hv] at hrun
          simp only [Option.isSome_some, cond_true] at hrun
          cases hrun
          have hlk : Ev.look b hp = some blk := by
            simp only [looks] at hbl
            split at hbl
            · rename_i y hy
              cases hbl; exact hy
            · cases hbl
          have hargs : args = args.dropLast ++ [.w (.one (.slc b 0 n cap))] := by
            have hne : args ≠ [] := fun e => by rw [e] at hlast; cases hlast
            have := List.dropLast_concat_getLast hne
            rw [List.getLast?_eq_some_getLast hne] at hlast
            rw [Option.some.inj hlast] at this
            exact this.symm
          rw [hargs] at ha
          obtain ⟨us', u, rfl, ha1, k, hk, rfl⟩ := all2_snoc ha
          obtain ⟨k', vs, hk', hcell, hcs⟩ := hm.hp b blk hlk (hm.plain hlk hk)
          rw [hk] at hk'; cases hk'
          obtain ⟨h1, h2, h3, path, y, cd', h4, h5, h6⟩ := h _ v cd hg hc
          generalize hE1 : (Env.facts (fun (q : F) v => E.h q v ∨ (q = x ∧ v = .slice (some ⟨k, 0, none⟩) n cap)) : Env F) = E1 at *
          have hm0 : Mem I ⟨w, E1.ran, fun i o => Dt ⟨w, E.ran, dt⟩ E hp i o ∧ i ≠ k⟩ E1 [] w := by
            subst hE1
            refine ⟨fun b blk h => by simp [Ev.look] at h, fun b blk n sz h => by simp [Ev.look] at h, fun _ _ _ _ => rfl, fun b b' k h => (own_facts h).elim, fun b k h => (own_facts h).elim, fun k j f arr h => by (cases h), ⟨rfl, rfl, rfl, Nat.le_refl _, fun _ _ _ => rfl⟩, fun b k h => (own_facts h).elim, fun b k h => (own_facts h).elim, hm.bsz,
              fun q v hq => ?_, fun _ _ _ _ _ h => by cases h⟩
            have small : ∀ i o, Dt ⟨w, (Env.facts (fun (q : F) v => E.h q v ∨ (q = x ∧ v = .slice (some ⟨k, 0, none⟩) n cap)) : Env F).ran, fun i o => Dt ⟨w, E.ran, dt⟩ E hp i o ∧ i ≠ k⟩ (Env.facts (fun (q : F) v => E.h q v ∨ (q = x ∧ v = .slice (some ⟨k, 0, none⟩) n cap)) : Env F) [] i o → Dt ⟨w, E.ran, dt⟩ E hp i o ∧ i ≠ k := fun i o hd => by
              rcases hd with hd | ⟨_, hd⟩ | ⟨_, _, _, _, _, hd, _⟩
              · exact hd.1
              · cases hd
              · simp [Ev.look] at hd
            rcases hq with hq | ⟨rfl, rfl⟩
            · exact I.hv_mono q _ _ w w v (hm.fv q v hq) (fun i o _ hd => (small i o hd).1) (fun _ _ => .inl rfl)
            · exact hmk blk n cap _ hx E w k _ vs hcell hcs (fun o hd => (small k o hd).2 rfl)
          have hA : All2 (AV.R E1) (args.dropLast ++ [.w (.one (.fv x))]) (us' ++ [.slice (some ⟨k, 0, none⟩) n cap]) := by
            have hd : (args.dropLast).all AV.flat = true := by
              rw [List.all_append, Bool.and_eq_true] at h1
              exact h1.1
            refine all2_snoc_mk ?_ (all2_all (R := AV.R E) (S := AV.R E1) (p := AV.flat) (fun _ _ hfl r => AV.flat_R (E := E) (E' := E1) (fun _ _ h => ?_) hfl r) hd ha1)
            · subst hE1; exact Or.inr ⟨rfl, rfl⟩
            · subst hE1; exact Or.inl h
          have hb' : fn.body = some (bodyOf fn) := by
            unfold bodyOf
            cases hfb : fn.body with
            | none => rw [hfb] at hb; cases hb
            | some c => rfl
          unfold evR at h4
          split at h4
          · rename_i r hr
            split at h4
            · cases h4
              refine (evF_calls hC hmix hf hb' hL hr h6 (Nat.le_of_ble_eq_true h3) hA hm0 (fun _ _ => by subst hE1; exact ⟨rfl, fun _ => rfl, fun _ => rfl⟩)).mono ?_
              rintro e w' ⟨E', u1, _, rfl, q2, q3⟩
              have hbel : Below w.heap.size w w' := ⟨q3.kept.os, q3.kept.tape, q3.kept.output, q3.kept.size, fun i hi => q3.kept.block i hi fun ⟨b, hb⟩ => by subst hE1; exact own_facts hb⟩
              have : u1 = u0 := AV.val_R hv (h5 _ _ (AV.untip_R q2))
              subst this
              exact ⟨E, u1, But.refl slot E, rfl, AV.R_val hv, hm.below hbel⟩
            · cases h4
          · cases h4
        · cases hrun
      · cases hrun
    · cases hrun
  · refine factR_ok hC hmix hf hb hL h E hp w slot args us [] out dt ?_ ha rfl hm hfr hc
    exact hrun

/-! ### Slices of pairs -/
inductive Lp where
  | row (l : List (Int × Int))
def lenP (l : List (Int × Int)) : Int := l.length
def fstP (l : List (Int × Int)) (i : Int) : Int := (l.getD i.toNat (0, 0)).1
def sndP (l : List (Int × Int)) (i : Int) : Int := (l.getD i.toNat (0, 0)).2
def prHv (D : Nat → Nat → Prop) (w : World) (v : Value) (l : List (Int × Int)) : Prop :=
  ∃ (p : Option Addr) (cap : Nat), v = .slice p l.length cap ∧ l.length ≤ cap ∧ cap ≤ maxLen ∧ (p = none → l.length = 0) ∧
    ∀ a, p = some a → a = ⟨a.block, a.off, none⟩ ∧ ∀ j, j < l.length → (¬ D a.block (a.off + (j * 2 + 0)) ∧ w.cell? ⟨a.block, a.off + (j * 2 + 0), none⟩ = some (.int .i64 (l.getD j (0, 0)).1)) ∧
      (¬ D a.block (a.off + (j * 2 + 1)) ∧ w.cell? ⟨a.block, a.off + (j * 2 + 1), none⟩ = some (.int .i64 (l.getD j (0, 0)).2))
theorem cellKeep {D : Nat → Nat → Prop} {w w' : World} {base : Nat} {safe : TypeId → Bool} (hk : ∀ k, k < w.heap.size → w'.heap[k]? = w.heap[k]? ∨ base ≤ k ∧ ∃ c c' ty fr, w.heap[k]? = some (.cells c ty fr) ∧ safe ty = true ∧ w'.heap[k]? = some (.cells c' ty fr) ∧ ∀ o, c'[o]? = c[o]? ∨ D k o)
    {k o : Nat} {u : Value} (h : w.cell? ⟨k, o, none⟩ = some u) (hd : ¬ D k o) : k < w.heap.size ∧ w'.cell? ⟨k, o, none⟩ = some u := by
  have hlt : k < w.heap.size := by
    rcases Nat.lt_or_ge k w.heap.size with q | q
    · exact q
    · simp [World.cell?, Array.getElem?_eq_none q] at h
  refine ⟨hlt, ?_⟩
  rcases hk k hlt with e | ⟨_, c, c', ty, fr, q1, _, q3, q4⟩
  · rw [← h]; exact World.cell?_of_block e
  · simp only [World.cell?, q1] at h
    simp only [World.cell?, q3]
    rcases q4 o with q | q
    · rw [q]; exact h
    · exact absurd q hd
theorem prHv.keep {D D' : Nat → Nat → Prop} {w w' : World} {v : Value} {l : List (Int × Int)} {base : Nat} {safe : TypeId → Bool} (h : prHv D w v l) (hD : ∀ k o, k < w.heap.size → D' k o → D k o)
    (hk : ∀ k, k < w.heap.size → w'.heap[k]? = w.heap[k]? ∨ base ≤ k ∧ ∃ c c' ty fr, w.heap[k]? = some (.cells c ty fr) ∧ safe ty = true ∧ w'.heap[k]? = some (.cells c' ty fr) ∧ ∀ o, c'[o]? = c[o]? ∨ D k o) : prHv D' w' v l := by
  obtain ⟨p, cap, h1, h2, h3, h4, h5⟩ := h
  refine ⟨p, cap, h1, h2, h3, h4, fun a ha => ⟨(h5 a ha).1, fun j hj => ?_⟩⟩
  obtain ⟨⟨g1, g2⟩, g3, g4⟩ := (h5 a ha).2 j hj
  obtain ⟨q1, q2⟩ := cellKeep hk g2 g1
  obtain ⟨q3, q4⟩ := cellKeep hk g4 g3
  exact ⟨⟨fun hd => g1 (hD _ _ q1 hd), q2⟩, fun hd => g3 (hD _ _ q3 hd), q4⟩
def lpI : Interp Lp where
  holds := fun _ _ _ => False
  base := 0
  safe := fun _ => true
  slen := fun _ => none
  sget := fun _ _ => none
  mono := fun _ _ _ _ h => h.elim
  slen_ok := fun _ _ _ _ h => by cases h
  sget_ok := fun _ _ _ _ _ _ _ _ h => by cases h
  hv := fun f D w v => match f with | .row l => prHv D w v l
  vlen := fun f => match f with | .row l => some (lenP l)
  vesz := fun f => match f with | .row _ => 2
  vget := fun f i o => match f, o with | .row l, 0 => some (.int .i64 (fstP l i)) | .row l, 1 => some (.int .i64 (sndP l i)) | _, _ => none
  vsub := fun _ _ _ => none
  vapp := fun _ _ _ => none
  nil := fun _ => none
  hv_mono := fun f D D' w w' v h hD hk => by cases f with | row l => exact prHv.keep h hD hk
  hv_cell := fun f D w v h => by cases f with | row l => obtain ⟨p, cap, rfl, _⟩ := h; rfl
  vlen_ok := fun f n D w v hn h => by
    cases f with
    | row l =>
      cases hn
      obtain ⟨p, cap, rfl, g2, g3, g4, g5⟩ := h
      exact ⟨p, l.length, cap, rfl, rfl, g4, fun a ha => (g5 a ha).1⟩
  vget_ok := fun f n i o x D w b off m cap hn hx h0 h1 h => by
    cases f with
    | row l =>
      cases hn
      obtain ⟨p, cap', e, g2, g3, g4, g5⟩ := h
      cases e
      unfold lenP at h1
      obtain ⟨⟨_, e1⟩, _, e2⟩ := (g5 _ rfl).2 i.toNat (by omega)
      match o with
      | 0 => cases hx; exact ⟨_, e1, rfl, rfl⟩
      | 1 => cases hx; exact ⟨_, e2, rfl, rfl⟩
      | o + 2 => cases hx
  vsub_ok := fun _ _ _ _ _ _ _ _ h => by cases h
  vapp_ok := fun _ _ _ _ _ _ _ _ _ _ _ h => by cases h
  nil_ok := fun _ _ _ _ h => by cases h
def prsOf : List (AC Lp) → Option (List (Int × Int))
  | [] => some []
  | .int .i64 x :: .int .i64 y :: r => match prsOf r with
    | some l => some ((x, y) :: l)
    | none => none
  | _ => none
theorem prsOf_get {E : Env Lp} : ∀ {cs : List (AC Lp)} {l : List (Int × Int)} {vs : List Value}, prsOf cs = some l → All2 (AC.R E) cs vs → ∀ j, j < l.length → vs[j * 2 + 0]? = some (.int .i64 (l.getD j (0, 0)).1) ∧ vs[j * 2 + 1]? = some (.int .i64 (l.getD j (0, 0)).2)
  | [], l, vs, h, H, j, hj => by cases h; simp at hj
  | [x], l, vs, h, H, j, hj => by unfold prsOf at h; split at h <;> simp_all
  | x :: y :: r, l, vs, h, H, j, hj => by
    unfold prsOf at h
    split at h
    · cases ‹_ :: _ = []›
    · rename_i a b r' heq
      cases heq
      split at h
      · rename_i l' hl
        cases h
        cases H with
        | cons r1 H =>
          cases H with
          | cons r2 H =>
            have ih := prsOf_get hl H
            cases j with
            | zero =>
              have r1 : _ = Value.int .i64 a := r1
              have r2 : _ = Value.int .i64 b := r2
              simp [r1, r2]
            | succ j =>
              have := ih j (by simpa using hj)
              rw [show (j + 1) * 2 + 0 = j * 2 + 0 + 1 + 1 by omega, show (j + 1) * 2 + 1 = j * 2 + 1 + 1 + 1 by omega]
              simpa using this
      · cases h
    · cases h
/-- The fact that holds of a local slice. -/
def mkLp (blk : Blk Lp) (n cap : Nat) : Option Lp := match prsOf blk.cs with
  | some l => bif Nat.beq l.length n && Nat.ble n cap && Nat.ble cap 1000 then some (.row l) else none
  | none => none
theorem mkLp_ok (blk : Blk Lp) (n cap : Nat) (x : Lp) (hx : mkLp blk n cap = some x) (E : Env Lp) (w : World) (k : Nat) (D : Nat → Nat → Prop) (vs : List Value) (hc : w.heap[k]? = some (.cells vs.toArray blk.ty (0, 0))) (hv : All2 (AC.R E) blk.cs vs) (hD : ∀ o, ¬ D k o) : lpI.hv x D w (.slice (some ⟨k, 0, none⟩) n cap) := by
  unfold mkLp at hx
  split at hx
  · rename_i l hl
    cases hok : Nat.beq l.length n && Nat.ble n cap && Nat.ble cap 1000 with
    | false => rw [hok] at hx; cases hx
    | true =>
      rw [hok] at hx
      cases hx
      simp only [Bool.and_eq_true] at hok
      obtain ⟨⟨h1, h2⟩, h3⟩ := hok
      have h1 := Nat.eq_of_beq_eq_true h1
      have h2 := Nat.le_of_ble_eq_true h2
      have h3 := Nat.le_of_ble_eq_true h3
      subst h1
      refine ⟨some ⟨k, 0, none⟩, cap, rfl, h2, by unfold maxLen; omega, (fun h => by cases h), fun a ha => ?_⟩
      cases ha
      refine ⟨rfl, fun j hj => ?_⟩
      obtain ⟨g1, g2⟩ := prsOf_get hl hv j hj
      refine ⟨⟨hD _, ?_⟩, hD _, ?_⟩
      · simp only [World.cell?, hc, Nat.zero_add]
        simpa using g1
      · simp only [World.cell?, hc, Nat.zero_add]
        simpa using g2
  · cases hx
end Go.Proofs.YtokkaeaciigapaaDoor

