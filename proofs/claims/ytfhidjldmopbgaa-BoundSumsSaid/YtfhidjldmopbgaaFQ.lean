/-
  Package bound: Votes as a function of tables; Votes and Fuse as callees, among whatever foreign values.
  Conditions: those of each theorem.
-/
import Derived.Test.YtfhidjldmopbgaaFS
namespace Go.Proofs.Ytfhidjldmopbgaa
open Go.RowKit Go.Shelf Ev
set_option linter.unusedVariables false
set_option linter.unusedSimpArgs false
namespace Fs

def votesN (l : List (List Int)) (v : Int) : Int := ((knsOf l).filter fun b => hasB b v).length
variable {F : Type}
/-- A callee whose first argument is a slice of bounds: a fact, nil, or a local slice; it returns a plain value. -/
def tabSp (conv : F → Option (List (List Int))) (ks : List (Option IntKind)) (g : List (List Int) → List (AV F) → Option (AV F × List (Bool × Bool))) : FnSp F where
  blocks := fun args => match args with
    | .w (.one (.slc b _ _ _)) :: _ => [b]
    | _ => []
  run := fun _ args bs => match args, bs with
    | .w (.one (.fv f)) :: r, [] => match conv f with
      | some l => match g l r with
        | some (v, cd) => some ⟨v, [], cd⟩
        | none => none
      | none => none
    | .w (.one (.lit (.slice none 0 0))) :: r, [] => match g [] r with
      | some (v, cd) => some ⟨v, [], cd⟩
      | none => none
    | .w (.one (.slc _ o n c)) :: r, [blk] => match rowsOf ks n ((blk.cs.drop o).take (n * ks.length)) with
      | some l => match g l r with
        | some (v, cd) => bif Nat.ble n c && Nat.ble c maxLen then some ⟨v, [], cd⟩ else none
        | none => none
      | none => none
    | _, _ => none
theorem rows_hv {E : Env F} {w : World} {k : Nat} {cs : List (AC F)} {vs : List Value} {ty : TypeId} {ks : List (Option IntKind)} {o n c : Nat} {l : List (List Int)} (hr : rowsOf ks n ((cs.drop o).take (n * ks.length)) = some l)
    (hw : w.heap[k]? = some (.cells vs.toArray ty (0, 0))) (hv : All2 (AC.R E) cs vs) (hE : ∀ f v, E.h f v → isCell v = true) (hn : n ≤ c) (hc : c ≤ maxLen) : tabHv (fun _ _ => False) w (.slice (some ⟨k, o, none⟩) n c) ks l := by
  have hpl : ∀ {ks : List (Option IntKind)} {xs rest : List (AC F)} {r : List Int}, rowOf ks xs = some (r, rest) → xs.length = ks.length + rest.length := by
    intro ks
    induction ks with
    | nil => intro xs rest r h; cases h; simp
    | cons k ks ih =>
      intro xs rest r h
      cases k with
      | some k =>
        unfold rowOf at h
        split at h
        · cases ‹_ :: _ = []›
        · rename_i e
          cases e
          split at h
          · split at h
            · rename_i h0
              cases h
              have := ih h0
              simp only [List.length_cons]; omega
            · cases h
          · cases h
        · cases ‹_ = (none : Option IntKind) :: _›
        · cases ‹_ = (none : Option IntKind) :: _›
        · cases h
      | none =>
        unfold rowOf at h
        split at h
        · cases ‹_ :: _ = []›
        · cases ‹(none : Option IntKind) :: _ = _›
        · rename_i e
          cases e
          split at h
          · rename_i h0
            cases h
            have := ih h0
            simp only [List.length_cons]; omega
          · cases h
        · rename_i e
          cases e
          split at h
          · rename_i h0
            cases h
            have := ih h0
            simp only [List.length_cons]; omega
          · cases h
        · cases h
  have hlenX : ∀ {n : Nat} {xs : List (AC F)} {l : List (List Int)}, rowsOf ks n xs = some l → xs.length = n * ks.length ∧ l.length = n := by
    intro n
    induction n with
    | zero =>
      intro xs l h
      cases xs with
      | nil => cases h; simp
      | cons _ _ => cases h
    | succ n ih =>
      intro xs l h
      simp only [rowsOf] at h
      split at h
      · rename_i h0
        split at h
        · rename_i h1
          cases h
          have q1 := hpl h0
          obtain ⟨q2, q3⟩ := ih h1
          refine ⟨by rw [q1, q2, Nat.add_mul]; omega, by simp [q3]⟩
        · cases h
      · cases h
  -- what stands in the cells
  have hcell : ∀ {n : Nat} {xs : List (AC F)} {us : List Value} {l : List (List Int)}, rowsOf ks n xs = some l → All2 (AC.R E) xs us → ∀ j, j < n → ∀ p k, ks[p]? = some k → us[j * ks.length + p]? = some (kdV k ((l.getD j []).getD p 0)) := by
    have hrow : ∀ {ks : List (Option IntKind)} {xs rest : List (AC F)} {r : List Int} {us : List Value}, rowOf ks xs = some (r, rest) → All2 (AC.R E) xs us → All2 (AC.R E) rest (us.drop ks.length) ∧ ∀ p k, ks[p]? = some k → us[p]? = some (kdV k (r.getD p 0)) := by
      intro ks
      induction ks with
      | nil => intro xs rest r us h H; cases h; exact ⟨by simpa using H, fun p k h => by simp at h⟩
      | cons k0 ks ih =>
        intro xs rest r us h H
        have fin : ∀ {x : AC F} {xs' rest' : List (AC F)} {r' : List Int} {z : Int}, rowOf ks xs' = some (r', rest') → All2 (AC.R E) (x :: xs') us → (∀ u, x.R E u → u = kdV k0 z) → All2 (AC.R E) rest' (us.drop (k0 :: ks).length) ∧ ∀ p k, (k0 :: ks)[p]? = some k → us[p]? = some (kdV k ((z :: r').getD p 0)) := by
          intro x xs' rest' r' z h0 H1 hx
          cases H1 with
          | cons q H2 =>
            obtain ⟨g1, g2⟩ := ih h0 H2
            refine ⟨by simpa using g1, fun p k hp => ?_⟩
            cases p with
            | zero =>
              simp only [List.getElem?_cons_zero, Option.some.injEq] at hp
              subst hp
              simp [hx _ q]
            | succ p => simpa using g2 p k (by simpa using hp)
        cases k0 with
        | some k =>
          unfold rowOf at h
          split at h
          · cases ‹_ :: _ = []›
          · rename_i e
            cases e
            split at h
            · rename_i hk
              split at h
              · rename_i h0
                cases h
                obtain rfl := of_decide_eq_true hk
                exact fin h0 H fun u hu => hu
              · cases h
            · cases h
          · cases ‹_ = (none : Option IntKind) :: _›
          · cases ‹_ = (none : Option IntKind) :: _›
          · cases h
        | none =>
          unfold rowOf at h
          split at h
          · cases ‹_ :: _ = []›
          · cases ‹(none : Option IntKind) :: _ = _›
          · rename_i b _ e
            cases e
            split at h
            · rename_i h0
              cases h
              exact fin h0 H fun u hu => by rw [show u = .bool b from hu]; simp only [kdV, bool_10]
            · cases h
          · rename_i b _ e
            cases e
            split at h
            · rename_i h0
              cases h
              exact fin h0 H fun u hu => by rw [show u = .bool b from hu]; simp only [kdV, bool_10]
            · cases h
          · cases h
    intro n
    induction n with
    | zero => intro xs us l _ _ j hj; omega
    | succ n ih =>
      intro xs us l h H j hj p k hp
      simp only [rowsOf] at h
      split at h
      · rename_i h0
        split at h
        · rename_i h1
          cases h
          obtain ⟨g1, g2⟩ := hrow h0 H
          cases j with
          | zero => simpa using g2 p k hp
          | succ j =>
            have := ih h1 g1 j (by omega) p k hp
            rw [List.getElem?_drop] at this
            rw [show (j + 1) * ks.length + p = ks.length + (j * ks.length + p) by rw [Nat.add_mul]; omega, this]
            simp
        · cases h
      · cases h
  obtain ⟨hl1, hl2⟩ := hlenX hr
  have hsub := hv.take_drop o (n * ks.length)
  refine ⟨some ⟨k, o, none⟩, c, by rw [hl2], by omega, hc, (fun h => by cases h), fun a ha => ?_⟩
  cases ha
  refine ⟨rfl, fun j hj p kd hp => ⟨fun h => h, ?_⟩⟩
  have := hcell hr hsub j (by omega) p kd hp
  rw [List.getElem?_take] at this
  split at this
  · rw [List.getElem?_drop] at this
    rw [cell_heap hw]; exact this
  · cases this
theorem tabSp_ok {P : Program} {I : Interp F} {f : FuncId} {conv : F → Option (List (List Int))} {ks : List (Option IntKind)} {g : List (List Int) → List (AV F) → Option (AV F × List (Bool × Bool))}
    (hconv : ∀ q l, conv q = some l → ∀ D w v, I.hv q D w v → tabHv (fun _ _ => False) w v ks l)
    (h : ∀ l r v cd, g l r = some (v, cd) → (∀ p ∈ cd, p.1 = p.2) → ∀ (w : World) (s : Value), tabHv (fun _ _ => False) w s ks l → ∀ (E : Env F) (us : List Value), All2 (AV.R E) r us → ∃ u, v.val = some u ∧ Calls P f (s :: us).toArray w fun e w' => e = .returned u ∧ Below w.heap.size w w') : (tabSp conv ks g).ok P I f := by
  intro E hp w slot args us bs out dt hrun ha hbl hm hfr hc
  have key : ∀ {l : List (List Int)} {r : List (AV F)} {v : AV F} {cd : List (Bool × Bool)} {s : Value} {us' : List Value}, g l r = some (v, cd) → out = ⟨v, [], cd⟩ → us = s :: us' → All2 (AV.R E) r us' → tabHv (fun _ _ => False) w s ks l →
      Calls P f us.toArray w fun e w' => ∃ E' u, But slot E E' ∧ e = .returned u ∧ out.val.R E' u ∧ Mem I ⟨w, E.ran, dt⟩ E' (out.wr ++ hp) w' := by
    intro l r v cd s us' hg ho hu hr ht
    subst ho hu
    obtain ⟨u, hv, hcall⟩ := h l r v cd hg hc w s ht E us' hr
    refine hcall.mono ?_
    rintro e w' ⟨rfl, hB⟩
    exact ⟨E, u, But.refl _ _, rfl, AV.R_val hv, hm.below hB⟩
  simp only [tabSp] at hrun hbl
  split at hrun
  · rename_i q r
    split at hrun
    · rename_i l hl
      split at hrun
      · rename_i v cd hg
        cases hrun
        cases ha with | cons h0 ha => ?_
        exact key hg rfl rfl ha (hconv _ _ hl _ _ _ (hm.fv _ _ h0))
      · cases hrun
    · cases hrun
  · rename_i r
    split at hrun
    · rename_i v cd hg
      cases hrun
      cases ha with | cons h0 ha => ?_
      cases (h0 : _ = _)
      exact key hg rfl rfl ha (nil_tab _ _ _)
    · cases hrun
  · rename_i b o n c r blk
    split at hrun
    · rename_i l hl
      split at hrun
      · rename_i v cd hg
        generalize hz : (Nat.ble n c && Nat.ble c maxLen) = z at hrun
        cases z with
        | false => cases hrun
        | true =>
          cases hrun
          simp only [Bool.and_eq_true] at hz
          cases ha with | cons h0 ha => ?_
          obtain ⟨k, hk, rfl⟩ := h0
          have hlk := looks_one hbl
          obtain ⟨k', vs, hk', hcell, hcs⟩ := hm.hp b blk hlk (hm.plain hlk hk)
          rw [hk] at hk'; cases hk'
          exact key hg rfl rfl ha (rows_hv hl hcell hcs hm.cells.h (Nat.le_of_ble_eq_true hz.1) (Nat.le_of_ble_eq_true hz.2))
      · cases hrun
    · cases hrun
  · cases hrun
def gFu : List (List Int) → List (AV F) → Option (AV F × List (Bool × Bool)) := fun l r => match r with
  | [.w (.one (.int .i64 f))] => some (bA (fuseB l f), [(decide (l.length ≤ 34359738368), true)])
  | _ => none
def gVo : List (List Int) → List (AV F) → Option (AV F × List (Bool × Bool)) := fun l r => match r with
  | [.w (.one (.int .i64 f))] => some (.w (.one (.int .i64 (votesN l f))), [(decide (l.length ≤ 34359738368), true)])
  | _ => none
theorem fuseSp_ok {I : Interp F} {conv : F → Option (List (List Int))} (hconv : ∀ q l, conv q = some l → ∀ D w v, I.hv q D w v → tabHv (fun _ _ => False) w v bk l) : (tabSp conv bk gFu).ok Try.prog I 32 :=
  tabSp_ok hconv fun l r v cd hg hc w s ht E us hr => by
    unfold gFu at hg
    split at hg
    · cases hg
      cases hr with | cons h0 hr => ?_
      cases hr
      cases (h0 : _ = _)
      exact ⟨_, rfl, fuse_pl ht (of_decide_eq_true (hc (decide (l.length ≤ 34359738368), true) (by simp))) _⟩
    · cases hg
end Fs
end Go.Proofs.Ytfhidjldmopbgaa

