/-
  Package bound: the mathematics of Fuse: the sweep finds the least number that enough bounds admit.
  Conditions: those of each theorem.
-/
import Derived.Test.YtjegnlnnjcchaaaGS
namespace Go.Proofs.Ytjegnlnnjcchaaa.AtTick
open Go.Proofs.Ytjegnlnnjcchaaa
open Go.RowKit Go.Shelf Ev
set_option linter.unusedVariables false
set_option linter.unusedSimpArgs false
namespace Fs
/-! ### As callees -/
variable {F : Type}
/-- A callee whose first argument is a slice of bounds: a fact, nil, or a local slice; it returns a plain value. -/
def tabSp (conv : F → Option (List (List Int))) (ks : List (Option IntKind)) (g : List (List Int) → List (AV F) → Option (AV F × List (Bool × Bool))) : FnSp F where
  blocks := fun args => match args with
    | .w (.one (.slc b _ _ _)) :: _ => [b]
    | _ => []
  run := fun _ args bs => match args, bs with
    | .w (.one (.fv f)) :: r, [] => match conv f with
      | some l => match g l r with
        | some (v, cd) => some ⟨v, [], cd⟩
        | none => none
      | none => none
    | .w (.one (.lit (.slice none 0 0))) :: r, [] => match g [] r with
      | some (v, cd) => some ⟨v, [], cd⟩
      | none => none
    | .w (.one (.slc _ o n c)) :: r, [blk] => match rowsOf ks n ((blk.cs.drop o).take (n * ks.length)) with
      | some l => match g l r with
        | some (v, cd) => bif Nat.ble n c && Nat.ble c maxLen then some ⟨v, [], cd⟩ else none
        | none => none
      | none => none
    | _, _ => none
theorem rows_hv {E : Env F} {w : World} {k : Nat} {cs : List (AC F)} {vs : List Value} {ty : TypeId} {ks : List (Option IntKind)} {o n c : Nat} {l : List (List Int)} (hr : rowsOf ks n ((cs.drop o).take (n * ks.length)) = some l)
    (hw : w.heap[k]? = some (.cells vs.toArray ty (0, 0))) (hv : All2 (AC.R E) cs vs) (hE : ∀ f v, E.h f v → isCell v = true) (hn : n ≤ c) (hc : c ≤ maxLen) : tabHv (fun _ _ => False) w (.slice (some ⟨k, o, none⟩) n c) ks l := by
  have hpl : ∀ {ks : List (Option IntKind)} {xs rest : List (AC F)} {r : List Int}, rowOf ks xs = some (r, rest) → xs.length = ks.length + rest.length := by
    intro ks
    induction ks with
    | nil => intro xs rest r h; cases h; simp
    | cons k ks ih =>
      intro xs rest r h
      cases k with
      | some k =>
        unfold rowOf at h
        split at h
        · cases ‹_ :: _ = []›
        · rename_i e
          cases e
          split at h
          · split at h
            · rename_i h0
              cases h
              have := ih h0
              simp only [List.length_cons]; omega
            · cases h
          · cases h
        · cases ‹_ = (none : Option IntKind) :: _›
        · cases ‹_ = (none : Option IntKind) :: _›
        · cases h
      | none =>
        unfold rowOf at h
        split at h
        · cases ‹_ :: _ = []›
        · cases ‹(none : Option IntKind) :: _ = _›
        · rename_i e
          cases e
          split at h
          · rename_i h0
            cases h
            have := ih h0
            simp only [List.length_cons]; omega
          · cases h
        · rename_i e
          cases e
          split at h
          · rename_i h0
            cases h
            have := ih h0
            simp only [List.length_cons]; omega
          · cases h
        · cases h
  have hlenX : ∀ {n : Nat} {xs : List (AC F)} {l : List (List Int)}, rowsOf ks n xs = some l → xs.length = n * ks.length ∧ l.length = n := by
    intro n
    induction n with
    | zero =>
      intro xs l h
      cases xs with
      | nil => cases h; simp
      | cons _ _ => cases h
    | succ n ih =>
      intro xs l h
      simp only [rowsOf] at h
      split at h
      · rename_i h0
        split at h
        · rename_i h1
          cases h
          have q1 := hpl h0
          obtain ⟨q2, q3⟩ := ih h1
          refine ⟨by rw [q1, q2, Nat.add_mul]; omega, by simp [q3]⟩
        · cases h
      · cases h
  -- what stands in the cells
  have hcell : ∀ {n : Nat} {xs : List (AC F)} {us : List Value} {l : List (List Int)}, rowsOf ks n xs = some l → All2 (AC.R E) xs us → ∀ j, j < n → ∀ p k, ks[p]? = some k → us[j * ks.length + p]? = some (kdV k ((l.getD j []).getD p 0)) := by
    have hrow : ∀ {ks : List (Option IntKind)} {xs rest : List (AC F)} {r : List Int} {us : List Value}, rowOf ks xs = some (r, rest) → All2 (AC.R E) xs us → All2 (AC.R E) rest (us.drop ks.length) ∧ ∀ p k, ks[p]? = some k → us[p]? = some (kdV k (r.getD p 0)) := by
      intro ks
      induction ks with
      | nil => intro xs rest r us h H; cases h; exact ⟨by simpa using H, fun p k h => by simp at h⟩
      | cons k0 ks ih =>
        intro xs rest r us h H
        have fin : ∀ {x : AC F} {xs' rest' : List (AC F)} {r' : List Int} {z : Int}, rowOf ks xs' = some (r', rest') → All2 (AC.R E) (x :: xs') us → (∀ u, x.R E u → u = kdV k0 z) → All2 (AC.R E) rest' (us.drop (k0 :: ks).length) ∧ ∀ p k, (k0 :: ks)[p]? = some k → us[p]? = some (kdV k ((z :: r').getD p 0)) := by
          intro x xs' rest' r' z h0 H1 hx
          cases H1 with
          | cons q H2 =>
            obtain ⟨g1, g2⟩ := ih h0 H2
            refine ⟨by simpa using g1, fun p k hp => ?_⟩
            cases p with
            | zero =>
              simp only [List.getElem?_cons_zero, Option.some.injEq] at hp
              subst hp
              simp [hx _ q]
            | succ p => simpa using g2 p k (by simpa using hp)
        cases k0 with
        | some k =>
          unfold rowOf at h
          split at h
          · cases ‹_ :: _ = []›
          · rename_i e
            cases e
            split at h
            · rename_i hk
              split at h
              · rename_i h0
                cases h
                obtain rfl := of_decide_eq_true hk
                exact fin h0 H fun u hu => hu
              · cases h
            · cases h
          · cases ‹_ = (none : Option IntKind) :: _›
          · cases ‹_ = (none : Option IntKind) :: _›
          · cases h
        | none =>
          unfold rowOf at h
          split at h
          · cases ‹_ :: _ = []›
          · cases ‹(none : Option IntKind) :: _ = _›
          · rename_i b _ e
            cases e
            split at h
            · rename_i h0
              cases h
              exact fin h0 H fun u hu => by rw [show u = .bool b from hu]; simp only [kdV, bool_10]
            · cases h
          · rename_i b _ e
            cases e
            split at h
            · rename_i h0
              cases h
              exact fin h0 H fun u hu => by rw [show u = .bool b from hu]; simp only [kdV, bool_10]
            · cases h
          · cases h
    intro n
    induction n with
    | zero => intro xs us l _ _ j hj; omega
    | succ n ih =>
      intro xs us l h H j hj p k hp
      simp only [rowsOf] at h
      split at h
      · rename_i h0
        split at h
        · rename_i h1
          cases h
          obtain ⟨g1, g2⟩ := hrow h0 H
          cases j with
          | zero => simpa using g2 p k hp
          | succ j =>
            have := ih h1 g1 j (by omega) p k hp
            rw [List.getElem?_drop] at this
            rw [show (j + 1) * ks.length + p = ks.length + (j * ks.length + p) by rw [Nat.add_mul]; omega, this]
            simp
        · cases h
      · cases h
  obtain ⟨hl1, hl2⟩ := hlenX hr
  have hsub := hv.take_drop o (n * ks.length)
  refine ⟨some ⟨k, o, none⟩, c, by rw [hl2], by omega, hc, (fun h => by cases h), fun a ha => ?_⟩
  cases ha
  refine ⟨rfl, fun j hj p kd hp => ⟨fun h => h, ?_⟩⟩
  have := hcell hr hsub j (by omega) p kd hp
  rw [List.getElem?_take] at this
  split at this
  · rw [List.getElem?_drop] at this
    rw [cell_heap hw]; exact this
  · cases this
theorem tabSp_ok {P : Program} {I : Interp F} {f : FuncId} {conv : F → Option (List (List Int))} {ks : List (Option IntKind)} {g : List (List Int) → List (AV F) → Option (AV F × List (Bool × Bool))}
    (hconv : ∀ q l, conv q = some l → ∀ D w v, I.hv q D w v → tabHv (fun _ _ => False) w v ks l)
    (h : ∀ l r v cd, g l r = some (v, cd) → (∀ p ∈ cd, p.1 = p.2) → ∀ (w : World) (s : Value), tabHv (fun _ _ => False) w s ks l → ∀ (E : Env F) (us : List Value), All2 (AV.R E) r us → ∃ u, v.val = some u ∧ Calls P f (s :: us).toArray w fun e w' => e = .returned u ∧ Below w.heap.size w w') : (tabSp conv ks g).ok P I f := by
  intro E hp w slot args us bs out dt hrun ha hbl hm hfr hc
  have key : ∀ {l : List (List Int)} {r : List (AV F)} {v : AV F} {cd : List (Bool × Bool)} {s : Value} {us' : List Value}, g l r = some (v, cd) → out = ⟨v, [], cd⟩ → us = s :: us' → All2 (AV.R E) r us' → tabHv (fun _ _ => False) w s ks l →
      Calls P f us.toArray w fun e w' => ∃ E' u, But slot E E' ∧ e = .returned u ∧ out.val.R E' u ∧ Mem I ⟨w, E.ran, dt⟩ E' (out.wr ++ hp) w' := by
    intro l r v cd s us' hg ho hu hr ht
    subst ho hu
    obtain ⟨u, hv, hcall⟩ := h l r v cd hg hc w s ht E us' hr
    refine hcall.mono ?_
    rintro e w' ⟨rfl, hB⟩
    exact ⟨E, u, But.refl _ _, rfl, AV.R_val hv, hm.below hB⟩
  simp only [tabSp] at hrun hbl
  split at hrun
  · rename_i q r
    split at hrun
    · rename_i l hl
      split at hrun
      · rename_i v cd hg
        cases hrun
        cases ha with | cons h0 ha => ?_
        exact key hg rfl rfl ha (hconv _ _ hl _ _ _ (hm.fv _ _ h0))
      · cases hrun
    · cases hrun
  · rename_i r
    split at hrun
    · rename_i v cd hg
      cases hrun
      cases ha with | cons h0 ha => ?_
      cases (h0 : _ = _)
      exact key hg rfl rfl ha (nil_tab _ _ _)
    · cases hrun
  · rename_i b o n c r blk
    split at hrun
    · rename_i l hl
      split at hrun
      · rename_i v cd hg
        generalize hz : (Nat.ble n c && Nat.ble c maxLen) = z at hrun
        cases z with
        | false => cases hrun
        | true =>
          cases hrun
          simp only [Bool.and_eq_true] at hz
          cases ha with | cons h0 ha => ?_
          obtain ⟨k, hk, rfl⟩ := h0
          have hlk := looks_one hbl
          obtain ⟨k', vs, hk', hcell, hcs⟩ := hm.hp b blk hlk (hm.plain hlk hk)
          rw [hk] at hk'; cases hk'
          exact key hg rfl rfl ha (rows_hv hl hcell hcs hm.cells.h (Nat.le_of_ble_eq_true hz.1) (Nat.le_of_ble_eq_true hz.2))
      · cases hrun
    · cases hrun
  · cases hrun
def gFu : List (List Int) → List (AV F) → Option (AV F × List (Bool × Bool)) := fun l r => match r with
  | [.w (.one (.int .i64 f))] => some (bA (fuseB l f), [(decide (l.length ≤ 34359738368), true)])
  | _ => none
theorem fuseSp_ok {I : Interp F} {conv : F → Option (List (List Int))} (hconv : ∀ q l, conv q = some l → ∀ D w v, I.hv q D w v → tabHv (fun _ _ => False) w v bk l) : (tabSp conv bk gFu).ok Try.prog I 87 :=
  tabSp_ok hconv fun l r v cd hg hc w s ht E us hr => by
    unfold gFu at hg
    split at hg
    · cases hg
      cases hr with | cons h0 hr => ?_
      cases hr
      cases (h0 : _ = _)
      exact ⟨_, rfl, fuse_pl ht (of_decide_eq_true (hc (decide (l.length ≤ 34359738368), true) (by simp))) _⟩
    · cases hg
end Fs
namespace Fs
/-- How many bounds admit x. -/
def vt (xs : List Bd) (x : Int) : Int := xs.countP fun b => decide (b.lo ≤ x) && decide (x ≤ b.hi)
theorem vt_eq {xs : List Bd} (h : ∀ b ∈ xs, b.lo ≤ b.hi) (x : Int) : vt xs x = ((xs.map (·.lo)).countP fun a => decide (a ≤ x)) - ((xs.map (·.hi)).countP fun a => decide (a < x) : Nat) := by
  unfold vt
  induction xs with
  | nil => rfl
  | cons b xs ih =>
    have hb := h b List.mem_cons_self
    have ih := ih fun c hc => h c (List.mem_cons_of_mem _ hc)
    simp only [List.map_cons, List.countP_cons, Bool.and_eq_true, decide_eq_true_eq]
    by_cases h1 : b.lo ≤ x <;> by_cases h2 : x ≤ b.hi <;> by_cases h3 : b.hi < x <;> simp only [h1, h2, h3, and_self, and_true, and_false, false_and, true_and, if_true, if_false] <;> omega
/-- In a sorted list what is true of less stands in front. -/
theorem tw {L : List Int} (hs : L.Pairwise (· ≤ ·)) {p : Int → Bool} (hp : ∀ a b, a ≤ b → p b = true → p a = true) : ∀ (k : Nat) (hk : k < L.length), p L[k] = true ↔ k < L.countP p := by
  induction L with
  | nil => intro k hk; simp at hk
  | cons a L ih =>
    intro k hk
    rw [List.pairwise_cons] at hs
    cases ha : p a with
    | true =>
      rw [List.countP_cons_of_pos ha]
      cases k with
      | zero => simp [ha]
      | succ k => simpa using ih hs.2 k (by simpa using hk)
    | false =>
      have hz : L.countP p = 0 := by
        rw [List.countP_eq_zero]
        intro b hb hpb
        have := hp a b (hs.1 b hb) hpb
        rw [ha] at this; cases this
      rw [List.countP_cons_of_neg (by simp [ha]), hz]
      cases k with
      | zero => simp [ha]
      | succ k =>
        have hk' : k < L.length := by simpa using hk
        have : p L[k] = false := by
          cases hq : p L[k] with
          | false => rfl
          | true => have := hp a _ (hs.1 _ (List.getElem_mem _)) hq; rw [ha] at this; cases this
        simp [this]
theorem lt_anti (x : Int) : ∀ a b : Int, a ≤ b → decide (b < x) = true → decide (a < x) = true := fun a b h h2 => by simp at *; omega
theorem le_anti (x : Int) : ∀ a b : Int, a ≤ b → decide (b ≤ x) = true → decide (a ≤ x) = true := fun a b h h2 => by simp at *; omega
def cH (H : List Int) (x : Int) : Nat := H.countP fun a => decide (a < x)
theorem cH_le {H : List Int} {x y : Int} (h : x ≤ y) : cH H x ≤ cH H y := List.countP_mono_left fun a _ ha => by simp at *; omega
theorem adv_eq {H : List Int} (hs : H.Pairwise (· ≤ ·)) (lo : Int) : ∀ (d e : Nat), cH H lo - e = d → e ≤ cH H lo → Ls.adv H lo e = cH H lo
  | 0, e, hd, he => by
    have hlen : cH H lo ≤ H.length := List.countP_le_length
    rcases Nat.lt_or_ge e H.length with q | q
    · rw [Ls.adv_stop q]
      · omega
      · intro h
        have := (tw hs (lt_anti lo) e q).1 (by simpa [List.getD, q] using h)
        unfold cH at hd he
        omega
    · unfold Ls.adv
      rw [List.drop_eq_nil_of_le q]
      simp; omega
  | d + 1, e, hd, he => by
    have hlen : cH H lo ≤ H.length := List.countP_le_length
    have q : e < H.length := by omega
    have h1 : H.getD e 0 < lo := by
      have := (tw hs (lt_anti lo) e q).2 (by unfold cH at hd; omega)
      simpa [List.getD, q] using this
    rw [← Ls.adv_step q h1]
    exact adv_eq hs lo d (e + 1) (by omega) (by omega)
/-- The sweep, by the first place that is enough. -/
theorem swp_first {H : List Int} (hH : H.Pairwise (· ≤ ·)) (need : Int) : ∀ (L : List Int) (i e : Nat), L.Pairwise (· ≤ ·) → (∀ x ∈ L, e ≤ cH H x) →
    (∃ k, ∃ hk : k < L.length, Ls.swp H need L i e = some L[k] ∧ need ≤ ((i + k + 1 : Nat) : Int) - cH H L[k] ∧ ∀ j (hj : j < k), ¬ need ≤ ((i + j + 1 : Nat) : Int) - cH H (L[j]'(by omega))) ∨
    (Ls.swp H need L i e = none ∧ ∀ j (hj : j < L.length), ¬ need ≤ ((i + j + 1 : Nat) : Int) - cH H L[j])
  | [], i, e, _, _ => .inr ⟨rfl, fun j hj => by simp at hj⟩
  | lo :: L, i, e, hs, he => by
    have ha := adv_eq hH lo _ e rfl (he lo List.mem_cons_self)
    rw [List.pairwise_cons] at hs
    by_cases hn : need ≤ ((i + 1 : Nat) : Int) - cH H lo
    · refine .inl ⟨0, by simp, ?_, by simpa using hn, fun j hj => by omega⟩
      simp only [Ls.swp, ha, List.getElem_cons_zero]
      rw [if_pos]
      omega
    · have hw : Ls.swp H need (lo :: L) i e = Ls.swp H need L (i + 1) (cH H lo) := by
        simp only [Ls.swp, ha]
        rw [if_neg]
        omega
      rw [hw]
      rcases swp_first hH need L (i + 1) (cH H lo) hs.2 (fun x hx => cH_le (hs.1 x hx)) with ⟨k, hk, h1, h2, h3⟩ | ⟨h1, h2⟩
      · refine .inl ⟨k + 1, by simpa using hk, by simpa using h1, ?_, fun j hj => ?_⟩
        · rw [show i + (k + 1) + 1 = i + 1 + k + 1 by omega]; simpa using h2
        · cases j with
          | zero => simpa using hn
          | succ j => rw [show i + (j + 1) + 1 = i + 1 + j + 1 by omega]; simpa using h3 j (by omega)
      · refine .inr ⟨h1, fun j hj => ?_⟩
        cases j with
        | zero => simpa using hn
        | succ j => rw [show i + (j + 1) + 1 = i + 1 + j + 1 by omega]; simpa using h2 j (by simpa using hj)
theorem sort_perm (l : List Int) : (Ls.sortL l).Perm l := List.mergeSort_perm _ _
/-- The least number that enough bounds admit. -/
theorem least_spec {xs : List Bd} (hx : ∀ b ∈ xs, b.lo ≤ b.hi) {need : Int} (hn : 1 ≤ need) :
    (∃ m, Ls.leastO xs need = some m ∧ (∃ b ∈ xs, b.lo = m) ∧ need ≤ vt xs m ∧ ∀ x, need ≤ vt xs x → m ≤ x) ∨ (Ls.leastO xs need = none ∧ ∀ x, vt xs x < need) := by
  have hL := Ls.sortL_sorted (xs.map (·.lo))
  have hH := Ls.sortL_sorted (xs.map (·.hi))
  have cl : ∀ x, (xs.map (·.lo)).countP (fun a => decide (a ≤ x)) = (Ls.sortL (xs.map (·.lo))).countP fun a => decide (a ≤ x) := fun x => ((sort_perm _).countP_eq _).symm
  have ch : ∀ x, (xs.map (·.hi)).countP (fun a => decide (a < x)) = cH (Ls.sortL (xs.map (·.hi))) x := fun x => ((sort_perm _).countP_eq _).symm
  have hv : ∀ x, vt xs x = ((Ls.sortL (xs.map (·.lo))).countP fun a => decide (a ≤ x)) - (cH (Ls.sortL (xs.map (·.hi))) x : Nat) := fun x => by rw [vt_eq hx, cl, ch]
  have hmem : ∀ k (hk : k < (Ls.sortL (xs.map (·.lo))).length), ∃ b ∈ xs, b.lo = (Ls.sortL (xs.map (·.lo)))[k] := fun k hk => by
    have := Ls.mem_sortL.1 (List.getElem_mem hk)
    obtain ⟨b, hb, e⟩ := List.mem_map.1 this
    exact ⟨b, hb, e⟩
  unfold Ls.leastO
  generalize Ls.sortL (xs.map (·.lo)) = L at *
  generalize Ls.sortL (xs.map (·.hi)) = H at *
  -- a number that enough bounds admit names a place that is enough
  have key : ∀ x, need ≤ vt xs x → ∃ j, ∃ hj : j < L.length, L[j] ≤ x ∧ need ≤ ((0 + j + 1 : Nat) : Int) - cH H L[j] := fun x h => by
    rw [hv x] at h
    have hc : L.countP (fun a => decide (a ≤ x)) ≤ L.length := List.countP_le_length
    have h1 : L.countP (fun a => decide (a ≤ x)) - 1 < L.countP (fun a => decide (a ≤ x)) := by omega
    have h2 := (tw hL (le_anti x) (L.countP (fun a => decide (a ≤ x)) - 1) (by omega)).2 h1
    simp only [decide_eq_true_eq] at h2
    exact ⟨_, by omega, h2, by have := cH_le (H := H) h2; omega⟩
  rcases swp_first hH need L 0 0 hL (fun _ _ => Nat.zero_le _) with ⟨k, hk, h1, h2, h3⟩ | ⟨h1, h2⟩
  · refine .inl ⟨L[k], h1, hmem k hk, ?_, fun x h => ?_⟩
    · rw [hv]
      have := (tw hL (le_anti L[k]) k hk).1 (by simp)
      omega
    · obtain ⟨j, hj, g1, g2⟩ := key x h
      have hkj : k ≤ j := by
        rcases Nat.lt_or_ge j k with q | q
        · exact absurd g2 (h3 j q)
        · exact q
      rcases Nat.lt_or_ge k j with q | q
      · have := List.pairwise_iff_getElem.1 hL k j hk hj q
        omega
      · have : k = j := by omega
        subst this; exact g1
  · refine .inr ⟨h1, fun x => ?_⟩
    rcases Int.lt_or_le (vt xs x) need with q | q
    · exact q
    · obtain ⟨j, hj, _, g2⟩ := key x q
      exact absurd g2 (h2 j hj)
theorem neg_kn {b : Bd} (h : knB b = true) : negB b = ⟨-b.hi, -b.lo, false⟩ := by
  obtain ⟨h1, h2, h3, h4⟩ := knB_iff.1 h
  have : knB ⟨-b.hi, -b.lo, false⟩ = true := knB_iff.2 ⟨rfl, by show _ ≤ -b.hi; omega, by show -b.hi ≤ -b.lo; omega, by show -b.lo ≤ _; omega⟩
  unfold negB
  rw [h]
  simp only [cond_true]
  unfold ofB normB
  rw [this]; rfl
theorem vt_neg {xs : List Bd} (h : ∀ b ∈ xs, knB b = true) (x : Int) : vt (xs.map negB) x = vt xs (-x) := by
  unfold vt
  rw [List.countP_map]
  congr 1
  refine List.countP_congr fun b hb => ?_
  simp only [Function.comp, neg_kn (h b hb), Bool.and_eq_true, decide_eq_true_eq]
  omega
theorem kns_kn {l : List (List Int)} : ∀ b ∈ knsOf l, knB b = true := fun b hb => (List.mem_filter.1 hb).2
/-- What Fuse returns. -/
theorem fuse_spec (l : List (List Int)) {f : Int} (h0 : 0 ≤ f) (h1 : f < (knsOf l).length) :
    (∃ lo hi, fuseB l f = ⟨lo, hi, false⟩ ∧ knB ⟨lo, hi, false⟩ = true ∧ (∃ b ∈ knsOf l, b.lo = lo) ∧ (∃ b ∈ knsOf l, b.hi = hi) ∧ (knsOf l).length - f ≤ vt (knsOf l) lo ∧ (knsOf l).length - f ≤ vt (knsOf l) hi ∧ ∀ x, (knsOf l).length - f ≤ vt (knsOf l) x → lo ≤ x ∧ x ≤ hi) ∨
    (fuseB l f = noneB ∧ ∀ x, vt (knsOf l) x < (knsOf l).length - f) := by
  have hk : ∀ b ∈ knsOf l, knB b = true := kns_kn
  have e : fuseB l f = bif (Ls.leastO (knsOf l) ((knsOf l).length - f)).isSome then ofB ((Ls.leastO (knsOf l) ((knsOf l).length - f)).getD 0) (IntKind.i64.wrap (0 - (Ls.leastO ((knsOf l).map negB) ((knsOf l).length - f)).getD 0)) else noneB := if_neg (fun h => h.elim (by omega) (by omega))
  rw [e]
  generalize knsOf l = xs at *
  rcases least_spec (xs := xs) (fun b hb => (knB_iff.1 (hk b hb)).2.2.1) (need := xs.length - f) (by omega) with ⟨m, g1, ⟨b, hb, rfl⟩, g3, g4⟩ | ⟨g1, g2⟩
  · rcases least_spec (xs := xs.map negB) (fun b hb => by obtain ⟨a, _, rfl⟩ := List.mem_map.1 hb; exact neg_le a) (need := xs.length - f) (by omega) with ⟨n, k1, ⟨c, hc, rfl⟩, k3, k4⟩ | ⟨k1, k2⟩
    · obtain ⟨a, ha, rfl⟩ := List.mem_map.1 hc
      rw [neg_kn (hk a ha)] at k1 k3 k4
      rw [vt_neg hk] at k3
      simp only [Int.neg_neg] at k1 k3 k4
      obtain ⟨_, a1, a2, a3⟩ := knB_iff.1 (hk a ha)
      obtain ⟨_, b1, b2, b3⟩ := knB_iff.1 (hk b hb)
      have hw : IntKind.i64.wrap (0 - -a.hi) = a.hi := by rw [IntKind.wrap_i64]; omega
      have hle := g4 a.hi k3
      have hkn : knB ⟨b.lo, a.hi, false⟩ = true := knB_iff.2 ⟨rfl, by show _ ≤ b.lo; omega, hle, by show a.hi ≤ _; omega⟩
      refine .inl ⟨b.lo, a.hi, ?_, hkn, ⟨b, hb, rfl⟩, ⟨a, ha, rfl⟩, g3, k3, fun x hx => ⟨g4 x hx, ?_⟩⟩
      · rw [g1, k1]
        simp only [Option.isSome_some, Option.getD_some, cond_true, hw]
        unfold ofB normB
        rw [hkn]; rfl
      · have := k4 (-x) (by rw [vt_neg hk]; simpa using hx)
        omega
    · exfalso
      have := k2 (-b.lo)
      rw [vt_neg hk] at this
      simp only [Int.neg_neg] at this
      omega
  · exact .inr ⟨by rw [g1]; rfl, g2⟩
theorem fuse_none (l : List (List Int)) {f : Int} (h : f < 0 ∨ ((knsOf l).length : Int) ≤ f) : fuseB l f = noneB := if_pos h
end Fs
end Go.Proofs.Ytjegnlnnjcchaaa.AtTick

