/-
  Package bound: the mathematics of Fuse: the sweep finds the least number that enough bounds admit.
  Conditions: those of each theorem.
-/
import Derived.Test.YtfhidjldmopbgaaFQ
namespace Go.Proofs.Ytfhidjldmopbgaa
open Go.RowKit Go.Shelf Ev
set_option linter.unusedVariables false
set_option linter.unusedSimpArgs false
namespace Fs
/-- How many bounds admit x. -/
def vt (xs : List Bd) (x : Int) : Int := xs.countP fun b => decide (b.lo ≤ x) && decide (x ≤ b.hi)
theorem vt_eq {xs : List Bd} (h : ∀ b ∈ xs, b.lo ≤ b.hi) (x : Int) : vt xs x = ((xs.map (·.lo)).countP fun a => decide (a ≤ x)) - ((xs.map (·.hi)).countP fun a => decide (a < x) : Nat) := by
  unfold vt
  induction xs with
  | nil => rfl
  | cons b xs ih =>
    have hb := h b List.mem_cons_self
    have ih := ih fun c hc => h c (List.mem_cons_of_mem _ hc)
    simp only [List.map_cons, List.countP_cons, Bool.and_eq_true, decide_eq_true_eq]
    by_cases h1 : b.lo ≤ x <;> by_cases h2 : x ≤ b.hi <;> by_cases h3 : b.hi < x <;> simp only [h1, h2, h3, and_self, and_true, and_false, false_and, true_and, if_true, if_false] <;> omega
/-- In a sorted list what is true of less stands in front. -/
theorem tw {L : List Int} (hs : L.Pairwise (· ≤ ·)) {p : Int → Bool} (hp : ∀ a b, a ≤ b → p b = true → p a = true) : ∀ (k : Nat) (hk : k < L.length), p L[k] = true ↔ k < L.countP p := by
  induction L with
  | nil => intro k hk; simp at hk
  | cons a L ih =>
    intro k hk
    rw [List.pairwise_cons] at hs
    cases ha : p a with
    | true =>
      rw [List.countP_cons_of_pos ha]
      cases k with
      | zero => simp [ha]
      | succ k => simpa using ih hs.2 k (by simpa using hk)
    | false =>
      have hz : L.countP p = 0 := by
        rw [List.countP_eq_zero]
        intro b hb hpb
        have := hp a b (hs.1 b hb) hpb
        rw [ha] at this; cases this
      rw [List.countP_cons_of_neg (by simp [ha]), hz]
      cases k with
      | zero => simp [ha]
      | succ k =>
        have hk' : k < L.length := by simpa using hk
        have : p L[k] = false := by
          cases hq : p L[k] with
          | false => rfl
          | true => have := hp a _ (hs.1 _ (List.getElem_mem _)) hq; rw [ha] at this; cases this
        simp [this]
theorem lt_anti (x : Int) : ∀ a b : Int, a ≤ b → decide (b < x) = true → decide (a < x) = true := fun a b h h2 => by simp at *; omega
theorem le_anti (x : Int) : ∀ a b : Int, a ≤ b → decide (b ≤ x) = true → decide (a ≤ x) = true := fun a b h h2 => by simp at *; omega
def cH (H : List Int) (x : Int) : Nat := H.countP fun a => decide (a < x)
theorem cH_le {H : List Int} {x y : Int} (h : x ≤ y) : cH H x ≤ cH H y := List.countP_mono_left fun a _ ha => by simp at *; omega
theorem adv_eq {H : List Int} (hs : H.Pairwise (· ≤ ·)) (lo : Int) : ∀ (d e : Nat), cH H lo - e = d → e ≤ cH H lo → Ls.adv H lo e = cH H lo
  | 0, e, hd, he => by
    have hlen : cH H lo ≤ H.length := List.countP_le_length
    rcases Nat.lt_or_ge e H.length with q | q
    · rw [Ls.adv_stop q]
      · omega
      · intro h
        have := (tw hs (lt_anti lo) e q).1 (by simpa [List.getD, q] using h)
        unfold cH at hd he
        omega
    · unfold Ls.adv
      rw [List.drop_eq_nil_of_le q]
      simp; omega
  | d + 1, e, hd, he => by
    have hlen : cH H lo ≤ H.length := List.countP_le_length
    have q : e < H.length := by omega
    have h1 : H.getD e 0 < lo := by
      have := (tw hs (lt_anti lo) e q).2 (by unfold cH at hd; omega)
      simpa [List.getD, q] using this
    rw [← Ls.adv_step q h1]
    exact adv_eq hs lo d (e + 1) (by omega) (by omega)
/-- The sweep, by the first place that is enough. -/
theorem swp_first {H : List Int} (hH : H.Pairwise (· ≤ ·)) (need : Int) : ∀ (L : List Int) (i e : Nat), L.Pairwise (· ≤ ·) → (∀ x ∈ L, e ≤ cH H x) →
    (∃ k, ∃ hk : k < L.length, Ls.swp H need L i e = some L[k] ∧ need ≤ ((i + k + 1 : Nat) : Int) - cH H L[k] ∧ ∀ j (hj : j < k), ¬ need ≤ ((i + j + 1 : Nat) : Int) - cH H (L[j]'(by omega))) ∨
    (Ls.swp H need L i e = none ∧ ∀ j (hj : j < L.length), ¬ need ≤ ((i + j + 1 : Nat) : Int) - cH H L[j])
  | [], i, e, _, _ => .inr ⟨rfl, fun j hj => by simp at hj⟩
  | lo :: L, i, e, hs, he => by
    have ha := adv_eq hH lo _ e rfl (he lo List.mem_cons_self)
    rw [List.pairwise_cons] at hs
    by_cases hn : need ≤ ((i + 1 : Nat) : Int) - cH H lo
    · refine .inl ⟨0, by simp, ?_, by simpa using hn, fun j hj => by omega⟩
      simp only [Ls.swp, ha, List.getElem_cons_zero]
      rw [if_pos]
      omega
    · have hw : Ls.swp H need (lo :: L) i e = Ls.swp H need L (i + 1) (cH H lo) := by
        simp only [Ls.swp, ha]
        rw [if_neg]
        omega
      rw [hw]
      rcases swp_first hH need L (i + 1) (cH H lo) hs.2 (fun x hx => cH_le (hs.1 x hx)) with ⟨k, hk, h1, h2, h3⟩ | ⟨h1, h2⟩
      · refine .inl ⟨k + 1, by simpa using hk, by simpa using h1, ?_, fun j hj => ?_⟩
        · rw [show i + (k + 1) + 1 = i + 1 + k + 1 by omega]; simpa using h2
        · cases j with
          | zero => simpa using hn
          | succ j => rw [show i + (j + 1) + 1 = i + 1 + j + 1 by omega]; simpa using h3 j (by omega)
      · refine .inr ⟨h1, fun j hj => ?_⟩
        cases j with
        | zero => simpa using hn
        | succ j => rw [show i + (j + 1) + 1 = i + 1 + j + 1 by omega]; simpa using h2 j (by simpa using hj)
theorem sort_perm (l : List Int) : (Ls.sortL l).Perm l := List.mergeSort_perm _ _
/-- The least number that enough bounds admit. -/
theorem least_spec {xs : List Bd} (hx : ∀ b ∈ xs, b.lo ≤ b.hi) {need : Int} (hn : 1 ≤ need) :
    (∃ m, Ls.leastO xs need = some m ∧ (∃ b ∈ xs, b.lo = m) ∧ need ≤ vt xs m ∧ ∀ x, need ≤ vt xs x → m ≤ x) ∨ (Ls.leastO xs need = none ∧ ∀ x, vt xs x < need) := by
  have hL := Ls.sortL_sorted (xs.map (·.lo))
  have hH := Ls.sortL_sorted (xs.map (·.hi))
  have cl : ∀ x, (xs.map (·.lo)).countP (fun a => decide (a ≤ x)) = (Ls.sortL (xs.map (·.lo))).countP fun a => decide (a ≤ x) := fun x => ((sort_perm _).countP_eq _).symm
  have ch : ∀ x, (xs.map (·.hi)).countP (fun a => decide (a < x)) = cH (Ls.sortL (xs.map (·.hi))) x := fun x => ((sort_perm _).countP_eq _).symm
  have hv : ∀ x, vt xs x = ((Ls.sortL (xs.map (·.lo))).countP fun a => decide (a ≤ x)) - (cH (Ls.sortL (xs.map (·.hi))) x : Nat) := fun x => by rw [vt_eq hx, cl, ch]
  have hmem : ∀ k (hk : k < (Ls.sortL (xs.map (·.lo))).length), ∃ b ∈ xs, b.lo = (Ls.sortL (xs.map (·.lo)))[k] := fun k hk => by
    have := Ls.mem_sortL.1 (List.getElem_mem hk)
    obtain ⟨b, hb, e⟩ := List.mem_map.1 this
    exact ⟨b, hb, e⟩
  unfold Ls.leastO
  generalize Ls.sortL (xs.map (·.lo)) = L at *
  generalize Ls.sortL (xs.map (·.hi)) = H at *
  -- a number that enough bounds admit names a place that is enough
  have key : ∀ x, need ≤ vt xs x → ∃ j, ∃ hj : j < L.length, L[j] ≤ x ∧ need ≤ ((0 + j + 1 : Nat) : Int) - cH H L[j] := fun x h => by
    rw [hv x] at h
    have hc : L.countP (fun a => decide (a ≤ x)) ≤ L.length := List.countP_le_length
    have h1 : L.countP (fun a => decide (a ≤ x)) - 1 < L.countP (fun a => decide (a ≤ x)) := by omega
    have h2 := (tw hL (le_anti x) (L.countP (fun a => decide (a ≤ x)) - 1) (by omega)).2 h1
    simp only [decide_eq_true_eq] at h2
    exact ⟨_, by omega, h2, by have := cH_le (H := H) h2; omega⟩
  rcases swp_first hH need L 0 0 hL (fun _ _ => Nat.zero_le _) with ⟨k, hk, h1, h2, h3⟩ | ⟨h1, h2⟩
  · refine .inl ⟨L[k], h1, hmem k hk, ?_, fun x h => ?_⟩
    · rw [hv]
      have := (tw hL (le_anti L[k]) k hk).1 (by simp)
      omega
    · obtain ⟨j, hj, g1, g2⟩ := key x h
      have hkj : k ≤ j := by
        rcases Nat.lt_or_ge j k with q | q
        · exact absurd g2 (h3 j q)
        · exact q
      rcases Nat.lt_or_ge k j with q | q
      · have := List.pairwise_iff_getElem.1 hL k j hk hj q
        omega
      · have : k = j := by omega
        subst this; exact g1
  · refine .inr ⟨h1, fun x => ?_⟩
    rcases Int.lt_or_le (vt xs x) need with q | q
    · exact q
    · obtain ⟨j, hj, _, g2⟩ := key x q
      exact absurd g2 (h2 j hj)
theorem neg_kn {b : Bd} (h : knB b = true) : negB b = ⟨-b.hi, -b.lo, false⟩ := by
  obtain ⟨h1, h2, h3, h4⟩ := knB_iff.1 h
  have : knB ⟨-b.hi, -b.lo, false⟩ = true := knB_iff.2 ⟨rfl, by show _ ≤ -b.hi; omega, by show -b.hi ≤ -b.lo; omega, by show -b.lo ≤ _; omega⟩
  unfold negB
  rw [h]
  simp only [cond_true]
  unfold ofB normB
  rw [this]; rfl
theorem vt_neg {xs : List Bd} (h : ∀ b ∈ xs, knB b = true) (x : Int) : vt (xs.map negB) x = vt xs (-x) := by
  unfold vt
  rw [List.countP_map]
  congr 1
  refine List.countP_congr fun b hb => ?_
  simp only [Function.comp, neg_kn (h b hb), Bool.and_eq_true, decide_eq_true_eq]
  omega
theorem kns_kn {l : List (List Int)} : ∀ b ∈ knsOf l, knB b = true := fun b hb => (List.mem_filter.1 hb).2
/-- What Fuse returns. -/
theorem fuse_spec (l : List (List Int)) {f : Int} (h0 : 0 ≤ f) (h1 : f < (knsOf l).length) :
    (∃ lo hi, fuseB l f = ⟨lo, hi, false⟩ ∧ knB ⟨lo, hi, false⟩ = true ∧ (∃ b ∈ knsOf l, b.lo = lo) ∧ (∃ b ∈ knsOf l, b.hi = hi) ∧ (knsOf l).length - f ≤ vt (knsOf l) lo ∧ (knsOf l).length - f ≤ vt (knsOf l) hi ∧ ∀ x, (knsOf l).length - f ≤ vt (knsOf l) x → lo ≤ x ∧ x ≤ hi) ∨
    (fuseB l f = noneB ∧ ∀ x, vt (knsOf l) x < (knsOf l).length - f) := by
  have hk : ∀ b ∈ knsOf l, knB b = true := kns_kn
  have e : fuseB l f = bif (Ls.leastO (knsOf l) ((knsOf l).length - f)).isSome then ofB ((Ls.leastO (knsOf l) ((knsOf l).length - f)).getD 0) (IntKind.i64.wrap (0 - (Ls.leastO ((knsOf l).map negB) ((knsOf l).length - f)).getD 0)) else noneB := if_neg (fun h => h.elim (by omega) (by omega))
  rw [e]
  generalize knsOf l = xs at *
  rcases least_spec (xs := xs) (fun b hb => (knB_iff.1 (hk b hb)).2.2.1) (need := xs.length - f) (by omega) with ⟨m, g1, ⟨b, hb, rfl⟩, g3, g4⟩ | ⟨g1, g2⟩
  · rcases least_spec (xs := xs.map negB) (fun b hb => by obtain ⟨a, _, rfl⟩ := List.mem_map.1 hb; exact neg_le a) (need := xs.length - f) (by omega) with ⟨n, k1, ⟨c, hc, rfl⟩, k3, k4⟩ | ⟨k1, k2⟩
    · obtain ⟨a, ha, rfl⟩ := List.mem_map.1 hc
      rw [neg_kn (hk a ha)] at k1 k3 k4
      rw [vt_neg hk] at k3
      simp only [Int.neg_neg] at k1 k3 k4
      obtain ⟨_, a1, a2, a3⟩ := knB_iff.1 (hk a ha)
      obtain ⟨_, b1, b2, b3⟩ := knB_iff.1 (hk b hb)
      have hw : IntKind.i64.wrap (0 - -a.hi) = a.hi := by rw [IntKind.wrap_i64]; omega
      have hle := g4 a.hi k3
      have hkn : knB ⟨b.lo, a.hi, false⟩ = true := knB_iff.2 ⟨rfl, by show _ ≤ b.lo; omega, hle, by show a.hi ≤ _; omega⟩
      refine .inl ⟨b.lo, a.hi, ?_, hkn, ⟨b, hb, rfl⟩, ⟨a, ha, rfl⟩, g3, k3, fun x hx => ⟨g4 x hx, ?_⟩⟩
      · rw [g1, k1]
        simp only [Option.isSome_some, Option.getD_some, cond_true, hw]
        unfold ofB normB
        rw [hkn]; rfl
      · have := k4 (-x) (by rw [vt_neg hk]; simpa using hx)
        omega
    · exfalso
      have := k2 (-b.lo)
      rw [vt_neg hk] at this
      simp only [Int.neg_neg] at this
      omega
  · exact .inr ⟨by rw [g1]; rfl, g2⟩
theorem fuse_none (l : List (List Int)) {f : Int} (h : f < 0 ∨ ((knsOf l).length : Int) ≤ f) : fuseB l f = noneB := if_pos h
theorem votes_vt (l : List (List Int)) (v : Int) : votesN l v = vt (knsOf l) v := by
  unfold votesN vt
  rw [List.countP_eq_length_filter]
  congr 2
  refine List.filter_congr fun b hb => ?_
  simp only [hasB, kns_kn b hb, Bool.not_true, Bool.false_or]
end Fs
end Go.Proofs.Ytfhidjldmopbgaa

