/-
  Numbers as digits in base 10^6, the lowest first, without zeros at the end: the plain arithmetic: no program in sight.
  Conditions: those of each lemma.
-/
import Derived.WalkKit
namespace Go.Proofs.YtokkaeaciigapaaDoor.Zd

/-- The digits of a number. -/
def digs (n : Nat) : List Int := if h : n = 0 then [] else ((n % 1000000 : Nat) : Int) :: digs (n / 1000000)
termination_by n
decreasing_by exact Nat.div_lt_self (by omega) (by decide)

theorem digs_zero : digs 0 = [] := by rw [digs]; simp
theorem digs_pos {n : Nat} (h : 0 < n) : digs n = ((n % 1000000 : Nat) : Int) :: digs (n / 1000000) := by rw [digs, dif_neg (by omega)]

/-- What digits stand for. -/
def val : List Int → Int
  | [] => 0
  | d :: t => d + 1000000 * val t
/-- They are digits. -/
def Ok (ds : List Int) : Prop := ∀ d ∈ ds, 0 ≤ d ∧ d < 1000000

theorem Ok.nil : Ok [] := fun _ h => by cases h
theorem Ok.cons {d : Int} {t : List Int} (h0 : 0 ≤ d) (h1 : d < 1000000) (h : Ok t) : Ok (d :: t) := fun x hx => by
  rcases List.mem_cons.1 hx with rfl | hx
  · exact ⟨h0, h1⟩
  · exact h x hx
theorem Ok.tail {d : Int} {t : List Int} (h : Ok (d :: t)) : Ok t := fun x hx => h x (List.mem_cons_of_mem _ hx)
theorem Ok.append {s t : List Int} (hs : Ok s) (ht : Ok t) : Ok (s ++ t) := fun x hx => by
  rcases List.mem_append.1 hx with h | h
  · exact hs x h
  · exact ht x h
theorem Ok.left {s t : List Int} (h : Ok (s ++ t)) : Ok s := fun x hx => h x (List.mem_append.2 (.inl hx))
theorem Ok.take {s : List Int} (h : Ok s) (k : Nat) : Ok (s.take k) := fun x hx => h x (List.mem_of_mem_take hx)
theorem Ok.getD {ds : List Int} (h : Ok ds) {k : Nat} (hk : k < ds.length) : 0 ≤ ds.getD k 0 ∧ ds.getD k 0 < 1000000 := by
  have : ds.getD k 0 = ds[k] := by simp [List.getD, hk]
  rw [this]
  exact h _ (List.getElem_mem hk)

theorem digs_ok (n : Nat) : Ok (digs n) := by
  induction n using Nat.strongRecOn with
  | _ n ih =>
    rcases Nat.eq_zero_or_pos n with h | h
    · subst h; rw [digs_zero]; exact Ok.nil
    · rw [digs_pos h]
      exact Ok.cons (by omega) (by omega) (ih _ (Nat.div_lt_self h (by decide)))
theorem val_digs (n : Nat) : val (digs n) = n := by
  induction n using Nat.strongRecOn with
  | _ n ih =>
    rcases Nat.eq_zero_or_pos n with h | h
    · subst h; rw [digs_zero]; rfl
    · rw [digs_pos h, val, ih _ (Nat.div_lt_self h (by decide))]
      omega
theorem val_nonneg {ds : List Int} (h : Ok ds) : 0 ≤ val ds := by
  induction ds with
  | nil => exact Int.le_refl _
  | cons d t ih => have := h d (List.mem_cons_self ..); have := ih h.tail; simp only [val]; omega
theorem val_append (s t : List Int) : val (s ++ t) = val s + 1000000 ^ s.length * val t := by
  induction s with
  | nil => simp [val]
  | cons d s ih => rw [List.cons_append, val, val, ih, List.length_cons, Int.pow_succ]; simp only [Int.mul_add]; rw [← Int.mul_assoc, Int.mul_comm 1000000 (1000000 ^ s.length)]; omega
theorem val_lt {ds : List Int} (h : Ok ds) : val ds < 1000000 ^ ds.length := by
  induction ds with
  | nil => simp [val]
  | cons d t ih =>
    have h1 := h d (List.mem_cons_self ..)
    have h2 := ih h.tail
    rw [val, List.length_cons, Int.pow_succ]
    omega
/-- Digits without a zero at the end are the digits of what they stand for. -/
theorem digs_val : ∀ {ds : List Int}, Ok ds → (∀ h : ds ≠ [], ds.getLast h ≠ 0) → digs (val ds).toNat = ds := by
  intro ds
  induction ds with
  | nil => intro _ _; simp [val, digs_zero]
  | cons d t ih =>
    intro h hl
    have h1 := h d (List.mem_cons_self ..)
    have h2 := val_nonneg h.tail
    have ht : ∀ g : t ≠ [], t.getLast g ≠ 0 := fun g => by have := hl (by simp); rwa [List.getLast_cons g] at this
    have hpos : 0 < val t ∨ t = [] := by
      by_cases hn : t = []
      · exact .inr hn
      · refine .inl ?_
        rcases Int.lt_or_eq_of_le h2 with g | g
        · exact g
        · exfalso
          have e := ih h.tail ht
          rw [← g] at e
          simp [digs_zero] at e
          exact hn e
    have hne : 0 < (val (d :: t)).toNat := by
      rcases hpos with g | g
      · rw [val]; omega
      · subst g
        have := hl (by simp)
        simp at this
        simp only [val]; omega
    rw [digs_pos hne]
    have e1 : ((((val (d :: t)).toNat % 1000000 : Nat)) : Int) = d := by rw [val]; omega
    have e2 : (val (d :: t)).toNat / 1000000 = (val t).toNat := by rw [val]; omega
    rw [e1, e2, ih h.tail ht]
theorem digs_last (n : Nat) (h : digs n ≠ []) : (digs n).getLast h ≠ 0 := by
  induction n using Nat.strongRecOn with
  | _ n ih =>
    rcases Nat.eq_zero_or_pos n with h0 | h0
    · subst h0; exact absurd digs_zero h
    · have e := digs_pos h0
      by_cases hd : digs (n / 1000000) = []
      · have hz : n / 1000000 = 0 := by
          rcases Nat.eq_zero_or_pos (n / 1000000) with g | g
          · exact g
          · rw [digs_pos g] at hd; cases hd
        rw [hd] at e
        simp only [e, List.getLast_singleton]
        omega
      · have := ih _ (Nat.div_lt_self h0 (by decide)) hd
        simp only [e, List.getLast_cons hd]
        exact this
theorem digs_nil {n : Nat} : digs n = [] ↔ n = 0 := by
  constructor
  · intro h
    rcases Nat.eq_zero_or_pos n with g | g
    · exact g
    · rw [digs_pos g] at h; cases h
  · rintro rfl; exact digs_zero
theorem digs_len {n k : Nat} (h : n < 1000000 ^ k) : (digs n).length ≤ k := by
  induction k generalizing n with
  | zero => have : n = 0 := by simpa using h
            subst this; rw [digs_zero]; simp
  | succ k ih =>
    rcases Nat.eq_zero_or_pos n with g | g
    · subst g; rw [digs_zero]; simp
    · rw [digs_pos g, List.length_cons]
      have : n / 1000000 < 1000000 ^ k := by rw [Nat.div_lt_iff_lt_mul (by decide), ← Nat.pow_succ]; exact h
      have := ih this
      omega
theorem len_le {n k : Nat} (h : (digs n).length ≤ k) : n < 1000000 ^ k := by
  have h1 := val_lt (digs_ok n)
  rw [val_digs] at h1
  have h2 : ((1000000 ^ (digs n).length : Nat) : Int) = 1000000 ^ (digs n).length := by rw [Int.natCast_pow]; rfl
  have h3 : (1000000 : Nat) ^ (digs n).length ≤ 1000000 ^ k := Nat.pow_le_pow_right (by decide) h
  omega

/-- Zeros at the end left out. -/
def cut : List Int → List Int
  | [] => []
  | d :: t => if cut t = [] ∧ d = 0 then [] else d :: cut t
theorem cut_ok {ds : List Int} (h : Ok ds) : Ok (cut ds) := by
  induction ds with
  | nil => exact Ok.nil
  | cons d t ih =>
    rw [cut]; split
    · exact Ok.nil
    · have := h d (List.mem_cons_self ..); exact Ok.cons this.1 this.2 (ih h.tail)
theorem cut_val (ds : List Int) : val (cut ds) = val ds := by
  induction ds with
  | nil => rfl
  | cons d t ih =>
    rw [cut]; split
    · rename_i h; have e : val (d :: t) = d + 1000000 * val t := rfl
      rw [e, ← ih, h.1, h.2]; rfl
    · rw [val, val, ih]
theorem cut_last (ds : List Int) : ∀ h : cut ds ≠ [], (cut ds).getLast h ≠ 0 := by
  induction ds with
  | nil => intro h; exact absurd rfl h
  | cons d t ih =>
    intro h
    have e : cut (d :: t) = d :: cut t := by
      rw [cut]; split
      · rename_i g; exfalso; apply h; rw [cut, if_pos g]
      · rfl
    by_cases hd : cut t = []
    · have hd0 : d ≠ 0 := by
        intro h0
        apply h
        rw [cut, if_pos ⟨hd, h0⟩]
      simp only [e, hd, List.getLast_singleton]
      exact hd0
    · simp only [e, List.getLast_cons hd]
      exact ih hd
theorem cut_digs {ds : List Int} (h : Ok ds) : cut ds = digs (val ds).toNat := by
  rw [← cut_val ds]
  exact (digs_val (cut_ok h) (cut_last ds)).symm
theorem cut_snoc_zero (ds : List Int) : cut (ds ++ [0]) = cut ds := by
  induction ds with
  | nil => simp [cut]
  | cons d t ih => rw [List.cons_append, cut, cut, ih]
theorem cut_full {ds : List Int} (hl : ∀ h : ds ≠ [], ds.getLast h ≠ 0) : cut ds = ds := by
  induction ds with
  | nil => rfl
  | cons d t ih =>
    have ht : ∀ g : t ≠ [], t.getLast g ≠ 0 := fun g => by have := hl (by simp); rwa [List.getLast_cons g] at this
    rw [cut, ih ht]
    split
    · rename_i g
      exfalso
      have := hl (by simp)
      obtain ⟨rfl, rfl⟩ := g
      simp at this
    · rfl
theorem cut_take_zero {ds : List Int} {k : Nat} (hk : k < ds.length) (h : ds.getD k 0 = 0) : cut (ds.take (k + 1)) = cut (ds.take k) := by
  have e : ds.getD k 0 = ds[k] := by simp [List.getD, hk]
  rw [List.take_succ_eq_append_getElem hk, ← e, h, cut_snoc_zero]
theorem cut_take_full {ds : List Int} {k : Nat} (hk : k < ds.length) (h : ds.getD k 0 ≠ 0) : cut (ds.take (k + 1)) = ds.take (k + 1) := by
  have e : ds.getD k 0 = ds[k] := by simp [List.getD, hk]
  refine cut_full fun hne => ?_
  have e2 : (ds.take (k + 1)).getLast hne = ds[k] := by
    rw [List.getLast_eq_getElem, List.getElem_take]
    congr 1
    rw [List.length_take]; omega
  rw [e2, ← e]; exact h
theorem len_mono {x y : Nat} (h : (digs x).length < (digs y).length) : x < y := by
  rcases Nat.lt_or_ge x y with g | g
  · exact g
  · have h1 := len_le (n := x) (Nat.le_refl _)
    have := digs_len (Nat.lt_of_le_of_lt g h1)
    omega
theorem pow_nonneg (i : Nat) : (0 : Int) ≤ 1000000 ^ i := by
  have e : ((1000000 ^ i : Nat) : Int) = 1000000 ^ i := by rw [Int.natCast_pow]; rfl
  rw [← e]; exact Int.natCast_nonneg _
theorem split_at {ps : List Int} {i : Nat} (h : i < ps.length) : ps = ps.take i ++ ps.getD i 0 :: ps.drop (i + 1) := by
  have e : ps.getD i 0 = ps[i] := by simp [List.getD, h]
  rw [e, List.getElem_cons_drop, List.take_append_drop]
theorem top_lt {ps qs : List Int} (ha : Ok ps) (hb : Ok qs) {i : Nat} (h1 : i < ps.length) (h2 : i < qs.length) (hd : ps.drop (i + 1) = qs.drop (i + 1)) (h : ps.getD i 0 < qs.getD i 0) : val ps < val qs := by
  have e1 := congrArg val (split_at h1)
  have e2 := congrArg val (split_at h2)
  rw [val_append] at e1 e2
  simp only [val] at e1 e2
  rw [hd] at e1
  have l1 : (ps.take i).length = i := by rw [List.length_take]; omega
  have l2 : (qs.take i).length = i := by rw [List.length_take]; omega
  have v1 := val_lt (ha.take i)
  have v2 := val_nonneg (hb.take i)
  rw [l1] at e1 v1
  rw [l2] at e2
  have hm : (1000000 : Int) ^ i * (ps.getD i 0 + 1000000 * val (qs.drop (i + 1)) + 1) ≤ 1000000 ^ i * (qs.getD i 0 + 1000000 * val (qs.drop (i + 1))) := Int.mul_le_mul_of_nonneg_left (by omega) (pow_nonneg i)
  rw [Int.mul_add _ _ 1, Int.mul_one] at hm
  omega
theorem drop_step {ps qs : List Int} {i : Nat} (h1 : i < ps.length) (h2 : i < qs.length) (hd : ps.drop (i + 1) = qs.drop (i + 1)) (h : ps.getD i 0 = qs.getD i 0) : ps.drop i = qs.drop i := by
  have e1 : ps.getD i 0 = ps[i] := by simp [List.getD, h1]
  have e2 : qs.getD i 0 = qs[i] := by simp [List.getD, h2]
  rw [List.drop_eq_getElem_cons h1, List.drop_eq_getElem_cons h2, hd, ← e1, ← e2, h]
end Go.Proofs.YtokkaeaciigapaaDoor.Zd

