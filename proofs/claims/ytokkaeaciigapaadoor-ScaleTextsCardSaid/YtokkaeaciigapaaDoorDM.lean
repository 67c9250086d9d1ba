/-
  Dates: the days of years and months; a day has exactly one date, and the date behind it is the next one.
  Conditions: those of each theorem.
-/
set_option linter.unusedVariables false
set_option linter.unusedSimpArgs false
namespace Go.Proofs.YtokkaeaciigapaaDoor.Sc
/-- The days of the first years. -/
def dyV (y : Int) : Int := 365 * y + y / 4 - y / 100 + y / 400
/-- The first day of a year. -/
def nyV (y : Int) : Int := dyV (y - 1) - 730119
def lpP (y : Int) : Prop := y % 400 = 0 ∨ y % 4 = 0 ∧ ¬ y % 100 = 0
instance (y : Int) : Decidable (lpP y) := by unfold lpP; infer_instance
/-- The days of a year. -/
def ylV (y : Int) : Int := if lpP y then 366 else 365
/-- The days of a month. -/
def mlV (y m : Int) : Int := if m = 2 then (if lpP y then 29 else 28) else if m = 4 ∨ m = 6 ∨ m = 9 ∨ m = 11 then 30 else 31
/-- The days of the first k months. -/
def mbV (y : Int) : Nat → Int
  | 0 => 0
  | k + 1 => mbV y k + mlV y (k + 1)
theorem dy_step (y : Int) : dyV y - dyV (y - 1) = ylV y := by
  unfold ylV
  by_cases h : lpP y
  · rw [if_pos h]; unfold lpP at h; unfold dyV; omega
  · rw [if_neg h]; unfold lpP at h; unfold dyV; omega
theorem dy_ml (y : Int) : dyV y - dyV (y - 1) - 337 = mlV y 2 := by
  rw [dy_step]
  unfold ylV mlV
  rw [if_pos rfl]
  split <;> rfl
theorem yl_in (y : Int) : 365 ≤ ylV y ∧ ylV y ≤ 366 := by unfold ylV; split <;> omega
theorem ml_in (y m : Int) : 28 ≤ mlV y m ∧ mlV y m ≤ 31 := by unfold mlV; repeat' split <;> omega
theorem ny_step (y : Int) : nyV (y + 1) = nyV y + ylV y := by
  have := dy_step y
  unfold nyV
  rw [show y + 1 - 1 = y by omega]; omega
theorem ny_2000 : nyV 2000 = 0 := by decide
theorem ny_mono {a b : Int} (h : a ≤ b) : nyV a ≤ nyV b := by unfold nyV dyV; omega
theorem ny_in {y : Int} (h0 : -100000 ≤ y) (h1 : y ≤ 100000) : -50000000 ≤ nyV y ∧ nyV y ≤ 50000000 := by unfold nyV dyV; omega
theorem mb_in (y : Int) : ∀ k : Nat, 28 * (k : Int) ≤ mbV y k ∧ mbV y k ≤ 31 * (k : Int)
  | 0 => by simp [mbV]
  | k + 1 => by
    have := mb_in y k
    have := ml_in y (k + 1)
    simp only [mbV]; omega
theorem mb_12 (y : Int) : mbV y 12 = ylV y := by
  simp only [mbV, mlV, ylV]
  by_cases h : lpP y <;> simp [h] <;> decide
theorem mb_mono (y : Int) {a b : Nat} (h : a ≤ b) : mbV y a + 28 * ((b : Int) - a) ≤ mbV y b := by
  induction b with
  | zero => have : a = 0 := by omega
            subst this; omega
  | succ b ih =>
    by_cases e : a = b + 1
    · subst e; omega
    · have := ih (by omega)
      have := ml_in y (b + 1)
      simp only [mbV]; omega
/-- A date of a day. -/
def IsD (day y m d : Int) : Prop := 1 ≤ y ∧ y ≤ 9999 ∧ 1 ≤ m ∧ m ≤ 12 ∧ 1 ≤ d ∧ d ≤ mlV y m ∧ day = nyV y + mbV y (m - 1).toNat + d - 1
theorem isD_span {day y m d : Int} (h : IsD day y m d) : nyV y + mbV y (m - 1).toNat ≤ day ∧ day < nyV y + mbV y m.toNat ∧ nyV y ≤ day ∧ day < nyV (y + 1) := by
  obtain ⟨h1, h2, h3, h4, h5, h6, rfl⟩ := h
  obtain ⟨k, rfl⟩ : ∃ k : Nat, m = k + 1 := ⟨(m - 1).toNat, by omega⟩
  have e1 : ((k : Int) + 1 - 1).toNat = k := by omega
  have e2 : ((k : Int) + 1).toNat = k + 1 := by omega
  rw [e1, e2] at *
  have a := mb_in y k
  have b := mb_mono y (a := k + 1) (b := 12) (by omega)
  rw [mb_12] at b
  have c := ny_step y
  simp only [mbV] at *
  omega
theorem isD_uniq {day y m d y' m' d' : Int} (h : IsD day y m d) (h' : IsD day y' m' d') : y = y' ∧ m = m' ∧ d = d' := by
  have a := isD_span h
  have b := isD_span h'
  have ey : y = y' := by
    rcases Int.lt_trichotomy y y' with l | l | l
    · have := ny_mono (show y + 1 ≤ y' by omega); omega
    · exact l
    · have := ny_mono (show y' + 1 ≤ y by omega); omega
  subst ey
  obtain ⟨h1, h2, h3, h4, h5, h6, h7⟩ := h
  obtain ⟨_, _, g3, g4, g5, g6, g7⟩ := h'
  have em : m = m' := by
    rcases Int.lt_trichotomy m m' with l | l | l
    · have := mb_mono y (a := m.toNat) (b := (m' - 1).toNat) (by omega); omega
    · exact l
    · have := mb_mono y (a := m'.toNat) (b := (m - 1).toNat) (by omega); omega
  subst em
  exact ⟨rfl, rfl, by omega⟩
theorem isD_year {day : Int} : ∀ (k : Nat) (y : Int), 1 ≤ y → nyV y ≤ day → day < nyV (y + k) → ∃ z, y ≤ z ∧ z < y + k ∧ nyV z ≤ day ∧ day < nyV (z + 1)
  | 0, y, _, h1, h2 => by rw [show y + ((0 : Nat) : Int) = y by omega] at h2; omega
  | k + 1, y, h0, h1, h2 => by
    by_cases h : day < nyV (y + 1)
    · exact ⟨y, by omega, by omega, h1, h⟩
    · obtain ⟨z, z1, z2, z3, z4⟩ := isD_year (day := day) k (y + 1) (by omega) (by omega) (by rw [show y + 1 + (k : Int) = y + ((k + 1 : Nat) : Int) by omega]; exact h2)
      exact ⟨z, by omega, by omega, z3, z4⟩
theorem isD_month (y : Int) {r : Int} : ∀ (k : Nat), 0 ≤ r → r < mbV y k → ∃ m : Nat, m < k ∧ mbV y m ≤ r ∧ r < mbV y (m + 1)
  | 0, h0, h1 => by simp only [mbV] at h1; omega
  | k + 1, h0, h1 => by
    by_cases h : r < mbV y k
    · obtain ⟨m, a, b, c⟩ := isD_month y (r := r) k h0 h
      exact ⟨m, by omega, b, c⟩
    · exact ⟨k, by omega, by omega, h1⟩
theorem isD_ex {day : Int} (h0 : nyV 1 ≤ day) (h1 : day < nyV 10000) : ∃ y m d, IsD day y m d := by
  obtain ⟨y, a, b, c, d⟩ := isD_year 9999 1 (by omega) h0 h1
  have e := ny_step y
  have f := mb_12 y
  obtain ⟨m, g, h, i⟩ := isD_month y (r := day - nyV y) 12 (by omega) (by omega)
  refine ⟨y, m + 1, day - nyV y - mbV y m + 1, by omega, by omega, by omega, by omega, by omega, ?_, ?_⟩
  · simp only [mbV] at i; omega
  · rw [show ((m : Int) + 1 - 1).toNat = m by omega]; omega
def inD (day : Int) : Bool := decide (-730119 ≤ day) && decide (day < 2921940)
theorem inD_iff {day : Int} : inD day = true ↔ nyV 1 ≤ day ∧ day < nyV 10000 := by
  rw [show nyV 1 = -730119 from by decide, show nyV 10000 = 2921940 from by decide]
  simp [inD]
theorem inD_is {day y m d : Int} (h : IsD day y m d) : inD day = true := by
  have a := isD_span h
  obtain ⟨h1, h2, _⟩ := h
  have b := ny_mono h1
  have c := ny_mono (show y + 1 ≤ 10000 by omega)
  exact inD_iff.2 ⟨by omega, by omega⟩
open Classical in
/-- The date of a day; nothing where there is none. -/
noncomputable def dtV (day : Int) : Int × Int × Int := if h : ∃ t : Int × Int × Int, IsD day t.1 t.2.1 t.2.2 then Classical.choose h else (0, 0, 0)
noncomputable def dtY (day : Int) : Int := (dtV day).1
noncomputable def dtM (day : Int) : Int := (dtV day).2.1
noncomputable def dtD (day : Int) : Int := (dtV day).2.2
def dtE (day : Int) : Int := if inD day then 0 else 4
theorem dt_is {day : Int} (h : inD day = true) : IsD day (dtY day) (dtM day) (dtD day) := by
  obtain ⟨y, m, d, hd⟩ := isD_ex (inD_iff.1 h).1 (inD_iff.1 h).2
  have he : ∃ t : Int × Int × Int, IsD day t.1 t.2.1 t.2.2 := ⟨(y, m, d), hd⟩
  unfold dtY dtM dtD dtV
  rw [dif_pos he]
  exact Classical.choose_spec he
theorem dt_eq {day y m d : Int} (h : IsD day y m d) : dtY day = y ∧ dtM day = m ∧ dtD day = d := isD_uniq (dt_is (inD_is h)) h
theorem dt_no {day : Int} (h : inD day = false) : dtY day = 0 ∧ dtM day = 0 ∧ dtD day = 0 := by
  have hn : ¬ ∃ t : Int × Int × Int, IsD day t.1 t.2.1 t.2.2 := fun ⟨t, ht⟩ => by rw [inD_is ht] at h; cases h
  unfold dtY dtM dtD dtV
  rw [dif_neg hn]
  exact ⟨rfl, rfl, rfl⟩
/-- A date. -/
def okD (y m d : Int) : Bool := decide (1 ≤ y) && decide (y ≤ 9999) && decide (1 ≤ m) && decide (m ≤ 12) && decide (1 ≤ d) && decide (d ≤ mlV y m)
def dnV (y m d : Int) : Int := if okD y m d then nyV y + mbV y (m - 1).toNat + d - 1 else 0
def dnE (y m d : Int) : Int := if okD y m d then 0 else 4
theorem okD_iff {y m d : Int} : okD y m d = true ↔ 1 ≤ y ∧ y ≤ 9999 ∧ 1 ≤ m ∧ m ≤ 12 ∧ 1 ≤ d ∧ d ≤ mlV y m := by
  simp only [okD, Bool.and_eq_true, decide_eq_true_eq, and_assoc]
theorem isD_ok {day y m d : Int} (h : IsD day y m d) : okD y m d = true ∧ dnV y m d = day ∧ dnE y m d = 0 := by
  obtain ⟨h1, h2, h3, h4, h5, h6, h7⟩ := h
  have e : okD y m d = true := okD_iff.2 ⟨h1, h2, h3, h4, h5, h6⟩
  refine ⟨e, ?_, ?_⟩
  · unfold dnV; rw [if_pos e]; omega
  · unfold dnE; rw [if_pos e]
theorem ok_isD {y m d : Int} (h : okD y m d = true) : IsD (dnV y m d) y m d := by
  have g := okD_iff.1 h
  refine ⟨g.1, g.2.1, g.2.2.1, g.2.2.2.1, g.2.2.2.2.1, g.2.2.2.2.2, ?_⟩
  unfold dnV; rw [if_pos h]
/-- The date after another one. -/
theorem dt_next {day : Int} (h : inD day = true) (h' : inD (day + 1) = true) :
    dtY (day + 1) = dtY day ∧ dtM (day + 1) = dtM day ∧ dtD (day + 1) = dtD day + 1 ∨ dtD (day + 1) = 1 ∧ 28 ≤ dtD day ∧ (dtY (day + 1) = dtY day ∧ dtM (day + 1) = dtM day + 1 ∨ dtY (day + 1) = dtY day + 1 ∧ dtM (day + 1) = 1 ∧ dtM day = 12 ∧ dtD day = 31) := by
  have a := dt_is h
  generalize dtY day = y at *
  generalize dtM day = m at *
  generalize dtD day = d at *
  have sp := isD_span a
  obtain ⟨h1, h2, h3, h4, h5, h6, h7⟩ := a
  by_cases hd : d < mlV y m
  · obtain ⟨e1, e2, e3⟩ := dt_eq (day := day + 1) (y := y) (m := m) (d := d + 1) ⟨h1, h2, h3, h4, by omega, by omega, by omega⟩
    exact .inl ⟨e1, e2, e3⟩
  · have ed : d = mlV y m := by omega
    have ml := ml_in y m
    obtain ⟨k, rfl⟩ : ∃ k : Nat, m = k + 1 := ⟨(m - 1).toNat, by omega⟩
    rw [show ((k : Int) + 1 - 1).toNat = k by omega] at h7
    by_cases hm : k + 1 < 12
    · obtain ⟨e1, e2, e3⟩ := dt_eq (day := day + 1) (y := y) (m := (k : Int) + 1 + 1) (d := 1) ⟨h1, h2, by omega, by omega, by omega, by have := ml_in y ((k : Int) + 1 + 1); omega, by
        rw [show ((k : Int) + 1 + 1 - 1).toNat = k + 1 by omega]
        simp only [mbV]; omega⟩
      exact .inr ⟨e3, by omega, .inl ⟨e1, e2⟩⟩
    · have ek : k = 11 := by omega
      subst ek
      have em : mlV y (((11 : Nat) : Int) + 1) = 31 := by unfold mlV; simp
      have e12 := mb_12 y
      have es : mbV y 12 = mbV y 11 + mlV y (((11 : Nat) : Int) + 1) := rfl
      have st := ny_step y
      have hy : y + 1 ≤ 9999 := by
        have := (inD_iff.1 h').2
        by_cases c : y + 1 ≤ 9999
        · exact c
        · have : y = 9999 := by omega
          subst this
          rw [show (9999 : Int) + 1 = 10000 from rfl] at st; omega
      obtain ⟨e1, e2, e3⟩ := dt_eq (day := day + 1) (y := y + 1) (m := 1) (d := 1) ⟨by omega, hy, by omega, by omega, by omega, by have := ml_in (y + 1) 1; omega, by
        rw [show ((1 : Int) - 1).toNat = 0 by omega]
        simp only [mbV]; omega⟩
      exact .inr ⟨e3, by omega, .inr ⟨e1, e2, by omega, by omega⟩⟩
end Go.Proofs.YtokkaeaciigapaaDoor.Sc

