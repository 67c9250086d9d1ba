/-
  Bounds: narrower arguments give narrower results (no program).
  Conditions: those of each lemma.
-/
import Derived.Test.YtagbpehfieejcaaB2
set_option linter.unusedVariables false
set_option linter.unusedSimpArgs false
namespace Go.Proofs.Ytagbpehfieejcaa
open Go.RowKit Ev Wd

theorem insB_iff {x y : Bd} : insB x y = true ↔ (knB y = true → knB x = true ∧ y.lo ≤ x.lo ∧ x.hi ≤ y.hi) := by
  unfold insB
  cases knB y <;> cases knB x <;> simp
theorem kn_none : knB noneB = false := rfl
theorem ofB_mk {lo hi : Int} (h1 : -1152921504606846976 ≤ lo) (h2 : lo ≤ hi) (h3 : hi ≤ 1152921504606846976) : ofB lo hi = ⟨lo, hi, false⟩ ∧ knB (⟨lo, hi, false⟩ : Bd) = true := by
  have : knB (⟨lo, hi, false⟩ : Bd) = true := knB_iff.2 ⟨rfl, h1, h2, h3⟩
  exact ⟨by unfold ofB normB; rw [this]; rfl, this⟩
theorem ofB_kn {lo hi : Int} (h : knB (ofB lo hi) = true) : ofB lo hi = ⟨lo, hi, false⟩ ∧ -1152921504606846976 ≤ lo ∧ lo ≤ hi ∧ hi ≤ 1152921504606846976 := by
  unfold ofB normB at h
  cases hk : knB (⟨lo, hi, false⟩ : Bd) with
  | false => rw [hk] at h; cases h
  | true => exact ⟨by unfold ofB normB; rw [hk]; rfl, (knB_iff.1 hk).2⟩
/-- Two known bounds, and a bound made of them. -/
def op2 (a b : Bd) (f g : Int) : Bd := bif knB a && knB b then ofB f g else noneB
theorem op2_kn {a b : Bd} {f g : Int} (h : knB (op2 a b f g) = true) : knB a = true ∧ knB b = true ∧ op2 a b f g = ⟨f, g, false⟩ ∧ -1152921504606846976 ≤ f ∧ f ≤ g ∧ g ≤ 1152921504606846976 := by
  unfold op2 at h ⊢
  cases ha : knB a with
  | false => rw [ha] at h; cases h
  | true =>
    cases hb : knB b with
    | false => rw [ha, hb] at h; cases h
    | true =>
      rw [ha, hb] at h
      exact ⟨rfl, rfl, (ofB_kn h).1, (ofB_kn h).2⟩
theorem op2_mk {a b : Bd} {f g : Int} (ha : knB a = true) (hb : knB b = true) (h1 : -1152921504606846976 ≤ f) (h2 : f ≤ g) (h3 : g ≤ 1152921504606846976) : op2 a b f g = ⟨f, g, false⟩ ∧ knB (⟨f, g, false⟩ : Bd) = true := by
  unfold op2
  rw [ha, hb]
  exact ofB_mk h1 h2 h3
theorem iso2 {a b c d : Bd} {f g f' g' : Int} (hc : insB c a = true) (hd : insB d b = true)
    (h : knB a = true → knB b = true → knB c = true → knB d = true → a.lo ≤ c.lo → c.hi ≤ a.hi → b.lo ≤ d.lo → d.hi ≤ b.hi → f ≤ f' ∧ f' ≤ g' ∧ g' ≤ g) : insB (op2 c d f' g') (op2 a b f g) = true := insB_iff.2 fun hk => by
  obtain ⟨ka, kb, e, r1, r2, r3⟩ := op2_kn hk
  obtain ⟨kc, c1, c2⟩ := insB_iff.1 hc ka
  obtain ⟨kd, d1, d2⟩ := insB_iff.1 hd kb
  obtain ⟨s1, s2, s3⟩ := h ka kb kc kd c1 c2 d1 d2
  obtain ⟨e', k'⟩ := op2_mk (f := f') (g := g') kc kd (by omega) s2 (by omega)
  rw [e, e']
  exact ⟨k', s1, s3⟩
theorem minI_sp (a b : Int) : minI a b ≤ a ∧ minI a b ≤ b ∧ (minI a b = a ∨ minI a b = b) := by unfold minI; split <;> omega
theorem maxI_sp (a b : Int) : a ≤ maxI a b ∧ b ≤ maxI a b ∧ (maxI a b = a ∨ maxI a b = b) := by unfold maxI; split <;> omega
theorem insB_refl (a : Bd) : insB a a = true := insB_iff.2 fun h => ⟨h, Int.le_refl _, Int.le_refl _⟩
section
variable {a b c d : Bd} (hc : insB c a = true) (hd : insB d b = true)
include hc hd
theorem iso_add : insB (addB c d) (addB a b) = true := iso2 hc hd fun _ _ h3 h4 _ _ _ _ => by have := knB_iff.1 h3; have := knB_iff.1 h4; omega
theorem iso_min : insB (minB c d) (minB a b) = true := iso2 hc hd fun _ _ h3 h4 _ _ _ _ => by
  have := knB_iff.1 h3; have := knB_iff.1 h4
  have := minI_sp c.lo d.lo; have := minI_sp c.hi d.hi; have := minI_sp a.lo b.lo; have := minI_sp a.hi b.hi; omega
theorem iso_max : insB (maxB c d) (maxB a b) = true := iso2 hc hd fun _ _ h3 h4 _ _ _ _ => by
  have := knB_iff.1 h3; have := knB_iff.1 h4
  have := maxI_sp c.lo d.lo; have := maxI_sp c.hi d.hi; have := maxI_sp a.lo b.lo; have := maxI_sp a.hi b.hi; omega
theorem iso_hull : insB (hullB c d) (hullB a b) = true := iso2 hc hd fun _ _ h3 h4 _ _ _ _ => by
  have := knB_iff.1 h3; have := knB_iff.1 h4
  have := minI_sp c.lo d.lo; have := maxI_sp c.hi d.hi; have := minI_sp a.lo b.lo; have := maxI_sp a.hi b.hi; omega
end
theorem negB_op (a : Bd) : negB a = op2 a a (-a.hi) (-a.lo) := by unfold negB op2; cases knB a <;> rfl
theorem absB_op (a : Bd) : absB a = op2 a a (maxI (maxI 0 a.lo) (-a.hi)) (maxI (-a.lo) a.hi) := by unfold absB op2; cases knB a <;> rfl
theorem iso_neg {a c : Bd} (hc : insB c a = true) : insB (negB c) (negB a) = true := by
  rw [negB_op, negB_op]
  exact iso2 hc hc fun _ _ h3 _ _ _ _ _ => by have := knB_iff.1 h3; omega
theorem iso_sub {a b c d : Bd} (hc : insB c a = true) (hd : insB d b = true) : insB (subB c d) (subB a b) = true := iso_add hc (iso_neg hd)
theorem iso_abs {a c : Bd} (hc : insB c a = true) : insB (absB c) (absB a) = true := by
  rw [absB_op, absB_op]
  refine iso2 hc hc fun _ _ h3 _ _ _ _ _ => ?_
  have := knB_iff.1 h3
  have := maxI_sp 0 a.lo; have := maxI_sp (maxI 0 a.lo) (-a.hi); have := maxI_sp (-a.lo) a.hi
  have := maxI_sp 0 c.lo; have := maxI_sp (maxI 0 c.lo) (-c.hi); have := maxI_sp (-c.lo) c.hi
  omega
theorem abs_nonneg {a : Bd} (h : knB (absB a) = true) : 0 ≤ (absB a).lo := by
  rw [absB_op] at h ⊢
  rw [(op2_kn h).2.2.1]
  have := maxI_sp 0 a.lo; have := maxI_sp (maxI 0 a.lo) (-a.hi)
  simp only; omega

/-! Lower and upper ends. -/
def Lo (z : Bd) (f : Int) : Prop := knB z = true → z.lo ≤ f
def Hi (z : Bd) (g : Int) : Prop := knB z = true → g ≤ z.hi
theorem hull_kn {p q : Bd} (h : knB (hullB p q) = true) : knB p = true ∧ knB q = true ∧ (hullB p q).lo ≤ p.lo ∧ (hullB p q).lo ≤ q.lo ∧ p.hi ≤ (hullB p q).hi ∧ q.hi ≤ (hullB p q).hi := by
  obtain ⟨h1, h2, e, _⟩ := op2_kn (a := p) (b := q) h
  have e : hullB p q = ⟨minI p.lo q.lo, maxI p.hi q.hi, false⟩ := e
  rw [e]
  have := minI_sp p.lo q.lo; have := maxI_sp p.hi q.hi
  exact ⟨h1, h2, by simp only; omega, by simp only; omega, by simp only; omega, by simp only; omega⟩
theorem Lo.l {p q : Bd} {f : Int} (h : Lo p f) : Lo (hullB p q) f := fun hk => Int.le_trans (hull_kn hk).2.2.1 (h (hull_kn hk).1)
theorem Lo.r {p q : Bd} {f : Int} (h : Lo q f) : Lo (hullB p q) f := fun hk => Int.le_trans (hull_kn hk).2.2.2.1 (h (hull_kn hk).2.1)
theorem Hi.l {p q : Bd} {f : Int} (h : Hi p f) : Hi (hullB p q) f := fun hk => Int.le_trans (h (hull_kn hk).1) (hull_kn hk).2.2.2.2.1
theorem Hi.r {p q : Bd} {f : Int} (h : Hi q f) : Hi (hullB p q) f := fun hk => Int.le_trans (h (hull_kn hk).2.1) (hull_kn hk).2.2.2.2.2
theorem hull_le {x y z : Bd} (hx : insB x z = true) (hy : insB y z = true) : insB (hullB x y) z = true := insB_iff.2 fun hk => by
  obtain ⟨k1, a1, a2⟩ := insB_iff.1 hx hk
  obtain ⟨k2, b1, b2⟩ := insB_iff.1 hy hk
  have g1 := knB_iff.1 k1; have g2 := knB_iff.1 k2
  have := minI_sp x.lo y.lo; have := maxI_sp x.hi y.hi
  obtain ⟨e, k⟩ := op2_mk (f := minI x.lo y.lo) (g := maxI x.hi y.hi) k1 k2 (by omega) (by omega) (by omega)
  have e : hullB x y = ⟨minI x.lo y.lo, maxI x.hi y.hi, false⟩ := e
  rw [e]
  exact ⟨k, by simp only; omega, by simp only; omega⟩
theorem hull_has {x y : Bd} : insB x (hullB x y) = true := insB_iff.2 fun hk => ⟨(hull_kn hk).1, (hull_kn hk).2.2.1, (hull_kn hk).2.2.2.2.1⟩
theorem hull_has_r {x y : Bd} : insB y (hullB x y) = true := insB_iff.2 fun hk => ⟨(hull_kn hk).2.1, (hull_kn hk).2.2.2.1, (hull_kn hk).2.2.2.2.2⟩

/-! Quotients: p / d downward and upward. -/
def Q (p d : Int) : Bd := bif divE p d == 0 && divE (p + (d - 1)) d == 0 then ofB (divV p d) (divV (p + (d - 1)) d) else noneB
theorem quotB_Q (x n d : Int) : quotB x n d = Q (x * n) d := rfl
theorem ce_eq (p d : Int) (h : 1 ≤ d) : (p + (d - 1)) / d = -(-p / d) := by
  have h1 := Int.mul_ediv_add_emod (p + (d - 1)) d
  have h2 := Int.emod_nonneg (p + (d - 1)) (show d ≠ 0 by omega)
  have h3 := Int.emod_lt_of_pos (p + (d - 1)) (show 0 < d by omega)
  generalize (p + (d - 1)) / d = q at h1
  generalize (p + (d - 1)) % d = r at h1 h2 h3
  have e : -p = -q * d + (d - 1 - r) := by rw [Int.neg_mul, Int.mul_comm q d]; omega
  rw [e, Int.add_comm, Int.add_mul_ediv_right _ _ (show d ≠ 0 by omega), Int.ediv_eq_zero_of_lt (by omega) (by omega)]
  omega
theorem fl_le_ce (p d : Int) (h : 1 ≤ d) : p / d ≤ (p + (d - 1)) / d := Int.ediv_le_ediv (by omega) (by omega)
theorem Q_kn {p d : Int} (h : knB (Q p d) = true) : 1 ≤ d ∧ Q p d = ⟨p / d, (p + (d - 1)) / d, false⟩ ∧ -1152921504606846976 ≤ p / d ∧ (p + (d - 1)) / d ≤ 1152921504606846976 := by
  unfold Q at h
  cases h1 : (divE p d == 0) with
  | false => rw [h1] at h; cases h
  | true =>
    cases h2 : (divE (p + (d - 1)) d == 0) with
    | false => rw [h1, h2] at h; cases h
    | true =>
      rw [h1, h2] at h
      have h3 : divE p d = 0 := by simpa using h1
      have h4 : divE (p + (d - 1)) d = 0 := by simpa using h2
      have hd : 1 ≤ d := by
        unfold divE at h3
        by_cases hd : d < 1
        · rw [if_pos hd] at h3; cases h3
        · omega
      have e1 : divV p d = p / d := by
        unfold divE at h3; unfold divV
        rw [if_neg (by omega)] at h3 ⊢
        by_cases hb : p / d < -9223372036854775808 ∨ 9223372036854775807 < p / d
        · rw [if_pos hb] at h3; cases h3
        · rw [if_neg hb]
      have e2 : divV (p + (d - 1)) d = (p + (d - 1)) / d := by
        unfold divE at h4; unfold divV
        rw [if_neg (by omega)] at h4 ⊢
        by_cases hb : (p + (d - 1)) / d < -9223372036854775808 ∨ 9223372036854775807 < (p + (d - 1)) / d
        · rw [if_pos hb] at h4; cases h4
        · rw [if_neg hb]
      rw [e1, e2] at h
      obtain ⟨g1, g2, g3, g4⟩ := ofB_kn h
      refine ⟨hd, ?_, g2, g4⟩
      unfold Q
      rw [h1, h2, e1, e2]; exact g1
theorem Q_mk {p d : Int} (hd : 1 ≤ d) (h1 : -1152921504606846976 ≤ p / d) (h2 : (p + (d - 1)) / d ≤ 1152921504606846976) : Q p d = ⟨p / d, (p + (d - 1)) / d, false⟩ ∧ knB (Q p d) = true := by
  have hle := fl_le_ce p d hd
  have e1 : divE p d = 0 := by unfold divE; rw [if_neg (by omega), if_neg (by omega)]
  have e2 : divE (p + (d - 1)) d = 0 := by unfold divE; rw [if_neg (by omega), if_neg (by omega)]
  have e3 : divV p d = p / d := by unfold divV; rw [if_neg (by omega), if_neg (by omega)]
  have e4 : divV (p + (d - 1)) d = (p + (d - 1)) / d := by unfold divV; rw [if_neg (by omega), if_neg (by omega)]
  obtain ⟨g1, g2⟩ := ofB_mk h1 hle h2
  have e : Q p d = ⟨p / d, (p + (d - 1)) / d, false⟩ := by unfold Q; rw [e1, e2, e3, e4]; exact g1
  exact ⟨e, by rw [e]; exact g2⟩
theorem Q_in {p d : Int} {z : Bd} (hd : knB z = true → 1 ≤ d) (hl : Lo z (p / d)) (hh : Hi z ((p + (d - 1)) / d)) : insB (Q p d) z = true := insB_iff.2 fun hk => by
  have g := knB_iff.1 hk
  have h1 := hl hk; have h2 := hh hk
  obtain ⟨e, k⟩ := Q_mk (p := p) (hd hk) (by omega) (by omega)
  refine ⟨k, ?_, ?_⟩
  · rw [e]; exact h1
  · rw [e]; exact h2
theorem Q_lo {p d f : Int} (h : p / d ≤ f) : Lo (Q p d) f := fun hk => by rw [(Q_kn hk).2.1]; exact h
theorem Q_hi {p d g : Int} (h : g ≤ (p + (d - 1)) / d) : Hi (Q p d) g := fun hk => by rw [(Q_kn hk).2.1]; exact h
theorem Q_pos {p d : Int} (h : knB (Q p d) = true) : 1 ≤ d := (Q_kn h).1
theorem fl_mono {p q d : Int} (hd : 1 ≤ d) (h : p ≤ q) : p / d ≤ q / d := Int.ediv_le_ediv (by omega) h
theorem ce_mono {p q d : Int} (hd : 1 ≤ d) (h : p ≤ q) : (p + (d - 1)) / d ≤ (q + (d - 1)) / d := Int.ediv_le_ediv (by omega) (by omega)
/-- A product lies between those of the corners. -/
theorem corner_lo {a1 a2 b1 b2 x y : Int} (hx1 : a1 ≤ x) (hx2 : x ≤ a2) (hy1 : b1 ≤ y) (hy2 : y ≤ b2) : a1 * b1 ≤ x * y ∨ a1 * b2 ≤ x * y ∨ a2 * b1 ≤ x * y ∨ a2 * b2 ≤ x * y := by
  rcases Int.le_total 0 y with h | h
  · have h1 := Int.mul_le_mul_of_nonneg_right hx1 h
    rcases Int.le_total 0 a1 with g | g
    · exact .inl (Int.le_trans (Int.mul_le_mul_of_nonneg_left hy1 g) h1)
    · exact .inr (.inl (Int.le_trans (Int.mul_le_mul_of_nonpos_left g hy2) h1))
  · have h1 := Int.mul_le_mul_of_nonpos_right hx2 h
    rcases Int.le_total 0 a2 with g | g
    · exact .inr (.inr (.inl (Int.le_trans (Int.mul_le_mul_of_nonneg_left hy1 g) h1)))
    · exact .inr (.inr (.inr (Int.le_trans (Int.mul_le_mul_of_nonpos_left g hy2) h1)))
theorem corner_hi {a1 a2 b1 b2 x y : Int} (hx1 : a1 ≤ x) (hx2 : x ≤ a2) (hy1 : b1 ≤ y) (hy2 : y ≤ b2) : x * y ≤ a1 * b1 ∨ x * y ≤ a1 * b2 ∨ x * y ≤ a2 * b1 ∨ x * y ≤ a2 * b2 := by
  rcases Int.le_total 0 y with h | h
  · have h1 := Int.mul_le_mul_of_nonneg_right hx2 h
    rcases Int.le_total 0 a2 with g | g
    · exact .inr (.inr (.inr (Int.le_trans h1 (Int.mul_le_mul_of_nonneg_left hy2 g))))
    · exact .inr (.inr (.inl (Int.le_trans h1 (Int.mul_le_mul_of_nonpos_left g hy1))))
  · have h1 := Int.mul_le_mul_of_nonpos_right hx1 h
    rcases Int.le_total 0 a1 with g | g
    · exact .inr (.inl (Int.le_trans h1 (Int.mul_le_mul_of_nonneg_left hy2 g)))
    · exact .inl (Int.le_trans h1 (Int.mul_le_mul_of_nonpos_left g hy1))
theorem hull4_lo {p q r s : Bd} {f : Int} (h : Lo p f ∨ Lo q f ∨ Lo r f ∨ Lo s f) : Lo (hull4 p q r s) f := by
  rcases h with h | h | h | h
  · exact h.l.l
  · exact (Lo.r h).l
  · exact (Lo.l h).r
  · exact h.r.r
theorem hull4_hi {p q r s : Bd} {f : Int} (h : Hi p f ∨ Hi q f ∨ Hi r f ∨ Hi s f) : Hi (hull4 p q r s) f := by
  rcases h with h | h | h | h
  · exact h.l.l
  · exact (Hi.r h).l
  · exact (Hi.l h).r
  · exact h.r.r
theorem hull4_le {p q r s z : Bd} (h1 : insB p z = true) (h2 : insB q z = true) (h3 : insB r z = true) (h4 : insB s z = true) : insB (hull4 p q r s) z = true := hull_le (hull_le h1 h2) (hull_le h3 h4)
theorem or4 {A B C D A' B' C' D' : Prop} (h : A ∨ B ∨ C ∨ D) (a : A → A') (b : B → B') (c : C → C') (d : D → D') : A' ∨ B' ∨ C' ∨ D' := by
  rcases h with h | h | h | h
  · exact .inl (a h)
  · exact .inr (.inl (b h))
  · exact .inr (.inr (.inl (c h)))
  · exact .inr (.inr (.inr (d h)))
theorem Q_mul_in {a b : Bd} {x y n : Int} (hx1 : a.lo ≤ x) (hx2 : x ≤ a.hi) (hy1 : b.lo ≤ y) (hy2 : y ≤ b.hi) :
    insB (Q (x * y) n) (hull4 (Q (a.lo * b.lo) n) (Q (a.lo * b.hi) n) (Q (a.hi * b.lo) n) (Q (a.hi * b.hi) n)) = true := by
  have pos : knB (hull4 (Q (a.lo * b.lo) n) (Q (a.lo * b.hi) n) (Q (a.hi * b.lo) n) (Q (a.hi * b.hi) n)) = true → 1 ≤ n := fun h => Q_pos (hull_kn (hull_kn h).1).1
  by_cases hn : 1 ≤ n
  · exact Q_in pos (hull4_lo (or4 (corner_lo hx1 hx2 hy1 hy2) (fun h => Q_lo (fl_mono hn h)) (fun h => Q_lo (fl_mono hn h)) (fun h => Q_lo (fl_mono hn h)) (fun h => Q_lo (fl_mono hn h))))
      (hull4_hi (or4 (corner_hi hx1 hx2 hy1 hy2) (fun h => Q_hi (ce_mono hn h)) (fun h => Q_hi (ce_mono hn h)) (fun h => Q_hi (ce_mono hn h)) (fun h => Q_hi (ce_mono hn h))))
  · exact insB_iff.2 fun h => absurd (pos h) hn
theorem iso_mul {a b c d : Bd} {n : Int} (hc : insB c a = true) (hd : insB d b = true) : insB (mulB c d n) (mulB a b n) = true := by
  unfold mulB
  cases ka : knB a with
  | false => exact insB_iff.2 fun h => by cases h
  | true =>
    cases kb : knB b with
    | false => exact insB_iff.2 fun h => by cases h
    | true =>
      obtain ⟨kc, c1, c2⟩ := insB_iff.1 hc ka
      obtain ⟨kd, d1, d2⟩ := insB_iff.1 hd kb
      have gc := knB_iff.1 kc; have gd := knB_iff.1 kd
      rw [kc, kd]
      exact hull4_le (Q_mul_in c1 (by omega) d1 (by omega)) (Q_mul_in c1 (by omega) (by omega) d2) (Q_mul_in (by omega) c2 d1 (by omega)) (Q_mul_in (by omega) c2 (by omega) d2)
/-! Division. -/
theorem div_anti {p y z : Int} (hp : 0 ≤ p) (hy : 1 ≤ y) (h : y ≤ z) : p / z ≤ p / y := by
  have h0 : 0 ≤ p / z := Int.ediv_nonneg hp (by omega)
  refine (Int.le_ediv_iff_mul_le (show 0 < y by omega)).2 ?_
  have h1 := Int.mul_le_mul_of_nonneg_left h h0
  have h2 := Int.ediv_mul_le p (show z ≠ 0 by omega)
  omega
theorem div_mono {p y z : Int} (hp : p ≤ 0) (hy : 1 ≤ y) (h : y ≤ z) : p / y ≤ p / z := by
  have h0 : p / y ≤ 0 := by
    have := fl_mono (p := p) (q := 0) hy hp
    simpa using this
  refine (Int.le_ediv_iff_mul_le (show 0 < z by omega)).2 ?_
  have h1 := Int.mul_le_mul_of_nonpos_left h0 h
  have h2 := Int.ediv_mul_le p (show y ≠ 0 by omega)
  omega
theorem fl_corner {p y b1 b2 : Int} (h0 : 1 ≤ b1) (h1 : b1 ≤ y) (h2 : y ≤ b2) : p / b1 ≤ p / y ∨ p / b2 ≤ p / y := by
  rcases Int.le_total 0 p with h | h
  · exact .inr (div_anti h (by omega) h2)
  · exact .inl (div_mono h h0 h1)
theorem ce_corner {p y b1 b2 : Int} (h0 : 1 ≤ b1) (h1 : b1 ≤ y) (h2 : y ≤ b2) : (p + (y - 1)) / y ≤ (p + (b1 - 1)) / b1 ∨ (p + (y - 1)) / y ≤ (p + (b2 - 1)) / b2 := by
  rw [ce_eq p y (by omega), ce_eq p b1 h0, ce_eq p b2 (by omega)]
  rcases fl_corner (p := -p) h0 h1 h2 with h | h
  · exact .inl (by omega)
  · exact .inr (by omega)
theorem Q_div_in {a b : Bd} {x y n : Int} (hn : 1 ≤ n) (hb : 1 ≤ b.lo) (hx1 : a.lo ≤ x) (hx2 : x ≤ a.hi) (hy1 : b.lo ≤ y) (hy2 : y ≤ b.hi) : insB (Q (x * n) y) (div4 a b n) = true := by
  have m1 := Int.mul_le_mul_of_nonneg_right hx1 (show 0 ≤ n by omega)
  have m2 := Int.mul_le_mul_of_nonneg_right hx2 (show 0 ≤ n by omega)
  refine Q_in (fun _ => by omega) (hull4_lo ?_) (hull4_hi ?_)
  · have f1 := fl_mono (d := y) (by omega) m1
    rcases fl_corner (p := a.lo * n) hb hy1 hy2 with h | h
    · exact .inl (Q_lo (Int.le_trans h f1))
    · exact .inr (.inl (Q_lo (Int.le_trans h f1)))
  · have f2 := ce_mono (d := y) (by omega) m2
    rcases ce_corner (p := a.hi * n) hb hy1 hy2 with h | h
    · exact .inr (.inr (.inl (Q_hi (Int.le_trans f2 h))))
    · exact .inr (.inr (.inr (Q_hi (Int.le_trans f2 h))))
theorem iso_div4 {a b c d : Bd} {n : Int} (hn : 1 ≤ n) (hb : 1 ≤ b.lo) (kc : knB c = true) (kd : knB d = true) (c1 : a.lo ≤ c.lo) (c2 : c.hi ≤ a.hi) (d1 : b.lo ≤ d.lo) (d2 : d.hi ≤ b.hi) : insB (div4 c d n) (div4 a b n) = true := by
  have gc := knB_iff.1 kc; have gd := knB_iff.1 kd
  exact hull4_le (Q_div_in hn hb c1 (by omega) d1 (by omega)) (Q_div_in hn hb c1 (by omega) (by omega) d2) (Q_div_in hn hb (by omega) c2 d1 (by omega)) (Q_div_in hn hb (by omega) c2 (by omega) d2)
theorem neg_of {a : Bd} (h : knB a = true) : negB a = ⟨-a.hi, -a.lo, false⟩ ∧ knB (negB a) = true := by
  have g := knB_iff.1 h
  rw [negB_op]
  obtain ⟨e, k⟩ := op2_mk (a := a) (b := a) (f := -a.hi) (g := -a.lo) h h (by omega) (by omega) (by omega)
  rw [e]; exact ⟨rfl, k⟩
theorem has0 {b : Bd} (h : hasB b 0 = false) : knB b = true ∧ (1 ≤ b.lo ∨ b.hi ≤ -1) := by
  unfold hasB at h
  cases hk : knB b with
  | false => rw [hk] at h; cases h
  | true =>
    rw [hk] at h
    simp only [Bool.not_true, Bool.false_or, Bool.and_eq_false_iff, decide_eq_false_iff_not] at h
    exact ⟨rfl, by omega⟩
theorem no0 {b : Bd} (hk : knB b = true) (h : 1 ≤ b.lo ∨ b.hi ≤ -1) : hasB b 0 = false := by
  unfold hasB
  rw [hk]
  simp only [Bool.not_true, Bool.false_or, Bool.and_eq_false_iff, decide_eq_false_iff_not]
  omega
theorem iso_div {a b c d : Bd} {n : Int} (hc : insB c a = true) (hd : insB d b = true) : insB (divB c d n) (divB a b n) = true := by
  cases ka : knB a with
  | false => unfold divB; rw [ka]; exact insB_iff.2 fun h => by cases h
  | true =>
    cases hn : decide (n < 1) with
    | true => unfold divB; rw [ka, hn]; exact insB_iff.2 fun h => by cases h
    | false =>
      cases hb : hasB b 0 with
      | true => unfold divB; rw [ka, hn, hb]; exact insB_iff.2 fun h => by cases h
      | false =>
        have hn' := of_decide_eq_false hn
        obtain ⟨kb, hs⟩ := has0 hb
        obtain ⟨kc, c1, c2⟩ := insB_iff.1 hc ka
        obtain ⟨kd, d1, d2⟩ := insB_iff.1 hd kb
        have gb := knB_iff.1 kb; have gd := knB_iff.1 kd
        have hd0 : hasB d 0 = false := no0 kd (by omega)
        unfold divB
        rw [ka, kc, hn, hb, hd0]
        simp only [Bool.not_true, Bool.or_self, cond_false]
        rcases hs with hs | hs
        · rw [show decide (b.hi < 0) = false from decide_eq_false (by omega), show decide (d.hi < 0) = false from decide_eq_false (by omega)]
          exact iso_div4 (by omega) hs kc kd c1 c2 d1 d2
        · rw [show decide (b.hi < 0) = true from decide_eq_true (by omega), show decide (d.hi < 0) = true from decide_eq_true (by omega)]
          obtain ⟨ea, na⟩ := neg_of ka; obtain ⟨eb, nb⟩ := neg_of kb; obtain ⟨ec, nc⟩ := neg_of kc; obtain ⟨ed, nd⟩ := neg_of kd
          exact iso_div4 (by omega) (by rw [eb]; simp only; omega) nc nd (by rw [ea, ec]; simp only; omega) (by rw [ea, ec]; simp only; omega) (by rw [eb, ed]; simp only; omega) (by rw [eb, ed]; simp only; omega)
theorem Q_sca_in {a : Bd} {x n d : Int} (hx1 : a.lo ≤ x) (hx2 : x ≤ a.hi) : insB (Q (x * n) d) (hullB (Q (a.lo * n) d) (Q (a.hi * n) d)) = true := by
  have pos : knB (hullB (Q (a.lo * n) d) (Q (a.hi * n) d)) = true → 1 ≤ d := fun h => Q_pos (hull_kn h).1
  by_cases hd : 1 ≤ d
  · rcases Int.le_total 0 n with h | h
    · have m1 := Int.mul_le_mul_of_nonneg_right hx1 h; have m2 := Int.mul_le_mul_of_nonneg_right hx2 h
      exact Q_in pos (Lo.l (Q_lo (fl_mono hd m1))) (Hi.r (Q_hi (ce_mono hd m2)))
    · have m1 := Int.mul_le_mul_of_nonpos_right hx1 h; have m2 := Int.mul_le_mul_of_nonpos_right hx2 h
      exact Q_in pos (Lo.r (Q_lo (fl_mono hd m2))) (Hi.l (Q_hi (ce_mono hd m1)))
  · exact insB_iff.2 fun h => absurd (pos h) hd
theorem iso_sca {a c : Bd} {n d : Int} (hc : insB c a = true) : insB (scaB c n d) (scaB a n d) = true := by
  unfold scaB
  cases ka : knB a with
  | false => exact insB_iff.2 fun h => by cases h
  | true =>
    cases hn : inB n with
    | false => exact insB_iff.2 fun h => by cases h
    | true =>
      obtain ⟨kc, c1, c2⟩ := insB_iff.1 hc ka
      have gc := knB_iff.1 kc
      rw [kc]
      exact hull_le (Q_sca_in c1 (by omega)) (Q_sca_in (by omega) c2)
/-! Roots. -/
theorem isq_mono {N M : Nat} (h : N ≤ M) : isq N ≤ isq M := by
  rcases Nat.lt_or_ge (isq M) (isq N) with g | g
  · have h1 := (isq_spec N).1
    have h2 := (isq_spec M).2
    have h3 := Nat.mul_le_mul (show isq M + 1 ≤ isq N from g) (show isq M + 1 ≤ isq N from g)
    omega
  · exact g
theorem isqI_mono {x y n : Int} (hx : x ≤ y) : isqI x n ≤ isqI y n := by
  unfold isqI
  have : isq (x.toNat * n.toNat) ≤ isq (y.toNat * n.toNat) := isq_mono (Nat.mul_le_mul_right _ (by omega))
  exact_mod_cast this
theorem rootUp_ge (x n : Int) : isqI x n ≤ rootUp x n ∧ rootUp x n ≤ isqI x n + 1 := by
  unfold rootUp
  cases decide (isqI x n * isqI x n < x * n) <;> simp only [cond_true, cond_false] <;> omega
theorem rootUp_mono {x y n : Int} (hn : 0 ≤ n) (hx : x ≤ y) : rootUp x n ≤ rootUp y n := by
  have h1 := isqI_mono (n := n) hx
  have h2 := rootUp_ge x n; have h3 := rootUp_ge y n
  by_cases h : isqI x n = isqI y n
  · have h4 := Int.mul_le_mul_of_nonneg_right hx hn
    unfold rootUp
    rw [h]
    cases hx' : decide (isqI y n * isqI y n < x * n) with
    | false => cases decide (isqI y n * isqI y n < y * n) <;> simp only [cond_true, cond_false] <;> omega
    | true =>
      have := of_decide_eq_true hx'
      rw [show decide (isqI y n * isqI y n < y * n) = true from decide_eq_true (by omega)]
      simp only [cond_true]; omega
  · omega
theorem iso_root {a c : Bd} {n : Int} (hc : insB c a = true) (h0 : knB a = true → 0 ≤ a.lo) : insB (rootB c n) (rootB a n) = true := insB_iff.2 fun hk => by
  cases ka : knB a with
  | false => unfold rootB at hk; rw [ka] at hk; cases hk
  | true =>
    cases hn : decide (n < 1) with
    | true => unfold rootB at hk; rw [ka, hn] at hk; cases hk
    | false =>
      have hn' := of_decide_eq_false hn
      obtain ⟨kc, c1, c2⟩ := insB_iff.1 hc ka
      have ha0 := h0 ka
      have ga := knB_iff.1 ka; have gc := knB_iff.1 kc
      have e : ∀ b : Bd, knB b = true → 0 ≤ b.lo → rootB b n = ofB (isqI b.lo n) (rootUp b.hi n) := fun b kb hb => by
        have gb := knB_iff.1 kb
        unfold rootB
        rw [kb, hn, show decide (b.hi < 0) = false from decide_eq_false (by omega), show maxI b.lo 0 = b.lo by unfold maxI; split <;> omega]
        rfl
      rw [e a ka ha0] at hk ⊢
      rw [e c kc (by omega)]
      obtain ⟨q, q1, q2, q3⟩ := ofB_kn hk
      have m1 := isqI_mono (n := n) c1
      have m2 := rootUp_mono (n := n) (by omega) c2
      have m3 := isqI_mono (n := n) gc.2.2.1
      have m4 := rootUp_ge c.hi n
      obtain ⟨r, k⟩ := ofB_mk (lo := isqI c.lo n) (hi := rootUp c.hi n) (by omega) (by omega) (by omega)
      rw [q, r]
      exact ⟨k, m1, m2⟩
/-! The common part. -/
theorem norm_of {a : Bd} (h : knB a = true) : normB a = a := by unfold normB; rw [h]; rfl
theorem norm_no {a : Bd} (h : knB a = false) : normB a = noneB := by unfold normB; rw [h]; rfl
theorem ins_no {x a : Bd} (h : knB a = false) : insB x a = true := insB_iff.2 fun hk => by rw [h] at hk; cases hk
theorem cmp0 {a b : Bd} (ka : knB a = true) (kb : knB b = true) : (cmpB a b == 0) = true ↔ b.lo ≤ a.hi ∧ a.lo ≤ b.hi := by
  unfold cmpB
  rw [ka, kb]
  simp only [Bool.and_self, Bool.not_true, cond_false]
  by_cases h1 : a.hi < b.lo
  · rw [decide_eq_true h1]; simp; omega
  · rw [decide_eq_false h1]
    by_cases h2 : a.lo > b.hi
    · rw [decide_eq_true h2]; simp; omega
    · rw [decide_eq_false h2]; simp; omega
theorem meet_kn {a b : Bd} (ka : knB a = true) (kb : knB b = true) (h : meetO a b = true) : b.lo ≤ a.hi ∧ a.lo ≤ b.hi ∧ meetB a b = ⟨maxI a.lo b.lo, minI a.hi b.hi, false⟩ ∧ knB (meetB a b) = true := by
  have hc : (cmpB a b == 0) = true := by unfold meetO at h; rw [ka, kb] at h; simpa using h
  obtain ⟨h1, h2⟩ := (cmp0 ka kb).1 hc
  have ga := knB_iff.1 ka; have gb := knB_iff.1 kb
  have := maxI_sp a.lo b.lo; have := minI_sp a.hi b.hi
  obtain ⟨e, k⟩ := ofB_mk (lo := maxI a.lo b.lo) (hi := minI a.hi b.hi) (by omega) (by omega) (by omega)
  have e2 : meetB a b = ⟨maxI a.lo b.lo, minI a.hi b.hi, false⟩ := by unfold meetB; rw [ka, kb, hc]; exact e
  exact ⟨h1, h2, e2, by rw [e2]; exact k⟩
theorem meet_l {c d : Bd} (h : meetO c d = true) : insB (meetB c d) c = true := by
  cases kc : knB c with
  | false => exact ins_no kc
  | true =>
    cases kd : knB d with
    | false => unfold meetB; rw [kc, kd]; exact insB_refl c
    | true =>
      obtain ⟨_, _, e, k⟩ := meet_kn kc kd h
      have := maxI_sp c.lo d.lo; have := minI_sp c.hi d.hi
      exact insB_iff.2 fun _ => ⟨k, by rw [e]; simp only; omega, by rw [e]; simp only; omega⟩
theorem meet_r {c d : Bd} (h : meetO c d = true) : insB (meetB c d) d = true := by
  cases kd : knB d with
  | false => exact ins_no kd
  | true =>
    cases kc : knB c with
    | false => unfold meetB; rw [kc]; simp only [Bool.not_false, cond_true]; rw [norm_of kd]; exact insB_refl d
    | true =>
      obtain ⟨_, _, e, k⟩ := meet_kn kc kd h
      have := maxI_sp c.lo d.lo; have := minI_sp c.hi d.hi
      exact insB_iff.2 fun _ => ⟨k, by rw [e]; simp only; omega, by rw [e]; simp only; omega⟩
theorem ins_trans {x y z : Bd} (h1 : insB x y = true) (h2 : insB y z = true) : insB x z = true := insB_iff.2 fun hz => by
  obtain ⟨ky, a1, a2⟩ := insB_iff.1 h2 hz
  obtain ⟨kx, b1, b2⟩ := insB_iff.1 h1 ky
  exact ⟨kx, by omega, by omega⟩
theorem meet_well {a b c d : Bd} (hc : insB c a = true) (hd : insB d b = true) (h : meetO c d = true) : meetO a b = true := by
  cases ka : knB a with
  | false => unfold meetO; rw [ka]; rfl
  | true =>
    cases kb : knB b with
    | false => unfold meetO; rw [ka, kb]; rfl
    | true =>
      obtain ⟨kc, c1, c2⟩ := insB_iff.1 hc ka
      obtain ⟨kd, d1, d2⟩ := insB_iff.1 hd kb
      obtain ⟨e1, e2, _⟩ := meet_kn kc kd h
      unfold meetO
      rw [ka, kb, (cmp0 ka kb).2 (by omega)]; rfl
theorem meet_wide {a b c d : Bd} (hc : insB c a = true) (hd : insB d b = true) (h : meetO c d = true) : insB (meetB c d) (meetB a b) = true := by
  have hw := meet_well hc hd h
  have hl := ins_trans (meet_l h) hc
  have hr := ins_trans (meet_r h) hd
  cases ka : knB a with
  | false =>
    unfold meetB at hr ⊢
    rw [ka]
    simp only [Bool.not_false, cond_true]
    cases kb : knB b with
    | false => rw [norm_no kb]; exact ins_no kn_none
    | true => rw [norm_of kb]; exact hr
  | true =>
    cases kb : knB b with
    | false =>
      have e : meetB a b = a := by unfold meetB; rw [ka, kb]; rfl
      rw [e]; exact hl
    | true =>
      obtain ⟨_, _, e, k⟩ := meet_kn ka kb hw
      obtain ⟨km, m1, m2⟩ := insB_iff.1 hl ka
      obtain ⟨_, m3, m4⟩ := insB_iff.1 hr kb
      have := maxI_sp a.lo b.lo; have := minI_sp a.hi b.hi
      exact insB_iff.2 fun _ => ⟨km, by rw [e]; simp only; omega, by rw [e]; simp only; omega⟩
end Go.Proofs.Ytagbpehfieejcaa

