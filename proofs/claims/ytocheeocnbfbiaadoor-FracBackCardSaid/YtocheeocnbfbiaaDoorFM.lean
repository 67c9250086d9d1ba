/-
  The numbers of package frac: lowest terms, the limits, the four operations; what follows of sums and products.
  Conditions: those of each lemma.
-/
import Derived.Test.YtocheeocnbfbiaaDoorNumS
import Derived.Test.YtocheeocnbfbiaaDoorNumG
namespace Go.Proofs.YtocheeocnbfbiaaDoor
open Wd

/-- The numerator and the denominator of N/D in lowest terms. -/
def redN (N D : Int) : Int := D.sign * (N / Int.gcd N D)
def redD (N D : Int) : Int := D.sign * (D / Int.gcd N D)

theorem red_unique {n d N D : Int} (hd : 0 < d) (hc : Int.gcd n d = 1) (hD : D ≠ 0) (h : n * D = N * d) : redN N D = n ∧ redD N D = d := by
  have h1 : d ∣ n * D := ⟨N, by rw [h, Int.mul_comm]⟩
  have h2 : d ∣ D := by
    have h2 := Int.natAbs_dvd_natAbs.2 h1
    rw [Int.natAbs_mul] at h2
    have := Nat.Coprime.dvd_of_dvd_mul_left (k := d.natAbs) (m := n.natAbs) (n := D.natAbs) (Nat.Coprime.symm hc) h2
    exact Int.natAbs_dvd_natAbs.1 this
  obtain ⟨k, rfl⟩ := h2
  have hk : k ≠ 0 := by intro h0; subst h0; simp at hD
  have h3 : N = n * k := by
    have : d * (n * k) = d * N := by grind
    exact (Int.eq_of_mul_eq_mul_left (by omega) this).symm
  subst h3
  have hg : (Int.gcd (n * k) (d * k) : Int) = k.natAbs := by
    rw [Int.gcd_mul_right, hc]; simp
  unfold redN redD
  rw [hg]
  rcases Int.lt_or_gt_of_ne hk with hk0 | hk0
  · have e : (k.natAbs : Int) = -k := by omega
    have s : (d * k).sign = -1 := by rw [Int.sign_mul, Int.sign_eq_one_of_pos hd, Int.sign_eq_neg_one_of_neg hk0]; rfl
    rw [e, s, Int.ediv_neg, Int.ediv_neg, Int.mul_ediv_cancel _ hk, Int.mul_ediv_cancel _ hk]
    omega
  · have e : (k.natAbs : Int) = k := by omega
    have s : (d * k).sign = 1 := by rw [Int.sign_mul, Int.sign_eq_one_of_pos hd, Int.sign_eq_one_of_pos hk0]; rfl
    rw [e, s, Int.mul_ediv_cancel _ hk, Int.mul_ediv_cancel _ hk]
    omega
theorem red_is {N D : Int} (hD : D ≠ 0) : 0 < redD N D ∧ Int.gcd (redN N D) (redD N D) = 1 ∧ redN N D * D = N * redD N D := by
  have hg : 0 < Int.gcd N D := Int.gcd_pos_of_ne_zero_right _ hD
  obtain ⟨a, ha⟩ := Int.gcd_dvd_left N D
  obtain ⟨b, hb⟩ := Int.gcd_dvd_right N D
  have hc := Int.gcd_ediv_gcd_ediv_gcd hg
  generalize hG : (Int.gcd N D : Int) = g at *
  have hg0 : 0 < g := by omega
  have ea : N / g = a := by rw [ha]; exact Int.mul_ediv_cancel_left _ (by omega)
  have eb : D / g = b := by rw [hb]; exact Int.mul_ediv_cancel_left _ (by omega)
  unfold redN redD
  rw [hG, ea, eb]
  rw [ea, eb] at hc
  rcases Int.lt_or_gt_of_ne hD with h | h
  · have hb0 : b < 0 := by
      rcases Int.lt_or_le b 0 with h0 | h0
      · exact h0
      · have := Int.mul_nonneg (Int.le_of_lt hg0) h0; omega
    rw [Int.sign_eq_neg_one_of_neg h]
    refine ⟨by omega, by simpa using hc, ?_⟩
    rw [ha, hb]; grind
  · have hb0 : 0 < b := by
      rcases Int.lt_or_le 0 b with h0 | h0
      · exact h0
      · have := Int.mul_nonneg (Int.le_of_lt hg0) (show 0 ≤ -b by omega); have e : g * -b = -(g*b) := by grind
        omega
    rw [Int.sign_eq_one_of_pos h]
    refine ⟨by omega, by simpa using hc, ?_⟩
    rw [ha, hb]; grind

theorem red_neg (N D : Int) (hD : D ≠ 0) : redN (-N) (-D) = redN N D ∧ redD (-N) (-D) = redD N D := by
  obtain ⟨h1, h2, h3⟩ := red_is (N := N) hD
  exact red_unique h1 h2 (by omega) (by rw [Int.mul_neg, Int.neg_mul, h3])

/-- Are numerator and denominator within their limits? -/
def frOk (n d : Int) : Bool := decide (-1152921504606846976 ≤ n ∧ n ≤ 1152921504606846976 ∧ 1 ≤ d ∧ d ≤ 1152921504606846976)
theorem frOk_iff {n d : Int} : frOk n d = true ↔ (-1152921504606846976 ≤ n ∧ n ≤ 1152921504606846976 ∧ 1 ≤ d ∧ d ≤ 1152921504606846976) := by simp [frOk]
/-- A valid number. -/
def Fv (n d : Int) : Prop := (-1152921504606846976 ≤ n ∧ n ≤ 1152921504606846976 ∧ 1 ≤ d ∧ d ≤ 1152921504606846976) ∧ Int.gcd n d = 1
/-- The error of Check. -/
def chkV (n d : Int) : Int := if frOk n d = true then (if 1 < Int.gcd n d then 3 else 0) else 4
theorem chkV_zero {n d : Int} : chkV n d = 0 ↔ Fv n d := by
  unfold chkV Fv
  by_cases h : frOk n d = true
  · have h2 := frOk_iff.1 h
    have h3 : 0 < Int.gcd n d := Int.gcd_pos_of_ne_zero_right _ (by omega)
    rw [if_pos h]
    split <;> omega
  · rw [if_neg h]
    have h2 := fun x => h (frOk_iff.2 x)
    constructor
    · omega
    · rintro ⟨h3, _⟩; exact absurd h3 h2
theorem chkV_bd (n d : Int) : chkV n d = 0 ∨ chkV n d = 3 ∨ chkV n d = 4 := by
  unfold chkV; split
  · split <;> omega
  · omega
def chk2 (a b c d : Int) : Int := if chkV a b = 0 then chkV c d else chkV a b
theorem chk2_zero {a b c d : Int} : chk2 a b c d = 0 ↔ Fv a b ∧ Fv c d := by
  unfold chk2
  rw [← chkV_zero, ← chkV_zero]
  split <;> omega
theorem chk2_bd (a b c d : Int) : chk2 a b c d = 0 ∨ chk2 a b c d = 3 ∨ chk2 a b c d = 4 := by
  unfold chk2; split
  · exact chkV_bd _ _
  · exact chkV_bd _ _
def limA (n d : Int) : Int := if frOk n d = true then n else 0
def limB (n d : Int) : Int := if frOk n d = true then d else 0
def limE (n d : Int) : Int := if frOk n d = true then 0 else 2
def lowA (N D : Int) : Int := limA (redN N D) (redD N D)
def lowB (N D : Int) : Int := limB (redN N D) (redD N D)
def lowE (N D : Int) : Int := limE (redN N D) (redD N D)
theorem lim_no {n d : Int} (h : ¬ (-1152921504606846976 ≤ n ∧ n ≤ 1152921504606846976 ∧ 1 ≤ d ∧ d ≤ 1152921504606846976)) : limA n d = 0 ∧ limB n d = 0 ∧ limE n d = 2 := by
  have h2 : ¬ frOk n d = true := fun x => h (frOk_iff.1 x)
  unfold limA limB limE
  rw [if_neg h2, if_neg h2, if_neg h2]; exact ⟨rfl, rfl, rfl⟩
theorem lim_yes {n d : Int} (h : -1152921504606846976 ≤ n ∧ n ≤ 1152921504606846976 ∧ 1 ≤ d ∧ d ≤ 1152921504606846976) : limA n d = n ∧ limB n d = d ∧ limE n d = 0 := by
  have h2 : frOk n d = true := frOk_iff.2 h
  unfold limA limB limE
  rw [if_pos h2, if_pos h2, if_pos h2]; exact ⟨rfl, rfl, rfl⟩
/-- A valid number with the value N/D is what comes of N/D. -/
theorem low_eq {n d N D : Int} (hD : D ≠ 0) (hv : Fv n d) (h : n * D = N * d) : lowA N D = n ∧ lowB N D = d ∧ lowE N D = 0 := by
  obtain ⟨hr, hc⟩ := hv
  obtain ⟨h1, h2⟩ := red_unique (by omega) hc hD h
  unfold lowA lowB lowE
  rw [h1, h2]
  exact lim_yes hr
theorem low_ok {N D : Int} (hD : D ≠ 0) (h : lowE N D = 0) : Fv (lowA N D) (lowB N D) ∧ lowA N D * D = N * lowB N D := by
  obtain ⟨h1, h2, h3⟩ := red_is (N := N) hD
  unfold lowE at h
  by_cases hr : -1152921504606846976 ≤ redN N D ∧ redN N D ≤ 1152921504606846976 ∧ 1 ≤ redD N D ∧ redD N D ≤ 1152921504606846976
  · obtain ⟨e1, e2, e3⟩ := lim_yes hr
    unfold lowA lowB
    rw [e1, e2]
    exact ⟨⟨hr, h2⟩, h3⟩
  · have := (lim_no hr).2.2
    omega
theorem low_bad {N D : Int} (h : lowE N D ≠ 0) : lowA N D = 0 ∧ lowB N D = 0 ∧ lowE N D = 2 := by
  unfold lowA lowB lowE at *
  by_cases hr : -1152921504606846976 ≤ redN N D ∧ redN N D ≤ 1152921504606846976 ∧ 1 ≤ redD N D ∧ redD N D ≤ 1152921504606846976
  · exact absurd (lim_yes hr).2.2 h
  · exact lim_no hr
theorem low_lim {n d N D : Int} (hd : 0 < d) (hc : Int.gcd n d = 1) (hD : D ≠ 0) (h : n * D = N * d) : lowA N D = limA n d ∧ lowB N D = limB n d ∧ lowE N D = limE n d := by
  obtain ⟨h1, h2⟩ := red_unique hd hc hD h
  unfold lowA lowB lowE
  rw [h1, h2]; exact ⟨rfl, rfl, rfl⟩

/-! The four operations. -/
theorem gcd_prod {a b c : Int} (h1 : Int.gcd a c = 1) (h2 : Int.gcd b c = 1) : Int.gcd (a * b) c = 1 := by
  rw [Int.gcd_mul_right_left_of_gcd_eq_one h1] at *
  exact h2
theorem gcd_prod_r {a b c : Int} (h1 : Int.gcd c a = 1) (h2 : Int.gcd c b = 1) : Int.gcd c (a * b) = 1 := by
  rw [Int.gcd_comm]
  exact gcd_prod (by rw [Int.gcd_comm]; exact h1) (by rw [Int.gcd_comm]; exact h2)
theorem gcd_part {a b k l : Int} (h : Int.gcd (a * k) (b * l) = 1) : Int.gcd a b = 1 := by
  have h1 : Int.gcd a b ∣ Int.gcd (a * k) (b * l) := Int.dvd_gcd (Int.dvd_mul_of_dvd_left (Int.gcd_dvd_left a b)) (Int.dvd_mul_of_dvd_left (Int.gcd_dvd_right a b))
  rw [h] at h1
  exact Nat.dvd_one.1 h1

theorem mul_red {a b c d : Int} (h1 : Fv a b) (h2 : Fv c d) :
    0 < (Int.gcd a d : Int) ∧ 0 < (Int.gcd c b : Int) ∧ redN (a * c) (b * d) = a / Int.gcd a d * (c / Int.gcd c b) ∧ redD (a * c) (b * d) = b / Int.gcd c b * (d / Int.gcd a d) := by
  obtain ⟨⟨_, _, b1, _⟩, hg1⟩ := h1
  obtain ⟨⟨_, _, d1, _⟩, hg2⟩ := h2
  have l0 : 0 < Int.gcd a d := Int.gcd_pos_of_ne_zero_right _ (by omega)
  have r0 : 0 < Int.gcd c b := Int.gcd_pos_of_ne_zero_right _ (by omega)
  have hl := Int.gcd_ediv_gcd_ediv_gcd l0
  have hr := Int.gcd_ediv_gcd_ediv_gcd r0
  obtain ⟨x, hx⟩ := Int.gcd_dvd_left a d
  obtain ⟨y, hy⟩ := Int.gcd_dvd_right a d
  obtain ⟨z, hz⟩ := Int.gcd_dvd_left c b
  obtain ⟨t, ht⟩ := Int.gcd_dvd_right c b
  generalize hL : (Int.gcd a d : Int) = L at *
  generalize hR : (Int.gcd c b : Int) = R at *
  have L0 : 0 < L := by omega
  have R0 : 0 < R := by omega
  clear hL hR l0 r0
  subst hx hy hz ht
  rw [Int.mul_ediv_cancel_left _ (by omega), Int.mul_ediv_cancel_left _ (by omega)] at hl hr
  rw [Int.mul_ediv_cancel_left _ (by omega), Int.mul_ediv_cancel_left _ (by omega), Int.mul_ediv_cancel_left _ (by omega), Int.mul_ediv_cancel_left _ (by omega)]
  have t0 : 0 < t := by
    rcases Int.lt_or_le 0 t with h | h
    · exact h
    · have := Int.mul_nonneg (Int.le_of_lt R0) (show 0 ≤ -t by omega); have e : R * -t = -(R * t) := by grind
      omega
  have y0 : 0 < y := by
    rcases Int.lt_or_le 0 y with h | h
    · exact h
    · have := Int.mul_nonneg (Int.le_of_lt L0) (show 0 ≤ -y by omega); have e : L * -y = -(L * y) := by grind
      omega
  refine ⟨L0, R0, red_unique (Int.mul_pos t0 y0) ?_ (Int.ne_of_gt (Int.mul_pos (by omega) (by omega))) (by grind)⟩
  have g1 : Int.gcd x t = 1 := gcd_part (k := L) (l := R) (by rw [Int.mul_comm x, Int.mul_comm t]; exact hg1)
  have g2 : Int.gcd z y = 1 := gcd_part (k := R) (l := L) (by rw [Int.mul_comm z, Int.mul_comm y]; exact hg2)
  exact gcd_prod (gcd_prod_r g1 hl) (gcd_prod_r hr g2)

theorem gcd_emod_left (s c : Int) : Int.gcd (s % c) c = Int.gcd s c := by
  have : s = s % c + c * (s / c) := (Int.emod_add_mul_ediv s c).symm
  conv => rhs; rw [this]
  exact (Int.gcd_add_mul_left_left c (s % c) (s / c)).symm
theorem add_red {a b c d : Int} (h1 : Fv a b) (h2 : Fv c d) :
    0 < (Int.gcd b d : Int) ∧ 0 < (Int.gcd (a * (d / Int.gcd b d) + c * (b / Int.gcd b d)) (Int.gcd b d) : Int) ∧
    redN (a * d + c * b) (b * d) = (a * (d / Int.gcd b d) + c * (b / Int.gcd b d)) / Int.gcd (a * (d / Int.gcd b d) + c * (b / Int.gcd b d)) (Int.gcd b d) ∧
    redD (a * d + c * b) (b * d) = b / Int.gcd b d * (d / Int.gcd (a * (d / Int.gcd b d) + c * (b / Int.gcd b d)) (Int.gcd b d)) := by
  obtain ⟨⟨_, _, b1, _⟩, hg1⟩ := h1
  obtain ⟨⟨_, _, d1, _⟩, hg2⟩ := h2
  have l0 : 0 < Int.gcd b d := Int.gcd_pos_of_ne_zero_right _ (by omega)
  have hl := Int.gcd_ediv_gcd_ediv_gcd l0
  obtain ⟨p, hp⟩ := Int.gcd_dvd_left b d
  obtain ⟨q, hq⟩ := Int.gcd_dvd_right b d
  generalize hL : (Int.gcd b d : Int) = L at *
  have L0 : 0 < L := by omega
  clear hL l0
  subst hp hq
  rw [Int.mul_ediv_cancel_left _ (by omega), Int.mul_ediv_cancel_left _ (by omega)] at hl
  rw [Int.mul_ediv_cancel_left _ (by omega), Int.mul_ediv_cancel_left _ (by omega)]
  generalize hs : a * q + c * p = s
  have r0 : 0 < Int.gcd s L := Int.gcd_pos_of_ne_zero_right _ (by omega)
  have hr := Int.gcd_ediv_gcd_ediv_gcd r0
  obtain ⟨t, ht⟩ := Int.gcd_dvd_left s L
  obtain ⟨u, hu⟩ := Int.gcd_dvd_right s L
  generalize hG : (Int.gcd s L : Int) = G at *
  have G0 : 0 < G := by omega
  clear hG r0
  subst hu
  subst ht
  rw [Int.mul_ediv_cancel_left _ (by omega), Int.mul_ediv_cancel_left _ (by omega)] at hr
  rw [Int.mul_ediv_cancel_left _ (by omega), show G * u * q = G * (u * q) by grind, Int.mul_ediv_cancel_left _ (by omega)]
  have pos : ∀ x y : Int, 0 < x → 1 ≤ x * y → 0 < y := by
    intro x y hx hy
    rcases Int.lt_or_le 0 y with h | h
    · exact h
    · have := Int.mul_nonneg (Int.le_of_lt hx) (show 0 ≤ -y by omega); have e : x * -y = -(x * y) := by grind
      omega
  have p0 : 0 < p := pos _ _ L0 b1
  have q0 : 0 < q := pos _ _ L0 d1
  have u0 : 0 < u := pos _ _ G0 (by omega)
  have gp : Int.gcd t p = 1 := by
    apply gcd_part (k := G) (l := 1)
    rw [Int.mul_comm t, ← hs, Int.mul_one, Int.gcd_add_mul_right_left]
    refine gcd_prod ?_ (by rw [Int.gcd_comm]; exact hl)
    exact gcd_part (k := 1) (l := G * u) (by rw [Int.mul_one, Int.mul_comm p]; exact hg1)
  have gq : Int.gcd t q = 1 := by
    apply gcd_part (k := G) (l := 1)
    rw [Int.mul_comm t, ← hs, Int.mul_one, Int.add_comm, Int.gcd_add_mul_right_left]
    refine gcd_prod ?_ hl
    exact gcd_part (k := 1) (l := G * u) (by rw [Int.mul_one, Int.mul_comm q]; exact hg2)
  refine ⟨L0, G0, red_unique (Int.mul_pos p0 (Int.mul_pos u0 q0)) (gcd_prod_r gp (gcd_prod_r hr gq)) (Int.ne_of_gt (Int.mul_pos (by omega) (by rw [← Int.mul_assoc]; omega))) ?_⟩
  grind

def addA (a b c d : Int) : Int := if chk2 a b c d = 0 then lowA (a * d + c * b) (b * d) else 0
def addB (a b c d : Int) : Int := if chk2 a b c d = 0 then lowB (a * d + c * b) (b * d) else 0
def addE (a b c d : Int) : Int := if chk2 a b c d = 0 then lowE (a * d + c * b) (b * d) else chk2 a b c d
def mulA (a b c d : Int) : Int := if chk2 a b c d = 0 then lowA (a * c) (b * d) else 0
def mulB (a b c d : Int) : Int := if chk2 a b c d = 0 then lowB (a * c) (b * d) else 0
def mulE (a b c d : Int) : Int := if chk2 a b c d = 0 then lowE (a * c) (b * d) else chk2 a b c d
def divfA (a b c d : Int) : Int := if chk2 a b c d = 0 then (if c = 0 then 0 else lowA (a * d) (b * c)) else 0
def divfB (a b c d : Int) : Int := if chk2 a b c d = 0 then (if c = 0 then 0 else lowB (a * d) (b * c)) else 0
def divfE (a b c d : Int) : Int := if chk2 a b c d = 0 then (if c = 0 then 1 else lowE (a * d) (b * c)) else chk2 a b c d
def mkA (n d : Int) : Int := if d = 0 then 0 else lowA n d
def mkB (n d : Int) : Int := if d = 0 then 0 else lowB n d
def mkE (n d : Int) : Int := if d = 0 then 1 else lowE n d
def cmpfV (a b c d : Int) : Int := if chk2 a b c d = 0 then cmpI (a * d) (c * b) else 0

theorem gcd_neg_l (n d : Int) : Int.gcd (-n) d = Int.gcd n d := Int.neg_gcd
theorem Fv.neg {n d : Int} (h : Fv n d) : Fv (-n) d := by
  obtain ⟨h1, h2⟩ := h
  exact ⟨by omega, by rw [gcd_neg_l]; exact h2⟩
theorem chkV_neg (n d : Int) : chkV (-n) d = chkV n d := by
  unfold chkV
  have e : frOk (-n) d = frOk n d := by
    unfold frOk
    exact decide_eq_decide.2 ⟨fun h => by omega, fun h => by omega⟩
  rw [e, gcd_neg_l]
theorem chk2_neg (a b c d : Int) : chk2 a b (-c) d = chk2 a b c d := by unfold chk2; rw [chkV_neg]
theorem Fv.pos {n d : Int} (h : Fv n d) : 0 < d := by obtain ⟨h1, h2⟩ := h; omega
theorem Fv.bd {n d : Int} (h : Fv n d) : -1152921504606846976 ≤ n ∧ n ≤ 1152921504606846976 ∧ 1 ≤ d ∧ d ≤ 1152921504606846976 := h.1
theorem mul_ne {a b : Int} (ha : 0 < a) (hb : 0 < b) : a * b ≠ 0 := Int.ne_of_gt (Int.mul_pos ha hb)

theorem add_ok {a b c d : Int} (h : addE a b c d = 0) : Fv a b ∧ Fv c d ∧ Fv (addA a b c d) (addB a b c d) ∧ addA a b c d * (b * d) = (a * d + c * b) * addB a b c d := by
  unfold addE at h
  by_cases h0 : chk2 a b c d = 0
  · rw [if_pos h0] at h
    obtain ⟨h1, h2⟩ := chk2_zero.1 h0
    obtain ⟨h3, h4⟩ := low_ok (mul_ne h1.pos h2.pos) h
    unfold addA addB
    rw [if_pos h0, if_pos h0]
    exact ⟨h1, h2, h3, h4⟩
  · rw [if_neg h0] at h; exact absurd h h0
theorem add_eq {a b c d n m : Int} (h1 : Fv a b) (h2 : Fv c d) (h3 : Fv n m) (h : n * (b * d) = (a * d + c * b) * m) : addA a b c d = n ∧ addB a b c d = m ∧ addE a b c d = 0 := by
  have h0 := chk2_zero.2 ⟨h1, h2⟩
  unfold addA addB addE
  rw [if_pos h0, if_pos h0, if_pos h0]
  exact low_eq (mul_ne h1.pos h2.pos) h3 h
theorem mul_ok {a b c d : Int} (h : mulE a b c d = 0) : Fv a b ∧ Fv c d ∧ Fv (mulA a b c d) (mulB a b c d) ∧ mulA a b c d * (b * d) = a * c * mulB a b c d := by
  unfold mulE at h
  by_cases h0 : chk2 a b c d = 0
  · rw [if_pos h0] at h
    obtain ⟨h1, h2⟩ := chk2_zero.1 h0
    obtain ⟨h3, h4⟩ := low_ok (mul_ne h1.pos h2.pos) h
    unfold mulA mulB
    rw [if_pos h0, if_pos h0]
    exact ⟨h1, h2, h3, h4⟩
  · rw [if_neg h0] at h; exact absurd h h0
theorem mul_eq {a b c d n m : Int} (h1 : Fv a b) (h2 : Fv c d) (h3 : Fv n m) (h : n * (b * d) = a * c * m) : mulA a b c d = n ∧ mulB a b c d = m ∧ mulE a b c d = 0 := by
  have h0 := chk2_zero.2 ⟨h1, h2⟩
  unfold mulA mulB mulE
  rw [if_pos h0, if_pos h0, if_pos h0]
  exact low_eq (mul_ne h1.pos h2.pos) h3 h
theorem div_eq {a b c d n m : Int} (h1 : Fv a b) (h2 : Fv c d) (hc : c ≠ 0) (h3 : Fv n m) (h : n * (b * c) = a * d * m) : divfA a b c d = n ∧ divfB a b c d = m ∧ divfE a b c d = 0 := by
  have h0 := chk2_zero.2 ⟨h1, h2⟩
  unfold divfA divfB divfE
  rw [if_pos h0, if_pos h0, if_pos h0, if_neg hc, if_neg hc, if_neg hc]
  exact low_eq (Int.mul_ne_zero (Int.ne_of_gt h1.pos) hc) h3 h
theorem mk_ok {n d : Int} (h : mkE n d = 0) : d ≠ 0 ∧ Fv (mkA n d) (mkB n d) ∧ mkA n d * d = n * mkB n d := by
  unfold mkE at h
  by_cases h0 : d = 0
  · rw [if_pos h0] at h; omega
  · rw [if_neg h0] at h
    unfold mkA mkB
    rw [if_neg h0, if_neg h0]
    exact ⟨h0, low_ok h0 h⟩

-- What FracField asks.
theorem field_sub {a b c d : Int} (h : addE a b c d = 0) : addA (addA a b c d) (addB a b c d) (-c) d = a ∧ addB (addA a b c d) (addB a b c d) (-c) d = b ∧ addE (addA a b c d) (addB a b c d) (-c) d = 0 := by
  obtain ⟨h1, h2, h3, h4⟩ := add_ok h
  refine add_eq h3 h2.neg h1 ?_
  generalize addA a b c d = s at *
  generalize addB a b c d = t at *
  grind
theorem field_div {a b c d : Int} (h : mulE a b c d = 0) (hc : c ≠ 0) : divfA (mulA a b c d) (mulB a b c d) c d = a ∧ divfB (mulA a b c d) (mulB a b c d) c d = b ∧ divfE (mulA a b c d) (mulB a b c d) c d = 0 := by
  obtain ⟨h1, h2, h3, h4⟩ := mul_ok h
  refine div_eq h3 h2 hc h1 ?_
  generalize mulA a b c d = s at *
  generalize mulB a b c d = t at *
  grind
theorem field_dist {a b c d q r : Int} (he : addE a b c d = 0) (hg : mulE (addA a b c d) (addB a b c d) q r = 0) (hh : mulE a b q r = 0) (hi : mulE c d q r = 0) :
    addA (mulA a b q r) (mulB a b q r) (mulA c d q r) (mulB c d q r) = mulA (addA a b c d) (addB a b c d) q r ∧
    addB (mulA a b q r) (mulB a b q r) (mulA c d q r) (mulB c d q r) = mulB (addA a b c d) (addB a b c d) q r ∧
    addE (mulA a b q r) (mulB a b q r) (mulA c d q r) (mulB c d q r) = 0 := by
  obtain ⟨h1, h2, h3, h4⟩ := add_ok he
  obtain ⟨_, h5, h6, h7⟩ := mul_ok hg
  obtain ⟨_, _, h8, h9⟩ := mul_ok hh
  obtain ⟨_, _, h10, h11⟩ := mul_ok hi
  refine add_eq h8 h10 h6 ?_
  generalize mulA (addA a b c d) (addB a b c d) q r = L at *
  generalize mulB (addA a b c d) (addB a b c d) q r = M at *
  generalize mulA a b q r = O at *
  generalize mulB a b q r = P at *
  generalize mulA c d q r = T at *
  generalize mulB c d q r = U at *
  generalize addA a b c d = s at *
  generalize addB a b c d = t at *
  have hk : b * d * r * t ≠ 0 := mul_ne (Int.mul_pos (Int.mul_pos h1.pos h2.pos) h5.pos) h3.pos
  apply Int.eq_of_mul_eq_mul_left hk
  grind
theorem cmpI_scale {x y k : Int} (hk : 0 < k) : cmpI (x * k) (y * k) = cmpI x y := by
  unfold cmpI
  simp only [show (x * k < y * k) = (x < y) from propext ⟨fun h => Int.lt_of_mul_lt_mul_right h (by omega), fun h => Int.mul_lt_mul_of_pos_right h hk⟩, show (y * k < x * k) = (y < x) from propext ⟨fun h => Int.lt_of_mul_lt_mul_right h (by omega), fun h => Int.mul_lt_mul_of_pos_right h hk⟩]
theorem cmpI_sub (x y : Int) : cmpI x y = cmpI (x - y) 0 := by
  unfold cmpI
  split <;> split <;> (try split) <;> (try split) <;> omega
theorem fv_zero : Fv 0 1 := by
  unfold Fv
  exact ⟨by omega, by decide⟩
theorem field_cmp {a b c d : Int} (h : addE a b (-c) d = 0) : cmpfV a b c d = cmpfV (addA a b (-c) d) (addB a b (-c) d) 0 1 := by
  obtain ⟨h1, h2, h3, h4⟩ := add_ok h
  have h2' : Fv c d := by have := h2.neg; rwa [Int.neg_neg] at this
  unfold cmpfV
  rw [if_pos (chk2_zero.2 ⟨h1, h2'⟩), if_pos (chk2_zero.2 ⟨h3, fv_zero⟩)]
  generalize addA a b (-c) d = s at *
  generalize addB a b (-c) d = t at *
  rw [cmpI_sub (a * d), Int.mul_one, Int.zero_mul, ← cmpI_scale (x := a * d - c * b) (y := 0) h3.pos, ← cmpI_scale (x := s) (y := 0) (Int.mul_pos h1.pos h2.pos)]
  rw [Int.zero_mul, Int.zero_mul, h4]
  congr 1
  grind
theorem field_round {a b : Int} (hb : 1 ≤ b) : fdV a b ≤ rdV a b ∧ rdV a b ≤ cdV a b := by
  unfold fdV rdV cdV
  have hn : ¬ b < 1 := by omega
  rw [if_neg hn, if_neg hn, if_neg hn]
  have hb0 : 0 < b := by omega
  have e1 := Int.mul_ediv_add_emod a b
  have e2 := Int.emod_nonneg a (show b ≠ 0 by omega)
  have e3 := Int.emod_lt_of_pos a hb0
  have f1 := Int.mul_ediv_add_emod (-a) b
  have f2 := Int.emod_nonneg (-a) (show b ≠ 0 by omega)
  have f3 := Int.emod_lt_of_pos (-a) hb0
  generalize a / b = p at *
  generalize -a / b = m at *
  generalize a % b = r at *
  generalize -a % b = s at *
  have e : b * m = b * -p - (r + s) := by grind
  have hm : m ≤ -p := by
    apply Int.le_of_mul_le_mul_left (a := b) _ hb0
    omega
  have hm2 : -p ≤ m + 1 := by
    have : b * -p < b * (m + 2) := by grind
    have := Int.lt_of_mul_lt_mul_left this (by omega)
    omega
  split
  · have g1 := Int.mul_ediv_add_emod (2 * -a + b) (b * 2)
    have g2 := Int.emod_nonneg (2 * -a + b) (show b * 2 ≠ 0 by omega)
    have g3 := Int.emod_lt_of_pos (2 * -a + b) (show 0 < b * 2 by omega)
    generalize (2 * -a + b) / (b * 2) = v at *
    generalize (2 * -a + b) % (b * 2) = u at *
    have k1 : b * p ≤ b * -v + b := by grind
    have k2 : b * -v ≤ b * -m + b := by grind
    constructor
    · rcases Int.lt_or_le (-v) p with h | h
      · exfalso
        have : b * -v ≤ b * (p - 1) := Int.mul_le_mul_of_nonneg_left (by omega) (by omega)
        grind
      · exact h
    · rcases Int.lt_or_le (-m) (-v) with h | h
      · exfalso
        have : b * (-m + 1) ≤ b * -v := Int.mul_le_mul_of_nonneg_left (by omega) (by omega)
        grind
      · exact h
  · have g1 := Int.mul_ediv_add_emod (2 * a + b) (b * 2)
    have g2 := Int.emod_nonneg (2 * a + b) (show b * 2 ≠ 0 by omega)
    have g3 := Int.emod_lt_of_pos (2 * a + b) (show 0 < b * 2 by omega)
    generalize (2 * a + b) / (b * 2) = v at *
    generalize (2 * a + b) % (b * 2) = u at *
    constructor
    · rcases Int.lt_or_le v p with h | h
      · exfalso
        have : b * v ≤ b * (p - 1) := Int.mul_le_mul_of_nonneg_left (by omega) (by omega)
        grind
      · exact h
    · rcases Int.lt_or_le (-m) v with h | h
      · exfalso
        have : b * (-m + 1) ≤ b * v := Int.mul_le_mul_of_nonneg_left (by omega) (by omega)
        grind
      · exact h
end Go.Proofs.YtocheeocnbfbiaaDoor

