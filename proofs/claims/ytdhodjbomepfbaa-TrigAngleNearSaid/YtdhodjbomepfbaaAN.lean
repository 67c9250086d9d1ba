/-
  The angle of a direction by the rule against the real sine: on either side of the direction within two units.
  Conditions: those of each theorem.
-/
import Derived.Test.YtdhodjbomepfbaaRM
set_option linter.unusedVariables false
set_option linter.unusedSimpArgs false
namespace Go.Proofs.Ytdhodjbomepfbaa.Tg

def rsRd (r : Int) : Int := if r > 1073741824 then 2147483648 - r else r
def rsV (a : Int) : Int := if a % 4294967296 > 2147483648 then -rsQ (rsRd (a % 4294967296 - 2147483648)) else rsQ (rsRd (a % 4294967296))
def rcV (a : Int) : Int := rsV (a + 1073741824)
theorem rsQ_00 : rsQ 0 = 0 := by decide +kernel
theorem rs_q1 {t k : Int} (h0 : 0 ≤ t) (h1 : t ≤ 1073741824) : rsV (t + 4294967296 * k) = rsQ t := by
  unfold rsV rsRd
  rw [show (t + 4294967296 * k) % 4294967296 = t by omega, if_neg (by omega), if_neg (by omega)]
theorem rs_q2 {t k : Int} (h0 : 0 ≤ t) (h1 : t ≤ 1073741824) : rsV (2147483648 - t + 4294967296 * k) = rsQ t := by
  unfold rsV rsRd
  rw [show (2147483648 - t + 4294967296 * k) % 4294967296 = 2147483648 - t by omega, if_neg (by omega)]
  rcases Int.lt_or_le t 1073741824 with h | h
  · rw [if_pos (by omega), show 2147483648 - (2147483648 - t) = t by omega]
  · obtain rfl : t = 1073741824 := by omega
    rfl
theorem rs_q3 {t k : Int} (h0 : 0 ≤ t) (h1 : t ≤ 1073741824) : rsV (2147483648 + t + 4294967296 * k) = -rsQ t := by
  unfold rsV rsRd
  rw [show (2147483648 + t + 4294967296 * k) % 4294967296 = 2147483648 + t by omega]
  rcases Int.lt_or_le 0 t with h | h
  · rw [if_pos (by omega), if_neg (by omega), show 2147483648 + t - 2147483648 = t by omega]
  · obtain rfl : t = 0 := by omega
    rw [if_neg (by omega), if_pos (by omega), show (2147483648 : Int) - (2147483648 + 0) = 0 by omega, rsQ_00]; rfl
theorem rs_q4 {t k : Int} (h0 : 0 ≤ t) (h1 : t ≤ 1073741824) : rsV (-t + 4294967296 * k) = -rsQ t := by
  unfold rsV rsRd
  rcases Int.lt_or_le 0 t with h | h
  · rw [show (-t + 4294967296 * k) % 4294967296 = 4294967296 - t by omega, if_pos (by omega)]
    rcases Int.lt_or_le t 1073741824 with g | g
    · rw [if_pos (by omega), show 2147483648 - (4294967296 - t - 2147483648) = t by omega]
    · obtain rfl : t = 1073741824 := by omega
      rfl
  · obtain rfl : t = 0 := by omega
    rw [show (-0 + 4294967296 * k) % 4294967296 = 0 by omega, if_neg (by omega), if_neg (by omega), rsQ_00]; rfl
theorem rs_cong {a b : Int} (h : a % 4294967296 = b % 4294967296) : rsV a = rsV b := by unfold rsV; rw [h]
theorem rs_neg (a : Int) : rsV (-a) = -rsV a := by
  obtain ⟨t, k, h0, h1, rfl | rfl | rfl | rfl⟩ := quarters a
  · rw [rs_q1 h0 h1, show -(t + 4294967296 * k) = -t + 4294967296 * -k by omega, rs_q4 h0 h1]
  · rw [rs_q2 h0 h1, show -(2147483648 - t + 4294967296 * k) = 2147483648 + t + 4294967296 * (-k - 1) by omega, rs_q3 h0 h1]
  · rw [rs_q3 h0 h1, show -(2147483648 + t + 4294967296 * k) = 2147483648 - t + 4294967296 * (-k - 1) by omega, rs_q2 h0 h1]; omega
  · rw [rs_q4 h0 h1, show -(-t + 4294967296 * k) = t + 4294967296 * -k by omega, rs_q1 h0 h1]; omega
theorem rs_half (a : Int) : rsV (a + 2147483648) = -rsV a := by
  obtain ⟨t, k, h0, h1, rfl | rfl | rfl | rfl⟩ := quarters a
  · rw [rs_q1 h0 h1, show t + 4294967296 * k + 2147483648 = 2147483648 + t + 4294967296 * k by omega, rs_q3 h0 h1]
  · rw [rs_q2 h0 h1, show 2147483648 - t + 4294967296 * k + 2147483648 = -t + 4294967296 * (k + 1) by omega, rs_q4 h0 h1]
  · rw [rs_q3 h0 h1, show 2147483648 + t + 4294967296 * k + 2147483648 = t + 4294967296 * (k + 1) by omega, rs_q1 h0 h1]; omega
  · rw [rs_q4 h0 h1, show -t + 4294967296 * k + 2147483648 = 2147483648 - t + 4294967296 * k by omega, rs_q2 h0 h1]; omega
theorem rc_neg (a : Int) : rcV (-a) = rcV a := by
  have h := rs_neg (a + 1073741824)
  have g := rs_half (-(a + 1073741824))
  unfold rcV
  rw [show -(a + 1073741824) + 2147483648 = -a + 1073741824 by omega, h] at g
  omega
theorem rc_half (a : Int) : rcV (a + 2147483648) = -rcV a := by
  unfold rcV
  rw [show a + 2147483648 + 1073741824 = a + 1073741824 + 2147483648 by omega, rs_half]
theorem rs_sub (a : Int) : rsV (2147483648 - a) = rsV a := by
  rw [show 2147483648 - a = -a + 2147483648 by omega, rs_half, rs_neg]; omega
theorem rc_sub (a : Int) : rcV (2147483648 - a) = -rcV a := by
  rw [show 2147483648 - a = -a + 2147483648 by omega, rc_half, rc_neg]
theorem rs_quarter (a : Int) : rsV (1073741824 - a) = rcV a := by
  have := rs_sub (a + 1073741824)
  rw [show 2147483648 - (a + 1073741824) = 1073741824 - a by omega] at this
  exact this
theorem rc_quarter (a : Int) : rcV (1073741824 - a) = rsV a := by
  unfold rcV
  rw [show 1073741824 - a + 1073741824 = 2147483648 - a by omega, rs_sub]
theorem rs_near (b : Int) : -669806294750992764080434026469392384 ≤ 1329227995784915872903807060280344576 * sinV b - rsV b ∧ 1329227995784915872903807060280344576 * sinV b - rsV b ≤ 669806294750992764080434026469392384 := by
  obtain ⟨t, k, h0, h1, rfl | rfl | rfl | rfl⟩ := quarters b <;> have := near_q h0 h1
  · rw [rs_q1 h0 h1, sin_q1 h0 h1]; exact this
  · rw [rs_q2 h0 h1, sin_q2 h0 h1]; exact this
  · rw [rs_q3 h0 h1, sin_q3 h0 h1]; omega
  · rw [rs_q4 h0 h1, sin_q4 h0 h1]; omega
theorem rc_near (b : Int) : -669806294750992764080434026469392384 ≤ 1329227995784915872903807060280344576 * cosV b - rcV b ∧ 1329227995784915872903807060280344576 * cosV b - rcV b ≤ 669806294750992764080434026469392384 := rs_near _
/-- The real sine against the rule's, ahead of its rounding. -/
theorem real_Y {r : Int} (h0 : 0 ≤ r) (h1 : r ≤ 536870912) : -162259276829213363391578010288128 ≤ rsQ r - 1237940039285380274899124224 * sinY (radV r) ∧ rsQ r - 1237940039285380274899124224 * sinY (radV r) ≤ 162259276829213363391578010288128 := by
  have rr := rad_range h0 h1
  have hx : -(3 * 1237940039285380274899124224) ≤ 4483830866258026290414848827874327273881010752 * r / 2147483648 - 1237940039285380274899124224 * radV r ∧ 4483830866258026290414848827874327273881010752 * r / 2147483648 - 1237940039285380274899124224 * radV r ≤ 3 * 1237940039285380274899124224 := by unfold radV; omega
  have T := tail_x (x := 4483830866258026290414848827874327273881010752 * r / 2147483648) (z := radV r) (by omega) (by omega) rr.1 (by omega) hx
  unfold rsQ
  generalize alt (4483830866258026290414848827874327273881010752 * r / 2147483648 * (4483830866258026290414848827874327273881010752 * r / 2147483648) / 1427247692705959881058285969449495136382746624) 160 (4483830866258026290414848827874327273881010752 * r / 2147483648) 1 = A at *
  generalize radV r = z at *
  have hzz : z * z ≤ 905502432259640355 * 905502432259640355 := Int.mul_le_mul rr.2 rr.2 rr.1 (by omega)
  have hz0 : 0 ≤ z * z := Int.mul_nonneg rr.1 rr.1
  have hw : 1152921504606846976 * sqV z ≤ z * z ∧ z * z < 1152921504606846976 * sqV z + 1152921504606846976 := by unfold sqV scV; generalize z * z = q; omega
  have S := sin_sc (w := sqV z) (v := z * z) (by omega) hz0 (by omega) hw
  have hy : 1152921504606846976 * sinY z ≤ z * serS (sqV z) ∧ z * serS (sqV z) < 1152921504606846976 * sinY z + 1152921504606846976 := by unfold sinY scV; generalize z * serS (sqV z) = m; omega
  generalize sinY z = y at *
  obtain ⟨e, he⟩ : ∃ e, e = 1152921504606846976 * serS (sqV z) - serX (z * z) := ⟨_, rfl⟩
  rw [← he] at S
  have k : z * serX (z * z) = 1152921504606846976 * (z * serS (sqV z)) - z * e := by rw [he]; grind
  have m := mul_bd (x := z) (X := 905502432259640355) (y := e) (Y := 34544326588331691851269) (by omega) S
  rw [k] at T
  generalize z * serS (sqV z) = q at *
  generalize z * e = n at *
  omega
/-- The rising of the sine, up to an eighth of a turn. -/
theorem sinY_rise {x d : Int} (x0 : 0 ≤ x) (d0 : 2 ≤ d) (xm : x + d ≤ 905502432259640355) : 797000000000000000 * d ≤ 1152921504606846976 * (sinY (x + d) - sinY x) + 4 * 1152921504606846976 := by
  obtain ⟨q1, q2, q3, q4⟩ := sq_step x0 (by omega) xm
  obtain ⟨s1, s2, s3, s4⟩ := serS_lip q1 q2 (by omega)
  -- 6 (E - s') ≤ u' + 5
  have low := (serS_lip (u := 0) (u' := sqV (x + d)) (by omega) (by omega) (by omega)).2.2.1
  have z0 : serS 0 = 1152921504606846976 := by decide +kernel
  rw [z0] at low
  unfold sinY scV
  generalize sqV x = u at *
  generalize sqV (x + d) = u' at *
  generalize serS u = s at *
  generalize serS u' = s' at *
  obtain ⟨g, rfl⟩ : ∃ g, s = s' + g := ⟨s - s', by omega⟩
  obtain ⟨w, rfl⟩ : ∃ w, u' = u + w := ⟨u' - u, by omega⟩
  have e1 : (x + d) * s' = x * s' + d * s' := Int.add_mul ..
  have e2 : x * (s' + g) = x * s' + x * g := Int.mul_add ..
  have hg : 6 * g ≤ w + 5 := by omega
  have hg0 : 0 ≤ g := by omega
  have h1 : 0 ≤ x * g := Int.mul_nonneg x0 hg0
  have h2 : 1152921504606846976 * (6 * g) ≤ 2 * ((x + d) * d) + 6 * 1152921504606846976 := by omega
  have h3 : x * (1152921504606846976 * (6 * g)) ≤ x * (2 * ((x + d) * d) + 6 * 1152921504606846976) := Int.mul_le_mul_of_nonneg_left h2 x0
  have h4 : x * (2 * ((x + d) * d) + 6 * 1152921504606846976) = 2 * ((x * (x + d)) * d) + 6 * 1152921504606846976 * x := by grind
  have h5 : x * (x + d) ≤ 905502432259640355 * 905502432259640355 := Int.mul_le_mul (by omega) xm (by omega) (by omega)
  have h6 : (x * (x + d)) * d ≤ (905502432259640355 * 905502432259640355) * d := Int.mul_le_mul_of_nonneg_right h5 (by omega)
  have h7 : x * (1152921504606846976 * (6 * g)) = 6 * 1152921504606846976 * (x * g) := by grind
  have h8 : 6206349080392437967 * d ≤ (6 * s') * d := Int.mul_le_mul_of_nonneg_right (by omega) (by omega)
  have h9 : (6 * s') * d = 6 * (d * s') := by grind
  rw [e1, e2]
  generalize x * s' = p at *
  generalize x * g = q at *
  generalize d * s' = r at *
  generalize (x * (x + d)) * d = m at *
  omega
theorem real_rise {t : Int} (h0 : 0 ≤ t) (h1 : t < 536870912) : rsQ t + 1435566235447709237183441282495676416 ≤ rsQ (t + 1) := by
  have a := real_Y h0 (by omega)
  have b := real_Y (r := t + 1) (by omega) (by omega)
  have r0 := rad_range h0 (show t ≤ 536870912 by omega)
  have r1 := rad_range (t := t + 1) (by omega) (by omega)
  have rs := rad_step (t := t)
  obtain ⟨g, hg⟩ : ∃ g, radV (t + 1) = radV t + g := ⟨radV (t + 1) - radV t, by omega⟩
  rw [hg] at b r1 rs
  have c := sinY_rise r0.1 (by omega) r1.2
  generalize sinY (radV t) = y at *
  generalize sinY (radV t + g) = y' at *
  omega
theorem rise_8 : rsQ 536870912 + 1435566235447709237183441282495676416 ≤ rsQ 536870913 := by decide +kernel
theorem top_8 : rsQ 536870910 < rsQ 536870914 := by decide +kernel
theorem pos_12 : 0 < rsQ 1 ∧ 0 < rsQ 2 := by decide +kernel
theorem cos_down {a b : Int} (h0 : 0 ≤ a) (h : a ≤ b) (h1 : b ≤ 2147483648) : cosV b ≤ cosV a := by
  unfold cosV
  exact sin_anti (k := 0) (by omega) (by omega) (by omega)
theorem rsV_q {t : Int} (h0 : 0 ≤ t) (h1 : t ≤ 1073741824) : rsV t = rsQ t := by
  have := rs_q1 (t := t) (k := 0) h0 h1
  rw [show t + 4294967296 * 0 = t by omega] at this
  exact this
/-- On either side of a flat direction. -/
theorem side_flat {v u f : Int} (hv : 0 ≤ v) (hvu : v ≤ u) (hu : 0 < u) (h : IsFl v u f) : 0 < u * rsV (f + 2) - v * rcV (f + 2) ∧ u * rsV (f - 2) - v * rcV (f - 2) < 0 := by
  obtain ⟨f0, f1, hP, hN⟩ := h
  constructor
  · rcases Int.lt_or_le f 536870912 with g | g
    · have hN := hN g
      unfold flP at hN
      -- sine at f + 2
      have s1 : 1329227995784915872903807060280344576 * sinV (f + 1) - 669806294750992764080434026469392384 + 1435566235447709237183441282495676416 ≤ rsV (f + 2) := by
        have a := rs_near (f + 1)
        rw [rsV_q (by omega) (by omega)] at a ⊢
        rcases Int.lt_or_le (f + 1) 536870912 with k | k
        · have := real_rise (t := f + 1) (by omega) k
          rw [show f + 1 + 1 = f + 2 by omega] at this
          omega
        · have e : f + 1 = 536870912 := by omega
          have := rise_8
          rw [show f + 2 = 536870913 by omega]
          rw [e] at a ⊢
          omega
      have c1 : rcV (f + 2) ≤ 1329227995784915872903807060280344576 * cosV (f + 1) + 669806294750992764080434026469392384 := by
        have a := rc_near (f + 2)
        have b := cos_down (a := f + 1) (b := f + 2) (by omega) (by omega) (by omega)
        omega
      have m1 := Int.mul_le_mul_of_nonneg_left s1 (show 0 ≤ u by omega)
      have m2 := Int.mul_le_mul_of_nonneg_left c1 hv
      have e1 : u * (1329227995784915872903807060280344576 * sinV (f + 1) - 669806294750992764080434026469392384 + 1435566235447709237183441282495676416) = 1329227995784915872903807060280344576 * (sinV (f + 1) * u) - 669806294750992764080434026469392384 * u + 1435566235447709237183441282495676416 * u := by grind
      have e2 : v * (1329227995784915872903807060280344576 * cosV (f + 1) + 669806294750992764080434026469392384) = 1329227995784915872903807060280344576 * (cosV (f + 1) * v) + 669806294750992764080434026469392384 * v := by grind
      rw [e1] at m1
      rw [e2] at m2
      generalize sinV (f + 1) * u = z1 at *
      generalize cosV (f + 1) * v = z2 at *
      generalize u * rsV (f + 2) = z3 at *
      generalize v * rcV (f + 2) = z4 at *
      omega
    · obtain rfl : f = 536870912 := by omega
      unfold flP at hP
      rw [sin_8 (by omega) (by omega), cos_8 (by omega) (by omega), sinP_8, cosP_8] at hP
      have e : v = u := by omega
      subst e
      have r1 : rsV (536870912 + 2) = rsQ 536870914 := rsV_q (by omega) (by omega)
      have r2 : rcV (536870912 + 2) = rsQ 536870910 := by
        rw [show (536870912 : Int) + 2 = 1073741824 - 536870910 by omega, rc_quarter, rsV_q (by omega) (by omega)]
      rw [r1, r2]
      have := Int.mul_lt_mul_of_pos_left top_8 hu
      omega
  · unfold flP at hP
    rcases Int.lt_or_le f 2 with g | g
    · have rneg : rsV (f - 2) < 0 := by
        have := rs_neg (2 - f)
        rw [show -(2 - f) = f - 2 by omega] at this
        rw [this]
        have p := pos_12
        rcases (show f = 0 ∨ f = 1 by omega) with rfl | rfl
        · rw [show (2 : Int) - 0 = 2 by omega, rsV_q (by omega) (by omega)]; omega
        · rw [show (2 : Int) - 1 = 1 by omega, rsV_q (by omega) (by omega)]; omega
      have cpos : 0 ≤ rcV (f - 2) := by
        have a := rc_near (f - 2)
        have e : cosV (f - 2) = cosV (2 - f) := by rw [show f - 2 = -(2 - f) by omega, cos_neg]
        have b := cos_8 (a := 2 - f) (by omega) (by omega)
        have c := cosP_range (t := 2 - f) (by omega) (by omega)
        omega
      have m1 := Int.mul_lt_mul_of_pos_left rneg hu
      have m2 := Int.mul_nonneg hv cpos
      omega
    · have s1 : rsV (f - 2) ≤ 1329227995784915872903807060280344576 * sinV f + 669806294750992764080434026469392384 - 2 * 1435566235447709237183441282495676416 := by
        have a := rs_near f
        rw [rsV_q (by omega) (by omega)] at a ⊢
        have b := real_rise (t := f - 2) (by omega) (by omega)
        have c := real_rise (t := f - 1) (by omega) (by omega)
        rw [show f - 2 + 1 = f - 1 by omega] at b
        rw [show f - 1 + 1 = f by omega] at c
        omega
      have c1 : 1329227995784915872903807060280344576 * cosV f - 669806294750992764080434026469392384 ≤ rcV (f - 2) := by
        have a := rc_near (f - 2)
        have b := cos_down (a := f - 2) (b := f) (by omega) (by omega) (by omega)
        omega
      have m1 := Int.mul_le_mul_of_nonneg_left s1 (show 0 ≤ u by omega)
      have m2 := Int.mul_le_mul_of_nonneg_left c1 hv
      have e1 : u * (1329227995784915872903807060280344576 * sinV f + 669806294750992764080434026469392384 - 2 * 1435566235447709237183441282495676416) = 1329227995784915872903807060280344576 * (sinV f * u) + 669806294750992764080434026469392384 * u - 2 * 1435566235447709237183441282495676416 * u := by grind
      have e2 : v * (1329227995784915872903807060280344576 * cosV f - 669806294750992764080434026469392384) = 1329227995784915872903807060280344576 * (cosV f * v) - 669806294750992764080434026469392384 * v := by grind
      rw [e1] at m1
      rw [e2] at m2
      generalize sinV f * u = z1 at *
      generalize cosV f * v = z2 at *
      generalize u * rsV (f - 2) = z3 at *
      generalize v * rcV (f - 2) = z4 at *
      omega
theorem side_steep {v u : Int} (hv : 0 ≤ v) (hu : 0 ≤ u) (hn : ¬ (u = 0 ∧ v = 0)) : 0 < u * rsV (steepV v u + 2) - v * rcV (steepV v u + 2) ∧ u * rsV (steepV v u - 2) - v * rcV (steepV v u - 2) < 0 := by
  unfold steepV
  by_cases c : v > u
  · rw [if_pos c]
    obtain ⟨a, b⟩ := side_flat hu (by omega) (by omega) (flatV_ok hu hv)
    rw [show 1073741824 - flatV u v + 2 = 1073741824 - (flatV u v - 2) by omega, show 1073741824 - flatV u v - 2 = 1073741824 - (flatV u v + 2) by omega, rs_quarter, rc_quarter, rs_quarter, rc_quarter]
    omega
  · rw [if_neg c]
    exact side_flat hv (by omega) (by omega) (flatV_ok hv hu)
/-- The real angle of a direction lies within two of the rule's. -/
theorem side_ang {y x : Int} (hn : ¬ (x = 0 ∧ y = 0)) : 0 < x * rsV (angV y x + 2) - y * rcV (angV y x + 2) ∧ x * rsV (angV y x - 2) - y * rcV (angV y x - 2) < 0 := by
  obtain ⟨a, b⟩ := side_steep (absV_nn y) (absV_nn x) (by have := absV_eq y; have := absV_eq x; omega)
  unfold angV turnX turnY
  have hx := absV_eq x
  have hy := absV_eq y
  generalize steepV (absV y) (absV x) = s at *
  have cs : ∀ {p q : Int}, p % 4294967296 = q % 4294967296 → rsV p = rsV q ∧ rcV p = rcV q := fun h => ⟨rs_cong h, rs_cong (by omega)⟩
  by_cases cx : x < 0
  · rw [if_pos cx]
    have ex : absV x = -x := by omega
    rw [ex] at a b
    by_cases cy : y < 0
    · rw [if_pos cy]
      have ey : absV y = -y := by omega
      rw [ey] at a b
      obtain ⟨p1, p2⟩ := cs (p := (4294967296 - (2147483648 - s)) % 4294967296 + 2) (q := s + 2 + 2147483648) (by omega)
      obtain ⟨p3, p4⟩ := cs (p := (4294967296 - (2147483648 - s)) % 4294967296 - 2) (q := s - 2 + 2147483648) (by omega)
      rw [p1, p2, p3, p4, rs_half, rs_half, rc_half, rc_half, Int.mul_neg, Int.mul_neg, Int.mul_neg, Int.mul_neg]
      rw [Int.neg_mul, Int.neg_mul] at a b
      omega
    · rw [if_neg cy]
      have ey : absV y = y := by omega
      rw [ey] at a b
      obtain ⟨p1, p2⟩ := cs (p := (2147483648 - s) % 4294967296 + 2) (q := 2147483648 - (s - 2)) (by omega)
      obtain ⟨p3, p4⟩ := cs (p := (2147483648 - s) % 4294967296 - 2) (q := 2147483648 - (s + 2)) (by omega)
      rw [p1, p2, p3, p4, rs_sub, rs_sub, rc_sub, rc_sub, Int.mul_neg, Int.mul_neg]
      rw [Int.neg_mul] at a b
      omega
  · rw [if_neg cx]
    have ex : absV x = x := by omega
    rw [ex] at a b
    by_cases cy : y < 0
    · rw [if_pos cy]
      have ey : absV y = -y := by omega
      rw [ey] at a b
      obtain ⟨p1, p2⟩ := cs (p := (4294967296 - s) % 4294967296 + 2) (q := -(s - 2)) (by omega)
      obtain ⟨p3, p4⟩ := cs (p := (4294967296 - s) % 4294967296 - 2) (q := -(s + 2)) (by omega)
      rw [p1, p2, p3, p4, rs_neg, rs_neg, rc_neg, rc_neg, Int.mul_neg, Int.mul_neg]
      rw [Int.neg_mul] at a b
      omega
    · rw [if_neg cy]
      have ey : absV y = y := by omega
      rw [ey] at a b
      obtain ⟨p1, p2⟩ := cs (p := s % 4294967296 + 2) (q := s + 2) (by omega)
      obtain ⟨p3, p4⟩ := cs (p := s % 4294967296 - 2) (q := s - 2) (by omega)
      rw [p1, p2, p3, p4]
      exact ⟨a, b⟩
end Go.Proofs.Ytdhodjbomepfbaa.Tg

