/-
  The sine of the altitude of a pose lies in the bound of the height, up to 40 (no program).
  Conditions: those of each theorem.
-/
import Derived.Test.YtagbpehfieejcaaHT
set_option linter.unusedVariables false
set_option linter.unusedSimpArgs false
namespace Go.Proofs.Ytagbpehfieejcaa.AtHz
open Go.RowKit Ev Wd Tg
open Go.Proofs.Ytagbpehfieejcaa

theorem nrm_up {a1 a2 a3 b1 b2 b3 f K : Int} (hK : 0 ≤ K) (hf : 0 ≤ f) (h : a1 * a1 + a2 * a2 + a3 * a3 ≤ K * K) (d1 : -f ≤ b1 - a1 ∧ b1 - a1 ≤ f) (d2 : -f ≤ b2 - a2 ∧ b2 - a2 ≤ f) (d3 : -f ≤ b3 - a3 ∧ b3 - a3 ≤ f) :
    b1 * b1 + b2 * b2 + b3 * b3 ≤ (K + 3 * f) * (K + 3 * f) := by
  have n1 := sq_nn a1
  have n2 := sq_nn a2
  have n3 := sq_nn a3
  have k1 := sq_le hK (a := a1) (by omega)
  have k2 := sq_le hK (a := a2) (by omega)
  have k3 := sq_le hK (a := a3) (by omega)
  have m1 := (mul_bd k1 d1).2
  have m2 := (mul_bd k2 d2).2
  have m3 := (mul_bd k3 d3).2
  have s1 := sq_bd d1.1 d1.2
  have s2 := sq_bd d2.1 d2.2
  have s3 := sq_bd d3.1 d3.2
  have e1 : b1 * b1 = a1 * a1 + 2 * (a1 * (b1 - a1)) + (b1 - a1) * (b1 - a1) := by grind
  have e2 : b2 * b2 = a2 * a2 + 2 * (a2 * (b2 - a2)) + (b2 - a2) * (b2 - a2) := by grind
  have e3 : b3 * b3 = a3 * a3 + 2 * (a3 * (b3 - a3)) + (b3 - a3) * (b3 - a3) := by grind
  have e : (K + 3 * f) * (K + 3 * f) = K * K + 6 * (K * f) + 9 * (f * f) := by grind
  have ff := sq_nn f
  rw [e1, e2, e3, e]
  omega
theorem nrm_dn {a1 a2 a3 b1 b2 b3 f k K : Int} (hK : 0 ≤ K) (hf : 0 ≤ f) (h : a1 * a1 + a2 * a2 + a3 * a3 ≤ K * K) (g : k * k ≤ a1 * a1 + a2 * a2 + a3 * a3) (c : 6 * K + 16 * f ≤ 8 * k) (d1 : -f ≤ b1 - a1 ∧ b1 - a1 ≤ f) (d2 : -f ≤ b2 - a2 ∧ b2 - a2 ≤ f) (d3 : -f ≤ b3 - a3 ∧ b3 - a3 ≤ f) :
    (k - 4 * f) * (k - 4 * f) ≤ b1 * b1 + b2 * b2 + b3 * b3 := by
  have n1 := sq_nn a1
  have n2 := sq_nn a2
  have n3 := sq_nn a3
  have k1 := sq_le hK (a := a1) (by omega)
  have k2 := sq_le hK (a := a2) (by omega)
  have k3 := sq_le hK (a := a3) (by omega)
  have m1 := (mul_bd k1 d1).1
  have m2 := (mul_bd k2 d2).1
  have m3 := (mul_bd k3 d3).1
  have s1 := sq_nn (b1 - a1)
  have s2 := sq_nn (b2 - a2)
  have s3 := sq_nn (b3 - a3)
  have e1 : b1 * b1 = a1 * a1 + 2 * (a1 * (b1 - a1)) + (b1 - a1) * (b1 - a1) := by grind
  have e2 : b2 * b2 = a2 * a2 + 2 * (a2 * (b2 - a2)) + (b2 - a2) * (b2 - a2) := by grind
  have e3 : b3 * b3 = a3 * a3 + 2 * (a3 * (b3 - a3)) + (b3 - a3) * (b3 - a3) := by grind
  have e : (k - 4 * f) * (k - 4 * f) = k * k - f * (8 * k) + f * (16 * f) := by grind
  have c' := Int.mul_le_mul_of_nonneg_left c hf
  have e4 : f * (6 * K + 16 * f) = 6 * (K * f) + f * (16 * f) := by grind
  rw [e1, e2, e3, e]
  rw [e4] at c'
  omega
/-- The angle of a direction by its sine and its cosine. -/
theorem flat_side {v u : Int} (hv : 0 ≤ v) (hu : 0 ≤ u) (h : v ≤ u) : 0 ≤ cosV (flatV v u) * v - sinV (flatV v u) * u ∧ cosV (flatV v u) * v - sinV (flatV v u) * u ≤ 2 * (u + v) ∧ 0 ≤ sinV (flatV v u) ∧ 0 ≤ cosV (flatV v u) := by
  obtain ⟨h0, h1, h2, h3⟩ := flatV_ok hv hu
  generalize flatV v u = a at *
  have hp : sinV a * u ≤ cosV a * v := h2
  have s8 := sin_8 h0 h1
  have c8 := cos_8 h0 h1
  have sr := sinP_range h0 h1
  have cr := cosP_range h0 h1
  refine ⟨by omega, ?_, by omega, by omega⟩
  by_cases ha : a < 536870912
  · have h4 : ¬ sinV (a + 1) * u ≤ cosV (a + 1) * v := h3 ha
    have u1 := sin_up (a := a) (.inl (by omega))
    have u2 := sin_down (a := a + 1073741824) (by omega)
    rw [show a + 1073741824 + 1 = a + 1 + 1073741824 by omega] at u2
    have e1 : sinV (a + 1) * u ≤ (sinV a + 2) * u := Int.mul_le_mul_of_nonneg_right u1.2 hu
    have e2 : (cosV a - 2) * v ≤ cosV (a + 1) * v := Int.mul_le_mul_of_nonneg_right (by unfold cosV; omega) hv
    rw [Int.add_mul] at e1
    rw [Int.sub_mul] at e2
    omega
  · have e : a = 536870912 := by omega
    subst e
    rw [s8, c8, sinP_8, cosP_8]
    omega
theorem steep_side {v u : Int} (hv : 0 ≤ v) (hu : 0 ≤ u) : -(2 * (u + v)) ≤ cosV (steepV v u) * v - sinV (steepV v u) * u ∧ cosV (steepV v u) * v - sinV (steepV v u) * u ≤ 2 * (u + v) ∧ 0 ≤ sinV (steepV v u) ∧ 0 ≤ cosV (steepV v u) := by
  unfold steepV
  by_cases h : v > u
  · rw [if_pos h]
    obtain ⟨h1, h2, h3, h4⟩ := flat_side hu hv (by omega)
    have e1 : sinV (1073741824 - flatV u v) = cosV (flatV u v) := by
      rw [← cos_neg]; unfold cosV; congr 1; omega
    have e2 : cosV (1073741824 - flatV u v) = sinV (flatV u v) := by
      rw [← sin_supp (flatV u v)]; unfold cosV; congr 1; omega
    rw [e1, e2]
    omega
  · rw [if_neg h]
    obtain ⟨h1, h2, h3, h4⟩ := flat_side hv hu (by omega)
    omega
/-- The sine of the angle against the slope. -/
theorem core {S C u v G M : Int} (hS : 0 ≤ S ∧ S ≤ 1073741824) (hC : 0 ≤ C ∧ C ≤ 1073741824) (hc : -2147483648 ≤ S * S + C * C - 1152921504606846976 ∧ S * S + C * C - 1152921504606846976 ≤ 2147483648) (hu : 0 ≤ u) (hv : 0 ≤ v)
    (hd : -(2 * (u + v)) ≤ C * v - S * u ∧ C * v - S * u ≤ 2 * (u + v)) (hG : 1 ≤ G) (g1 : G * G ≤ 1048576 * (u * u + v * v)) (g2 : 1048576 * (u * u + v * v) < (G + 1) * (G + 1)) :
    1099511625728 * v ≤ (S + 4) * (G + 2) ∧ (S - 4) * (G - 1) ≤ 1099511628800 * v := by
  have uv := sq_nn (u - v)
  have uv' : (u - v) * (u - v) = u * u + v * v - 2 * (u * v) := by grind
  have uu := sq_nn u
  have vv := sq_nn v
  have puv := Int.mul_nonneg hu hv
  have hP0 : 0 ≤ C * u + S * v := by have := Int.mul_nonneg hC.1 hu; have := Int.mul_nonneg hS.1 hv; omega
  have id1 : (C * u + S * v) * (C * u + S * v) + (C * v - S * u) * (C * v - S * u) = (S * S + C * C) * (u * u + v * v) := by grind
  have id2 : S * (u * u + v * v) = v * (C * u + S * v) - u * (C * v - S * u) := by grind
  have dd := sq_bd hd.1 hd.2
  have dd0 := sq_nn (C * v - S * u)
  have dd' : 2 * (u + v) * (2 * (u + v)) = 4 * (u * u + v * v) + 8 * (u * v) := by grind
  have ud1 := Int.mul_le_mul_of_nonneg_left hd.1 hu
  have ud2 := Int.mul_le_mul_of_nonneg_left hd.2 hu
  have ue1 : u * -(2 * (u + v)) = -(2 * (u * u) + 2 * (u * v)) := by grind
  have ue2 : u * (2 * (u + v)) = 2 * (u * u) + 2 * (u * v) := by grind
  rw [ue1] at ud1
  rw [ue2] at ud2
  have cl := Int.mul_le_mul_of_nonneg_right (show 1152921504606846976 - 2147483648 ≤ S * S + C * C by omega) (show 0 ≤ u * u + v * v by omega)
  have cu := Int.mul_le_mul_of_nonneg_right (show S * S + C * C ≤ 1152921504606846976 + 2147483648 by omega) (show 0 ≤ u * u + v * v by omega)
  rw [← id1] at cl cu
  rw [dd'] at dd
  generalize hP : C * u + S * v = P at *
  generalize hD : C * v - S * u = D at *
  generalize hT : u * u + v * v = T at *
  generalize u * v = W at *
  generalize u * u = UU at *
  generalize hvv : v * v = VV at *
  generalize u * D = UD at *
  generalize D * D = DD at *
  -- P against G
  have pl : (1073741822 * G) * (1073741822 * G) ≤ (1024 * P) * (1024 * P) := by
    have e1 : (1073741822 * G) * (1073741822 * G) = 1152921500311879684 * (G * G) := by grind
    have e2 : (1024 * P) * (1024 * P) = 1048576 * (P * P) := by grind
    rw [e1, e2]
    generalize P * P = PP at *
    generalize G * G = GG at *
    omega
  have pl' := (sq_le (show 0 ≤ 1024 * P by omega) pl).2
  have pu : (1024 * P) * (1024 * P) ≤ (1073741825 * (G + 1)) * (1073741825 * (G + 1)) := by
    have e1 : (1073741825 * (G + 1)) * (1073741825 * (G + 1)) = 1152921506754330625 * ((G + 1) * (G + 1)) := by grind
    have e2 : (1024 * P) * (1024 * P) = 1048576 * (P * P) := by grind
    rw [e1, e2]
    generalize P * P = PP at *
    generalize (G + 1) * (G + 1) = GG at *
    omega
  have pu' := (sq_le (show 0 ≤ 1073741825 * (G + 1) by omega) pu).2
  have vl := Int.mul_le_mul_of_nonneg_left pl' hv
  have vu := Int.mul_le_mul_of_nonneg_left pu' hv
  have w1 : v * (1073741822 * G) = 1073741822 * (v * G) := by grind
  have w2 : v * (1024 * P) = 1024 * (v * P) := by grind
  have w3 : v * (1073741825 * (G + 1)) = 1073741825 * (v * (G + 1)) := by grind
  rw [w1, w2] at vl
  rw [w2, w3] at vu
  have st1 : v * P ≤ (S + 4) * T := by rw [Int.add_mul]; omega
  have st2 : (S - 4) * T ≤ v * P := by rw [Int.sub_mul]; omega
  constructor
  · have t1 : (S + 4) * (1048576 * T) ≤ (S + 4) * ((G + 2) * G) := Int.mul_le_mul_of_nonneg_left (by
      have : (G + 1) * (G + 1) = (G + 2) * G + 1 := by grind
      omega) (by omega)
    have t2 : (S + 4) * (1048576 * T) = 1048576 * ((S + 4) * T) := by grind
    have t3 : (S + 4) * ((G + 2) * G) = ((S + 4) * (G + 2)) * G := by grind
    rw [t2, t3] at t1
    have t4 : 1099511625728 * v * G ≤ ((S + 4) * (G + 2)) * G := by
      have : 1099511625728 * v * G = 1099511625728 * (v * G) := by grind
      rw [this]
      generalize v * G = X at *
      generalize (S + 4) * T = Y at *
      generalize ((S + 4) * (G + 2)) * G = Z at *
      generalize v * P = Q at *
      omega
    exact Int.le_of_mul_le_mul_right t4 (by omega)
  · by_cases h4 : S < 4
    · have := Int.mul_le_mul_of_nonneg_right (show S - 4 ≤ 0 by omega) (show 0 ≤ G - 1 by omega)
      omega
    · have t1 : (S - 4) * ((G - 1) * (G + 1)) ≤ (S - 4) * (1048576 * T) := Int.mul_le_mul_of_nonneg_left (by
        have : (G - 1) * (G + 1) = G * G - 1 := by grind
        omega) (by omega)
      have t2 : (S - 4) * (1048576 * T) = 1048576 * ((S - 4) * T) := by grind
      have t3 : (S - 4) * ((G - 1) * (G + 1)) = ((S - 4) * (G - 1)) * (G + 1) := by grind
      rw [t2, t3] at t1
      have t4 : ((S - 4) * (G - 1)) * (G + 1) ≤ 1099511628800 * v * (G + 1) := by
        have : 1099511628800 * v * (G + 1) = 1099511628800 * (v * (G + 1)) := by grind
        rw [this]
        generalize v * (G + 1) = X at *
        generalize (S - 4) * T = Y at *
        generalize ((S - 4) * (G - 1)) * (G + 1) = Z at *
        generalize v * P = Q at *
        omega
      exact Int.le_of_mul_le_mul_right t4 (by omega)
/-- Against the length. -/
theorem core2 {S v G M h : Int} (hS : 0 ≤ S ∧ S ≤ 1073741824) (hv : 0 ≤ v ∧ v ≤ 2147483648) (hM : 549755813888 ≤ M ∧ M ≤ 2199023255552) (k1 : 1099511625728 * v ≤ (S + 4) * (G + 2)) (k2 : (S - 4) * (G - 1) ≤ 1099511628800 * v)
    (gu : 1152921504606846976 * G ≤ 1152921506754330624 * (M + 1) + 3541774862152233910272) (gl : 1152921502459363328 * M - 4722366482869645213696 ≤ 1152921504606846976 * (G + 1025)) :
    (h * M ≤ (v + 1) * 1099511627776 → h ≤ S + 40) ∧ ((v - 1) * 1099511627776 ≤ h * M → S ≤ h + 40) := by
  constructor
  · intro hh
    apply Int.not_lt.1; intro hc
    have a1 := Int.mul_le_mul_of_nonneg_right (show S + 41 ≤ h by omega) (show 0 ≤ M by omega)
    have a2 : (S + 4) * (G + 2) * 536870912 ≤ (S + 4) * (536870913 * (M + 1) + 536870912 * 3075) := by
      have : (S + 4) * (G + 2) * 536870912 = (S + 4) * (536870912 * (G + 2)) := by grind
      rw [this]
      exact Int.mul_le_mul_of_nonneg_left (by omega) (by omega)
    have a3 : (S + 4) * (536870913 * (M + 1) + 536870912 * 3075) = 536870913 * (S * M) + 536870913 * S + 4 * 536870913 * (M + 1) + 1650878054400 * S + 4 * 1650878054400 := by grind
    rw [a3] at a2
    have a4 : (S + 41) * M = S * M + 41 * M := by grind
    rw [a4] at a1
    have a5 : S * M ≤ 1073741824 * M := Int.mul_le_mul_of_nonneg_right hS.2 (by omega)
    generalize S * M = X at *
    generalize (S + 4) * (G + 2) = Y at *
    generalize h * M = Z at *
    omega
  · intro hh
    apply Int.not_lt.1; intro hc
    by_cases h4 : S < 4
    · have := Int.mul_le_mul_of_nonneg_right (show h ≤ -37 by omega) (show 0 ≤ M by omega)
      omega
    · have a1 := Int.mul_le_mul_of_nonneg_right (show h ≤ S - 41 by omega) (show 0 ≤ M by omega)
      have a2 : (S - 4) * (536870911 * M - 2200000000000 - 536870912 * 1026) ≤ (S - 4) * (G - 1) * 536870912 := by
        have : (S - 4) * (G - 1) * 536870912 = (S - 4) * (536870912 * (G - 1)) := by grind
        rw [this]
        exact Int.mul_le_mul_of_nonneg_left (by omega) (by omega)
      have a3 : (S - 4) * (536870911 * M - 2200000000000 - 536870912 * 1026) = 536870911 * (S * M) - 4 * 536870911 * M - 2750829555712 * S + 4 * 2750829555712 := by grind
      rw [a3] at a2
      have a4 : (S - 41) * M = S * M - 41 * M := by grind
      rw [a4] at a1
      have a5 : S * M ≤ 1073741824 * M := Int.mul_le_mul_of_nonneg_right hS.2 (by omega)
      generalize S * M = X at *
      generalize (S - 4) * (G - 1) = Y at *
      generalize h * M = Z at *
      omega
theorem rd20 (a : Int) : -1048576 ≤ 2 * (1048576 * rdV a 1048576 - a) ∧ 2 * (1048576 * rdV a 1048576 - a) ≤ 1048576 := by
  unfold rdV; rw [if_neg (by omega)]; split <;> omega
theorem rd30 (a : Int) : -1073741824 ≤ 2 * (1073741824 * rdV a 1073741824 - a) ∧ 2 * (1073741824 * rdV a 1073741824 - a) ≤ 1073741824 := by
  unfold rdV; rw [if_neg (by omega)]; split <;> omega
/-- The components before they are rounded. -/
def wX (s : Si) (t : Int) (v : V3) : Int := (grV v).x * cosV (hzL s t) + (grV v).y * sinV (hzL s t)
def wY (s : Si) (t : Int) (v : V3) : Int := (grV v).y * cosV (hzL s t) - (grV v).x * sinV (hzL s t)
def wV (s : Si) (t : Int) (v : V3) : Int := (grV v).z * sinV s.lat * 1073741824 + cosV s.lat * wX s t v
def wP (s : Si) (t : Int) (v : V3) : Int := (grV v).z * cosV s.lat * 1073741824 - sinV s.lat * wX s t v
theorem aim_near (s : Si) (t : Int) (v : V3) :
    (-1125899906842624 ≤ 1125899906842624 * hzU s t v - wV s t v ∧ 1125899906842624 * hzU s t v - wV s t v ≤ 1125899906842624) ∧
    (-1125899906842624 ≤ 1125899906842624 * hzN s t v - wP s t v ∧ 1125899906842624 * hzN s t v - wP s t v ≤ 1125899906842624) ∧
    (-1125899906842624 ≤ 1125899906842624 * hzE s t v - 1073741824 * wY s t v ∧ 1125899906842624 * hzE s t v - 1073741824 * wY s t v ≤ 1125899906842624) := by
  have o : -524288 ≤ 1048576 * hzO s t v - wX s t v ∧ 1048576 * hzO s t v - wX s t v ≤ 524288 := by
    have := rd20 (wX s t v)
    rw [show rdV (wX s t v) 1048576 = hzO s t v from rfl] at this
    omega
  have e : -524288 ≤ 1048576 * hzE s t v - wY s t v ∧ 1048576 * hzE s t v - wY s t v ≤ 524288 := by
    have := rd20 (wY s t v)
    rw [show rdV (wY s t v) 1048576 = hzE s t v from rfl] at this
    omega
  have u := rd30 (hzO s t v * cosV s.lat + 1024 * (grV v).z * sinV s.lat)
  rw [show rdV (hzO s t v * cosV s.lat + 1024 * (grV v).z * sinV s.lat) 1073741824 = hzU s t v from rfl] at u
  have n := rd30 (1024 * (grV v).z * cosV s.lat - hzO s t v * sinV s.lat)
  rw [show rdV (1024 * (grV v).z * cosV s.lat - hzO s t v * sinV s.lat) 1073741824 = hzN s t v from rfl] at n
  have mc := mul_bd o (cos_range s.lat)
  have ms := mul_bd o (sin_range s.lat)
  have e1 : (1048576 * hzO s t v - wX s t v) * cosV s.lat = 1048576 * (hzO s t v * cosV s.lat) - cosV s.lat * wX s t v := by grind
  have e2 : (1048576 * hzO s t v - wX s t v) * sinV s.lat = 1048576 * (hzO s t v * sinV s.lat) - sinV s.lat * wX s t v := by grind
  have e3 : 1024 * (grV v).z * sinV s.lat = 1024 * ((grV v).z * sinV s.lat) := Int.mul_assoc _ _ _
  have e4 : 1024 * (grV v).z * cosV s.lat = 1024 * ((grV v).z * cosV s.lat) := Int.mul_assoc _ _ _
  rw [e1] at mc
  rw [e2] at ms
  rw [e3] at u
  rw [e4] at n
  unfold wV wP
  refine ⟨by omega, by omega, by omega⟩
theorem norm_in {s : Si} {t : Int} {v : V3} :
    1152921502459363328 * 1152921502459363328 * nnV v ≤ wV s t v * wV s t v + wP s t v * wP s t v + 1073741824 * wY s t v * (1073741824 * wY s t v) ∧
    wV s t v * wV s t v + wP s t v * wP s t v + 1073741824 * wY s t v * (1073741824 * wY s t v) ≤ 1152921506754330624 * 1152921506754330624 * nnV v := by
  have c1 := circle s.lat
  have c2 := circle (hzL s t)
  unfold wV wP nnV
  have i1 : wX s t v * wX s t v + wY s t v * wY s t v = ((grV v).x * (grV v).x + (grV v).y * (grV v).y) * (sinV (hzL s t) * sinV (hzL s t) + cosV (hzL s t) * cosV (hzL s t)) := by
    unfold wX wY; grind
  have i2 : ((grV v).z * sinV s.lat * 1073741824 + cosV s.lat * wX s t v) * ((grV v).z * sinV s.lat * 1073741824 + cosV s.lat * wX s t v) + ((grV v).z * cosV s.lat * 1073741824 - sinV s.lat * wX s t v) * ((grV v).z * cosV s.lat * 1073741824 - sinV s.lat * wX s t v) = (1152921504606846976 * ((grV v).z * (grV v).z) + wX s t v * wX s t v) * (sinV s.lat * sinV s.lat + cosV s.lat * cosV s.lat) := by grind
  have i3 : 1073741824 * wY s t v * (1073741824 * wY s t v) = 1152921504606846976 * (wY s t v * wY s t v) := by grind
  rw [i2, i3]
  have n1 := sq_nn (grV v).x
  have n2 := sq_nn (grV v).y
  have n3 := sq_nn (grV v).z
  have n4 := sq_nn (wX s t v)
  have n5 := sq_nn (wY s t v)
  generalize (grV v).x * (grV v).x = X at *
  generalize (grV v).y * (grV v).y = Y at *
  generalize (grV v).z * (grV v).z = Z at *
  generalize wX s t v * wX s t v = A at *
  generalize wY s t v * wY s t v = B at *
  generalize hcc : sinV (hzL s t) * sinV (hzL s t) + cosV (hzL s t) * cosV (hzL s t) = c at *
  generalize sinV s.lat * sinV s.lat + cosV s.lat * cosV s.lat = d at *
  have l1 := Int.mul_le_mul_of_nonneg_left (show 1152921502459363328 ≤ c by omega) (show 0 ≤ X + Y by omega)
  have u1 := Int.mul_le_mul_of_nonneg_left (show c ≤ 1152921506754330624 by omega) (show 0 ≤ X + Y by omega)
  rw [← i1] at l1 u1
  have l2 := Int.mul_le_mul_of_nonneg_left (show 1152921502459363328 ≤ d by omega) (show 0 ≤ 1152921504606846976 * Z + A by omega)
  have u2 := Int.mul_le_mul_of_nonneg_left (show d ≤ 1152921506754330624 by omega) (show 0 ≤ 1152921504606846976 * Z + A by omega)
  generalize (1152921504606846976 * Z + A) * d = T at *
  constructor <;> omega
theorem al_eq {s : Si} {t : Int} {v : V3} (hs : sE s = 0) (hv : vE v = 0) (h0 : ¬ (hzS s t v = 0 ∧ hzU s t v = 0)) (hr : hzS s t v ≤ 4294967296) :
    (0 ≤ hzU s t v → alA s t v = steepV (hzU s t v) (hzS s t v)) ∧ (hzU s t v < 0 → alA s t v = -steepV (-hzU s t v) (hzS s t v)) := by
  obtain ⟨p1, p2, b1, b2, b3, b4, b5, b6⟩ := aim_in (t := t) hs hv
  have r0 : 0 ≤ hzS s t v := by unfold hzS; omega
  have hin : (inA (hzS s t v) && inA (hzU s t v)) = true := by rw [inA_iff.2 (by omega), inA_iff.2 (by omega)]; rfl
  have e : atanV (hzU s t v) (hzS s t v) = angV (hzU s t v) (hzS s t v) := by unfold atanV; rw [if_pos hin, if_neg (by omega)]
  have ax : absV (hzS s t v) = hzS s t v := absV_pos r0
  constructor
  · intro h
    have sr := steepV_range h r0
    have ea : angV (hzU s t v) (hzS s t v) = steepV (hzU s t v) (hzS s t v) := by
      unfold angV turnX turnY
      rw [ax, absV_pos h, if_neg (by omega), if_neg (by omega)]; omega
    unfold alA
    rw [e, ea, if_neg (by omega)]
  · intro h
    have sr := steepV_range (show 0 ≤ -hzU s t v by omega) r0
    have ab : absV (hzU s t v) = -hzU s t v := by unfold absV; rw [if_pos (by omega)]
    have ea : angV (hzU s t v) (hzS s t v) = (4294967296 - steepV (-hzU s t v) (hzS s t v)) % 4294967296 := by
      unfold angV turnX turnY
      rw [ax, ab, if_pos (by omega), if_neg (by omega)]
    unfold alA
    rw [e, ea]
    by_cases hz : steepV (-hzU s t v) (hzS s t v) = 0
    · rw [hz]; decide
    · rw [if_pos (by omega)]; omega
theorem isq_both (n : Int) (h : 0 ≤ n) : ((isq n.toNat : Nat) : Int) * ((isq n.toNat : Nat) : Int) ≤ n ∧ n < (((isq n.toNat : Nat) : Int) + 1) * (((isq n.toNat : Nat) : Int) + 1) := by
  obtain ⟨a, rfl⟩ := Int.eq_ofNat_of_zero_le h
  have q := isq_spec a
  rw [Int.toNat_natCast]
  exact ⟨by exact_mod_cast q.1, by exact_mod_cast q.2⟩
/-- The length of the pose's components against that of the direction. -/
theorem len_in {s : Si} {t : Int} {v : V3} (hs : sE s = 0) (hv : vE v = 0) :
    ∃ G : Int, 1 ≤ G ∧ G * G ≤ 1048576 * (hzS s t v * hzS s t v + hzU s t v * hzU s t v) ∧ 1048576 * (hzS s t v * hzS s t v + hzU s t v * hzU s t v) < (G + 1) * (G + 1) ∧
      1152921504606846976 * G ≤ 1152921506754330624 * (lnV v + 1) + 3541774862152233910272 ∧ 1152921502459363328 * lnV v - 4722366482869645213696 ≤ 1152921504606846976 * (G + 1025) := by
  obtain ⟨p1, p2, b1, b2, b3, b4, b5, b6⟩ := aim_in (t := t) hs hv
  obtain ⟨l1, l2, l3, l4⟩ := ln_sq hv
  obtain ⟨w1, w2⟩ := norm_in (s := s) (t := t) (v := v)
  obtain ⟨a1, a2, a3⟩ := aim_near s t v
  have r0 : 0 ≤ hzS s t v := by unfold hzS; omega
  have rq := isq_both (hzN s t v * hzN s t v + hzE s t v * hzE s t v) (by omega)
  have r1 : hzS s t v * hzS s t v ≤ hzN s t v * hzN s t v + hzE s t v * hzE s t v := rq.1
  have r2 : hzN s t v * hzN s t v + hzE s t v * hzE s t v < (hzS s t v + 1) * (hzS s t v + 1) := rq.2
  clear rq
  generalize hzS s t v = r at *
  generalize hzU s t v = U at *
  generalize hzN s t v = Nn at *
  generalize hzE s t v = Ee at *
  generalize wV s t v = V at *
  generalize wP s t v = P at *
  generalize 1073741824 * wY s t v = R at *
  generalize lnV v = M at *
  generalize nnV v = nn at *
  have rr := sq_nn r
  have uu := sq_nn U
  have tn : 0 ≤ 1048576 * (r * r + U * U) := by omega
  obtain ⟨g1, g2⟩ := isq_both (1048576 * (r * r + U * U)) tn
  have g0 : 0 ≤ ((isq (1048576 * (r * r + U * U)).toNat : Nat) : Int) := by omega
  generalize ((isq (1048576 * (r * r + U * U)).toNat : Nat) : Int) = G at *
  -- scaled by 2^20
  have sc : ∀ x : Int, 1048576 * x * (1048576 * x) = 1099511627776 * (x * x) := fun x => by grind
  have kU : 1048576 * V * (1048576 * V) + 1048576 * P * (1048576 * P) + 1048576 * R * (1048576 * R) ≤ 1152921506754330624 * (M + 1) * (1152921506754330624 * (M + 1)) := by
    rw [sc, sc, sc]
    have : 1152921506754330624 * (M + 1) * (1152921506754330624 * (M + 1)) = 1152921506754330624 * 1152921506754330624 * ((M + 1) * (M + 1)) := by grind
    rw [this]
    generalize (M + 1) * (M + 1) = MM at *
    generalize M * M = MM0 at *
    omega
  have kL : 1152921502459363328 * M * (1152921502459363328 * M) ≤ 1048576 * V * (1048576 * V) + 1048576 * P * (1048576 * P) + 1048576 * R * (1048576 * R) := by
    rw [sc, sc, sc]
    have : 1152921502459363328 * M * (1152921502459363328 * M) = 1152921502459363328 * 1152921502459363328 * (M * M) := by grind
    rw [this]
    generalize M * M = MM0 at *
    omega
  have d : ∀ x y : Int, -1125899906842624 ≤ 1125899906842624 * x - y ∧ 1125899906842624 * x - y ≤ 1125899906842624 → -1180591620717411303424 ≤ 1180591620717411303424 * x - 1048576 * y ∧ 1180591620717411303424 * x - 1048576 * y ≤ 1180591620717411303424 := fun x y h => by omega
  have nu := nrm_up (by omega) (by omega) kU (d _ _ a1) (d _ _ a2) (d _ _ a3)
  have nd := nrm_dn (by omega) (by omega) kU kL (by omega) (d _ _ a1) (d _ _ a2) (d _ _ a3)
  have sq70 : ∀ x : Int, 1180591620717411303424 * x * (1180591620717411303424 * x) = 1393796574908163946345982392040522594123776 * (x * x) := fun x => by grind
  rw [sq70, sq70, sq70] at nu nd
  have sq60 : ∀ x : Int, 1152921504606846976 * x * (1152921504606846976 * x) = 1329227995784915872903807060280344576 * (x * x) := fun x => by grind
  have hi : 1152921504606846976 * G ≤ 1152921506754330624 * (M + 1) + 3 * 1180591620717411303424 := by
    refine (sq_le (by omega) ?_).2
    refine Int.le_trans ?_ nu
    rw [sq60]
    generalize G * G = GG at *
    generalize (G + 1) * (G + 1) = GG1 at *
    generalize U * U = UU at *
    generalize Nn * Nn = NN at *
    generalize Ee * Ee = EE at *
    generalize r * r = RR at *
    omega
  have rG : 1024 * r ≤ G := by
    apply Int.not_lt.1; intro hc
    have q := sq_bd (a := G + 1) (b := 1024 * r) (by omega) (by omega)
    have : 1024 * r * (1024 * r) = 1048576 * (r * r) := by grind
    omega
  have lo : 1152921502459363328 * M - 4 * 1180591620717411303424 ≤ 1152921504606846976 * (G + 1025) := by
    by_cases hneg : 1152921502459363328 * M - 4 * 1180591620717411303424 < 0
    · omega
    · refine (sq_le (by omega) ?_).2
      refine Int.le_trans nd ?_
      rw [sq60]
      have e : (G + 1025) * (G + 1025) = (G + 1) * (G + 1) + 2048 * (G + 1) + 1048576 := by grind
      rw [e]
      have e2 : (r + 1) * (r + 1) = r * r + 2 * r + 1 := by grind
      rw [e2] at r2
      generalize (G + 1) * (G + 1) = GG1 at *
      generalize G * G = GG at *
      generalize U * U = UU at *
      generalize Nn * Nn = NN at *
      generalize Ee * Ee = EE at *
      generalize r * r = RR at *
      omega
  refine ⟨G, by omega, g1, g2, hi, lo⟩
/-- P10.5: what AimErr allows. -/
theorem aimed_in {s : Si} {t : Int} {v : V3} (hs : sE s = 0) (hv : vE v = 0) (ht : -4611686018427387904 ≤ t ∧ t ≤ 4611686018427387904) (hb : ofB t t = ⟨t, t, false⟩) (hq : hQ s (ofB t t) v) :
    (htV s (ofB t t) v).lo - 40 ≤ sinV (alA s t v) ∧ sinV (alA s t v) ≤ (htV s (ofB t t) v).hi + 40 := by
  obtain ⟨hk, _⟩ := ht_known hq
  rw [hk]
  simp only
  have sr := sin_range (alA s t v)
  have hs' := sE_iff.1 hs
  have kl := loc_kn hq.2.2
  have hl : hLoc s (ofB t t) = ⟨t + s.lon, t + s.lon, false⟩ := by
    obtain ⟨e1, k1⟩ := ofB_mk (lo := s.lon) (hi := s.lon) (by omega) (Int.le_refl _) (by omega)
    have kt : knB (ofB t t) = true := by
      have h := kl
      unfold hLoc addB at h
      cases hc : knB (ofB t t) with
      | true => rfl
      | false => rw [hc] at h; cases h
    have h := kl
    unfold hLoc addB at h ⊢
    rw [hb] at kt h ⊢
    rw [e1] at h ⊢
    rw [kt, k1] at h ⊢
    simp only [Bool.and_self, cond_true] at h ⊢
    exact (ofB_kn h).1
  have cg : cosV (hLoc s (ofB t t)).lo = cosV (hzL s t) := by rw [hl]; exact cos_cong (by unfold hzL; simp only; omega)
  have sg : sinV (hLoc s (ofB t t)).lo = sinV (hzL s t) := by rw [hl]; exact sin_cong (by unfold hzL; simp only; omega)
  have le : (hLoc s (ofB t t)).lo ≤ (hLoc s (ofB t t)).hi := by rw [hl]; exact Int.le_refl _
  have hc : hasB (hTC s (ofB t t)) (cosV (hzL s t)) = true := by rw [← cg]; exact wave_hasB (s := 1073741824) cos_s kl (Int.le_refl _) le
  have hd : hasB (hTD s (ofB t t)) (sinV (hzL s t)) = true := by rw [← sg]; exact wave_hasB (s := 0) sin_s kl (Int.le_refl _) le
  have la := lat_kn hs
  have hp : hasB (hTB s) (cosV s.lat) = true := wave_hasB (s := 1073741824) cos_s la.2 (by rw [la.1]; exact Int.le_refl _) (by rw [la.1]; exact Int.le_refl _)
  have ha : hasB (hTA s) (sinV s.lat) = true := wave_hasB (s := 0) sin_s la.2 (by rw [la.1]; exact Int.le_refl _) (by rw [la.1]; exact Int.le_refl _)
  have u := hTU_has hq hc hd hp ha
  rw [show (grV v).z * sinV s.lat * 1073741824 + cosV s.lat * ((grV v).x * cosV (hzL s t) + (grV v).y * sinV (hzL s t)) = wV s t v from rfl] at u
  obtain ⟨n1, n2, n3, n4⟩ := hTN_rg hv
  have hy : hasB (hTN v) (lnV v) = true := hasB_iff.2 fun _ => ⟨by omega, by have := n1.2; omega⟩
  obtain ⟨l1, l2, l3, l4⟩ := ln_sq hv
  have w := hTV_lo hq hy (by omega)
  obtain ⟨a1, _, _⟩ := aim_near s t v
  obtain ⟨p1, p2, b1, b2, b3, b4, b5, b6⟩ := aim_in (t := t) hs hv
  obtain ⟨G, g0, g1, g2, gu, gl⟩ := len_in (t := t) hs hv
  have r0 : 0 ≤ hzS s t v := by unfold hzS; omega
  have rb : hzS s t v ≤ 4294967296 := by
    have q := isq_both (hzN s t v * hzN s t v + hzE s t v * hzE s t v) (by omega)
    have q2 := sq_bd (a := hzN s t v) (b := 1859775396) (by omega) (by omega)
    have q3 := sq_bd (a := hzE s t v) (b := 1518500251) (by omega) (by omega)
    have : (hzS s t v) * (hzS s t v) ≤ hzN s t v * hzN s t v + hzE s t v * hzE s t v := q.1
    apply Int.not_lt.1; intro hc
    have := sq_lt (a := hzS s t v) (b := 4294967296) (by omega) hc
    omega
  have n0 : ¬ (hzS s t v = 0 ∧ hzU s t v = 0) := by
    rintro ⟨z1, z2⟩
    rw [z1, z2] at g1
    have := sq_lt (a := G) (b := 0) (by omega) (by omega)
    omega
  obtain ⟨al1, al2⟩ := al_eq hs hv n0 rb
  have m1 := minI_sp (hTV s (ofB t t) v).hi 1073741824
  have m2 := maxI_sp (hTV s (ofB t t) v).lo (-1073741824)
  have lo : (hTV s (ofB t t) v).lo * lnV v ≤ (hzU s t v + 1) * 1099511627776 := by
    generalize (hTV s (ofB t t) v).lo * lnV v = X at *
    omega
  have hi : (hzU s t v - 1) * 1099511627776 ≤ (hTV s (ofB t t) v).hi * lnV v := by
    generalize (hTV s (ofB t t) v).hi * lnV v = X at *
    omega
  by_cases hu : 0 ≤ hzU s t v
  · obtain ⟨k1, k2, k3, k4⟩ := steep_side hu r0
    rw [← al1 hu] at k1 k2 k3 k4
    have cc := circle (alA s t v)
    have co := core (M := lnV v) ⟨k3, sr.2⟩ ⟨k4, (cos_range _).2⟩ cc r0 hu ⟨k1, k2⟩ g0 g1 g2
    have f1 := (core2 (h := (hTV s (ofB t t) v).lo) ⟨k3, sr.2⟩ ⟨hu, by omega⟩ ⟨l3, l4⟩ co.1 co.2 gu gl).1 lo
    have f2 := (core2 (h := (hTV s (ofB t t) v).hi) ⟨k3, sr.2⟩ ⟨hu, by omega⟩ ⟨l3, l4⟩ co.1 co.2 gu gl).2 hi
    omega
  · have hu' : 0 ≤ -hzU s t v := by omega
    obtain ⟨k1, k2, k3, k4⟩ := steep_side hu' r0
    have ea : steepV (-hzU s t v) (hzS s t v) = -alA s t v := by rw [al2 (by omega)]; omega
    rw [ea] at k1 k2 k3 k4
    have cc := circle (-alA s t v)
    rw [← Int.neg_mul_neg (hzU s t v)] at g1 g2
    have co := core (M := lnV v) ⟨k3, (sin_range _).2⟩ ⟨k4, (cos_range _).2⟩ cc r0 hu' ⟨k1, k2⟩ g0 g1 g2
    have f1 := (core2 (h := -(hTV s (ofB t t) v).hi) ⟨k3, (sin_range _).2⟩ ⟨hu', by omega⟩ ⟨l3, l4⟩ co.1 co.2 gu gl).1 (by rw [Int.neg_mul]; omega)
    have f2 := (core2 (h := -(hTV s (ofB t t) v).lo) ⟨k3, (sin_range _).2⟩ ⟨hu', by omega⟩ ⟨l3, l4⟩ co.1 co.2 gu gl).2 (by rw [Int.neg_mul]; omega)
    rw [sin_neg] at f1 f2
    omega
end Go.Proofs.Ytagbpehfieejcaa.AtHz

