/-
 Sines, cosines and angles by the rule, as functions of whole numbers: symmetries, order, steps, the circle, the angle of a direction.
 Conditions: those of each theorem.
-/
import Derived.Test.YtmhhdedekblbnaaGreatProg
set_option linter.unusedVariables false
set_option linter.unusedSimpArgs false
namespace Go.Proofs.YtmhhdedekblbnaaGreat.Tg
def scV (a b : Int) : Int := a * b / 1152921504606846976
def radV (t : Int) : Int := t * 1811004864519280710 / 1073741824
def stV (u k s : Int) : Int := 1152921504606846976 - scV u s / k
def serS (u : Int) : Int := stV u 6 (stV u 20 (stV u 42 (stV u 72 (stV u 110 (stV u 156 1152921504606846976)))))
def serC (u : Int) : Int := stV u 2 (stV u 12 (stV u 30 (stV u 56 (stV u 90 (stV u 132 (stV u 182 1152921504606846976))))))
def rndV (y : Int) : Int := (y + 536870912) / 1073741824
def sqV (x : Int) : Int := scV x x
def sinP (t : Int) : Int := rndV (scV (radV t) (serS (sqV (radV t))))
def cosP (t : Int) : Int := rndV (serC (sqV (radV t)))
def risV (t : Int) : Int := if t <= 536870912 then sinP t else cosP (1073741824 - t)
def sinR (r : Int) : Int := if r <= 1073741824 then risV r else if r <= 2147483648 then risV (2147483648 - r) else if r <= 3221225472 then -risV (r - 2147483648) else -risV (4294967296 - r)
def sinV (a : Int) : Int := sinR (a % 4294967296)
def cosV (a : Int) : Int := sinV (a + 1073741824)

theorem fl_le {a b c : Int} (hc : 0 < c) (h : a <= b) : a / c <= b / c := Int.ediv_le_ediv hc h
theorem fl_lip {a b d k : Int} (hk : 1 <= k) (hd : 0 <= d) (h1 : a <= b) (h2 : b <= a + d) : a / k <= b / k /\ b / k <= a / k + d := by
 refine ⟨fl_le (by omega) h1, ?_⟩
 have h3 : b / k <= (a + d * k) / k := fl_le (by omega) (by have := Int.mul_le_mul_of_nonneg_left hk hd; omega)
 rw [Int.add_mul_ediv_right _ _ (by omega)] at h3
 exact h3
theorem scV_range {a b : Int} (a0 : 0 <= a) (a1 : a <= 1152921504606846976) (b0 : 0 <= b) (b1 : b <= 1152921504606846976) : 0 <= scV a b /\ scV a b <= a /\ scV a b <= b := by
 unfold scV
 have h1 : 0 <= a * b := Int.mul_nonneg a0 b0
 have h2 : a * b <= a * 1152921504606846976 := Int.mul_le_mul_of_nonneg_left b1 a0
 have h3 : a * b <= 1152921504606846976 * b := Int.mul_le_mul_of_nonneg_right a1 b0
 generalize a * b = p at *
 omega
theorem st_step {u u' s s' k : Int} (u0 : 0 <= u) (uu : u <= u') (um : 6 * u' <= 5764607523034234880) (s1 : 5764607523034234880 <= 6 * s') (ss : s' <= s) (sd : s <= s' + (u' - u)) (s2 : s <= 1152921504606846976) :
   scV u s <= scV u' s' /\ scV u' s' <= scV u s + (u' - u) := by
 unfold scV
 obtain ⟨d, rfl⟩ : ∃ d, u' = u + d := ⟨u' - u, by omega⟩
 obtain ⟨g, rfl⟩ : ∃ g, s = s' + g := ⟨s - s', by omega⟩
 have hd : 0 <= d := by omega
 have hg : 0 <= g := by omega
 have hg2 : g <= d := by omega
 have h1 : u * g <= u * d := Int.mul_le_mul_of_nonneg_left hg2 u0
 have h2 : d * u <= d * s' := Int.mul_le_mul_of_nonneg_left (by omega) hd
 have h3 : 0 <= u * g := Int.mul_nonneg u0 hg
 have h4 : d * s' <= d * 1152921504606846976 := Int.mul_le_mul_of_nonneg_left (by omega) hd
 have e1 : u * (s' + g) = u * s' + u * g := Int.mul_add ..
 have e2 : (u + d) * s' = u * s' + d * s' := Int.add_mul ..
 have e3 : u * d = d * u := Int.mul_comm ..
 rw [e1, e2]
 generalize u * s' = p at *
 generalize u * g = q at *
 generalize d * s' = r at *
 generalize u * d = m at *
 generalize d * u = n at *
 omega
def Sk (u u' s s' : Int) : Prop := 5764607523034234880 <= 6 * s' /\ s' <= s /\ s <= s' + (u' - u) /\ s <= 1152921504606846976
theorem Sk.step {u u' s s' k : Int} (h : Sk u u' s s') (u0 : 0 <= u) (uu : u <= u') (um : 6 * u' <= 5764607523034234880) (hk : 6 <= k) : Sk u u' (stV u k s) (stV u' k s') := by
 obtain ⟨h1, h2, h3, h4⟩ := h
 obtain ⟨g1, g2⟩ := st_step (k := k) u0 uu um h1 h2 h3 h4
 have g3 := scV_range (a := u') (b := s') (by omega) (by omega) (by omega) (by omega)
 have g0 := scV_range (a := u) (b := s) (by omega) (by omega) (by omega) (by omega)
 obtain ⟨g4, g5⟩ := fl_lip (k := k) (by omega) (by omega) g1 g2
 have g6 : scV u' s' / k <= scV u' s' / 6 := by
   rw [Int.le_ediv_iff_mul_le (by omega)]
   have : scV u' s' / k * k <= scV u' s' := Int.ediv_mul_le _ (by omega)
   have g7 : 0 <= scV u' s' / k := Int.ediv_nonneg g3.1 (by omega)
   have := Int.mul_le_mul_of_nonneg_left hk g7
   omega
 have g8 : 0 <= scV u s / k := Int.ediv_nonneg g0.1 (by omega)
 unfold Sk stV
 generalize scV u' s' / k = a at *
 generalize scV u s / k = b at *
 omega
theorem Sk.start {u u' : Int} (uu : u <= u') : Sk u u' 1152921504606846976 1152921504606846976 := ⟨by omega, by omega, by omega, by omega⟩
theorem serS_lip {u u' : Int} (u0 : 0 <= u) (uu : u <= u') (um : 6 * u' <= 5764607523034234880) :
   5764607523034234880 <= 6 * serS u' /\ serS u' <= serS u /\ 6 * (serS u - serS u') <= (u' - u) + 5 /\ serS u <= 1152921504606846976 := by
 have h := ((((Sk.start uu).step u0 uu um (show 6 <= 156 by omega)).step u0 uu um (show 6 <= 110 by omega)).step u0 uu um (show 6 <= 72 by omega)).step u0 uu um (show 6 <= 42 by omega) |>.step u0 uu um (show 6 <= 20 by omega)
 have h' := h.step u0 uu um (show 6 <= 6 by omega)
 obtain ⟨h1, h2, h3, h4⟩ := h
 obtain ⟨k1, k2, k3, k4⟩ := h'
 refine ⟨k1, k2, ?_, k4⟩
 obtain ⟨g1, g2⟩ := st_step (k := 6) u0 uu um h1 h2 h3 h4
 unfold serS
 conv => lhs; rw [show ∀ s, stV u 6 s = 1152921504606846976 - scV u s / 6 from fun _ => rfl, show ∀ s, stV u' 6 s = 1152921504606846976 - scV u' s / 6 from fun _ => rfl]
 generalize scV u _ = a at *
 generalize scV u' _ = b at *
 omega
theorem serC_lip {u u' : Int} (u0 : 0 <= u) (uu : u <= u') (um : 6 * u' <= 5764607523034234880) :
   576460752303423488 <= serC u' /\ serC u' <= serC u /\ 2 * (serC u - serC u') <= (u' - u) + 1 /\ serC u <= 1152921504606846976 := by
 have h := ((((Sk.start uu).step u0 uu um (show 6 <= 182 by omega)).step u0 uu um (show 6 <= 132 by omega)).step u0 uu um (show 6 <= 90 by omega)).step u0 uu um (show 6 <= 56 by omega) |>.step u0 uu um (show 6 <= 30 by omega) |>.step u0 uu um (show 6 <= 12 by omega)
 obtain ⟨h1, h2, h3, h4⟩ := h
 obtain ⟨g1, g2⟩ := st_step (k := 6) u0 uu um h1 h2 h3 h4
 have g3 := scV_range (a := u') (b := (stV u' 12 (stV u' 30 (stV u' 56 (stV u' 90 (stV u' 132 (stV u' 182 1152921504606846976))))))) (by omega) (by omega) (by omega) (by omega)
 have g0 := scV_range (a := u) (b := (stV u 12 (stV u 30 (stV u 56 (stV u 90 (stV u 132 (stV u 182 1152921504606846976))))))) (by omega) (by omega) (by omega) (by omega)
 unfold serC
 rw [show ∀ s, stV u 2 s = 1152921504606846976 - scV u s / 2 from fun _ => rfl, show ∀ s, stV u' 2 s = 1152921504606846976 - scV u' s / 2 from fun _ => rfl]
 generalize scV u _ = a at *
 generalize scV u' _ = b at *
 generalize (stV u' 12 _) = c at *
 omega

theorem rad_range {t : Int} (h0 : 0 <= t) (h1 : t <= 536870912) : 0 <= radV t /\ radV t <= 905502432259640355 := by unfold radV; omega
theorem rad_dist {t t' : Int} (h : t <= t') : 1686629713 * (t' - t) <= radV t' - radV t + 1 /\ radV t' - radV t <= 1686629714 * (t' - t) + 1 := by unfold radV; omega
theorem sq_step {x d : Int} (x0 : 0 <= x) (d0 : 0 <= d) (xm : x + d <= 905502432259640355) :
   0 <= sqV x /\ sqV x <= sqV (x + d) /\ sqV (x + d) <= 711179947248643884 /\ 1152921504606846976 * (sqV (x + d) - sqV x) <= 2 * ((x + d) * d) + 1152921504606846975 := by
 unfold sqV scV
 have e : (x + d) * (x + d) = x * x + (2 * ((x + d) * d) - d * d) := by grind
 have h1 : 0 <= x * x := Int.mul_nonneg x0 x0
 have h2 : 0 <= (x + d) * d := Int.mul_nonneg (by omega) d0
 have h3 : 0 <= d * d := Int.mul_nonneg d0 d0
 have h4 : d * d <= (x + d) * d := Int.mul_le_mul_of_nonneg_right (by omega) d0
 have h5 : (x + d) * (x + d) <= 905502432259640355 * 905502432259640355 := Int.mul_le_mul xm xm (by omega) (by omega)
 generalize (x + d) * (x + d) = p at *
 generalize x * x = q at *
 generalize (x + d) * d = r at *
 generalize d * d = s at *
 omega
def sinY (x : Int) : Int := scV x (serS (sqV x))
def cosY (x : Int) : Int := serC (sqV x)
theorem sinY_step {x d : Int} (x0 : 0 <= x) (d0 : 2 <= d) (xm : x + d <= 905502432259640355) :
   sinY x <= sinY (x + d) /\ 600000000000000000 * d <= 1152921504606846976 * (sinY (x + d) - sinY x) + 4 * 1152921504606846976 /\ sinY (x + d) <= sinY x + d + 1 := by
 obtain ⟨q1, q2, q3, q4⟩ := sq_step x0 (by omega) xm
 obtain ⟨s1, s2, s3, s4⟩ := serS_lip q1 q2 (by omega)
 unfold sinY scV
 generalize sqV x = u at *
 generalize sqV (x + d) = u' at *
 generalize serS u = s at *
 generalize serS u' = s' at *
 obtain ⟨g, rfl⟩ : ∃ g, s = s' + g := ⟨s - s', by omega⟩
 obtain ⟨w, rfl⟩ : ∃ w, u' = u + w := ⟨u' - u, by omega⟩
 have e1 : (x + d) * s' = x * s' + d * s' := Int.add_mul ..
 have e2 : x * (s' + g) = x * s' + x * g := Int.mul_add ..
 have hg : 6 * g <= w + 5 := by omega
 have hg0 : 0 <= g := by omega
 have h1 : 0 <= x * g := Int.mul_nonneg x0 hg0
 have h2 : 1152921504606846976 * (6 * g) <= 2 * ((x + d) * d) + 6 * 1152921504606846976 := by omega
 have h3 : x * (1152921504606846976 * (6 * g)) <= x * (2 * ((x + d) * d) + 6 * 1152921504606846976) := Int.mul_le_mul_of_nonneg_left h2 x0
 have h4 : x * (2 * ((x + d) * d) + 6 * 1152921504606846976) = 2 * ((x * (x + d)) * d) + 6 * 1152921504606846976 * x := by grind
 have h5 : x * (x + d) <= 905502432259640355 * 905502432259640355 := Int.mul_le_mul (by omega) xm (by omega) (by omega)
 have h6 : (x * (x + d)) * d <= (905502432259640355 * 905502432259640355) * d := Int.mul_le_mul_of_nonneg_right h5 (by omega)
 have h7 : x * (1152921504606846976 * (6 * g)) = 6 * 1152921504606846976 * (x * g) := by grind
 have h8 : 5764607523034234880 * d <= (6 * s') * d := Int.mul_le_mul_of_nonneg_right s1 (by omega)
 have h9 : (6 * s') * d = 6 * (d * s') := by grind
 have h10 : d * s' <= d * 1152921504606846976 := Int.mul_le_mul_of_nonneg_left (by omega) (by omega)
 rw [e1, e2]
 generalize x * s' = p at *
 generalize x * g = q at *
 generalize d * s' = r at *
 generalize (x * (x + d)) * d = m at *
 omega
theorem cosY_step {x d : Int} (x0 : 0 <= x) (d0 : 0 <= d) (xm : x + d <= 905502432259640355) :
   cosY (x + d) <= cosY x /\ cosY x <= cosY (x + d) + d + 1 := by
 obtain ⟨q1, q2, q3, q4⟩ := sq_step x0 (by omega) xm
 obtain ⟨s1, s2, s3, s4⟩ := serC_lip q1 q2 (by omega)
 unfold cosY
 have h1 : (x + d) * d <= 905502432259640355 * d := Int.mul_le_mul_of_nonneg_right xm d0
 generalize sqV x = u at *
 generalize sqV (x + d) = u' at *
 generalize serC u = s at *
 generalize serC u' = s' at *
 generalize (x + d) * d = m at *
 omega
theorem sinY_range {x : Int} (x0 : 0 <= x) (xm : x <= 905502432259640355) : 0 <= sinY x /\ sinY x <= x := by
 obtain ⟨q1, q2, q3, q4⟩ := sq_step (d := 0) x0 (by omega) (by omega)
 simp only [Int.add_zero] at *
 obtain ⟨s1, s2, s3, s4⟩ := serS_lip q1 q2 (by omega)
 have := scV_range (a := x) (b := serS (sqV x)) x0 (by omega) (by omega) s4
 exact ⟨this.1, this.2.1⟩
theorem sinP_eq (t : Int) : sinP t = rndV (sinY (radV t)) := rfl
theorem cosP_eq (t : Int) : cosP t = rndV (cosY (radV t)) := rfl
theorem sinP_step {t d : Int} (h0 : 0 <= t) (h1 : 1 <= d) (h2 : t + d <= 536870912) : sinP t <= sinP (t + d) /\ (2 <= d -> sinP t + 1 <= sinP (t + d)) /\ sinP (t + d) <= sinP t + 2 * d := by
 have hr := rad_dist (t := t) (t' := t + d) (by omega)
 have r0 := rad_range h0 (by omega)
 have r1 := rad_range (t := t + d) (by omega) (by omega)
 rw [sinP_eq, sinP_eq]
 obtain ⟨g, hg⟩ : ∃ g, radV (t + d) = radV t + g := ⟨radV (t + d) - radV t, by omega⟩
 rw [hg] at r1 hr ⊢
 obtain ⟨a1, a2, a3⟩ := sinY_step r0.1 (by omega) r1.2
 unfold rndV
 generalize sinY (radV t) = y at *
 generalize sinY (radV t + g) = y' at *
 omega
theorem cosP_step {t d : Int} (h0 : 0 <= t) (h1 : 0 <= d) (h2 : t + d <= 536870912) : cosP (t + d) <= cosP t /\ cosP t <= cosP (t + d) + 2 * d := by
 rcases Int.lt_or_le d 1 with hd | hd
 · obtain rfl : d = 0 := by omega
   simp
 have hr := rad_dist (t := t) (t' := t + d) (by omega)
 have r0 := rad_range h0 (by omega)
 have r1 := rad_range (t := t + d) (by omega) (by omega)
 rw [cosP_eq, cosP_eq]
 obtain ⟨g, hg⟩ : ∃ g, radV (t + d) = radV t + g := ⟨radV (t + d) - radV t, by omega⟩
 rw [hg] at r1 hr ⊢
 obtain ⟨a1, a2⟩ := cosY_step r0.1 (by omega) r1.2
 unfold rndV
 generalize cosY (radV t) = y at *
 generalize cosY (radV t + g) = y' at *
 omega
theorem sinP_0 : sinP 0 = 0 := by decide +kernel
theorem cosP_0 : cosP 0 = 1073741824 := by decide +kernel
theorem sinP_8 : sinP 536870912 = 759250125 := by decide +kernel
theorem cosP_8 : cosP 536870912 = 759250125 := by decide +kernel
theorem cosP_7 : cosP 536870911 = 759250126 := by decide +kernel
theorem sinP_range {t : Int} (h0 : 0 <= t) (h2 : t <= 536870912) : 0 <= sinP t /\ sinP t <= 759250125 := by
 rcases Int.lt_or_le 0 t with h | h
 · have a := (sinP_step (t := 0) (d := t) (by omega) h (by omega)).1
   rw [Int.zero_add, sinP_0] at a
   refine ⟨a, ?_⟩
   rcases Int.lt_or_le t 536870912 with g | g
   · have b := (sinP_step (t := t) (d := 536870912 - t) h0 (by omega) (by omega)).1
     rw [show t + (536870912 - t) = 536870912 by omega, sinP_8] at b
     exact b
   · obtain rfl : t = 536870912 := by omega
     rw [sinP_8]; omega
 · obtain rfl : t = 0 := by omega
   rw [sinP_0]; omega
theorem cosP_range {t : Int} (h0 : 0 <= t) (h2 : t <= 536870912) : 759250125 <= cosP t /\ cosP t <= 1073741824 := by
 have a := (cosP_step (t := 0) (d := t) (by omega) h0 (by omega)).1
 rw [Int.zero_add, cosP_0] at a
 have b := (cosP_step (t := t) (d := 536870912 - t) h0 (by omega) (by omega)).1
 rw [show t + (536870912 - t) = 536870912 by omega, cosP_8] at b
 exact ⟨b, a⟩
theorem ris_step {t : Int} (h0 : 0 <= t) (h1 : t < 1073741824) : risV t <= risV (t + 1) /\ risV (t + 1) <= risV t + 2 := by
 unfold risV
 rcases Int.lt_or_le t 536870912 with h | h
 · rw [if_pos (by omega), if_pos (by omega)]
   have := sinP_step (t := t) (d := 1) h0 (by omega) (by omega)
   omega
 · rcases Int.lt_or_le 536870912 t with g | g
   · rw [if_neg (by omega), if_neg (by omega)]
     have := cosP_step (t := 1073741824 - (t + 1)) (d := 1) (by omega) (by omega) (by omega)
     rw [show 1073741824 - (t + 1) + 1 = 1073741824 - t by omega] at this
     omega
   · obtain rfl : t = 536870912 := by omega
     decide +kernel
theorem ris_mono {t t' : Int} (h0 : 0 <= t) (h : t <= t') (h1 : t' <= 1073741824) : risV t <= risV t' := by
 obtain ⟨n, rfl⟩ : ∃ n : Nat, t' = t + n := ⟨(t' - t).toNat, by omega⟩
 induction n with
 | zero => simp
 | succ n ih =>
   have := ris_step (t := t + n) (by omega) (by omega)
   have := ih (by omega) (by omega)
   rw [show t + ((n + 1 : Nat) : Int) = t + n + 1 by omega]
   omega
theorem ris_0 : risV 0 = 0 := by decide +kernel
theorem ris_q : risV 1073741824 = 1073741824 := by decide +kernel
theorem ris_range {t : Int} (h0 : 0 <= t) (h1 : t <= 1073741824) : 0 <= risV t /\ risV t <= 1073741824 := by
 have a := ris_mono (t := 0) (by omega) h0 h1
 have b := ris_mono h0 h1 (by omega)
 rw [ris_0] at a
 rw [ris_q] at b
 exact ⟨a, b⟩

theorem sin_q1 {t k : Int} (h0 : 0 <= t) (h1 : t <= 1073741824) : sinV (t + 4294967296 * k) = risV t := by
 unfold sinV
 rw [show (t + 4294967296 * k) % 4294967296 = t by omega]
 unfold sinR; rw [if_pos h1]
theorem sin_q2 {t k : Int} (h0 : 0 <= t) (h1 : t <= 1073741824) : sinV (2147483648 - t + 4294967296 * k) = risV t := by
 unfold sinV
 rw [show (2147483648 - t + 4294967296 * k) % 4294967296 = 2147483648 - t by omega]
 unfold sinR
 rcases Int.lt_or_le t 1073741824 with h | h
 · rw [if_neg (by omega), if_pos (by omega), show 2147483648 - (2147483648 - t) = t by omega]
 · obtain rfl : t = 1073741824 := by omega
   rfl
theorem sin_q3 {t k : Int} (h0 : 0 <= t) (h1 : t <= 1073741824) : sinV (2147483648 + t + 4294967296 * k) = -risV t := by
 unfold sinV
 rw [show (2147483648 + t + 4294967296 * k) % 4294967296 = 2147483648 + t by omega]
 unfold sinR
 rcases Int.lt_or_le 0 t with h | h
 · rw [if_neg (by omega), if_neg (by omega), if_pos (by omega), show 2147483648 + t - 2147483648 = t by omega]
 · obtain rfl : t = 0 := by omega
   rw [if_neg (by omega), if_pos (by omega), show (2147483648 : Int) - (2147483648 + 0) = 0 by omega, ris_0]; rfl
theorem sin_q4 {t k : Int} (h0 : 0 <= t) (h1 : t <= 1073741824) : sinV (-t + 4294967296 * k) = -risV t := by
 unfold sinV
 rcases Int.lt_or_le 0 t with h | h
 · rw [show (-t + 4294967296 * k) % 4294967296 = 4294967296 - t by omega]
   unfold sinR
   rcases Int.lt_or_le t 1073741824 with g | g
   · rw [if_neg (by omega), if_neg (by omega), if_neg (by omega), show 4294967296 - (4294967296 - t) = t by omega]
   · obtain rfl : t = 1073741824 := by omega
     rfl
 · obtain rfl : t = 0 := by omega
   rw [show (-0 + 4294967296 * k) % 4294967296 = 0 by omega]
   unfold sinR
   rw [if_pos (by omega), ris_0]; rfl
theorem quarters (a : Int) : ∃ t k : Int, 0 <= t /\ t <= 1073741824 /\ (a = t + 4294967296 * k \/ a = 2147483648 - t + 4294967296 * k \/ a = 2147483648 + t + 4294967296 * k \/ a = -t + 4294967296 * k) := by
 rcases Int.lt_or_le (a % 4294967296) 1073741824 with h | h
 · exact ⟨a % 4294967296, a / 4294967296, by omega, by omega, .inl (by omega)⟩
 · rcases Int.lt_or_le (a % 4294967296) 2147483648 with h | h
   · exact ⟨2147483648 - a % 4294967296, a / 4294967296, by omega, by omega, .inr (.inl (by omega))⟩
   · rcases Int.lt_or_le (a % 4294967296) 3221225472 with h | h
     · exact ⟨a % 4294967296 - 2147483648, a / 4294967296, by omega, by omega, .inr (.inr (.inl (by omega)))⟩
     · exact ⟨4294967296 - a % 4294967296, a / 4294967296 + 1, by omega, by omega, .inr (.inr (.inr (by omega)))⟩
theorem sin_cong {a b : Int} (h : a % 4294967296 = b % 4294967296) : sinV a = sinV b := by unfold sinV; rw [h]
theorem sin_range (a : Int) : -1073741824 <= sinV a /\ sinV a <= 1073741824 := by
 obtain ⟨t, k, h0, h1, rfl | rfl | rfl | rfl⟩ := quarters a <;> have := ris_range h0 h1
 · rw [sin_q1 h0 h1]; omega
 · rw [sin_q2 h0 h1]; omega
 · rw [sin_q3 h0 h1]; omega
 · rw [sin_q4 h0 h1]; omega
theorem cos_range (a : Int) : -1073741824 <= cosV a /\ cosV a <= 1073741824 := sin_range _
theorem sin_8 {a : Int} (h0 : 0 <= a) (h1 : a <= 536870912) : sinV a = sinP a := by
 have := sin_q1 (t := a) (k := 0) h0 (by omega)
 rw [show a + 4294967296 * 0 = a by omega] at this
 rw [this]; unfold risV; rw [if_pos h1]
theorem cos_8 {a : Int} (h0 : 0 <= a) (h1 : a <= 536870912) : cosV a = cosP a := by
 unfold cosV
 have := sin_q2 (t := 1073741824 - a) (k := 0) (by omega) (by omega)
 rw [show 2147483648 - (1073741824 - a) + 4294967296 * 0 = a + 1073741824 by omega] at this
 rw [this]; unfold risV
 rcases Int.lt_or_le a 536870912 with g | g
 · rw [if_neg (by omega), show 1073741824 - (1073741824 - a) = a by omega]
 · obtain rfl : a = 536870912 := by omega
   decide +kernel

def flP (v u a : Int) : Prop := sinV a * u <= cosV a * v
theorem flP_0 {v u : Int} (hv : 0 <= v) : flP v u 0 := by
 unfold flP
 rw [sin_8 (by omega) (by omega), cos_8 (by omega) (by omega), sinP_0, cosP_0]; omega
theorem flP_down {v u a b : Int} (hv : 0 <= v) (hu : 0 <= u) (a0 : 0 <= a) (h : a <= b) (hb : b <= 536870912) (hP : flP v u b) : flP v u a := by
 rcases Int.lt_or_le a b with g | g
 · unfold flP at *
   rw [sin_8 (by omega) (by omega), cos_8 (by omega) (by omega)] at *
   have h1 := (sinP_step (t := a) (d := b - a) a0 (by omega) (by omega)).1
   have h2 := (cosP_step (t := a) (d := b - a) a0 (by omega) (by omega)).1
   rw [show a + (b - a) = b by omega] at h1 h2
   have h3 := Int.mul_le_mul_of_nonneg_right h1 hu
   have h4 := Int.mul_le_mul_of_nonneg_right h2 hv
   omega
 · obtain rfl : a = b := by omega
   exact hP
def IsFl (v u a : Int) : Prop := 0 <= a /\ a <= 536870912 /\ flP v u a /\ (a < 536870912 -> ¬ flP v u (a + 1))
theorem IsFl.above {v u a b : Int} (h : IsFl v u a) (hv : 0 <= v) (hu : 0 <= u) (hb : a < b) (hb2 : b <= 536870912) : ¬ flP v u b := fun hP => h.2.2.2 (by omega) (flP_down hv hu (by have := h.1; omega) (by omega) hb2 hP)
theorem IsFl.ge {v u a b : Int} (h : IsFl v u a) (hv : 0 <= v) (hu : 0 <= u) (hb2 : b <= 536870912) (hP : flP v u b) : b <= a := by
 rcases Int.lt_or_le a b with g | g
 · exact absurd hP (h.above hv hu g hb2)
 · exact g
instance (v u a : Int) : Decidable (flP v u a) := by unfold flP; exact inferInstance
def flB (v u : Int) : Nat -> Int -> Int -> Int
 | 0, lo, _ => lo
 | n + 1, lo, hi => if lo < hi then (if flP v u (hi - (hi - lo) / 2) then flB v u n (hi - (hi - lo) / 2) hi else flB v u n lo (hi - (hi - lo) / 2 - 1)) else lo
theorem flB_ok {v u : Int} (hv : 0 <= v) (hu : 0 <= u) : ∀ (n : Nat) (lo hi : Int), 0 <= lo -> lo <= hi -> hi <= 536870912 -> hi - lo < 2 ^ n -> flP v u lo -> (hi < 536870912 -> ¬ flP v u (hi + 1)) -> IsFl v u (flB v u n lo hi)
 | 0, lo, hi, h0, h1, h2, h3, h4, h5 => by
   have : hi = lo := by simp at h3; omega
   subst this
   exact ⟨h0, h2, h4, h5⟩
 | n + 1, lo, hi, h0, h1, h2, h3, h4, h5 => by
   have e2 : (2 : Int) ^ (n + 1) = 2 * 2 ^ n := by rw [Int.pow_succ]; omega
   rw [e2] at h3
   unfold flB
   split
   · split
     · rename_i g1 g2
       exact flB_ok hv hu n _ hi (by omega) (by omega) h2 (by omega) g2 h5
     · rename_i g1 g2
       refine flB_ok hv hu n lo _ h0 (by omega) (by omega) (by omega) h4 (fun _ => ?_)
       rw [show hi - (hi - lo) / 2 - 1 + 1 = hi - (hi - lo) / 2 by omega]; exact g2
   · obtain rfl : hi = lo := by omega
     exact ⟨h0, h2, h4, h5⟩
def flatV (v u : Int) : Int := flB v u 30 0 536870912
theorem flatV_ok {v u : Int} (hv : 0 <= v) (hu : 0 <= u) : IsFl v u (flatV v u) := flB_ok hv hu 30 0 536870912 (by omega) (by omega) (by omega) (by decide) (flP_0 hv) (by omega)
theorem flatV_range {v u : Int} (hv : 0 <= v) (hu : 0 <= u) : 0 <= flatV v u /\ flatV v u <= 536870912 := ⟨(flatV_ok hv hu).1, (flatV_ok hv hu).2.1⟩
def steepV (v u : Int) : Int := if v > u then 1073741824 - flatV u v else flatV v u
def absV (x : Int) : Int := if -x > x then -x else x
def turnX (x b : Int) : Int := if x < 0 then 2147483648 - b else b
def turnY (y b : Int) : Int := if y < 0 then 4294967296 - b else b
def inA (x : Int) : Bool := decide (-4294967296 <= x) && decide (x <= 4294967296)
def angV (y x : Int) : Int := turnY y (turnX x (steepV (absV y) (absV x))) % 4294967296
def atanV (y x : Int) : Int := if (inA x && inA y) = true then (if x = 0 /\ y = 0 then 0 else angV y x) else 0
def atanE (y x : Int) : Int := if (inA x && inA y) = true then (if x = 0 /\ y = 0 then 8 else 0) else 4
theorem steepV_range {v u : Int} (hv : 0 <= v) (hu : 0 <= u) : 0 <= steepV v u /\ steepV v u <= 1073741824 := by
 unfold steepV
 have h1 := flatV_range hv hu
 have h2 := flatV_range hu hv
 split <;> omega
theorem flat_there {t : Int} (h0 : 0 <= t) (h1 : t <= 536870912) : t <= flatV (sinP t) (cosP t) /\ flatV (sinP t) (cosP t) <= t + 1 := by
 have s0 := sinP_range h0 h1
 have c0 := cosP_range h0 h1
 have hf := flatV_ok (v := sinP t) (u := cosP t) (by omega) (by omega)
 refine ⟨hf.ge (by omega) (by omega) h1 ?_, ?_⟩
 · unfold flP
   rw [sin_8 h0 h1, cos_8 h0 h1, Int.mul_comm]; omega
 · rcases Int.lt_or_le (t + 1) 536870912 with g | g
   · rcases Int.lt_or_le (t + 1) (flatV (sinP t) (cosP t)) with k | k
     · exfalso
       have hP := flP_down (a := t + 2) (b := flatV (sinP t) (cosP t)) (v := sinP t) (u := cosP t) (by omega) (by omega) (by omega) (by omega) hf.2.1 hf.2.2.1
       unfold flP at hP
       rw [sin_8 (by omega) (by omega), cos_8 (by omega) (by omega)] at hP
       have k1 := (sinP_step (t := t) (d := 2) h0 (by omega) (by omega)).2.1 (by omega)
       have k2 := (cosP_step (t := t) (d := 2) h0 (by omega) (by omega)).1
       have k3 := Int.mul_le_mul_of_nonneg_right k1 (show 0 <= cosP t by omega)
       have k4 := Int.mul_le_mul_of_nonneg_right k2 (show 0 <= sinP t by omega)
       rw [Int.add_mul, Int.mul_comm (sinP t) (cosP t)] at k3
       omega
     · exact k
   · have := hf.2.1; omega
theorem steep_there {t : Int} (h0 : 0 <= t) (h1 : t <= 1073741824) : t - 1 <= steepV (risV t) (risV (1073741824 - t)) /\ steepV (risV t) (risV (1073741824 - t)) <= t + 1 := by
 rcases Int.lt_or_le 536870912 t with h | h
 · have e1 : risV t = cosP (1073741824 - t) := by unfold risV; rw [if_neg (by omega)]
   have e2 : risV (1073741824 - t) = sinP (1073741824 - t) := by unfold risV; rw [if_pos (by omega)]
   have s0 := sinP_range (t := 1073741824 - t) (by omega) (by omega)
   have c0 := cosP_range (t := 1073741824 - t) (by omega) (by omega)
   rw [e1, e2]
   unfold steepV
   by_cases c : cosP (1073741824 - t) > sinP (1073741824 - t)
   · rw [if_pos c]
     have := flat_there (t := 1073741824 - t) (by omega) (by omega)
     omega
   · have q1 : sinP (1073741824 - t) = 759250125 := by omega
     have q2 : cosP (1073741824 - t) = 759250125 := by omega
     have := cosP_step (t := 1073741824 - t) (d := 536870911 - (1073741824 - t)) (by omega) (by omega) (by omega)
     rw [show 1073741824 - t + (536870911 - (1073741824 - t)) = 536870911 by omega, cosP_7] at this
     omega
 · have e1 : risV t = sinP t := by unfold risV; rw [if_pos (by omega)]
   have e2 : risV (1073741824 - t) = cosP t := by
     have := cos_8 h0 h
     rw [<- this]
     unfold cosV
     have := sin_q2 (t := 1073741824 - t) (k := 0) (by omega) (by omega)
     rw [show 2147483648 - (1073741824 - t) + 4294967296 * 0 = t + 1073741824 by omega] at this
     exact this.symm
   have s0 := sinP_range h0 h
   have c0 := cosP_range h0 h
   rw [e1, e2]
   unfold steepV
   rw [if_neg (by omega)]
   have := flat_there h0 h
   omega
theorem risQ {t : Int} (h0 : 0 <= t) (h1 : t <= 1073741824) (k : Int) : cosV (t + 4294967296 * k) = risV (1073741824 - t) /\ cosV (2147483648 - t + 4294967296 * k) = -risV (1073741824 - t) /\ cosV (2147483648 + t + 4294967296 * k) = -risV (1073741824 - t) /\ cosV (-t + 4294967296 * k) = risV (1073741824 - t) := by
 unfold cosV
 refine ⟨?_, ?_, ?_, ?_⟩
 · rw [show t + 4294967296 * k + 1073741824 = 2147483648 - (1073741824 - t) + 4294967296 * k by omega, sin_q2 (by omega) (by omega)]
 · rw [show 2147483648 - t + 4294967296 * k + 1073741824 = 2147483648 + (1073741824 - t) + 4294967296 * k by omega, sin_q3 (by omega) (by omega)]
 · rw [show 2147483648 + t + 4294967296 * k + 1073741824 = -(1073741824 - t) + 4294967296 * (k + 1) by omega, sin_q4 (by omega) (by omega)]
 · rw [show -t + 4294967296 * k + 1073741824 = (1073741824 - t) + 4294967296 * k by omega, sin_q1 (by omega) (by omega)]
theorem mul_bd {x y X Y : Int} (hx : -X <= x /\ x <= X) (hy : -Y <= y /\ y <= Y) : -(X * Y) <= x * y /\ x * y <= X * Y := by
 have h1 : (x * y).natAbs <= (X * Y).natAbs := by
   rw [Int.natAbs_mul, Int.natAbs_mul]
   exact Nat.mul_le_mul (by omega) (by omega)
 have h2 : 0 <= X * Y := Int.mul_nonneg (by omega) (by omega)
 omega
theorem ser_err {A S N u k : Int} (hA : 0 <= A) (u0 : 0 <= u) (u1 : u <= 1152921504606846976) (hk : 2 <= k) (h : -(2 * A) <= A * S - 1152921504606846976 * N /\ A * S - 1152921504606846976 * N <= 2 * A) :
   -(2 * (k * 1152921504606846976 * A)) <= (k * 1152921504606846976 * A) * stV u k S - 1152921504606846976 * (k * 1152921504606846976 * A - u * N) /\ (k * 1152921504606846976 * A) * stV u k S - 1152921504606846976 * (k * 1152921504606846976 * A - u * N) <= 2 * (k * 1152921504606846976 * A) := by
 unfold stV scV
 rw [Int.ediv_ediv_of_nonneg (by omega)]
 have q1 := Int.mul_ediv_self_le (x := u * S) (k := 1152921504606846976 * k) (by omega)
 have q2 := Int.lt_mul_ediv_self_add (x := u * S) (k := 1152921504606846976 * k) (by omega)
 generalize u * S / (1152921504606846976 * k) = Q at *
 obtain ⟨th, hth⟩ : ∃ th, th = u * S - 1152921504606846976 * k * Q := ⟨_, rfl⟩
 have e1 : (k * 1152921504606846976 * A) * (1152921504606846976 - Q) - 1152921504606846976 * (k * 1152921504606846976 * A - u * N) = A * th - u * (A * S - 1152921504606846976 * N) := by rw [hth]; grind
 rw [e1]
 generalize A * S - 1152921504606846976 * N = a at *
 have h1 := mul_bd (x := u) (X := 1152921504606846976) (y := a) (Y := 2 * A) (by omega) (by omega)
 have h2 : 0 <= A * th := Int.mul_nonneg hA (by omega)
 have h3 : A * th <= A * (1152921504606846976 * k) := Int.mul_le_mul_of_nonneg_left (by omega) hA
 have h4 : 1152921504606846976 * (2 * A) <= 1152921504606846976 * (k * A) := Int.mul_le_mul_of_nonneg_left (Int.mul_le_mul_of_nonneg_right hk hA) (by omega)
 have e2 : A * (1152921504606846976 * k) = 1152921504606846976 * (k * A) := by grind
 have e3 : k * 1152921504606846976 * A = 1152921504606846976 * (k * A) := by grind
 rw [e3]
 generalize k * A = m at *
 generalize A * th = n at *
 generalize u * a = o at *
 omega
def NSV (u : Int) : Int := ((6 * 1152921504606846976 * (20 * 1152921504606846976 * (42 * 1152921504606846976 * (72 * 1152921504606846976 * (110 * 1152921504606846976 * (156 * 1152921504606846976 * 1)))))) - u * ((20 * 1152921504606846976 * (42 * 1152921504606846976 * (72 * 1152921504606846976 * (110 * 1152921504606846976 * (156 * 1152921504606846976 * 1))))) - u * ((42 * 1152921504606846976 * (72 * 1152921504606846976 * (110 * 1152921504606846976 * (156 * 1152921504606846976 * 1)))) - u * ((72 * 1152921504606846976 * (110 * 1152921504606846976 * (156 * 1152921504606846976 * 1))) - u * ((110 * 1152921504606846976 * (156 * 1152921504606846976 * 1)) - u * ((156 * 1152921504606846976 * 1) - u * 1))))))
def NCV (u : Int) : Int := ((2 * 1152921504606846976 * (12 * 1152921504606846976 * (30 * 1152921504606846976 * (56 * 1152921504606846976 * (90 * 1152921504606846976 * (132 * 1152921504606846976 * (182 * 1152921504606846976 * 1))))))) - u * ((12 * 1152921504606846976 * (30 * 1152921504606846976 * (56 * 1152921504606846976 * (90 * 1152921504606846976 * (132 * 1152921504606846976 * (182 * 1152921504606846976 * 1)))))) - u * ((30 * 1152921504606846976 * (56 * 1152921504606846976 * (90 * 1152921504606846976 * (132 * 1152921504606846976 * (182 * 1152921504606846976 * 1))))) - u * ((56 * 1152921504606846976 * (90 * 1152921504606846976 * (132 * 1152921504606846976 * (182 * 1152921504606846976 * 1)))) - u * ((90 * 1152921504606846976 * (132 * 1152921504606846976 * (182 * 1152921504606846976 * 1))) - u * ((132 * 1152921504606846976 * (182 * 1152921504606846976 * 1)) - u * ((182 * 1152921504606846976 * 1) - u * 1)))))))
theorem serS_err {u : Int} (u0 : 0 <= u) (u1 : u <= 1152921504606846976) : -(2 * 14624423512618381205798935777403614887678544646249125127947611591383273469336389161304077707881121116968882159799500800) <= 14624423512618381205798935777403614887678544646249125127947611591383273469336389161304077707881121116968882159799500800 * serS u - 1152921504606846976 * NSV u /\ 14624423512618381205798935777403614887678544646249125127947611591383273469336389161304077707881121116968882159799500800 * serS u - 1152921504606846976 * NSV u <= 2 * 14624423512618381205798935777403614887678544646249125127947611591383273469336389161304077707881121116968882159799500800 := by
 have h0 : -(2 * (1 : Int)) <= 1 * 1152921504606846976 - 1152921504606846976 * 1 /\ (1 : Int) * 1152921504606846976 - 1152921504606846976 * 1 <= 2 * 1 := by omega
 have h1 := ser_err (k := 156) (by decide) u0 u1 (by omega) h0
 have h2 := ser_err (k := 110) (by decide) u0 u1 (by omega) h1
 have h3 := ser_err (k := 72) (by decide) u0 u1 (by omega) h2
 have h4 := ser_err (k := 42) (by decide) u0 u1 (by omega) h3
 have h5 := ser_err (k := 20) (by decide) u0 u1 (by omega) h4
 have h6 := ser_err (k := 6) (by decide) u0 u1 (by omega) h5
 exact h6
theorem serC_err {u : Int} (u0 : 0 <= u) (u1 : u <= 1152921504606846976) : -(2 * 236051373042460279110951270487730638246246242233973912917967537619604815771097327698789373062396228188300305614759641157838306375054131200) <= 236051373042460279110951270487730638246246242233973912917967537619604815771097327698789373062396228188300305614759641157838306375054131200 * serC u - 1152921504606846976 * NCV u /\ 236051373042460279110951270487730638246246242233973912917967537619604815771097327698789373062396228188300305614759641157838306375054131200 * serC u - 1152921504606846976 * NCV u <= 2 * 236051373042460279110951270487730638246246242233973912917967537619604815771097327698789373062396228188300305614759641157838306375054131200 := by
 have h0 : -(2 * (1 : Int)) <= 1 * 1152921504606846976 - 1152921504606846976 * 1 /\ (1 : Int) * 1152921504606846976 - 1152921504606846976 * 1 <= 2 * 1 := by omega
 have h1 := ser_err (k := 182) (by decide) u0 u1 (by omega) h0
 have h2 := ser_err (k := 132) (by decide) u0 u1 (by omega) h1
 have h3 := ser_err (k := 90) (by decide) u0 u1 (by omega) h2
 have h4 := ser_err (k := 56) (by decide) u0 u1 (by omega) h3
 have h5 := ser_err (k := 30) (by decide) u0 u1 (by omega) h4
 have h6 := ser_err (k := 12) (by decide) u0 u1 (by omega) h5
 have h7 := ser_err (k := 2) (by decide) u0 u1 (by omega) h6
 exact h7
theorem circ_id (e u : Int) : 196 * e * (u * (((6 * e * (20 * e * (42 * e * (72 * e * (110 * e * (156 * e * 1)))))) - u * ((20 * e * (42 * e * (72 * e * (110 * e * (156 * e * 1))))) - u * ((42 * e * (72 * e * (110 * e * (156 * e * 1)))) - u * ((72 * e * (110 * e * (156 * e * 1))) - u * ((110 * e * (156 * e * 1)) - u * ((156 * e * 1) - u * 1)))))) * ((6 * e * (20 * e * (42 * e * (72 * e * (110 * e * (156 * e * 1)))))) - u * ((20 * e * (42 * e * (72 * e * (110 * e * (156 * e * 1))))) - u * ((42 * e * (72 * e * (110 * e * (156 * e * 1)))) - u * ((72 * e * (110 * e * (156 * e * 1))) - u * ((110 * e * (156 * e * 1)) - u * ((156 * e * 1) - u * 1)))))))) + ((2 * e * (12 * e * (30 * e * (56 * e * (90 * e * (132 * e * (182 * e * 1))))))) - u * ((12 * e * (30 * e * (56 * e * (90 * e * (132 * e * (182 * e * 1)))))) - u * ((30 * e * (56 * e * (90 * e * (132 * e * (182 * e * 1))))) - u * ((56 * e * (90 * e * (132 * e * (182 * e * 1)))) - u * ((90 * e * (132 * e * (182 * e * 1))) - u * ((132 * e * (182 * e * 1)) - u * ((182 * e * 1) - u * 1))))))) * ((2 * e * (12 * e * (30 * e * (56 * e * (90 * e * (132 * e * (182 * e * 1))))))) - u * ((12 * e * (30 * e * (56 * e * (90 * e * (132 * e * (182 * e * 1)))))) - u * ((30 * e * (56 * e * (90 * e * (132 * e * (182 * e * 1))))) - u * ((56 * e * (90 * e * (132 * e * (182 * e * 1)))) - u * ((90 * e * (132 * e * (182 * e * 1))) - u * ((132 * e * (182 * e * 1)) - u * ((182 * e * 1) - u * 1))))))) = 7600054456551997440000 * (e * e * e * e * e * e * e * e * e * e * e * e * e * e) + (u * u) * (u * u) * ((u * u) * (u * u)) * (10897286400 * (e * e * e * e * e * e) + u * (-1614412800 * (e * e * e * e * e) + u * (72648576 * (e * e * e * e) + u * (-1572480 * (e * e * e) + u * (20020 * (e * e) + u * (-168 * (e) + u * (1))))))) := by grind
theorem circ_rest {u : Int} (u0 : 0 <= u) (u1 : u <= 1152921504606846976) : ∃ Rn, 196 * 1152921504606846976 * (u * (NSV u * NSV u)) + NCV u * NCV u = 55720250715230743366009408771626278437322677527249198777393940592775751771532292229991426846615322723848555264884274496599735490035453626059039939374343737802834596079340698981951546184150534730766261801154956043770309391366224120623944205541063503251994485095730186813440000 + Rn /\ -92274570016768767217280073069709912893239678537667439132758705937344007791604432117072009718083666316137221142406338288467975643848571681701594035905435108793660348517375219665191221805472076671293197893183246193444825220774471469600285051348356954756812709560320 <= Rn /\ Rn <= 92274570016768767217280073069709912893239678537667439132758705937344007791604432117072009718083666316137221142406338288467975643848571681701594035905435108793660348517375219665191221805472076671293197893183246193444825220774471469600285051348356954756812709560320 := by
 have h := circ_id 1152921504606846976 u
 have t14 : -1 <= (1 : Int) /\ (1 : Int) <= 1 := by omega
 have t13 : -194843734278557138944 <= (-168 * (1152921504606846976) + u * (1 : Int)) /\ (-168 * (1152921504606846976) + u * (1 : Int)) <= 194843734278557138944 := by have := mul_bd (x := u) (X := 1152921504606846976) (y := (1 : Int)) (Y := 1) (by omega) t14; generalize u * (1 : Int) = z at *; omega
 have t12 : -26835784006901666558054960739999876644864 <= (20020 * (1152921504606846976 * 1152921504606846976) + u * (-168 * (1152921504606846976) + u * (1 : Int))) /\ (20020 * (1152921504606846976 * 1152921504606846976) + u * (-168 * (1152921504606846976) + u * (1 : Int))) <= 26835784006901666558054960739999876644864 := by have := mul_bd (x := u) (X := 1152921504606846976) (y := (-168 * (1152921504606846976) + u * (1 : Int))) (Y := 194843734278557138944) (by omega) t13; generalize u * (-168 * (1152921504606846976) + u * (1 : Int)) = z at *; omega
 have t11 : -2440758140575334342152730201384455777164873618989035494047744 <= (-1572480 * (1152921504606846976 * 1152921504606846976 * 1152921504606846976) + u * (20020 * (1152921504606846976 * 1152921504606846976) + u * (-168 * (1152921504606846976) + u * (1 : Int)))) /\ (-1572480 * (1152921504606846976 * 1152921504606846976 * 1152921504606846976) + u * (20020 * (1152921504606846976 * 1152921504606846976) + u * (-168 * (1152921504606846976) + u * (1 : Int)))) <= 2440758140575334342152730201384455777164873618989035494047744 := by have := mul_bd (x := u) (X := 1152921504606846976) (y := (20020 * (1152921504606846976 * 1152921504606846976) + u * (-168 * (1152921504606846976) + u * (1 : Int)))) (Y := 26835784006901666558054960739999876644864) (by omega) t12; generalize u * (20020 * (1152921504606846976 * 1152921504606846976) + u * (-168 * (1152921504606846976) + u * (1 : Int))) = z at *; omega
 have t10 : -131172925813742901716754337660542695548584609721497561596550905783684701481861120 <= (72648576 * (1152921504606846976 * 1152921504606846976 * 1152921504606846976 * 1152921504606846976) + u * (-1572480 * (1152921504606846976 * 1152921504606846976 * 1152921504606846976) + u * (20020 * (1152921504606846976 * 1152921504606846976) + u * (-168 * (1152921504606846976) + u * (1 : Int))))) /\ (72648576 * (1152921504606846976 * 1152921504606846976 * 1152921504606846976 * 1152921504606846976) + u * (-1572480 * (1152921504606846976 * 1152921504606846976 * 1152921504606846976) + u * (20020 * (1152921504606846976 * 1152921504606846976) + u * (-168 * (1152921504606846976) + u * (1 : Int))))) <= 131172925813742901716754337660542695548584609721497561596550905783684701481861120 := by have := mul_bd (x := u) (X := 1152921504606846976) (y := (-1572480 * (1152921504606846976 * 1152921504606846976 * 1152921504606846976) + u * (20020 * (1152921504606846976 * 1152921504606846976) + u * (-168 * (1152921504606846976) + u * (1 : Int))))) (Y := 2440758140575334342152730201384455777164873618989035494047744) (by omega) t11; generalize u * (-1572480 * (1152921504606846976 * 1152921504606846976 * 1152921504606846976) + u * (20020 * (1152921504606846976 * 1152921504606846976) + u * (-168 * (1152921504606846976) + u * (1 : Int)))) = z at *; omega
 have t9 : -3439849041247754202573429767595306047594223556153635628348852392990393620317716071593570490824785920 <= (-1614412800 * (1152921504606846976 * 1152921504606846976 * 1152921504606846976 * 1152921504606846976 * 1152921504606846976) + u * (72648576 * (1152921504606846976 * 1152921504606846976 * 1152921504606846976 * 1152921504606846976) + u * (-1572480 * (1152921504606846976 * 1152921504606846976 * 1152921504606846976) + u * (20020 * (1152921504606846976 * 1152921504606846976) + u * (-168 * (1152921504606846976) + u * (1 : Int)))))) /\ (-1614412800 * (1152921504606846976 * 1152921504606846976 * 1152921504606846976 * 1152921504606846976 * 1152921504606846976) + u * (72648576 * (1152921504606846976 * 1152921504606846976 * 1152921504606846976 * 1152921504606846976) + u * (-1572480 * (1152921504606846976 * 1152921504606846976 * 1152921504606846976) + u * (20020 * (1152921504606846976 * 1152921504606846976) + u * (-168 * (1152921504606846976) + u * (1 : Int)))))) <= 3439849041247754202573429767595306047594223556153635628348852392990393620317716071593570490824785920 := by have := mul_bd (x := u) (X := 1152921504606846976) (y := (72648576 * (1152921504606846976 * 1152921504606846976 * 1152921504606846976 * 1152921504606846976) + u * (-1572480 * (1152921504606846976 * 1152921504606846976 * 1152921504606846976) + u * (20020 * (1152921504606846976 * 1152921504606846976) + u * (-168 * (1152921504606846976) + u * (1 : Int)))))) (Y := 131172925813742901716754337660542695548584609721497561596550905783684701481861120) (by omega) t10; generalize u * (72648576 * (1152921504606846976 * 1152921504606846976 * 1152921504606846976 * 1152921504606846976) + u * (-1572480 * (1152921504606846976 * 1152921504606846976 * 1152921504606846976) + u * (20020 * (1152921504606846976 * 1152921504606846976) + u * (-168 * (1152921504606846976) + u * (1 : Int))))) = z at *; omega
 have t8 : -29558617079337947910579115833173654037583675201785913657732064194990573189383971168928265113076850091459824541048504320 <= (10897286400 * (1152921504606846976 * 1152921504606846976 * 1152921504606846976 * 1152921504606846976 * 1152921504606846976 * 1152921504606846976) + u * (-1614412800 * (1152921504606846976 * 1152921504606846976 * 1152921504606846976 * 1152921504606846976 * 1152921504606846976) + u * (72648576 * (1152921504606846976 * 1152921504606846976 * 1152921504606846976 * 1152921504606846976) + u * (-1572480 * (1152921504606846976 * 1152921504606846976 * 1152921504606846976) + u * (20020 * (1152921504606846976 * 1152921504606846976) + u * (-168 * (1152921504606846976) + u * (1 : Int))))))) /\ (10897286400 * (1152921504606846976 * 1152921504606846976 * 1152921504606846976 * 1152921504606846976 * 1152921504606846976 * 1152921504606846976) + u * (-1614412800 * (1152921504606846976 * 1152921504606846976 * 1152921504606846976 * 1152921504606846976 * 1152921504606846976) + u * (72648576 * (1152921504606846976 * 1152921504606846976 * 1152921504606846976 * 1152921504606846976) + u * (-1572480 * (1152921504606846976 * 1152921504606846976 * 1152921504606846976) + u * (20020 * (1152921504606846976 * 1152921504606846976) + u * (-168 * (1152921504606846976) + u * (1 : Int))))))) <= 29558617079337947910579115833173654037583675201785913657732064194990573189383971168928265113076850091459824541048504320 := by have := mul_bd (x := u) (X := 1152921504606846976) (y := (-1614412800 * (1152921504606846976 * 1152921504606846976 * 1152921504606846976 * 1152921504606846976 * 1152921504606846976) + u * (72648576 * (1152921504606846976 * 1152921504606846976 * 1152921504606846976 * 1152921504606846976) + u * (-1572480 * (1152921504606846976 * 1152921504606846976 * 1152921504606846976) + u * (20020 * (1152921504606846976 * 1152921504606846976) + u * (-168 * (1152921504606846976) + u * (1 : Int))))))) (Y := 3439849041247754202573429767595306047594223556153635628348852392990393620317716071593570490824785920) (by omega) t9; generalize u * (-1614412800 * (1152921504606846976 * 1152921504606846976 * 1152921504606846976 * 1152921504606846976 * 1152921504606846976) + u * (72648576 * (1152921504606846976 * 1152921504606846976 * 1152921504606846976 * 1152921504606846976) + u * (-1572480 * (1152921504606846976 * 1152921504606846976 * 1152921504606846976) + u * (20020 * (1152921504606846976 * 1152921504606846976) + u * (-168 * (1152921504606846976) + u * (1 : Int)))))) = z at *; omega
 have u2 : -(1152921504606846976 * 1152921504606846976) <= u * u /\ u * u <= 1152921504606846976 * 1152921504606846976 := mul_bd (by omega) (by omega)
 have u4 := mul_bd u2 u2
 have u8 := mul_bd u4 u4
 have hT := mul_bd u8 t8
 refine ⟨_, h.trans (congrArg (· + _) (show _ = (55720250715230743366009408771626278437322677527249198777393940592775751771532292229991426846615322723848555264884274496599735490035453626059039939374343737802834596079340698981951546184150534730766261801154956043770309391366224120623944205541063503251994485095730186813440000 : Int) by decide +kernel)), ?_, ?_⟩
 · have := hT.1; omega
 · have := hT.2; omega
theorem circ_ser {u : Int} (u0 : 0 <= u) (u1 : u <= 1152921504606846976) (hS : 0 <= serS u /\ serS u <= 1152921504606846976) (hC : 0 <= serC u /\ serC u <= 1152921504606846976) : -11150372599265311570767859136324180752990208 <= u * (serS u * serS u) + 1152921504606846976 * (serC u * serC u) - 1532495540865888858358347027150309183618739122183602176 /\ u * (serS u * serS u) + 1152921504606846976 * (serC u * serC u) - 1532495540865888858358347027150309183618739122183602176 <= 11150372599265311570767859136324180752990208 := by
 obtain ⟨Rn, h1, h2, h3⟩ := circ_rest u0 u1
 have a1 := serS_err u0 u1
 have b1 := serC_err u0 u1
 generalize serS u = S at *
 generalize serC u = c at *
 generalize NSV u = NS at *
 generalize NCV u = NC at *
 obtain ⟨a, ha⟩ : ∃ a, a = 14624423512618381205798935777403614887678544646249125127947611591383273469336389161304077707881121116968882159799500800 * S - 1152921504606846976 * NS := ⟨_, rfl⟩
 obtain ⟨b, hb⟩ : ∃ b, b = 236051373042460279110951270487730638246246242233973912917967537619604815771097327698789373062396228188300305614759641157838306375054131200 * c - 1152921504606846976 * NC := ⟨_, rfl⟩
 rw [<- ha] at a1
 rw [<- hb] at b1
 have w3 := mul_bd (x := a) (X := 2 * 14624423512618381205798935777403614887678544646249125127947611591383273469336389161304077707881121116968882159799500800) (y := 2 * 14624423512618381205798935777403614887678544646249125127947611591383273469336389161304077707881121116968882159799500800 * S - a) (Y := 2 * 14624423512618381205798935777403614887678544646249125127947611591383273469336389161304077707881121116968882159799500800 * 1152921504606846976 + 2 * 14624423512618381205798935777403614887678544646249125127947611591383273469336389161304077707881121116968882159799500800) (by omega) (by omega)
 have w3' := mul_bd (x := u) (X := 1152921504606846976) (by omega) w3
 have w4 := mul_bd (x := b) (X := 2 * 236051373042460279110951270487730638246246242233973912917967537619604815771097327698789373062396228188300305614759641157838306375054131200) (y := 2 * 236051373042460279110951270487730638246246242233973912917967537619604815771097327698789373062396228188300305614759641157838306375054131200 * c - b) (Y := 2 * 236051373042460279110951270487730638246246242233973912917967537619604815771097327698789373062396228188300305614759641157838306375054131200 * 1152921504606846976 + 2 * 236051373042460279110951270487730638246246242233973912917967537619604815771097327698789373062396228188300305614759641157838306375054131200) (by omega) (by omega)
 have e1 : 14624423512618381205798935777403614887678544646249125127947611591383273469336389161304077707881121116968882159799500800 * 14624423512618381205798935777403614887678544646249125127947611591383273469336389161304077707881121116968882159799500800 * (u * (S * S)) = 1152921504606846976 * 1152921504606846976 * (u * (NS * NS)) + u * (a * (2 * 14624423512618381205798935777403614887678544646249125127947611591383273469336389161304077707881121116968882159799500800 * S - a)) := by
   have k : 14624423512618381205798935777403614887678544646249125127947611591383273469336389161304077707881121116968882159799500800 * S = 1152921504606846976 * NS + a := by omega
   have k2 : (14624423512618381205798935777403614887678544646249125127947611591383273469336389161304077707881121116968882159799500800 * S) * (14624423512618381205798935777403614887678544646249125127947611591383273469336389161304077707881121116968882159799500800 * S) = (1152921504606846976 * NS) * (1152921504606846976 * NS) + a * (2 * 14624423512618381205798935777403614887678544646249125127947611591383273469336389161304077707881121116968882159799500800 * S - a) := by rw [show 2 * 14624423512618381205798935777403614887678544646249125127947611591383273469336389161304077707881121116968882159799500800 * S - a = 14624423512618381205798935777403614887678544646249125127947611591383273469336389161304077707881121116968882159799500800 * S + 1152921504606846976 * NS by omega, show a = 14624423512618381205798935777403614887678544646249125127947611591383273469336389161304077707881121116968882159799500800 * S - 1152921504606846976 * NS by omega]; grind
   have k3 : 14624423512618381205798935777403614887678544646249125127947611591383273469336389161304077707881121116968882159799500800 * 14624423512618381205798935777403614887678544646249125127947611591383273469336389161304077707881121116968882159799500800 * (u * (S * S)) = u * ((14624423512618381205798935777403614887678544646249125127947611591383273469336389161304077707881121116968882159799500800 * S) * (14624423512618381205798935777403614887678544646249125127947611591383273469336389161304077707881121116968882159799500800 * S)) := by grind
   rw [k3, k2]; grind
 have e2 : 236051373042460279110951270487730638246246242233973912917967537619604815771097327698789373062396228188300305614759641157838306375054131200 * 236051373042460279110951270487730638246246242233973912917967537619604815771097327698789373062396228188300305614759641157838306375054131200 * (c * c) = 1152921504606846976 * 1152921504606846976 * (NC * NC) + b * (2 * 236051373042460279110951270487730638246246242233973912917967537619604815771097327698789373062396228188300305614759641157838306375054131200 * c - b) := by
   have k2 : (236051373042460279110951270487730638246246242233973912917967537619604815771097327698789373062396228188300305614759641157838306375054131200 * c) * (236051373042460279110951270487730638246246242233973912917967537619604815771097327698789373062396228188300305614759641157838306375054131200 * c) = (1152921504606846976 * NC) * (1152921504606846976 * NC) + b * (2 * 236051373042460279110951270487730638246246242233973912917967537619604815771097327698789373062396228188300305614759641157838306375054131200 * c - b) := by rw [show 2 * 236051373042460279110951270487730638246246242233973912917967537619604815771097327698789373062396228188300305614759641157838306375054131200 * c - b = 236051373042460279110951270487730638246246242233973912917967537619604815771097327698789373062396228188300305614759641157838306375054131200 * c + 1152921504606846976 * NC by omega, show b = 236051373042460279110951270487730638246246242233973912917967537619604815771097327698789373062396228188300305614759641157838306375054131200 * c - 1152921504606846976 * NC by omega]; grind
   have k3 : 236051373042460279110951270487730638246246242233973912917967537619604815771097327698789373062396228188300305614759641157838306375054131200 * 236051373042460279110951270487730638246246242233973912917967537619604815771097327698789373062396228188300305614759641157838306375054131200 * (c * c) = (236051373042460279110951270487730638246246242233973912917967537619604815771097327698789373062396228188300305614759641157838306375054131200 * c) * (236051373042460279110951270487730638246246242233973912917967537619604815771097327698789373062396228188300305614759641157838306375054131200 * c) := by grind
   rw [k3, k2]; grind
 clear ha hb
 generalize u * (a * (2 * 14624423512618381205798935777403614887678544646249125127947611591383273469336389161304077707881121116968882159799500800 * S - a)) = z3 at *
 generalize b * (2 * 236051373042460279110951270487730638246246242233973912917967537619604815771097327698789373062396228188300305614759641157838306375054131200 * c - b) = z4 at *
 generalize u * (NS * NS) = z1 at *
 generalize NC * NC = z2 at *
 generalize u * (S * S) = P at *
 generalize c * c = Q at *
 omega
theorem circ {x : Int} (x0 : 0 <= x) (xm : x <= 905502432259640355) : -2147483648 <= rndV (sinY x) * rndV (sinY x) + rndV (cosY x) * rndV (cosY x) - 1152921504606846976 /\ rndV (sinY x) * rndV (sinY x) + rndV (cosY x) * rndV (cosY x) - 1152921504606846976 <= 2147483648 := by
 obtain ⟨q1, q2, q3, q4⟩ := sq_step (d := 0) x0 (by omega) (by omega)
 simp only [Int.add_zero] at *
 obtain ⟨s1, s2, s3, s4⟩ := serS_lip q1 q2 (by omega)
 obtain ⟨c1, c2, c3, c4⟩ := serC_lip q1 q2 (by omega)
 have k := circ_ser (u := sqV x) q1 (by omega) (by omega) (by omega)
 have y0 := sinY_range x0 xm
 have hy1 : 1152921504606846976 * sinY x <= x * serS (sqV x) /\ x * serS (sqV x) < 1152921504606846976 * sinY x + 1152921504606846976 := by unfold sinY scV; generalize x * serS (sqV x) = m; omega
 have hu1 : 1152921504606846976 * sqV x <= x * x /\ x * x < 1152921504606846976 * sqV x + 1152921504606846976 := by unfold sqV scV; generalize x * x = m; omega
 unfold cosY
 generalize sinY x = y at *
 generalize serS (sqV x) = S at *
 generalize serC (sqV x) = c at *
 generalize sqV x = u at *
 obtain ⟨p, hp⟩ : ∃ p, p = x * S - 1152921504606846976 * y := ⟨_, rfl⟩
 obtain ⟨o, ho⟩ : ∃ o, o = x * x - 1152921504606846976 * u := ⟨_, rfl⟩
 have hxS : 0 <= x * S /\ x * S <= 1152921504606846976 * 1152921504606846976 := ⟨Int.mul_nonneg x0 (by omega), Int.mul_le_mul (by omega) (by omega) (by omega) (by omega)⟩
 have hSS : 0 <= S * S /\ S * S <= 1152921504606846976 * 1152921504606846976 := ⟨Int.mul_nonneg (by omega) (by omega), Int.mul_le_mul (by omega) (by omega) (by omega) (by omega)⟩
 have e1 : 1152921504606846976 * 1152921504606846976 * (y * y) = 1152921504606846976 * (u * (S * S)) + o * (S * S) - p * (2 * (x * S) - p) := by
   have g1 : 1152921504606846976 * y = x * S - p := by omega
   have g2 : x * x = 1152921504606846976 * u + o := by omega
   have g3 : (x * S) * (x * S) = (x * x) * (S * S) := by grind
   have g4 : 1152921504606846976 * 1152921504606846976 * (y * y) = (1152921504606846976 * y) * (1152921504606846976 * y) := by grind
   have g5 : (x * S - p) * (x * S - p) = (x * S) * (x * S) - p * (2 * (x * S) - p) := by grind
   rw [g4, g1, g5, g3, g2]; grind
 have m1 := mul_bd (x := o) (X := 1152921504606846976) (y := S * S) (Y := 1152921504606846976 * 1152921504606846976) (by omega) (by omega)
 have m2 := mul_bd (x := p) (X := 1152921504606846976) (y := 2 * (x * S) - p) (Y := 2 * (1152921504606846976 * 1152921504606846976)) (by omega) (by omega)
 obtain ⟨f, hf⟩ : ∃ f, f = 1073741824 * rndV y - y := ⟨_, rfl⟩
 obtain ⟨g, hg⟩ : ∃ g, g = 1073741824 * rndV c - c := ⟨_, rfl⟩
 have hf1 : -536870912 <= f /\ f <= 536870912 := by rw [hf]; unfold rndV; omega
 have hg1 : -536870912 <= g /\ g <= 536870912 := by rw [hg]; unfold rndV; omega
 generalize rndV y = s at *
 generalize rndV c = t at *
 have e2 : 1152921504606846976 * (s * s) = y * y + f * (2 * y + f) := by
   have g4 : 1152921504606846976 * (s * s) = (1073741824 * s) * (1073741824 * s) := by grind
   rw [g4, show 1073741824 * s = y + f by omega]; grind
 have e3 : 1152921504606846976 * (t * t) = c * c + g * (2 * c + g) := by
   have g4 : 1152921504606846976 * (t * t) = (1073741824 * t) * (1073741824 * t) := by grind
   rw [g4, show 1073741824 * t = c + g by omega]; grind
 have m3 := mul_bd (x := f) (X := 536870912) (y := 2 * y + f) (Y := 2 * 905502432259640355 + 536870912) (by omega) (by omega)
 have m4 := mul_bd (x := g) (X := 536870912) (y := 2 * c + g) (Y := 2 * 1152921504606846976 + 536870912) (by omega) (by omega)
 clear hp ho hf hg
 generalize o * (S * S) = z1 at *
 generalize p * (2 * (x * S) - p) = z2 at *
 generalize f * (2 * y + f) = z3 at *
 generalize g * (2 * c + g) = z4 at *
 generalize u * (S * S) = P at *
 generalize y * y = yy at *
 generalize c * c = cc at *
 generalize s * s = ss at *
 generalize t * t = tt at *
 omega
theorem circ_P {t : Int} (h0 : 0 <= t) (h1 : t <= 536870912) : -2147483648 <= sinP t * sinP t + cosP t * cosP t - 1152921504606846976 /\ sinP t * sinP t + cosP t * cosP t - 1152921504606846976 <= 2147483648 := by
 have r := rad_range h0 h1
 exact circ r.1 r.2
theorem circ_ris {t : Int} (h0 : 0 <= t) (h1 : t <= 1073741824) : -2147483648 <= risV t * risV t + risV (1073741824 - t) * risV (1073741824 - t) - 1152921504606846976 /\ risV t * risV t + risV (1073741824 - t) * risV (1073741824 - t) - 1152921504606846976 <= 2147483648 := by
 rcases Int.lt_or_le 536870912 t with h | h
 · have e1 : risV t = cosP (1073741824 - t) := by unfold risV; rw [if_neg (by omega)]
   have e2 : risV (1073741824 - t) = sinP (1073741824 - t) := by unfold risV; rw [if_pos (by omega)]
   rw [e1, e2]
   have := circ_P (t := 1073741824 - t) (by omega) (by omega)
   omega
 · have e1 : risV t = sinP t := by unfold risV; rw [if_pos (by omega)]
   have e2 : risV (1073741824 - t) = cosP t := by
     rw [<- cos_8 h0 h]
     unfold cosV
     have := sin_q2 (t := 1073741824 - t) (k := 0) (by omega) (by omega)
     rw [show 2147483648 - (1073741824 - t) + 4294967296 * 0 = t + 1073741824 by omega] at this
     exact this.symm
   rw [e1, e2]
   exact circ_P h0 h
theorem circle (a : Int) : -2147483648 <= sinV a * sinV a + cosV a * cosV a - 1152921504606846976 /\ sinV a * sinV a + cosV a * cosV a - 1152921504606846976 <= 2147483648 := by
 obtain ⟨t, k, h0, h1, ha⟩ := quarters a
 have r := circ_ris h0 h1
 obtain ⟨c1, c2, c3, c4⟩ := risQ h0 h1 k
 rcases ha with rfl | rfl | rfl | rfl
 · rw [c1, sin_q1 h0 h1]; exact r
 · rw [c2, sin_q2 h0 h1, Int.neg_mul_neg]; exact r
 · rw [c3, sin_q3 h0 h1, Int.neg_mul_neg, Int.neg_mul_neg]; exact r
 · rw [c4, sin_q4 h0 h1, Int.neg_mul_neg]; exact r
end Go.Proofs.YtmhhdedekblbnaaGreat.Tg
