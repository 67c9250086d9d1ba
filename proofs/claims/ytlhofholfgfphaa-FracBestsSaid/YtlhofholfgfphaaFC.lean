/-
  The mathematics of frac.Best: nothing that it reckons exceeds 64 bits, and no permitted number is nearer than its result.
  Conditions: those of each lemma.
-/
import Derived.Test.YtlhofholfgfphaaF9
set_option linter.unusedVariables false
namespace Go.Proofs.Ytlhofholfgfphaa
open Go.RowKit Go.Shelf Wd


/-- The distance with its sign. -/
theorem gp_eq {p q n d s : Int} (h : p * d - n * q = s ∨ p * d - n * q = -s) (hs : 0 ≤ s) : gp p q n d = s := by
  unfold gp
  rcases h with h | h <;> rw [h] <;> omega
/-- Best's state: x = n/d is (p*r + a*s) / (q*r + b*s), the numbers a/b and p/q neighbours. -/
structure St (n d a b p q r s : Int) : Prop where
  hn : n = p * r + a * s
  hd : d = q * r + b * s
  det : p * b - a * q = 1 ∨ p * b - a * q = -1
  b0 : 0 ≤ b
  q1 : 1 ≤ q
  s0 : 0 ≤ s
  sr : s ≤ r
theorem St.gap {n d a b p q r s : Int} (h : St n d a b p q r s) : (p * d - n * q = s ∨ p * d - n * q = -s) ∧ (a * d - n * b = r ∨ a * d - n * b = -r) := by
  obtain ⟨hn, hd, hdet, _, _, _, _⟩ := h
  subst hn hd
  constructor
  · rcases hdet with h | h
    · left; grind
    · right; grind
  · rcases hdet with h | h
    · right; grind
    · left; grind
theorem St.next {n d a b p q r s k : Int} (h : St n d a b p q r s) (hk : k = r / s) (hs : 0 < s) (hq : b + k * q ≥ 1) : St n d p q (a + k * p) (b + k * q) s (r % s) := by
  obtain ⟨hn, hd, hdet, h1, h2, h3, h4⟩ := h
  have e := Int.emod_add_mul_ediv r s
  rw [← hk] at e
  have m1 := Int.emod_nonneg r (b := s) (by omega)
  have m2 := Int.emod_lt_of_pos r (b := s) hs
  generalize r % s = m at *
  subst e
  refine ⟨by rw [hn]; grind, by rw [hd]; grind, ?_, by omega, hq, m1, by omega⟩
  rcases hdet with h | h
  · right; grind
  · left; grind
/-- Numerators are not greater than x is. -/
theorem num_bd {n d P Q e : Int} (h : P * d - n * Q = e) (hd : 1 ≤ d) (hQ : 0 ≤ Q) (hQd : Q ≤ d) (he : -d ≤ e ∧ e ≤ d) : -(n.natAbs + 1 : Int) ≤ P ∧ P ≤ n.natAbs + 1 := by
  have h1 : n * Q ≤ n.natAbs * d := by
    have : n * Q ≤ n.natAbs * Q := Int.mul_le_mul_of_nonneg_right (by omega) hQ
    have : (n.natAbs : Int) * Q ≤ n.natAbs * d := Int.mul_le_mul_of_nonneg_left hQd (by omega)
    omega
  have h2 : -(n.natAbs * d : Int) ≤ n * Q := by
    have : -(n.natAbs : Int) * Q ≤ n * Q := Int.mul_le_mul_of_nonneg_right (by omega) hQ
    have : (n.natAbs : Int) * Q ≤ n.natAbs * d := Int.mul_le_mul_of_nonneg_left hQd (by omega)
    grind
  have e1 : (n.natAbs + 1 : Int) * d = n.natAbs * d + d := by grind
  constructor
  · apply Int.le_of_mul_le_mul_right (a := d) _ (by omega)
    have : -(n.natAbs + 1 : Int) * d = -(n.natAbs * d) - d := by grind
    omega
  · apply Int.le_of_mul_le_mul_right (a := d) _ (by omega)
    omega
/-- One step of Best, within the limits. -/
theorem St.step {n d a b p q r s most k t : Int} (h : St n d a b p q r s) (hs : 0 < s) (ht : t = r / s) (hb : b ≤ most) (hq : q ≤ most) (hk : k = min t ((most - b) / q)) : 0 ≤ k ∧ k ≤ t ∧ b + k * q ≤ most ∧ b + k * q ≤ d ∧ k * q ≤ d ∧ (k < t → most < b + (k + 1) * q) ∧ q ≤ d ∧ 0 ≤ r - k * s ∧ 1 ≤ t := by
  obtain ⟨hn, hd, hdet, h1, h2, h3, h4⟩ := h
  have e := Int.emod_add_mul_ediv r s
  rw [← ht] at e
  have m1 := Int.emod_nonneg r (b := s) (by omega)
  have m2 := Int.emod_lt_of_pos r (b := s) hs
  have f := Int.emod_add_mul_ediv (most - b) q
  have f1 := Int.emod_nonneg (most - b) (b := q) (by omega)
  have f2 := Int.emod_lt_of_pos (most - b) (b := q) (by omega)
  have g0 : 0 ≤ (most - b) / q := Int.ediv_nonneg (by omega) (by omega)
  generalize (most - b) / q = c at *
  generalize (most - b) % q = f' at *
  generalize r % s = m at *
  have t1 : 1 ≤ t := by
    rcases Int.lt_or_le t 1 with hh | hh
    · have : s * t ≤ s * 0 := Int.mul_le_mul_of_nonneg_left (by omega) (by omega)
      omega
    · exact hh
  have k0 : 0 ≤ k := by omega
  have kt : k ≤ t := by omega
  have kc : k ≤ c := by omega
  have e1 : q * k ≤ q * c := Int.mul_le_mul_of_nonneg_left kc (by omega)
  have e2 : s * k ≤ s * t := Int.mul_le_mul_of_nonneg_left kt (by omega)
  have e3 : q * r ≥ q * (s * k) := Int.mul_le_mul_of_nonneg_left (by omega) (by omega)
  have e4 : q * (s * k) ≥ 1 * (q * k) := by
    have : 0 ≤ q * k := Int.mul_nonneg (by omega) k0
    have : 1 * (q * k) ≤ s * (q * k) := Int.mul_le_mul_of_nonneg_right (by omega) this
    grind
  have e5 : b * s ≥ b * 1 := Int.mul_le_mul_of_nonneg_left (by omega) (by omega)
  have e6 : k * q = q * k := Int.mul_comm _ _
  have e7 : q * r ≥ q * 1 := Int.mul_le_mul_of_nonneg_left (by omega) (by omega)
  have e8 : 0 ≤ b * s := Int.mul_nonneg (by omega) (by omega)
  have e9 : k * s = s * k := Int.mul_comm _ _
  refine ⟨k0, kt, by omega, by omega, by omega, fun hlt => ?_, by omega, by omega, t1⟩
  have : k = c := by omega
  subst this
  have : (k + 1) * q = q * k + q := by grind
  omega

theorem combo {p q P Q N D : Int} (h : p * Q - P * q = 1 ∨ p * Q - P * q = -1) : ∃ u v : Int, N = u * p + v * P ∧ D = u * q + v * Q := by
  rcases h with h | h
  · exact ⟨N * Q - D * P, D * p - N * q, by grind, by grind⟩
  · exact ⟨D * P - N * Q, N * q - D * p, by grind, by grind⟩
/-- Of two neighbours that enclose x, one is at least as near as any number with a denominator less than the sum of theirs. -/
theorem between {n d p q P Q s g N D : Int} (hdet : p * Q - P * q = 1 ∨ p * Q - P * q = -1) (h : (p * d - n * q = s ∧ P * d - n * Q = -g) ∨ (p * d - n * q = -s ∧ P * d - n * Q = g)) (hs : 0 ≤ s) (hg : 0 ≤ g) (hq : 1 ≤ q) (hQ : 1 ≤ Q) (hD : 1 ≤ D) (hDm : D < q + Q) :
    s * D ≤ gp N D n d * q ∨ g * D ≤ gp N D n d * Q := by
  obtain ⟨u, v, hN, hDD⟩ := combo (N := N) (D := D) hdet
  have e : gp N D n d = ((u * s - v * g).natAbs : Int) := by
    unfold gp
    rcases h with ⟨h1, h2⟩ | ⟨h1, h2⟩
    · rw [show N * d - n * D = u * s - v * g by rw [hN, hDD]; grind]
    · rw [show N * d - n * D = -(u * s - v * g) by rw [hN, hDD]; grind]
      omega
  rw [e]
  rcases Int.lt_or_le 0 v with hv | hv
  · rcases Int.lt_or_le 0 u with hu | hu
    · exfalso
      have h1 : 1 * q ≤ u * q := Int.mul_le_mul_of_nonneg_right (by omega) (by omega)
      have h2 : 1 * Q ≤ v * Q := Int.mul_le_mul_of_nonneg_right (by omega) (by omega)
      omega
    · right
      have h1 : u * s ≤ 0 := Int.mul_nonpos_of_nonpos_of_nonneg hu hs
      have h2 : 0 ≤ v * g := Int.mul_nonneg (by omega) hg
      have h3 : ((u * s - v * g).natAbs : Int) = v * g - u * s := by omega
      rw [h3]
      have h4 : u * q ≤ 0 := Int.mul_nonpos_of_nonpos_of_nonneg hu (by omega)
      have h5 : g * (u * q) ≤ 0 := Int.mul_nonpos_of_nonneg_of_nonpos hg h4
      have h6 : (u * s) * Q ≤ 0 := Int.mul_nonpos_of_nonpos_of_nonneg h1 (by omega)
      rw [hDD]
      grind
  · left
    have h1 : v * g ≤ 0 := Int.mul_nonpos_of_nonpos_of_nonneg hv hg
    have hu : 0 < u := by
      rcases Int.lt_or_le 0 u with hu | hu
      · exact hu
      · exfalso
        have h1 : u * q ≤ 0 := Int.mul_nonpos_of_nonpos_of_nonneg hu (by omega)
        have h2 : v * Q ≤ 0 := Int.mul_nonpos_of_nonpos_of_nonneg hv (by omega)
        omega
    have h2 : 0 ≤ u * s := Int.mul_nonneg (by omega) hs
    have h3 : ((u * s - v * g).natAbs : Int) = u * s - v * g := by omega
    rw [h3]
    have h4 : v * Q ≤ 0 := Int.mul_nonpos_of_nonpos_of_nonneg hv (by omega)
    have h5 : s * (v * Q) ≤ 0 := Int.mul_nonpos_of_nonneg_of_nonpos hs h4
    have h6 : (v * g) * q ≤ 0 := Int.mul_nonpos_of_nonpos_of_nonneg h1 (by omega)
    rw [hDD]
    grind
theorem near_trans {g1 q1 g2 q2 g3 q3 : Int} (h1 : g1 * q2 ≤ g2 * q1) (h2 : g2 * q3 ≤ g3 * q2) (hq1 : 1 ≤ q1) (hq2 : 1 ≤ q2) (hq3 : 1 ≤ q3) : g1 * q3 ≤ g3 * q1 := by
  have e1 : g1 * q2 * q3 ≤ g2 * q1 * q3 := Int.mul_le_mul_of_nonneg_right h1 (by omega)
  have e2 : g2 * q3 * q1 ≤ g3 * q2 * q1 := Int.mul_le_mul_of_nonneg_right h2 (by omega)
  apply Int.le_of_mul_le_mul_right (a := q2) _ (by omega)
  grind
theorem det_gcd {p q P Q : Int} (h : p * Q - P * q = 1 ∨ p * Q - P * q = -1) : Int.gcd p q = 1 := by
  rw [Int.gcd_eq_one_iff]
  intro c h1 h2
  have h3 : c ∣ p * Q - P * q := Int.dvd_sub (Int.dvd_mul_of_dvd_left h1) (Int.dvd_mul_of_dvd_right h2)
  rcases h with h | h
  · rwa [h] at h3
  · rw [h] at h3; exact Int.dvd_neg.1 h3
theorem det_gcd2 {p q P Q : Int} (h : p * Q - P * q = 1 ∨ p * Q - P * q = -1) : Int.gcd P Q = 1 := by
  refine det_gcd (P := -p) (Q := -q) ?_
  rcases h with h | h
  · left; grind
  · right; grind
theorem St.facts {n d a b p q r s : Int} (h : St n d a b p q r s) (hr : 1 ≤ r) : Int.gcd p q = 1 ∧ (-(n.natAbs + 1 : Int) ≤ p ∧ p ≤ n.natAbs + 1) ∧ gp p q n d ≤ d := by
  have hg := h.gap.1
  have hd := h.hd
  have q1 := h.q1
  have sr := h.sr
  have s0 := h.s0
  have b0 := h.b0
  have bs : 0 ≤ b * s := Int.mul_nonneg b0 s0
  have qr : q * 1 ≤ q * r := Int.mul_le_mul_of_nonneg_left hr (by omega)
  have qr2 : 1 * r ≤ q * r := Int.mul_le_mul_of_nonneg_right q1 (by omega)
  refine ⟨det_gcd (P := a) (Q := b) h.det, num_bd (P := p) (Q := q) (n := n) (d := d) (e := p * d - n * q) rfl (by omega) (by omega) (by omega) (by omega), ?_⟩
  rw [gp_eq hg s0]
  omega
theorem bestL_ok (m : Nat) : ∀ (s : Nat), s ≤ m → ∀ (n d most a b p q r : Int), St n d a b p q r s → 1 ≤ r → -1152921504606846976 ≤ n → n ≤ 1152921504606846976 → d ≤ 1152921504606846976 → 1 ≤ most → most ≤ 4096 → b ≤ most → q ≤ most →
    ∃ R1 R2, bestL n d most (cf r s) a b p q = some (R1, R2) ∧ 1 ≤ R2 ∧ R2 ≤ most ∧ (Int.gcd R1 R2 = 1 ∧ (-(n.natAbs + 1 : Int) ≤ R1 ∧ R1 ≤ n.natAbs + 1) ∧ gp R1 R2 n d ≤ d) ∧ ∀ N D, 1 ≤ D → D ≤ most → gp R1 R2 n d * D ≤ gp N D n d * R2 := by
  induction m with
  | zero =>
    intro s hs n d most a b p q r h hr1 n1 n2 d2 m1 m2 hb hq
    obtain rfl : s = 0 := by omega
    refine ⟨p, q, by rw [cf_zero]; rfl, h.q1, hq, h.facts hr1, fun N D hD _ => ?_⟩
    rw [gp_eq h.gap.1 h.s0]
    have : 0 ≤ gp N D n d * q := Int.mul_nonneg (by unfold gp; omega) (by have := h.q1; omega)
    simpa using this
  | succ m ih =>
    intro s hs n d most a b p q r h hr1 n1 n2 d2 m1 m2 hb hq
    rcases Nat.eq_zero_or_pos s with rfl | hpos
    · exact ih 0 (by omega) n d most a b p q r h hr1 n1 n2 d2 m1 m2 hb hq
    · have hsp : (0 : Int) < (s : Int) := by omega
      obtain ⟨g1, g2⟩ := h.gap
      have q1 := h.q1
      have b0 := h.b0
      have sr := h.sr
      obtain ⟨t, ht⟩ : ∃ t, r / (s : Int) = t := ⟨_, rfl⟩
      obtain ⟨k, hk⟩ : ∃ k, min t ((most - b).tdiv q) = k := ⟨_, rfl⟩
      have hk2 : k = min t ((most - b) / q) := by rw [← hk, Int.tdiv_eq_ediv_of_nonneg (by omega)]
      obtain ⟨k0, kt, c1, c2, c3, c4, qd, rk, t1⟩ := h.step hsp ht.symm hb hq hk2
      have hd := h.hd
      have bs : 0 ≤ b * (s : Int) := Int.mul_nonneg b0 (by omega)
      have bs2 : b * 1 ≤ b * (s : Int) := Int.mul_le_mul_of_nonneg_left (by omega) b0
      have qr : 1 * r ≤ q * r := Int.mul_le_mul_of_nonneg_right q1 (by omega)
      have qr2 : 0 ≤ q * r := Int.mul_nonneg (by omega) (by omega)
      have rd : r ≤ d := by omega
      have bd : b ≤ d := by omega
      have td : t ≤ r := by
        rw [← ht]
        exact Int.ediv_le_self _ (by omega)
      have nbA := num_bd (P := a) (Q := b) (n := n) (d := d) (e := a * d - n * b) rfl (by omega) b0 bd (by omega)
      have hPQ : (a + k * p) * d - n * (b + k * q) = (a * d - n * b) + k * (p * d - n * q) := by grind
      have hks : 0 ≤ k * (s : Int) := Int.mul_nonneg k0 (by omega)
      have hPe : (a + k * p) * d - n * (b + k * q) = r - k * s ∨ (a + k * p) * d - n * (b + k * q) = -(r - k * s) := by
        obtain ⟨hn', hd', hdet, _, _, _, _⟩ := h
        subst hn' hd'
        rcases hdet with hh | hh
        · right; grind
        · left; grind
      have kq0 : 0 ≤ k * q := Int.mul_nonneg k0 (by omega)
      have nbP := num_bd (P := a + k * p) (Q := b + k * q) (n := n) (d := d) (e := (a + k * p) * d - n * (b + k * q)) rfl (by omega) (by omega) c2 (by omega)
      have hcnd : 1 ≤ q ∧ -9223372036854775808 ≤ most - b ∧ most - b ≤ 9223372036854775807 ∧ fits64 t = true ∧ fits64 (k * p) = true ∧ fits64 (a + k * p) = true ∧ fits64 (k * q) = true ∧ fits64 (b + k * q) = true :=
        ⟨q1, by omega, by omega, fits_iff.2 (by omega), fits_iff.2 (by omega), fits_iff.2 (by omega), fits_iff.2 (by omega), fits_iff.2 (by omega)⟩
      rw [cf_pos r hpos, ht]
      unfold bestL
      rw [hk, if_pos hcnd]
      have eP := gp_eq hPe rk
      have eL := gp_eq g1 (by omega)
      by_cases hkt : k < t
      · rw [if_pos hkt, if_pos (by rw [eP, eL]; omega)]
        have hQ1 : 1 ≤ b + k * q := by
          have := c4 hkt
          have e : (k + 1) * q = k * q + q := by grind
          rcases Int.lt_or_le (b + k * q) 1 with hh | hh
          · exfalso
            have : most < q := by omega
            omega
          · exact hh
        have hdet2 : p * (b + k * q) - (a + k * p) * q = 1 ∨ p * (b + k * q) - (a + k * p) * q = -1 := by
          rcases h.det with hh | hh
          · left; grind
          · right; grind
        have hsides : (p * d - n * q = s ∧ (a + k * p) * d - n * (b + k * q) = -(r - k * s)) ∨ (p * d - n * q = -s ∧ (a + k * p) * d - n * (b + k * q) = r - k * s) := by
          obtain ⟨hn', hd', hdet, _, _, _, _⟩ := h
          subst hn' hd'
          rcases hdet with hh | hh
          · left; constructor <;> grind
          · right; constructor <;> grind
        have hsum : most < q + (b + k * q) := by
          have := c4 hkt
          have e : (k + 1) * q = k * q + q := by grind
          omega
        have key : ∀ N D, 1 ≤ D → D ≤ most → (s : Int) * D ≤ gp N D n d * q ∨ (r - k * s) * D ≤ gp N D n d * (b + k * q) := fun N D h1 h2 => between hdet2 hsides (by omega) rk q1 hQ1 h1 (by omega)
        by_cases hnb : nearB n d p q (a + k * p) (b + k * q) = true
        · rw [if_pos hnb]
          refine ⟨_, _, rfl, hQ1, c1, ⟨det_gcd2 hdet2, nbP, by rw [eP]; omega⟩, fun N D h1 h2 => ?_⟩
          unfold nearB at hnb
          have hnb := of_decide_eq_true hnb
          rw [eP, eL] at hnb
          rw [eP]
          rcases key N D h1 h2 with h3 | h3
          · exact near_trans (Int.le_of_lt hnb) h3 hQ1 q1 h1
          · exact h3
        · rw [if_neg hnb]
          refine ⟨_, _, rfl, q1, hq, h.facts hr1, fun N D h1 h2 => ?_⟩
          unfold nearB at hnb
          have hnb : ¬ _ := fun x => hnb (decide_eq_true x)
          rw [eP, eL] at hnb
          rw [eL]
          rcases key N D h1 h2 with h3 | h3
          · exact h3
          · exact near_trans (by omega) h3 q1 hQ1 h1
      · rw [if_neg hkt]
        have hke : k = r / (s : Int) := by omega
        have hQ1 : b + k * q ≥ 1 := by
          have : 1 * q ≤ k * q := Int.mul_le_mul_of_nonneg_right (by omega) (by omega)
          omega
        have hn := h.next hke hsp hQ1
        have m1' := Int.emod_nonneg r (b := (s : Int)) (by omega)
        have m2' := Int.emod_lt_of_pos r (b := (s : Int)) hsp
        have hcast : (((r % (s : Int)).toNat : Nat) : Int) = r % (s : Int) := Int.toNat_of_nonneg m1'
        rw [← hcast] at hn
        exact ih (r % (s : Int)).toNat (by omega) n d most p q (a + k * p) (b + k * q) s hn (by omega) n1 n2 d2 m1 m2 hq c1

/-- What Best reckons of a valid number. -/
theorem best_full {n d most : Int} (h : Fv n d) (m1 : 1 ≤ most) (m2 : most ≤ 4096) : ∃ t0 ts R1 R2, cf n d.toNat = t0 :: ts ∧ (-9223372036854775808 ≤ t0 ∧ t0 ≤ 9223372036854775807) ∧ bestL n d most ts 1 0 t0 1 = some (R1, R2) ∧ 1 ≤ R2 ∧ R2 ≤ most ∧ (Int.gcd R1 R2 = 1 ∧ (-(n.natAbs + 1 : Int) ≤ R1 ∧ R1 ≤ n.natAbs + 1) ∧ gp R1 R2 n d ≤ d) ∧ ∀ N D, 1 ≤ D → D ≤ most → gp R1 R2 n d * D ≤ gp N D n d * R2 := by
  have hb := h.bd
  have hd : ((d.toNat : Nat) : Int) = d := by omega
  have e := Int.emod_add_mul_ediv n d
  have e1 := Int.emod_nonneg n (b := d) (by omega)
  have e2 := Int.emod_lt_of_pos n (b := d) (by omega)
  have hs : ((n % d).toNat : Int) = n % d := Int.toNat_of_nonneg e1
  have st : St n d 1 0 (n / d) 1 d ((n % d).toNat : Nat) := by
    rw [hs]
    refine ⟨by grind, by grind, .inr (by omega), by omega, by omega, e1, by omega⟩
  obtain ⟨R1, R2, hR⟩ := bestL_ok (n % d).toNat (n % d).toNat (Nat.le_refl _) n d most 1 0 (n / d) 1 d st hb.2.2.1 hb.1 hb.2.1 hb.2.2.2 m1 m2 (by omega) m1
  have q := Int.natAbs_ediv_le_natAbs n d
  refine ⟨n / d, cf d (n % d).toNat, R1, R2, ?_, by omega, hR⟩
  rw [cf_pos n (by omega), hd]
/-- A fraction of small numbers has no error. -/
theorem low_small {N D : Int} (hD : 1 ≤ D) (hN : -1152921504606846976 ≤ N ∧ N ≤ 1152921504606846976) (hD2 : D ≤ 1152921504606846976) : lowE N D = 0 ∧ Fv (lowA N D) (lowB N D) ∧ lowA N D * D = N * lowB N D ∧ lowB N D ≤ D := by
  have hg : (0 : Int) < Int.gcd N D := by have := Int.gcd_pos_of_ne_zero_right N (show D ≠ 0 by omega); omega
  have s1 : D.sign = 1 := Int.sign_eq_one_of_pos (by omega)
  have r1 : redN N D = N / Int.gcd N D := by unfold redN; rw [s1]; omega
  have r2 : redD N D = D / Int.gcd N D := by unfold redD; rw [s1]; omega
  have b1 := Int.natAbs_ediv_le_natAbs N (Int.gcd N D)
  have b2 : D / Int.gcd N D ≤ D := Int.ediv_le_self _ (by omega)
  have hr := red_is (N := N) (D := D) (by omega)
  have e : lowE N D = 0 := by
    unfold lowE
    exact (lim_yes (by rw [r1, r2] at *; omega)).2.2
  obtain ⟨h1, h2⟩ := low_ok (by omega) e
  refine ⟨e, h1, h2, ?_⟩
  have : lowB N D = redD N D := by
    unfold lowB
    exact (lim_yes (by rw [r1, r2] at *; omega)).2.1
  rw [this, r2]
  exact b2
theorem abs_pm {x k : Int} (h : ((x.natAbs : Nat) : Int) ≤ k) : -k ≤ x ∧ x ≤ k := by omega
theorem cross {a g u v x y d : Int} (h : a * (x * d) = g * u) : a * v * (x * (y * d)) = g * y * (u * v) := by
  have e : a * v * (x * (y * d)) = a * (x * d) * (v * y) := by grind
  rw [e, h]
  grind
/-- The law's numbers: no error, and Best is not farther. -/
theorem bestNear {n d k R1 R2 den o : Int} (h : Fv n d) (hn : -2147483648 ≤ n ∧ n ≤ 2147483648) (hd : d ≤ 2147483648) (k2 : k ≤ 4096) (r1 : 1 ≤ R2) (r2 : R2 ≤ k) (hg : Int.gcd R1 R2 = 1) (hR : -(n.natAbs + 1 : Int) ≤ R1 ∧ R1 ≤ n.natAbs + 1) (hgp : gp R1 R2 n d ≤ d)
    (hopt : ∀ N D, 1 ≤ D → D ≤ k → gp R1 R2 n d * D ≤ gp N D n d * R2) (den1 : 1 ≤ den) (den2 : den ≤ k) (o1 : 0 ≤ o) (o2 : o ≤ 1) :
    (-9223372036854775808 ≤ n * den / d ∧ n * den / d ≤ 9223372036854775807 ∧ -9007199254740992 ≤ n * den / d ∧ n * den / d ≤ 9007199254740992) ∧ mkE (n * den / d + o) den = 0 ∧ Fv (mkA (n * den / d + o) den) (mkB (n * den / d + o) den) ∧
    addE R1 R2 (-n) d = 0 ∧ addE (mkA (n * den / d + o) den) (mkB (n * den / d + o) den) (-n) d = 0 ∧
    cmpfV ((addA R1 R2 (-n) d).natAbs : Int) (addB R1 R2 (-n) d) ((addA (mkA (n * den / d + o) den) (mkB (n * den / d + o) den) (-n) d).natAbs : Int) (addB (mkA (n * den / d + o) den) (mkB (n * den / d + o) den) (-n) d) ≤ 0 := by
  have hb := h.bd
  have q := Int.natAbs_ediv_le_natAbs (n * den) d
  have qm : ((n * den).natAbs : Int) ≤ 2147483648 * 4096 := by
    have e1 : (n * den).natAbs = n.natAbs * den.natAbs := Int.natAbs_mul _ _
    have e2 : n.natAbs * den.natAbs ≤ 2147483648 * 4096 := Nat.mul_le_mul (by omega) (by omega)
    omega
  have e := Int.emod_add_mul_ediv (n * den) d
  have e1 := Int.emod_nonneg (n * den) (b := d) (by omega)
  have e2 := Int.emod_lt_of_pos (n * den) (b := d) (by omega)
  generalize hT : n * den / d = T at *
  generalize n * den % d = m at *
  have hmk : mkE (T + o) den = lowE (T + o) den ∧ mkA (T + o) den = lowA (T + o) den ∧ mkB (T + o) den = lowB (T + o) den := by
    unfold mkE mkA mkB
    rw [if_neg (by omega), if_neg (by omega), if_neg (by omega)]; exact ⟨rfl, rfl, rfl⟩
  obtain ⟨y1, y2, y3, y4⟩ := low_small (N := T + o) (D := den) den1 (by omega) (by omega)
  rw [hmk.1, hmk.2.1, hmk.2.2]
  generalize lowA (T + o) den = Y1 at *
  generalize lowB (T + o) den = Y2 at *
  have yb := y2.bd
  have fR : Fv R1 R2 := ⟨by omega, hg⟩
  have cR := chk2_zero.2 ⟨fR, h.neg⟩
  have cY := chk2_zero.2 ⟨y2, h.neg⟩
  have dR : R2 * d ≤ 4096 * 2147483648 := Int.mul_le_mul (by omega) hd (by omega) (by omega)
  have dR1 : 1 * 1 ≤ R2 * d := Int.mul_le_mul r1 (by omega) (by omega) (by omega)
  have dY : Y2 * d ≤ 4096 * 2147483648 := Int.mul_le_mul (by omega) hd (by omega) (by omega)
  have dY1 : 1 * 1 ≤ Y2 * d := Int.mul_le_mul (by omega) (by omega) (by omega) (by omega)
  have nR : R1 * d + -n * R2 = R1 * d - n * R2 := by grind
  have nY : Y1 * d + -n * Y2 = Y1 * d - n * Y2 := by grind
  have hgR : gp R1 R2 n d = ((R1 * d - n * R2).natAbs : Int) := rfl
  have hgY : gp Y1 Y2 n d = ((Y1 * d - n * Y2).natAbs : Int) := rfl
  -- the distance of y
  have kY : (Y1 * d - n * Y2) * den = Y2 * (o * d - m) := by
    have : T * d = n * den - m := by grind
    have : (Y1 * den) * d = (T + o) * Y2 * d := by rw [y3]
    grind
  have bY : ((Y1 * d - n * Y2).natAbs : Int) ≤ d := by
    have h1 : o * d ≤ 1 * d := Int.mul_le_mul_of_nonneg_right o2 (by omega)
    have h2 : 0 ≤ o * d := Int.mul_nonneg o1 (by omega)
    have h3 : ((o * d - m).natAbs : Int) ≤ d := by omega
    have h4 : ((Y1 * d - n * Y2).natAbs : Int) * den = Y2 * (o * d - m).natAbs := by
      have := congrArg Int.natAbs kY
      rw [Int.natAbs_mul, Int.natAbs_mul] at this
      have h5 : (((Y1 * d - n * Y2).natAbs * den.natAbs : Nat) : Int) = ((Y2.natAbs * (o * d - m).natAbs : Nat) : Int) := by rw [this]
      rw [Int.natCast_mul, Int.natCast_mul, Int.natAbs_of_nonneg (show 0 ≤ den by omega), Int.natAbs_of_nonneg (show 0 ≤ Y2 by omega)] at h5
      exact h5
    apply Int.le_of_mul_le_mul_right (a := den) _ (by omega)
    rw [h4]
    have h6 : Y2 * ((o * d - m).natAbs : Int) ≤ den * d := Int.mul_le_mul y4 h3 (by omega) (by omega)
    have : den * d = d * den := Int.mul_comm _ _
    omega
  rw [hgR] at hgp
  obtain ⟨u1, u2, u3, _⟩ := low_small (N := R1 * d + -n * R2) (D := R2 * d) (by omega) (by rw [nR]; have := abs_pm hgp; omega) (by omega)
  obtain ⟨v1, v2, v3, _⟩ := low_small (N := Y1 * d + -n * Y2) (D := Y2 * d) (by omega) (by rw [nY]; have := abs_pm bY; omega) (by omega)
  have hop := hopt Y1 Y2 (by omega) (by omega)
  rw [hgR, hgY] at hop
  unfold addE addA addB
  rw [if_pos cR, if_pos cY, if_pos cR, if_pos cY, if_pos cR, if_pos cY]
  rw [nR] at u1 u2 u3 ⊢
  rw [nY] at v1 v2 v3 ⊢
  generalize lowA (R1 * d - n * R2) (R2 * d) = ua at *
  generalize lowB (R1 * d - n * R2) (R2 * d) = ub at *
  generalize lowA (Y1 * d - n * Y2) (Y2 * d) = va at *
  generalize lowB (Y1 * d - n * Y2) (Y2 * d) = vb at *
  refine ⟨by omega, y1, y2, u1, v1, ?_⟩
  have ab : ∀ {x y : Int}, Fv x y → Fv (x.natAbs : Int) y := by
    intro x y hf
    have := hf.bd
    refine ⟨by omega, ?_⟩
    have := hf.2
    unfold Int.gcd at this ⊢
    simpa using this
  unfold cmpfV
  rw [if_pos (chk2_zero.2 ⟨ab u2, ab v2⟩)]
  have cast : ∀ {a b c e : Int}, 0 ≤ b → 0 ≤ e → a * b = c * e → (a.natAbs : Int) * b = (c.natAbs : Int) * e := by
    intro a b c e hb he hh
    have := congrArg Int.natAbs hh
    rw [Int.natAbs_mul, Int.natAbs_mul] at this
    have h5 : ((a.natAbs * b.natAbs : Nat) : Int) = ((c.natAbs * e.natAbs : Nat) : Int) := by rw [this]
    rw [Int.natCast_mul, Int.natCast_mul, Int.natAbs_of_nonneg hb, Int.natAbs_of_nonneg he] at h5
    exact h5
  have ub0 := u2.pos
  have vb0 := v2.pos
  have U := cast (by omega) (by omega) u3
  have V := cast (by omega) (by omega) v3
  generalize (ua.natAbs : Int) = a1 at *
  generalize (va.natAbs : Int) = a2 at *
  generalize ((R1 * d - n * R2).natAbs : Int) = G1 at *
  generalize ((Y1 * d - n * Y2).natAbs : Int) = G2 at *
  have key : a1 * vb ≤ a2 * ub := by
    have hp : 0 < R2 * (Y2 * d) := Int.mul_pos (by omega) (by omega)
    apply Int.le_of_mul_le_mul_right (a := R2 * (Y2 * d)) _ hp
    have t1 : G1 * Y2 * (ub * vb) ≤ G2 * R2 * (ub * vb) := Int.mul_le_mul_of_nonneg_right hop (Int.le_of_lt (Int.mul_pos ub0 vb0))
    have t2 : a1 * vb * (R2 * (Y2 * d)) = G1 * Y2 * (ub * vb) := cross U
    have t3 : a2 * ub * (R2 * (Y2 * d)) = G2 * R2 * (ub * vb) := by
      have := cross (v := ub) (y := R2) V
      rw [Int.mul_comm ub vb, ← this]
      have e : Y2 * (R2 * d) = R2 * (Y2 * d) := by rw [← Int.mul_assoc, ← Int.mul_assoc, Int.mul_comm Y2 R2]
      rw [e]
    omega
  have := cmpI_pos (a := a1 * vb) (b := a2 * ub)
  omega
end Go.Proofs.Ytlhofholfgfphaa

