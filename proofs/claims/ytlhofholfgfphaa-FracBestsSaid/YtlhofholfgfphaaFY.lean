/-
  The mathematics of FracBests: Best's result and Nearest's are the same fraction: the nearest one; of equally near ones that with the smallest denominator, of two of them the smaller one.
  Conditions: those of each lemma.
-/
import Derived.Test.YtlhofholfgfphaaFC
import Derived.Test.YtlhofholfgfphaaNN
set_option linter.unusedVariables false
namespace Go.Proofs.Ytlhofholfgfphaa
open Go.RowKit Go.Shelf Wd

/-- m/q, at distance g, is nearer than N/D, at distance h, or as near and ahead of it. -/
def LexN (g q m h D N : Int) : Prop := g * D < h * q ∨ (g * D = h * q ∧ (q < D ∨ (q = D ∧ m ≤ N)))
theorem gp_nn (p q n d : Int) : 0 ≤ gp p q n d := by unfold gp; omega
theorem gp_zero {p q n d : Int} (h : gp p q n d = 0) : p * d = n * q := by unfold gp at h; omega
/-- An exact fraction in lowest terms comes first. -/
theorem lex_exact {n d p q N D : Int} (hd : 1 ≤ d) (hq : 1 ≤ q) (hD : 1 ≤ D) (hg : Int.gcd p q = 1) (h : p * d = n * q) : LexN 0 q p (gp N D n d) D N := by
  rcases Int.lt_or_le 0 (gp N D n d) with h1 | h1
  · left
    have := Int.mul_pos h1 (show 0 < q by omega)
    omega
  · right
    have h0 : gp N D n d = 0 := by have := gp_nn N D n d; omega
    have e := gp_zero h0
    refine ⟨by rw [h0]; omega, ?_⟩
    have e2 : p * D = N * q := by
      have : p * D * d = N * q * d := by
        have e3 : p * D * d = (p * d) * D := by grind
        have e4 : N * q * d = (N * d) * q := by grind
        rw [e3, e4, h, e]; grind
      exact Int.eq_of_mul_eq_mul_right (by omega) this
    have hdv : q ∣ D := by
      have h3 : q ∣ p * D := ⟨N, by rw [e2, Int.mul_comm]⟩
      have h4 := Int.natAbs_dvd_natAbs.2 h3
      rw [Int.natAbs_mul] at h4
      exact Int.natAbs_dvd_natAbs.1 (Nat.Coprime.dvd_of_dvd_mul_left (k := q.natAbs) (m := p.natAbs) (n := D.natAbs) (Nat.Coprime.symm hg) h4)
    have hle := Int.le_of_dvd (by omega) hdv
    rcases Int.lt_or_le q D with h4 | h4
    · exact .inl h4
    · have : q = D := by omega
      subst this
      exact .inr ⟨rfl, Int.le_of_eq (Int.eq_of_mul_eq_mul_right (by omega) e2)⟩
/-- A number with a small denominator, by two neighbours that enclose x. -/
theorem between2 {n d p q P Q s g N D : Int} (hdet : p * Q - P * q = 1 ∨ p * Q - P * q = -1) (h : (p * d - n * q = s ∧ P * d - n * Q = -g) ∨ (p * d - n * q = -s ∧ P * d - n * Q = g)) (hs : 0 ≤ s) (hg : 0 ≤ g) (hq : 1 ≤ q) (hQ : 1 ≤ Q) (hD : 1 ≤ D) (hDm : D < q + Q) :
    ∃ u v : Int, N = u * p + v * P ∧ D = u * q + v * Q ∧ ((v ≤ 0 ∧ 1 ≤ u ∧ gp N D n d = u * s - v * g) ∨ (u ≤ 0 ∧ 1 ≤ v ∧ gp N D n d = v * g - u * s)) := by
  obtain ⟨u, v, hN, hDD⟩ := combo (N := N) (D := D) hdet
  have e : gp N D n d = ((u * s - v * g).natAbs : Int) := by
    unfold gp
    rcases h with ⟨h1, h2⟩ | ⟨h1, h2⟩
    · rw [show N * d - n * D = u * s - v * g by rw [hN, hDD]; grind]
    · rw [show N * d - n * D = -(u * s - v * g) by rw [hN, hDD]; grind]
      omega
  refine ⟨u, v, hN, hDD, ?_⟩
  rw [e]
  rcases Int.lt_or_le 0 v with hv | hv
  · right
    have hu : u ≤ 0 := by
      rcases Int.lt_or_le 0 u with hu | hu
      · exfalso
        have h1 : 1 * q ≤ u * q := Int.mul_le_mul_of_nonneg_right (by omega) (by omega)
        have h2 : 1 * Q ≤ v * Q := Int.mul_le_mul_of_nonneg_right (by omega) (by omega)
        omega
      · exact hu
    have h1 : u * s ≤ 0 := Int.mul_nonpos_of_nonpos_of_nonneg hu hs
    have h2 : 0 ≤ v * g := Int.mul_nonneg (by omega) hg
    exact ⟨hu, by omega, by omega⟩
  · left
    have h1 : v * g ≤ 0 := Int.mul_nonpos_of_nonpos_of_nonneg hv hg
    have hu : 1 ≤ u := by
      rcases Int.lt_or_le 0 u with hu | hu
      · omega
      · exfalso
        have h1 : u * q ≤ 0 := Int.mul_nonpos_of_nonpos_of_nonneg hu (by omega)
        have h2 : v * Q ≤ 0 := Int.mul_nonpos_of_nonpos_of_nonneg hv (by omega)
        omega
    have h2 : 0 ≤ u * s := Int.mul_nonneg (by omega) hs
    exact ⟨hv, hu, by omega⟩
theorem not_both {d p q P Q n : Int} (hd : 1 ≤ d) (hdet : p * Q - P * q = 1 ∨ p * Q - P * q = -1) (h1 : p * d = n * q) (h2 : P * d = n * Q) : False := by
  have : (p * Q - P * q) * d = 0 := by
    have : (p * Q - P * q) * d = (p * d) * Q - (P * d) * q := by grind
    rw [this, h1, h2]; grind
  rcases hdet with h | h <;> rw [h] at this <;> omega
section
variable {n d p q P Q s g N D : Int} (hd : 1 ≤ d) (hdet : p * Q - P * q = 1 ∨ p * Q - P * q = -1) (h : (p * d - n * q = s ∧ P * d - n * Q = -g) ∨ (p * d - n * q = -s ∧ P * d - n * Q = g)) (hs : 0 ≤ s) (hg : 0 ≤ g) (hq : 1 ≤ q) (hQ : 1 ≤ Q) (hD : 1 ≤ D) (hDm : D < q + Q)
include hd hdet h hs hg hq hQ hD hDm
/-- The nearer one of the two neighbours, at equal distance the former one, comes first. -/
theorem lex_last (hle : s * Q ≤ g * q) (ht : s * Q = g * q → q ≤ Q ∧ (q = Q → p ≤ P)) : LexN s q p (gp N D n d) D N := by
  have hsQ := Int.mul_nonneg hs (show 0 ≤ Q by omega)
  have hgq := Int.mul_nonneg hg (show 0 ≤ q by omega)
  have hne : s * Q + g * q = 0 → False := fun e => by
    have hs0 : s = 0 := by
      rcases Int.lt_or_le 0 s with h1 | h1
      · have := Int.mul_pos h1 (show 0 < Q by omega); omega
      · omega
    have hg0 : g = 0 := by
      rcases Int.lt_or_le 0 g with h1 | h1
      · have := Int.mul_pos h1 (show 0 < q by omega); omega
      · omega
    subst hs0 hg0
    rcases h with ⟨h1, h2⟩ | ⟨h1, h2⟩ <;> exact not_both (n := n) hd hdet (by omega) (by omega)
  obtain ⟨u, v, hN, hDD, hc⟩ := between2 (N := N) hdet h hs hg hq hQ hD hDm
  rcases hc with ⟨hv, hu, e⟩ | ⟨hu, hv, e⟩
  · have e1 : gp N D n d * q = s * D + (-v) * (s * Q + g * q) := by rw [e, hDD]; grind
    rcases Int.lt_or_le v 0 with h1 | h1
    · left
      have hpos : 0 < s * Q + g * q := by
        rcases Int.lt_or_le 0 (s * Q + g * q) with h2 | h2
        · exact h2
        · exact (hne (by omega)).elim
      have := Int.mul_pos (show 0 < -v by omega) hpos
      omega
    · right
      have hv0 : v = 0 := by omega
      subst hv0
      refine ⟨by rw [e1]; grind, ?_⟩
      rcases Int.lt_or_le 1 u with h2 | h2
      · left
        have : 2 * q ≤ u * q := Int.mul_le_mul_of_nonneg_right (by omega) (by omega)
        omega
      · have hu1 : u = 1 := by omega
        subst hu1
        right; omega
  · have e1 : gp N D n d * q = s * D + (v * (g * q - s * Q) + 2 * ((-u) * (s * q))) := by rw [e, hDD]; grind
    have a1 : 0 ≤ v * (g * q - s * Q) := Int.mul_nonneg (by omega) (by omega)
    have a2 : 0 ≤ (-u) * (s * q) := Int.mul_nonneg (by omega) (Int.mul_nonneg hs (by omega))
    rcases Int.lt_or_le 0 (v * (g * q - s * Q) + 2 * ((-u) * (s * q))) with h1 | h1
    · left; omega
    · right
      have b1 : v * (g * q - s * Q) = 0 := by omega
      have b2 : (-u) * (s * q) = 0 := by omega
      have c1 : s * Q = g * q := by
        rcases Int.mul_eq_zero.1 b1 with h2 | h2
        · omega
        · omega
      have hs1 : s ≠ 0 := fun e0 => hne (by rw [e0] at c1 ⊢; omega)
      have hu0 : u = 0 := by
        rcases Int.mul_eq_zero.1 b2 with h2 | h2
        · omega
        · exfalso
          rcases Int.mul_eq_zero.1 h2 with h3 | h3
          · exact hs1 h3
          · omega
      subst hu0
      obtain ⟨t1, t2⟩ := ht c1
      refine ⟨by omega, ?_⟩
      rcases Int.lt_or_le 1 v with h2 | h2
      · left
        have : 2 * Q ≤ v * Q := Int.mul_le_mul_of_nonneg_right (by omega) (by omega)
        omega
      · have hv1 : v = 1 := by omega
        subst hv1
        rcases Int.lt_or_le q Q with h3 | h3
        · left; omega
        · have : q = Q := by omega
          have := t2 this
          right; omega
/-- The latter one, where it is nearer, comes first. -/
theorem lex_next (hlt : g * q < s * Q) : LexN g Q P (gp N D n d) D N := by
  have _ := hd
  obtain ⟨u, v, hN, hDD, hc⟩ := between2 (N := N) hdet h hs hg hq hQ hD hDm
  have hgQ := Int.mul_nonneg hg (show 0 ≤ Q by omega)
  have hgq := Int.mul_nonneg hg (show 0 ≤ q by omega)
  rcases hc with ⟨hv, hu, e⟩ | ⟨hu, hv, e⟩
  · left
    have e1 : gp N D n d * Q = g * D + (u * (s * Q - g * q) + 2 * ((-v) * (g * Q))) := by rw [e, hDD]; grind
    have a1 : 0 < u * (s * Q - g * q) := Int.mul_pos (by omega) (by omega)
    have a2 : 0 ≤ (-v) * (g * Q) := Int.mul_nonneg (by omega) hgQ
    omega
  · have e1 : gp N D n d * Q = g * D + (-u) * (s * Q + g * q) := by rw [e, hDD]; grind
    rcases Int.lt_or_le u 0 with h1 | h1
    · left
      have := Int.mul_pos (show 0 < -u by omega) (show 0 < s * Q + g * q by omega)
      omega
    · right
      have hu0 : u = 0 := by omega
      subst hu0
      refine ⟨by rw [e1]; grind, ?_⟩
      rcases Int.lt_or_le 1 v with h2 | h2
      · left
        have : 2 * Q ≤ v * Q := Int.mul_le_mul_of_nonneg_right (by omega) (by omega)
        omega
      · have hv1 : v = 1 := by omega
        subst hv1
        right; omega
end

theorem bestL_lex (m : Nat) : ∀ (s : Nat), s ≤ m → ∀ (n d most a b p q r : Int), St n d a b p q r s → (s : Int) < r → b ≤ q → (b = 0 → a = 1 ∧ q = 1) → 1 ≤ most → b ≤ most → q ≤ most →
    ∀ R1 R2, bestL n d most (cf r s) a b p q = some (R1, R2) → ∀ N D, 1 ≤ D → D ≤ most → LexN (gp R1 R2 n d) R2 R1 (gp N D n d) D N := by
  induction m with
  | zero =>
    intro s hs n d most a b p q r h hr hbq hb0 m1 hb hq R1 R2 hR N D hD hDm
    obtain rfl : s = 0 := by omega
    rw [cf_zero] at hR
    cases hR
    have g1 := h.gap.1
    have hd := h.hd
    have qr : 1 * r ≤ q * r := Int.mul_le_mul_of_nonneg_right h.q1 (by omega)
    have b0 := h.b0
    have e0 : b * ((0 : Nat) : Int) = 0 := by simp
    have e : gp p q n d = 0 := gp_eq g1 h.s0
    rw [e]
    exact lex_exact (by omega) h.q1 hD (det_gcd (P := a) (Q := b) h.det) (by omega)
  | succ m ih =>
    intro s hs n d most a b p q r h hr hbq hb0 m1 hb hq R1 R2 hR N D hD hDm
    rcases Nat.eq_zero_or_pos s with rfl | hpos
    · exact ih 0 (by omega) n d most a b p q r h hr hbq hb0 m1 hb hq R1 R2 hR N D hD hDm
    · have hsp : (0 : Int) < (s : Int) := by omega
      obtain ⟨g1, g2⟩ := h.gap
      have q1 := h.q1
      have b0 := h.b0
      obtain ⟨t, ht⟩ : ∃ t, r / (s : Int) = t := ⟨_, rfl⟩
      obtain ⟨k, hk⟩ : ∃ k, min t ((most - b).tdiv q) = k := ⟨_, rfl⟩
      have hk2 : k = min t ((most - b) / q) := by rw [← hk, Int.tdiv_eq_ediv_of_nonneg (by omega)]
      obtain ⟨k0, kt, c1, c2, c3, c4, qd, rk, t1⟩ := h.step hsp ht.symm hb hq hk2
      have hd := h.hd
      have bs : 0 ≤ b * (s : Int) := Int.mul_nonneg b0 (by omega)
      have qr : 1 * r ≤ q * r := Int.mul_le_mul_of_nonneg_right q1 (by omega)
      have hd1 : 1 ≤ d := by omega
      have hPe : (a + k * p) * d - n * (b + k * q) = r - k * s ∨ (a + k * p) * d - n * (b + k * q) = -(r - k * s) := by
        obtain ⟨hn', hd', hdet, _, _, _, _⟩ := h
        subst hn' hd'
        rcases hdet with hh | hh
        · right; grind
        · left; grind
      rw [cf_pos r hpos, ht] at hR
      unfold bestL at hR
      rw [hk] at hR
      split at hR
      · split at hR
        · rename_i hkt
          have eP := gp_eq hPe rk
          have eL := gp_eq g1 (by omega)
          have e6 : (k + 1) * q = k * q + q := by grind
          have hQ1 : 1 ≤ b + k * q := by
            have := c4 hkt
            rcases Int.lt_or_le (b + k * q) 1 with hh | hh
            · exfalso
              have : most < q := by omega
              omega
            · exact hh
          have hdet2 : p * (b + k * q) - (a + k * p) * q = 1 ∨ p * (b + k * q) - (a + k * p) * q = -1 := by
            rcases h.det with hh | hh
            · left; grind
            · right; grind
          have hsides : (p * d - n * q = s ∧ (a + k * p) * d - n * (b + k * q) = -(r - k * s)) ∨ (p * d - n * q = -s ∧ (a + k * p) * d - n * (b + k * q) = r - k * s) := by
            obtain ⟨hn', hd', hdet, _, _, _, _⟩ := h
            subst hn' hd'
            rcases hdet with hh | hh
            · left; constructor <;> grind
            · right; constructor <;> grind
          have hsum : D < q + (b + k * q) := by have := c4 hkt; omega
          split at hR
          · by_cases hnb : nearB n d p q (a + k * p) (b + k * q) = true
            · rw [if_pos hnb] at hR
              cases hR
              unfold nearB at hnb
              have hnb := of_decide_eq_true hnb
              rw [eP, eL] at hnb
              rw [eP]
              exact lex_next hd1 hdet2 hsides (by omega) rk q1 hQ1 hD hsum hnb
            · rw [if_neg hnb] at hR
              cases hR
              unfold nearB at hnb
              have hnb : ¬ _ := fun x => hnb (decide_eq_true x)
              rw [eP, eL] at hnb
              rw [eL]
              refine lex_last hd1 hdet2 hsides (by omega) rk q1 hQ1 hD hsum (by omega) fun heq => ?_
              rcases Int.lt_or_le 0 k with h1 | h1
              · have e7 : 1 * q ≤ k * q := Int.mul_le_mul_of_nonneg_right (by omega) (by omega)
                refine ⟨by omega, fun he => ?_⟩
                have hb1 : b = 0 := by omega
                obtain ⟨ha, hq'⟩ := hb0 hb1
                subst hq'
                have : k = 1 := by omega
                subst this
                omega
              · exfalso
                have hk0 : k = 0 := by omega
                subst hk0
                have e8 : (s : Int) * (b + 0 * q) = s * b := by grind
                have e9 : (r - 0 * (s : Int)) * q = r * q := by grind
                rw [e8, e9] at heq
                have e10 : (s : Int) * b ≤ s * q := Int.mul_le_mul_of_nonneg_left hbq (by omega)
                have e11 : (s : Int) * q < r * q := Int.mul_lt_mul_of_pos_right hr (by omega)
                omega
          · cases hR
        · rename_i hkt
          have hke : k = r / (s : Int) := by omega
          have hQ1 : b + k * q ≥ q := by
            have : 1 * q ≤ k * q := Int.mul_le_mul_of_nonneg_right (by omega) (by omega)
            omega
          have hn := h.next hke hsp (by omega)
          have m1' := Int.emod_nonneg r (b := (s : Int)) (by omega)
          have m2' := Int.emod_lt_of_pos r (b := (s : Int)) hsp
          have hcast : (((r % (s : Int)).toNat : Nat) : Int) = r % (s : Int) := Int.toNat_of_nonneg m1'
          rw [← hcast] at hn
          exact ih (r % (s : Int)).toNat (by omega) n d most p q (a + k * p) (b + k * q) s hn (by omega) hQ1 (fun e => by omega) m1 hq c1 R1 R2 hR N D hD hDm
      · cases hR

/-! Nearest's -/
theorem nDist_gp (n d m q : Int) : nDist n d m q = gp m q n d := rfl
/-- What Nearest has found: the first among these. -/
def FirstN (n d : Int) (k : Int) (s : NS) : Prop := ∃ m q, s.N = lowA m q ∧ s.D = lowB m q ∧ s.A = gp m q n d ∧ s.U = q ∧ 1 ≤ q ∧ q ≤ k ∧ ∀ N D, 1 ≤ D → D ≤ k → LexN (gp m q n d) q m (gp N D n d) D N
/-- The numbers with denominator q beside the two next to x. -/
theorem gp_two {n d q : Int} (hd : 1 ≤ d) (N : Int) : (N < n * q / d → gp (n * q / d) q n d + d ≤ gp N q n d) ∧ (n * q / d + 1 < N → gp (n * q / d + 1) q n d + d ≤ gp N q n d) := by
  have h1 := Int.emod_add_mul_ediv (n * q) d
  have h2 := Int.emod_nonneg (n * q) (show d ≠ 0 by omega)
  have h3 := Int.emod_lt_of_pos (n * q) (show 0 < d by omega)
  generalize n * q / d = p at *
  have e1 : p * d = d * p := Int.mul_comm _ _
  have e2 : (p + 1) * d = d * p + d := by rw [Int.add_mul, Int.mul_comm]; omega
  unfold gp
  refine ⟨fun hN => ?_, fun hN => ?_⟩
  · have : N * d ≤ (p - 1) * d := Int.mul_le_mul_of_nonneg_right (by omega) (by omega)
    have e3 : (p - 1) * d = d * p - d := by rw [Int.sub_mul, Int.mul_comm]; omega
    omega
  · have : (p + 2) * d ≤ N * d := Int.mul_le_mul_of_nonneg_right (by omega) (by omega)
    have e3 : (p + 2) * d = d * p + 2 * d := by rw [Int.add_mul, Int.mul_comm]
    omega
theorem lex_trans {g q m h D N a b c : Int} (h1 : LexN g q m h D N) (h2 : LexN h D N a b c) (hq : 1 ≤ q) (hD : 1 ≤ D) (hb : 1 ≤ b) : LexN g q m a b c := by
  have key : g * b * D ≤ a * q * D := by
    have x1 : g * D ≤ h * q := by rcases h1 with x | ⟨x, _⟩ <;> omega
    have x2 : h * b ≤ a * D := by rcases h2 with x | ⟨x, _⟩ <;> omega
    have y1 : g * D * b ≤ h * q * b := Int.mul_le_mul_of_nonneg_right x1 (by omega)
    have y2 : h * b * q ≤ a * D * q := Int.mul_le_mul_of_nonneg_right x2 (by omega)
    have z1 : g * b * D = g * D * b := by grind
    have z2 : h * q * b = h * b * q := by grind
    have z3 : a * q * D = a * D * q := by grind
    omega
  have hle := Int.le_of_mul_le_mul_right key (by omega)
  rcases Int.lt_or_le (g * b) (a * q) with hx | hx
  · exact .inl hx
  · have heq : g * b = a * q := by omega
    refine .inr ⟨heq, ?_⟩
    have h1' : g * D = h * q ∧ (q < D ∨ (q = D ∧ m ≤ N)) := by
      rcases h1 with x | x
      · exfalso
        have x2 : h * b ≤ a * D := by rcases h2 with x | ⟨x, _⟩ <;> omega
        have y1 : g * D * b < h * q * b := Int.mul_lt_mul_of_pos_right x (by omega)
        have y2 : h * b * q ≤ a * D * q := Int.mul_le_mul_of_nonneg_right x2 (by omega)
        have z1 : g * D * b = (g * b) * D := by grind
        have z2 : h * q * b = h * b * q := by grind
        have z3 : a * D * q = (a * q) * D := by grind
        rw [z1, heq] at y1
        omega
      · exact x
    have h2' : h * b = a * D ∧ (D < b ∨ (D = b ∧ N ≤ c)) := by
      rcases h2 with x | x
      · exfalso
        have y2 : h * b * q < a * D * q := Int.mul_lt_mul_of_pos_right x (by omega)
        have y1 : g * D * b = h * q * b := by rw [h1'.1]
        have z1 : g * D * b = (g * b) * D := by grind
        have z2 : h * q * b = h * b * q := by grind
        have z3 : a * D * q = (a * q) * D := by grind
        rw [z1, heq] at y1
        omega
      · exact x
    omega
theorem lex_add {g q m h D N e g' : Int} (h1 : LexN g q m h D N) (he : 1 ≤ e) (hq : 1 ≤ q) (h2 : h + e ≤ g' ) : g * D < g' * q := by
  have x1 : g * D ≤ h * q := by rcases h1 with x | ⟨x, _⟩ <;> omega
  have x2 : (h + e) * q ≤ g' * q := Int.mul_le_mul_of_nonneg_right h2 (by omega)
  have x3 : (h + e) * q = h * q + e * q := Int.add_mul _ _ _
  have x4 : 1 * q ≤ e * q := Int.mul_le_mul_of_nonneg_right he (by omega)
  omega
/-- One more candidate, behind all others. -/
theorem updN_first {n d m' q' : Int} {s : NS} {S : Int → Int → Prop} (hq' : 1 ≤ q') (m q : Int) (h1 : s.N = lowA m q) (h2 : s.D = lowB m q) (h3 : s.A = gp m q n d) (h4 : s.U = q) (hq : 1 ≤ q) (hbe : q < q' ∨ (q = q' ∧ m ≤ m'))
    (hall : ∀ N D, 1 ≤ D → S N D → LexN (gp m q n d) q m (gp N D n d) D N) : ∃ m2 q2, (updN n d m' q' s).N = lowA m2 q2 ∧ (updN n d m' q' s).D = lowB m2 q2 ∧ (updN n d m' q' s).A = gp m2 q2 n d ∧ (updN n d m' q' s).U = q2 ∧ 1 ≤ q2 ∧ ((m2 = m ∧ q2 = q) ∨ (m2 = m' ∧ q2 = q')) ∧
      LexN (gp m2 q2 n d) q2 m2 (gp m' q' n d) q' m' ∧ ∀ N D, 1 ≤ D → S N D → LexN (gp m2 q2 n d) q2 m2 (gp N D n d) D N := by
  unfold updN
  rw [nDist_gp, h3, h4]
  by_cases hc : gp m' q' n d * q < gp m q n d * q'
  · rw [if_pos hc]
    refine ⟨m', q', rfl, rfl, rfl, rfl, hq', .inr ⟨rfl, rfl⟩, .inr ⟨rfl, .inr ⟨rfl, Int.le_refl _⟩⟩, fun N D hD hS => ?_⟩
    exact lex_trans (.inl hc) (hall N D hD hS) hq' hq hD
  · rw [if_neg hc]
    refine ⟨m, q, h1, h2, h3, h4, hq, .inl ⟨rfl, rfl⟩, ?_, hall⟩
    rcases Int.lt_or_le (gp m q n d * q') (gp m' q' n d * q) with hx | hx
    · exact .inl hx
    · exact .inr ⟨by omega, hbe⟩
theorem rowN_first {n d k : Int} {s : NS} (hd : 1 ≤ d) (hk : 1 ≤ k) (h : FirstN n d k s) : FirstN n d (k + 1) (rowN n d (k + 1) s) := by
  obtain ⟨m, q, h1, h2, h3, h4, hq, hqk, hall⟩ := h
  obtain ⟨m1, q1, a1, a2, a3, a4, aq, ac, al, aall⟩ := updN_first (n := n) (d := d) (m' := n * (k + 1) / d) (q' := k + 1) (S := fun N D => D ≤ k) (by omega) m q h1 h2 h3 h4 hq (.inl (by omega)) (fun N D hD hS => hall N D hD hS)
  obtain ⟨m2, q2, b1, b2, b3, b4, bq, bc, bl, ball⟩ := updN_first (n := n) (d := d) (m' := n * (k + 1) / d + 1) (q' := k + 1) (S := fun N D => D ≤ k ∨ (D = k + 1 ∧ N = n * (k + 1) / d)) (by omega) m1 q1 a1 a2 a3 a4 aq
    (by rcases ac with ⟨x, y⟩ | ⟨x, y⟩
        · left; omega
        · right; omega) (fun N D hD hS => by
      rcases hS with hS | ⟨rfl, rfl⟩
      · exact aall N D hD hS
      · exact al)
  refine ⟨m2, q2, b1, b2, b3, b4, bq, by omega, fun N D hD hDk => ?_⟩
  rcases Int.lt_or_le k D with hx | hx
  · have hDe : D = k + 1 := by omega
    subst hDe
    have l1 := ball (n * (k + 1) / d) (k + 1) hD (.inr ⟨rfl, rfl⟩)
    obtain ⟨t1, t2⟩ := gp_two (n := n) (q := k + 1) hd N
    rcases Int.lt_trichotomy N (n * (k + 1) / d) with hN | hN | hN
    · exact .inl (lex_add l1 hd bq (t1 hN))
    · rw [hN]; exact l1
    · rcases Int.lt_or_le (n * (k + 1) / d + 1) N with hN2 | hN2
      · exact .inl (lex_add bl hd bq (t2 hN2))
      · rw [show N = n * (k + 1) / d + 1 by omega]; exact bl
  · exact ball N D hD (.inl hx)
theorem firstN_first {n d : Int} (hd : 1 ≤ d) : FirstN n d 1 (firstN n d) := by
  obtain ⟨m2, q2, b1, b2, b3, b4, bq, bc, bl, ball⟩ := updN_first (n := n) (d := d) (m' := n * 1 / d + 1) (q' := 1) (s := ⟨lowA (n * 1 / d) 1, lowB (n * 1 / d) 1, nDist n d (n * 1 / d) 1, 1⟩) (S := fun N D => D = 1 ∧ N = n * 1 / d) (by omega) (n * 1 / d) 1 rfl rfl rfl rfl (by omega)
    (.inr ⟨rfl, by omega⟩) (fun N D hD hS => by obtain ⟨rfl, rfl⟩ := hS; exact .inr ⟨rfl, .inr ⟨rfl, Int.le_refl _⟩⟩)
  refine ⟨m2, q2, b1, b2, b3, b4, bq, by omega, fun N D hD hDk => ?_⟩
  have hDe : D = 1 := by omega
  subst hDe
  have l1 := ball (n * 1 / d) 1 hD ⟨rfl, rfl⟩
  obtain ⟨t1, t2⟩ := gp_two (n := n) (q := 1) hd N
  rcases Int.lt_trichotomy N (n * 1 / d) with hN | hN | hN
  · exact .inl (lex_add l1 hd bq (t1 hN))
  · rw [hN]; exact l1
  · rcases Int.lt_or_le (n * 1 / d + 1) N with hN2 | hN2
    · exact .inl (lex_add bl hd bq (t2 hN2))
    · rw [show N = n * 1 / d + 1 by omega]; exact bl
theorem nearN_first {n d : Int} (hd : 1 ≤ d) : ∀ k : Nat, FirstN n d (k + 1) (nearN n d k)
  | 0 => firstN_first hd
  | k + 1 => by
    have := rowN_first (n := n) (s := nearN n d k) hd (k := (k : Int) + 1) (by omega) (nearN_first hd k)
    rw [show ((k + 1 : Nat) : Int) + 1 = (k : Int) + 1 + 1 by omega]
    have e : nearN n d (k + 1) = rowN n d ((k : Int) + 1 + 1) (nearN n d k) := by
      show rowN n d ((k : Int) + 2) _ = _
      rw [show (k : Int) + 2 = (k : Int) + 1 + 1 by omega]
    rw [e]; exact this
/-- Both are the same. -/
theorem best_near {n d most R1 R2 : Int} (h : Fv n d) (m1 : 1 ≤ most) (m2 : most ≤ 4096) (hR : 1 ≤ R2 ∧ R2 ≤ most) (hg : Int.gcd R1 R2 = 1) (hl : ∀ N D, 1 ≤ D → D ≤ most → LexN (gp R1 R2 n d) R2 R1 (gp N D n d) D N) (hgp : gp R1 R2 n d ≤ d) :
    (nearN n d (most - 1).toNat).N = R1 ∧ (nearN n d (most - 1).toNat).D = R2 := by
  have hb := h.bd
  have hd1 : 1 ≤ d := hb.2.2.1
  have hf := nearN_first (n := n) hd1 (most - 1).toNat
  rw [show (((most - 1).toNat : Nat) : Int) + 1 = most by omega] at hf
  obtain ⟨m, q, h1, h2, h3, h4, hq, hqk, hall⟩ := hf
  have x := hl m q hq hqk
  have y := hall R1 R2 hR.1 hR.2
  have e : R2 = q ∧ R1 = m := by
    rcases x with x | ⟨x1, x2⟩ <;> rcases y with y | ⟨y1, y2⟩ <;> omega
  obtain ⟨rfl, rfl⟩ := e
  rw [h1, h2]
  have hred := red_unique (n := R1) (d := R2) (N := R1) (D := R2) (by omega) hg (by omega) rfl
  -- in range
  have hrange : -1152921504606846976 ≤ R1 ∧ R1 ≤ 1152921504606846976 := by
    by_cases hdm : d ≤ most
    · -- x itself is permitted
      have z := hl n d hd1 hdm
      have g0 : gp n d n d = 0 := by unfold gp; omega
      rw [g0] at z
      have gz : gp R1 R2 n d = 0 := by
        have := gp_nn R1 R2 n d
        rcases z with z | ⟨z, _⟩
        · have := Int.mul_nonneg this (show 0 ≤ d by omega); omega
        · rcases Int.lt_or_le 0 (gp R1 R2 n d) with h5 | h5
          · have := Int.mul_pos h5 (show 0 < d by omega); omega
          · omega
      have hRd : R2 ≤ d := by
        rcases z with z | ⟨_, z⟩
        · rw [gz] at z; omega
        · omega
      have ez := gp_zero gz
      have nb := num_bd (P := R1) (Q := R2) (n := n) (d := d) (e := 0) (by omega) hd1 (by omega) hRd (by omega)
      -- |R1| * d = |n| * R2 <= |n| * d
      constructor
      · apply Int.le_of_mul_le_mul_right (a := d) _ (by omega)
        rw [ez]
        have a1 : (-1152921504606846976) * R2 ≤ n * R2 := Int.mul_le_mul_of_nonneg_right hb.1 (by omega)
        have a2 : 1152921504606846976 * R2 ≤ 1152921504606846976 * d := Int.mul_le_mul_of_nonneg_left hRd (by omega)
        omega
      · apply Int.le_of_mul_le_mul_right (a := d) _ (by omega)
        rw [ez]
        have a1 : n * R2 ≤ 1152921504606846976 * R2 := Int.mul_le_mul_of_nonneg_right hb.2.1 (by omega)
        have a2 : 1152921504606846976 * R2 ≤ 1152921504606846976 * d := Int.mul_le_mul_of_nonneg_left hRd (by omega)
        omega
    · have hRd : R2 ≤ d - 1 := by omega
      have hd2 := hb.2.2.2
      have gb : -d ≤ R1 * d - n * R2 ∧ R1 * d - n * R2 ≤ d := by unfold gp at hgp; omega
      have a1 : n * R2 ≤ 1152921504606846976 * R2 := Int.mul_le_mul_of_nonneg_right hb.2.1 (by omega)
      have a1' : (-1152921504606846976) * R2 ≤ n * R2 := Int.mul_le_mul_of_nonneg_right hb.1 (by omega)
      have a2 : 1152921504606846976 * R2 ≤ 1152921504606846976 * (d - 1) := Int.mul_le_mul_of_nonneg_left hRd (by omega)
      constructor
      · apply Int.le_of_mul_le_mul_right (a := d) _ (by omega)
        omega
      · apply Int.le_of_mul_le_mul_right (a := d) _ (by omega)
        omega
  have hok : frOk R1 R2 = true := frOk_iff.2 ⟨hrange.1, hrange.2, hR.1, by have := hb.2.2.2; omega⟩
  unfold lowA lowB limA limB
  rw [hred.1, hred.2, if_pos hok, if_pos hok]
  exact ⟨rfl, rfl⟩
/-- Best's numbers and Nearest's. -/
theorem best_is_near {n d most : Int} (h : Fv n d) (m1 : 1 ≤ most) (m2 : most ≤ 4096) : ∃ t0 ts R1 R2, cf n d.toNat = t0 :: ts ∧ (-9223372036854775808 ≤ t0 ∧ t0 ≤ 9223372036854775807) ∧ bestL n d most ts 1 0 t0 1 = some (R1, R2) ∧ (nearN n d (most - 1).toNat).N = R1 ∧ (nearN n d (most - 1).toNat).D = R2 := by
  obtain ⟨t0, ts, R1, R2, hcf, ht0, hbest, r1, r2, ⟨hg, hR, hgp⟩, hopt⟩ := best_full h m1 m2
  have hb := h.bd
  have hd : ((d.toNat : Nat) : Int) = d := by omega
  have e := Int.emod_add_mul_ediv n d
  have e1 := Int.emod_nonneg n (b := d) (by omega)
  have e2 := Int.emod_lt_of_pos n (b := d) (by omega)
  have hs : ((n % d).toNat : Int) = n % d := Int.toNat_of_nonneg e1
  have st : St n d 1 0 (n / d) 1 d ((n % d).toNat : Nat) := by
    rw [hs]
    refine ⟨by grind, by grind, .inr (by omega), by omega, by omega, e1, by omega⟩
  have hcf2 : cf n d.toNat = n / d :: cf d (n % d).toNat := by rw [cf_pos n (by omega), hd]
  rw [hcf2] at hcf
  obtain ⟨rfl, rfl⟩ : n / d = t0 ∧ cf d (n % d).toNat = ts := by simpa using hcf
  have hl := bestL_lex (n % d).toNat (n % d).toNat (Nat.le_refl _) n d most 1 0 (n / d) 1 d st (by omega) (by omega) (fun _ => ⟨rfl, rfl⟩) m1 (by omega) m1 R1 R2 hbest
  refine ⟨_, _, R1, R2, hcf2, ht0, hbest, best_near h m1 m2 ⟨r1, r2⟩ hg hl hgp⟩
end Go.Proofs.Ytlhofholfgfphaa

