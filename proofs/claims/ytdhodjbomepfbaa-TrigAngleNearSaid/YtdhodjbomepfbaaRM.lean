/-
  The sine's series with 150 bits against the rule with 60 bits: in the first quarter they differ by little more than half a unit.
  Conditions: those of each theorem.
-/
import Derived.Test.YtdhodjbomepfbaaTM
set_option linter.unusedVariables false
set_option linter.unusedSimpArgs false
namespace Go.Proofs.Ytdhodjbomepfbaa.Tg

/-- The sine's series: the next term; the sum from a term on. -/
def rT (u t c : Int) : Int := t * u / 1427247692705959881058285969449495136382746624 / c
def alt (u : Int) : Nat → Int → Int → Int
  | 0, _, _ => 0
  | n + 1, t, k => if 0 < t then t - alt u n (rT u t ((k + 1) * (k + 2))) (k + 2) else 0
def stD (v c s : Int) : Int := 1329227995784915872903807060280344576 - v * s / 1329227995784915872903807060280344576 / c
theorem rT_half {u t c : Int} (u0 : 0 ≤ u) (u1 : u ≤ 4281743078117879643174857908348485409148239872) (t0 : 0 ≤ t) (hc : 6 ≤ c) : 0 ≤ rT u t c ∧ 2 * rT u t c ≤ t := by
  unfold rT
  have h0 : 0 ≤ t * u := Int.mul_nonneg t0 u0
  have h1 : t * u ≤ t * 4281743078117879643174857908348485409148239872 := Int.mul_le_mul_of_nonneg_left u1 t0
  have h2 : 0 ≤ t * u / 1427247692705959881058285969449495136382746624 := Int.ediv_nonneg h0 (by omega)
  have h3 : t * u / 1427247692705959881058285969449495136382746624 ≤ 3 * t := by omega
  have h5 : t * u / 1427247692705959881058285969449495136382746624 / c ≤ t * u / 1427247692705959881058285969449495136382746624 / 6 := by
    rw [Int.le_ediv_iff_mul_le (by omega)]
    have a := Int.ediv_mul_le (t * u / 1427247692705959881058285969449495136382746624) (b := c) (by omega)
    have b := Int.ediv_nonneg h2 (show 0 ≤ c by omega)
    have d := Int.mul_le_mul_of_nonneg_left hc b
    omega
  have h6 := Int.ediv_nonneg h2 (show 0 ≤ c by omega)
  omega
theorem kk6 {k : Int} (hk : 1 ≤ k) : 6 ≤ (k + 1) * (k + 2) := by
  have := Int.mul_le_mul (show 2 ≤ k + 1 by omega) (show 3 ≤ k + 2 by omega) (by omega) (by omega)
  omega
theorem alt_in {u : Int} (u0 : 0 ≤ u) (u1 : u ≤ 4281743078117879643174857908348485409148239872) : ∀ (n : Nat) (t k : Int), 0 ≤ t → 1 ≤ k → 0 ≤ alt u n t k ∧ alt u n t k ≤ t
  | 0, t, k, h0, _ => ⟨Int.le_refl 0, h0⟩
  | n + 1, t, k, h0, hk => by
    unfold alt
    split
    · have h := rT_half u0 u1 h0 (kk6 hk)
      have := alt_in u0 u1 n (rT u t ((k + 1) * (k + 2))) (k + 2) h.1 (by omega)
      omega
    · omega
theorem alt_eq {u : Int} (u0 : 0 ≤ u) (u1 : u ≤ 4281743078117879643174857908348485409148239872) (n : Nat) {t k : Int} (h0 : 0 ≤ t) (hk : 1 ≤ k) : alt u (n + 1) t k = t - alt u n (rT u t ((k + 1) * (k + 2))) (k + 2) := by
  rw [alt]
  split
  · rfl
  · obtain rfl : t = 0 := by omega
    have e : rT u 0 ((k + 1) * (k + 2)) = 0 := by unfold rT; simp
    have := alt_in u0 u1 n 0 (k + 2) (Int.le_refl 0) (by omega)
    rw [e]; omega
/-- A floor of a floor. -/
theorem fl2 (p a c : Int) (ha : 0 < a) (hc : 0 < c) : a * c * (p / a / c) ≤ p ∧ p < a * c * (p / a / c) + a * c := by
  rw [Int.ediv_ediv_of_nonneg (by omega)]
  have hp : 0 < a * c := Int.mul_pos ha hc
  have q1 := Int.mul_ediv_self_le (x := p) (k := a * c) (by omega)
  have q2 := Int.lt_mul_ediv_self_add (x := p) (k := a * c) hp
  exact ⟨q1, q2⟩
/-- One term of the series against one step of the nested form. -/
theorem tl_step {u v t S al' c δ : Int} (t0 : 0 ≤ t) (S0 : 0 ≤ S) (S1 : S ≤ 1329227995784915872903807060280344576) (hc : 6 ≤ c) (hv : -(12 * 1152921504606846976 * 1427247692705959881058285969449495136382746624) ≤ 1427247692705959881058285969449495136382746624 * v - 1329227995784915872903807060280344576 * u ∧ 1427247692705959881058285969449495136382746624 * v - 1329227995784915872903807060280344576 * u ≤ 12 * 1152921504606846976 * 1427247692705959881058285969449495136382746624)
    (h : -δ ≤ 1329227995784915872903807060280344576 * al' - rT u t c * S ∧ 1329227995784915872903807060280344576 * al' - rT u t c * S ≤ δ) : -(δ + 3 * 1152921504606846976 * t + 1329227995784915872903807060280344576) ≤ 1329227995784915872903807060280344576 * (t - al') - t * stD v c S ∧ 1329227995784915872903807060280344576 * (t - al') - t * stD v c S ≤ δ + 3 * 1152921504606846976 * t + 1329227995784915872903807060280344576 := by
  obtain ⟨p1, p2⟩ := fl2 (v * S) 1329227995784915872903807060280344576 c (by omega) (by omega)
  obtain ⟨r1, r2⟩ := fl2 (t * u) 1427247692705959881058285969449495136382746624 c (by omega) (by omega)
  unfold stD
  unfold rT at h
  generalize v * S / 1329227995784915872903807060280344576 / c = Q at *
  generalize t * u / 1427247692705959881058285969449495136382746624 / c = t' at *
  -- th: v S = D c Q + th; ta: t u = B c t' + ta
  obtain ⟨th, hth⟩ : ∃ th, th = v * S - 1329227995784915872903807060280344576 * c * Q := ⟨_, rfl⟩
  obtain ⟨ta, hta⟩ : ∃ ta, ta = t * u - 1427247692705959881058285969449495136382746624 * c * t' := ⟨_, rfl⟩
  have key : c * (1329227995784915872903807060280344576 * 1427247692705959881058285969449495136382746624) * (t * Q - t' * S) = t * S * (1427247692705959881058285969449495136382746624 * v - 1329227995784915872903807060280344576 * u) - 1427247692705959881058285969449495136382746624 * (t * th) + 1329227995784915872903807060280344576 * (S * ta) := by rw [hth, hta]; grind
  have k0 : 0 ≤ t * S := Int.mul_nonneg t0 S0
  have k1 : t * S ≤ t * 1329227995784915872903807060280344576 := Int.mul_le_mul_of_nonneg_left S1 t0
  have m1 := mul_bd (x := t * S) (X := t * 1329227995784915872903807060280344576) (y := 1427247692705959881058285969449495136382746624 * v - 1329227995784915872903807060280344576 * u) (Y := 12 * 1152921504606846976 * 1427247692705959881058285969449495136382746624) (by omega) hv
  have m2 : 0 ≤ t * th := Int.mul_nonneg t0 (by omega)
  have m3 : t * th ≤ t * (1329227995784915872903807060280344576 * c) := Int.mul_le_mul_of_nonneg_left (by omega) t0
  have m4 : 0 ≤ S * ta := Int.mul_nonneg S0 (by omega)
  have m5 : S * ta ≤ 1329227995784915872903807060280344576 * (1427247692705959881058285969449495136382746624 * c) := Int.mul_le_mul S1 (by omega) (by omega) (by omega)
  have m6 : 6 * t ≤ c * t := Int.mul_le_mul_of_nonneg_right hc t0
  -- bound times c
  have b1 : c * (1329227995784915872903807060280344576 * 1427247692705959881058285969449495136382746624) * (t * Q - t' * S) ≤ c * (1329227995784915872903807060280344576 * 1427247692705959881058285969449495136382746624) * (2 * 1152921504606846976 * t + t + 1329227995784915872903807060280344576) := by
    have e1 : c * (1329227995784915872903807060280344576 * 1427247692705959881058285969449495136382746624) * (2 * 1152921504606846976 * t + t + 1329227995784915872903807060280344576) = 1329227995784915872903807060280344576 * 1427247692705959881058285969449495136382746624 * (2 * 1152921504606846976) * (c * t) + 1329227995784915872903807060280344576 * 1427247692705959881058285969449495136382746624 * (c * t) + 1329227995784915872903807060280344576 * 1427247692705959881058285969449495136382746624 * 1329227995784915872903807060280344576 * c := by grind
    have e2 : t * 1329227995784915872903807060280344576 * (12 * 1152921504606846976 * 1427247692705959881058285969449495136382746624) = 12 * 1152921504606846976 * (1329227995784915872903807060280344576 * 1427247692705959881058285969449495136382746624) * t := by grind
    have e3 : t * (1329227995784915872903807060280344576 * c) = 1329227995784915872903807060280344576 * (c * t) := by grind
    rw [key, e1]
    rw [e2] at m1
    rw [e3] at m3
    generalize t * S * (1427247692705959881058285969449495136382746624 * v - 1329227995784915872903807060280344576 * u) = z1 at *
    generalize t * th = z2 at *
    generalize S * ta = z3 at *
    generalize c * t = z4 at *
    omega
  have b2 : c * (1329227995784915872903807060280344576 * 1427247692705959881058285969449495136382746624) * -(2 * 1152921504606846976 * t + t + 1329227995784915872903807060280344576) ≤ c * (1329227995784915872903807060280344576 * 1427247692705959881058285969449495136382746624) * (t * Q - t' * S) := by
    have e1 : c * (1329227995784915872903807060280344576 * 1427247692705959881058285969449495136382746624) * -(2 * 1152921504606846976 * t + t + 1329227995784915872903807060280344576) = -(1329227995784915872903807060280344576 * 1427247692705959881058285969449495136382746624 * (2 * 1152921504606846976) * (c * t) + 1329227995784915872903807060280344576 * 1427247692705959881058285969449495136382746624 * (c * t) + 1329227995784915872903807060280344576 * 1427247692705959881058285969449495136382746624 * 1329227995784915872903807060280344576 * c) := by grind
    have e2 : t * 1329227995784915872903807060280344576 * (12 * 1152921504606846976 * 1427247692705959881058285969449495136382746624) = 12 * 1152921504606846976 * (1329227995784915872903807060280344576 * 1427247692705959881058285969449495136382746624) * t := by grind
    have e3 : t * (1329227995784915872903807060280344576 * c) = 1329227995784915872903807060280344576 * (c * t) := by grind
    rw [key, e1]
    rw [e2] at m1
    rw [e3] at m3
    generalize t * S * (1427247692705959881058285969449495136382746624 * v - 1329227995784915872903807060280344576 * u) = z1 at *
    generalize t * th = z2 at *
    generalize S * ta = z3 at *
    generalize c * t = z4 at *
    omega
  have hp : 0 < c * (1329227995784915872903807060280344576 * 1427247692705959881058285969449495136382746624) := Int.mul_pos (by omega) (by omega)
  have c1 := Int.le_of_mul_le_mul_left b1 hp
  have c2 := Int.le_of_mul_le_mul_left b2 hp
  have e : 1329227995784915872903807060280344576 * (t - al') - t * (1329227995784915872903807060280344576 - Q) = (t * Q - t' * S) - (1329227995784915872903807060280344576 * al' - t' * S) := by grind
  rw [e]
  generalize t * Q - t' * S = z1 at *
  generalize 1329227995784915872903807060280344576 * al' - t' * S = z2 at *
  omega
theorem stD_in {v c S : Int} (v0 : 0 ≤ v) (v1 : v ≤ 3 * 1329227995784915872903807060280344576) (S0 : 0 ≤ S) (S1 : S ≤ 1329227995784915872903807060280344576) (hc : 6 ≤ c) : 0 ≤ stD v c S ∧ stD v c S ≤ 1329227995784915872903807060280344576 := by
  unfold stD
  have h0 : 0 ≤ v * S := Int.mul_nonneg v0 S0
  have h1 : v * S ≤ (3 * 1329227995784915872903807060280344576) * 1329227995784915872903807060280344576 := Int.mul_le_mul v1 S1 S0 (by omega)
  have h2 : 0 ≤ v * S / 1329227995784915872903807060280344576 := Int.ediv_nonneg h0 (by omega)
  have h3 : v * S / 1329227995784915872903807060280344576 ≤ 3 * 1329227995784915872903807060280344576 := by omega
  have h4 := Int.ediv_nonneg h2 (show 0 ≤ c by omega)
  have h5 : v * S / 1329227995784915872903807060280344576 / c ≤ v * S / 1329227995784915872903807060280344576 / 6 := by
    rw [Int.le_ediv_iff_mul_le (by omega)]
    have a := Int.ediv_mul_le (v * S / 1329227995784915872903807060280344576) (b := c) (by omega)
    have d := Int.mul_le_mul_of_nonneg_left hc h4
    omega
  omega
def serX (v : Int) : Int := stD v 6 (stD v 20 (stD v 42 (stD v 72 (stD v 110 (stD v 156 (stD v 210 (stD v 272 (stD v 342 1329227995784915872903807060280344576))))))))
/-- The sum of the series against its nested form. -/
theorem tail {u v x : Int} (n : Nat) (hn : 10 ≤ n) (u0 : 0 ≤ u) (u1 : u ≤ 4281743078117879643174857908348485409148239872) (x0 : 0 ≤ x) (x1 : x ≤ 3 * 1427247692705959881058285969449495136382746624) (v0 : 0 ≤ v) (v1 : v ≤ 3 * 1329227995784915872903807060280344576) (hv : -(12 * 1152921504606846976 * 1427247692705959881058285969449495136382746624) ≤ 1427247692705959881058285969449495136382746624 * v - 1329227995784915872903807060280344576 * u ∧ 1427247692705959881058285969449495136382746624 * v - 1329227995784915872903807060280344576 * u ≤ 12 * 1152921504606846976 * 1427247692705959881058285969449495136382746624) (hu : u ≤ 3521592528771091224016130976643791299216150222) :
    -953391645926941779010542434042962716507464599439678763977465135104 ≤ 1329227995784915872903807060280344576 * alt u n x 1 - x * serX v ∧ 1329227995784915872903807060280344576 * alt u n x 1 - x * serX v ≤ 953391645926941779010542434042962716507464599439678763977465135104 := by
  obtain ⟨m, rfl⟩ : ∃ m, n = m + 10 := ⟨n - 10, by omega⟩
  have z0 : 0 ≤ x ∧ x ≤ 3 * 1427247692705959881058285969449495136382746624 := ⟨x0, x1⟩
  obtain ⟨t1, ht1⟩ : ∃ t, t = rT u x 6 := ⟨_, rfl⟩
  have z1 : 0 ≤ t1 ∧ t1 ≤ 1760796264385545612008065488321895649608075112 := by
    have h := rT_half (c := 6) u0 u1 z0.1 (by omega)
    refine ⟨by rw [ht1]; exact h.1, ?_⟩
    have g := Int.mul_le_mul z0.2 hu u0 (by omega)
    rw [ht1]; unfold rT
    generalize x * u = p at *
    omega
  obtain ⟨t2, ht2⟩ : ∃ t, t = rT u t1 20 := ⟨_, rfl⟩
  have z2 : 0 ≤ t2 ∧ t2 ≤ 217229532093055848936123394286329419027853317 := by
    have h := rT_half (c := 20) u0 u1 z1.1 (by omega)
    refine ⟨by rw [ht2]; exact h.1, ?_⟩
    have g := Int.mul_le_mul z1.2 hu u0 (by omega)
    rw [ht2]; unfold rT
    generalize t1 * u = p at *
    omega
  obtain ⟨t3, ht3⟩ : ∃ t, t = rT u t2 42 := ⟨_, rfl⟩
  have z3 : 0 ≤ t3 ∧ t3 ≤ 12761723493220977427274161893546244761794847 := by
    have h := rT_half (c := 42) u0 u1 z2.1 (by omega)
    refine ⟨by rw [ht3]; exact h.1, ?_⟩
    have g := Int.mul_le_mul z2.2 hu u0 (by omega)
    rw [ht3]; unfold rT
    generalize t2 * u = p at *
    omega
  obtain ⟨t4, ht4⟩ : ∃ t, t = rT u t3 72 := ⟨_, rfl⟩
  have z4 : 0 ≤ t4 ∧ t4 ≤ 437337369462590682134744587726317805002370 := by
    have h := rT_half (c := 72) u0 u1 z3.1 (by omega)
    refine ⟨by rw [ht4]; exact h.1, ?_⟩
    have g := Int.mul_le_mul z3.2 hu u0 (by omega)
    rw [ht4]; unfold rT
    generalize t3 * u = p at *
    omega
  obtain ⟨t5, ht5⟩ : ∃ t, t = rT u t4 110 := ⟨_, rfl⟩
  have z5 : 0 ≤ t5 ∧ t5 ≤ 9809879154904948506633266435349987666121 := by
    have h := rT_half (c := 110) u0 u1 z4.1 (by omega)
    refine ⟨by rw [ht5]; exact h.1, ?_⟩
    have g := Int.mul_le_mul z4.2 hu u0 (by omega)
    rw [ht5]; unfold rT
    generalize t4 * u = p at *
    omega
  obtain ⟨t6, ht6⟩ : ∃ t, t = rT u t5 156 := ⟨_, rfl⟩
  have z6 : 0 ≤ t6 ∧ t6 ≤ 155159657885647683334959824614731883848 := by
    have h := rT_half (c := 156) u0 u1 z5.1 (by omega)
    refine ⟨by rw [ht6]; exact h.1, ?_⟩
    have g := Int.mul_le_mul z5.2 hu u0 (by omega)
    rw [ht6]; unfold rT
    generalize t5 * u = p at *
    omega
  obtain ⟨t7, ht7⟩ : ∃ t, t = rT u t6 210 := ⟨_, rfl⟩
  have z7 : 0 ≤ t7 ∧ t7 ≤ 1823052908286126445987021631314993139 := by
    have h := rT_half (c := 210) u0 u1 z6.1 (by omega)
    refine ⟨by rw [ht7]; exact h.1, ?_⟩
    have g := Int.mul_le_mul z6.2 hu u0 (by omega)
    rw [ht7]; unfold rT
    generalize t6 * u = p at *
    omega
  obtain ⟨t8, ht8⟩ : ∃ t, t = rT u t7 272 := ⟨_, rfl⟩
  have z8 : 0 ≤ t8 ∧ t8 ≤ 16537510123466654470378619567661441 := by
    have h := rT_half (c := 272) u0 u1 z7.1 (by omega)
    refine ⟨by rw [ht8]; exact h.1, ?_⟩
    have g := Int.mul_le_mul z7.2 hu u0 (by omega)
    rw [ht8]; unfold rT
    generalize t7 * u = p at *
    omega
  obtain ⟨t9, ht9⟩ : ∃ t, t = rT u t8 342 := ⟨_, rfl⟩
  have z9 : 0 ≤ t9 ∧ t9 ≤ 119311902605099675375972789153729 := by
    have h := rT_half (c := 342) u0 u1 z8.1 (by omega)
    refine ⟨by rw [ht9]; exact h.1, ?_⟩
    have g := Int.mul_le_mul z8.2 hu u0 (by omega)
    rw [ht9]; unfold rT
    generalize t8 * u = p at *
    omega
  obtain ⟨t10, ht10⟩ : ∃ t, t = rT u t9 420 := ⟨_, rfl⟩
  have z10 : 0 ≤ t10 ∧ t10 ≤ 700929333054097784834010227944 := by
    have h := rT_half (c := 420) u0 u1 z9.1 (by omega)
    refine ⟨by rw [ht10]; exact h.1, ?_⟩
    have g := Int.mul_le_mul z9.2 hu u0 (by omega)
    rw [ht10]; unfold rT
    generalize t9 * u = p at *
    omega
  have a0 : alt u (m + 10) x 1 = x - alt u (m + 9) t1 3 := by have := alt_eq u0 u1 (m + 9) (t := x) (k := 1) z0.1 (by omega); rw [show ((1 : Int) + 1) * (1 + 2) = 6 by omega, show (1 : Int) + 2 = 3 by omega, ← ht1] at this; exact this
  have a1 : alt u (m + 9) t1 3 = t1 - alt u (m + 8) t2 5 := by have := alt_eq u0 u1 (m + 8) (t := t1) (k := 3) z1.1 (by omega); rw [show ((3 : Int) + 1) * (3 + 2) = 20 by omega, show (3 : Int) + 2 = 5 by omega, ← ht2] at this; exact this
  have a2 : alt u (m + 8) t2 5 = t2 - alt u (m + 7) t3 7 := by have := alt_eq u0 u1 (m + 7) (t := t2) (k := 5) z2.1 (by omega); rw [show ((5 : Int) + 1) * (5 + 2) = 42 by omega, show (5 : Int) + 2 = 7 by omega, ← ht3] at this; exact this
  have a3 : alt u (m + 7) t3 7 = t3 - alt u (m + 6) t4 9 := by have := alt_eq u0 u1 (m + 6) (t := t3) (k := 7) z3.1 (by omega); rw [show ((7 : Int) + 1) * (7 + 2) = 72 by omega, show (7 : Int) + 2 = 9 by omega, ← ht4] at this; exact this
  have a4 : alt u (m + 6) t4 9 = t4 - alt u (m + 5) t5 11 := by have := alt_eq u0 u1 (m + 5) (t := t4) (k := 9) z4.1 (by omega); rw [show ((9 : Int) + 1) * (9 + 2) = 110 by omega, show (9 : Int) + 2 = 11 by omega, ← ht5] at this; exact this
  have a5 : alt u (m + 5) t5 11 = t5 - alt u (m + 4) t6 13 := by have := alt_eq u0 u1 (m + 4) (t := t5) (k := 11) z5.1 (by omega); rw [show ((11 : Int) + 1) * (11 + 2) = 156 by omega, show (11 : Int) + 2 = 13 by omega, ← ht6] at this; exact this
  have a6 : alt u (m + 4) t6 13 = t6 - alt u (m + 3) t7 15 := by have := alt_eq u0 u1 (m + 3) (t := t6) (k := 13) z6.1 (by omega); rw [show ((13 : Int) + 1) * (13 + 2) = 210 by omega, show (13 : Int) + 2 = 15 by omega, ← ht7] at this; exact this
  have a7 : alt u (m + 3) t7 15 = t7 - alt u (m + 2) t8 17 := by have := alt_eq u0 u1 (m + 2) (t := t7) (k := 15) z7.1 (by omega); rw [show ((15 : Int) + 1) * (15 + 2) = 272 by omega, show (15 : Int) + 2 = 17 by omega, ← ht8] at this; exact this
  have a8 : alt u (m + 2) t8 17 = t8 - alt u (m + 1) t9 19 := by have := alt_eq u0 u1 (m + 1) (t := t8) (k := 17) z8.1 (by omega); rw [show ((17 : Int) + 1) * (17 + 2) = 342 by omega, show (17 : Int) + 2 = 19 by omega, ← ht9] at this; exact this
  have a9 : alt u (m + 1) t9 19 = t9 - alt u m t10 21 := by have := alt_eq u0 u1 m (t := t9) (k := 19) z9.1 (by omega); rw [show ((19 : Int) + 1) * (19 + 2) = 420 by omega, show (19 : Int) + 2 = 21 by omega, ← ht10] at this; exact this
  have l10 := alt_in u0 u1 m t10 21 z10.1 (by omega)
  have e9 : -931694892562356184366893289027638282147936727847826312372624031744 ≤ 1329227995784915872903807060280344576 * alt u (m + 1) t9 19 - t9 * 1329227995784915872903807060280344576 ∧ 1329227995784915872903807060280344576 * alt u (m + 1) t9 19 - t9 * 1329227995784915872903807060280344576 ≤ 931694892562356184366893289027638282147936727847826312372624031744 := by rw [a9]; omega
  have s9 : (0 : Int) ≤ 1329227995784915872903807060280344576 ∧ (1329227995784915872903807060280344576 : Int) ≤ 1329227995784915872903807060280344576 := by omega
  have s8 : 0 ≤ (stD v 342 1329227995784915872903807060280344576) ∧ (stD v 342 1329227995784915872903807060280344576) ≤ 1329227995784915872903807060280344576 := stD_in v0 v1 s9.1 s9.2 (by omega)
  have e8 : -931694892562413383720055283445892007245992378336270770543492333568 ≤ 1329227995784915872903807060280344576 * alt u (m + 2) t8 17 - t8 * (stD v 342 1329227995784915872903807060280344576) ∧ 1329227995784915872903807060280344576 * alt u (m + 2) t8 17 - t8 * (stD v 342 1329227995784915872903807060280344576) ≤ 931694892562413383720055283445892007245992378336270770543492333568 := by
    rw [ht9] at e9
    have := tl_step (c := 342) z8.1 s9.1 s9.2 (by omega) hv e9
    rw [← ht9] at this
    rw [a8]
    have := z8.2
    omega
  have s7 : 0 ≤ (stD v 272 (stD v 342 1329227995784915872903807060280344576)) ∧ (stD v 272 (stD v 342 1329227995784915872903807060280344576)) ≤ 1329227995784915872903807060280344576 := stD_in v0 v1 s8.1 s8.2 (by omega)
  have e7 : -931694892568718894426052670773990154002248494608501532241361371136 ≤ 1329227995784915872903807060280344576 * alt u (m + 3) t7 15 - t7 * (stD v 272 (stD v 342 1329227995784915872903807060280344576)) ∧ 1329227995784915872903807060280344576 * alt u (m + 3) t7 15 - t7 * (stD v 272 (stD v 342 1329227995784915872903807060280344576)) ≤ 931694892568718894426052670773990154002248494608501532241361371136 := by
    rw [ht8] at e8
    have := tl_step (c := 272) z7.1 s8.1 s8.2 (by omega) hv e8
    rw [← ht8] at this
    rw [a7]
    have := z7.2
    omega
  have s6 : 0 ≤ (stD v 210 (stD v 272 (stD v 342 1329227995784915872903807060280344576))) ∧ (stD v 210 (stD v 272 (stD v 342 1329227995784915872903807060280344576))) ≤ 1329227995784915872903807060280344576 := stD_in v0 v1 s7.1 s7.2 (by omega)
  have e6 : -931694893105379613097466339584591783620890016676594967769467846656 ≤ 1329227995784915872903807060280344576 * alt u (m + 4) t6 13 - t6 * (stD v 210 (stD v 272 (stD v 342 1329227995784915872903807060280344576))) ∧ 1329227995784915872903807060280344576 * alt u (m + 4) t6 13 - t6 * (stD v 210 (stD v 272 (stD v 342 1329227995784915872903807060280344576))) ≤ 931694893105379613097466339584591783620890016676594967769467846656 := by
    rw [ht7] at e7
    have := tl_step (c := 210) z6.1 s7.1 s7.2 (by omega) hv e7
    rw [← ht7] at this
    rw [a6]
    have := z6.2
    omega
  have s5 : 0 ≤ (stD v 156 (stD v 210 (stD v 272 (stD v 342 1329227995784915872903807060280344576)))) ∧ (stD v 156 (stD v 210 (stD v 272 (stD v 342 1329227995784915872903807060280344576)))) ≤ 1329227995784915872903807060280344576 := stD_in v0 v1 s6.1 s6.2 (by omega)
  have e5 : -931694927035441518950539467754970262904295603649836823250227691520 ≤ 1329227995784915872903807060280344576 * alt u (m + 5) t5 11 - t5 * (stD v 156 (stD v 210 (stD v 272 (stD v 342 1329227995784915872903807060280344576)))) ∧ 1329227995784915872903807060280344576 * alt u (m + 5) t5 11 - t5 * (stD v 156 (stD v 210 (stD v 272 (stD v 342 1329227995784915872903807060280344576)))) ≤ 931694927035441518950539467754970262904295603649836823250227691520 := by
    rw [ht6] at e6
    have := tl_step (c := 156) z5.1 s6.1 s6.2 (by omega) hv e6
    rw [← ht6] at this
    rw [a5]
    have := z5.2
    omega
  have s4 : 0 ≤ (stD v 110 (stD v 156 (stD v 210 (stD v 272 (stD v 342 1329227995784915872903807060280344576))))) ∧ (stD v 110 (stD v 156 (stD v 210 (stD v 272 (stD v 342 1329227995784915872903807060280344576))))) ≤ 1329227995784915872903807060280344576 := stD_in v0 v1 s5.1 s5.2 (by omega)
  have e4 : -931696439682415583782282867786983440499805677704199265688230035456 ≤ 1329227995784915872903807060280344576 * alt u (m + 6) t4 9 - t4 * (stD v 110 (stD v 156 (stD v 210 (stD v 272 (stD v 342 1329227995784915872903807060280344576))))) ∧ 1329227995784915872903807060280344576 * alt u (m + 6) t4 9 - t4 * (stD v 110 (stD v 156 (stD v 210 (stD v 272 (stD v 342 1329227995784915872903807060280344576))))) ≤ 931696439682415583782282867786983440499805677704199265688230035456 := by
    rw [ht5] at e5
    have := tl_step (c := 110) z4.1 s5.1 s5.2 (by omega) hv e5
    rw [← ht5] at this
    rw [a4]
    have := z4.2
    omega
  have s3 : 0 ≤ (stD v 72 (stD v 110 (stD v 156 (stD v 210 (stD v 272 (stD v 342 1329227995784915872903807060280344576)))))) ∧ (stD v 72 (stD v 110 (stD v 156 (stD v 210 (stD v 272 (stD v 342 1329227995784915872903807060280344576)))))) ≤ 1329227995784915872903807060280344576 := stD_in v0 v1 s4.1 s4.2 (by omega)
  have e3 : -931740579478769126411513504640319125724007654404980695542213378048 ≤ 1329227995784915872903807060280344576 * alt u (m + 7) t3 7 - t3 * (stD v 72 (stD v 110 (stD v 156 (stD v 210 (stD v 272 (stD v 342 1329227995784915872903807060280344576)))))) ∧ 1329227995784915872903807060280344576 * alt u (m + 7) t3 7 - t3 * (stD v 72 (stD v 110 (stD v 156 (stD v 210 (stD v 272 (stD v 342 1329227995784915872903807060280344576)))))) ≤ 931740579478769126411513504640319125724007654404980695542213378048 := by
    rw [ht4] at e4
    have := tl_step (c := 72) z3.1 s4.1 s4.2 (by omega) hv e4
    rw [← ht4] at this
    rw [a3]
    have := z3.2
    omega
  have s2 : 0 ≤ (stD v 42 (stD v 72 (stD v 110 (stD v 156 (stD v 210 (stD v 272 (stD v 342 1329227995784915872903807060280344576))))))) ∧ (stD v 42 (stD v 72 (stD v 110 (stD v 156 (stD v 210 (stD v 272 (stD v 342 1329227995784915872903807060280344576))))))) ≤ 1329227995784915872903807060280344576 := stD_in v0 v1 s3.1 s3.2 (by omega)
  have e2 : -932491925275726428317393498870236891378024230928496257842072780800 ≤ 1329227995784915872903807060280344576 * alt u (m + 8) t2 5 - t2 * (stD v 42 (stD v 72 (stD v 110 (stD v 156 (stD v 210 (stD v 272 (stD v 342 1329227995784915872903807060280344576))))))) ∧ 1329227995784915872903807060280344576 * alt u (m + 8) t2 5 - t2 * (stD v 42 (stD v 72 (stD v 110 (stD v 156 (stD v 210 (stD v 272 (stD v 342 1329227995784915872903807060280344576))))))) ≤ 932491925275726428317393498870236891378024230928496257842072780800 := by
    rw [ht3] at e3
    have := tl_step (c := 42) z2.1 s3.1 s3.2 (by omega) hv e3
    rw [← ht3] at this
    rw [a2]
    have := z2.2
    omega
  have s1 : 0 ≤ (stD v 20 (stD v 42 (stD v 72 (stD v 110 (stD v 156 (stD v 210 (stD v 272 (stD v 342 1329227995784915872903807060280344576)))))))) ∧ (stD v 20 (stD v 42 (stD v 72 (stD v 110 (stD v 156 (stD v 210 (stD v 272 (stD v 342 1329227995784915872903807060280344576)))))))) ≤ 1329227995784915872903807060280344576 := stD_in v0 v1 s2.1 s2.2 (by omega)
  have e1 : -938582104911050924631147711398617333966835060776072738147047309312 ≤ 1329227995784915872903807060280344576 * alt u (m + 9) t1 3 - t1 * (stD v 20 (stD v 42 (stD v 72 (stD v 110 (stD v 156 (stD v 210 (stD v 272 (stD v 342 1329227995784915872903807060280344576)))))))) ∧ 1329227995784915872903807060280344576 * alt u (m + 9) t1 3 - t1 * (stD v 20 (stD v 42 (stD v 72 (stD v 110 (stD v 156 (stD v 210 (stD v 272 (stD v 342 1329227995784915872903807060280344576)))))))) ≤ 938582104911050924631147711398617333966835060776072738147047309312 := by
    rw [ht2] at e2
    have := tl_step (c := 20) z1.1 s2.1 s2.2 (by omega) hv e2
    rw [← ht2] at this
    rw [a1]
    have := z1.2
    omega
  have s0 : 0 ≤ (stD v 6 (stD v 20 (stD v 42 (stD v 72 (stD v 110 (stD v 156 (stD v 210 (stD v 272 (stD v 342 1329227995784915872903807060280344576))))))))) ∧ (stD v 6 (stD v 20 (stD v 42 (stD v 72 (stD v 110 (stD v 156 (stD v 210 (stD v 272 (stD v 342 1329227995784915872903807060280344576))))))))) ≤ 1329227995784915872903807060280344576 := stD_in v0 v1 s1.1 s1.2 (by omega)
  have e0 : -953391645926941779010542434042962716507464599439678763977465135104 ≤ 1329227995784915872903807060280344576 * alt u (m + 10) x 1 - x * (stD v 6 (stD v 20 (stD v 42 (stD v 72 (stD v 110 (stD v 156 (stD v 210 (stD v 272 (stD v 342 1329227995784915872903807060280344576))))))))) ∧ 1329227995784915872903807060280344576 * alt u (m + 10) x 1 - x * (stD v 6 (stD v 20 (stD v 42 (stD v 72 (stD v 110 (stD v 156 (stD v 210 (stD v 272 (stD v 342 1329227995784915872903807060280344576))))))))) ≤ 953391645926941779010542434042962716507464599439678763977465135104 := by
    rw [ht1] at e1
    have := tl_step (c := 6) z0.1 s1.1 s1.2 (by omega) hv e1
    rw [← ht1] at this
    rw [a0]
    have := z0.2
    omega
  exact e0

/-- A step of the nested form at two scales. -/
theorem sc_step {w v S S2 c a a' : Int} (w0 : 0 ≤ w) (v0 : 0 ≤ v) (vm : v ≤ 819934654828124569863099833944526025) (hw : 1152921504606846976 * w ≤ v ∧ v < 1152921504606846976 * w + 1152921504606846976) (S0 : 0 ≤ S) (S1 : S ≤ 1152921504606846976) (T0 : 0 ≤ S2) (T1 : S2 ≤ 1329227995784915872903807060280344576) (hc : 2 ≤ c) (a0 : 0 ≤ a)
    (h : -a ≤ 1152921504606846976 * S - S2 ∧ 1152921504606846976 * S - S2 ≤ a) (ha : 819934654828124569863099833944526025 * a + 1152921504606846976 * 1329227995784915872903807060280344576 + 1329227995784915872903807060280344576 * 1152921504606846976 * c + 1329227995784915872903807060280344576 * c ≤ 1329227995784915872903807060280344576 * c * a') : -a' ≤ 1152921504606846976 * stV w c S - stD v c S2 ∧ 1152921504606846976 * stV w c S - stD v c S2 ≤ a' := by
  obtain ⟨p1, p2⟩ := fl2 (v * S2) 1329227995784915872903807060280344576 c (by omega) (by omega)
  obtain ⟨r1, r2⟩ := fl2 (w * S) 1152921504606846976 c (by omega) (by omega)
  unfold stD stV scV
  generalize v * S2 / 1329227995784915872903807060280344576 / c = q2 at *
  generalize w * S / 1152921504606846976 / c = q1 at *
  obtain ⟨th, hth⟩ : ∃ th, th = v * S2 - 1329227995784915872903807060280344576 * c * q2 := ⟨_, rfl⟩
  obtain ⟨ta, hta⟩ : ∃ ta, ta = w * S - 1152921504606846976 * c * q1 := ⟨_, rfl⟩
  obtain ⟨e, he⟩ : ∃ e, e = 1152921504606846976 * S - S2 := ⟨_, rfl⟩
  obtain ⟨r, hr⟩ : ∃ r, r = v - 1152921504606846976 * w := ⟨_, rfl⟩
  have key : 1329227995784915872903807060280344576 * c * (q2 - 1152921504606846976 * q1) = r * S2 - 1152921504606846976 * (w * e) - th + 1329227995784915872903807060280344576 * ta := by rw [hth, hta, he, hr]; grind
  have m1 : 0 ≤ r * S2 := Int.mul_nonneg (by omega) T0
  have m2 : r * S2 ≤ 1152921504606846976 * 1329227995784915872903807060280344576 := Int.mul_le_mul (by omega) T1 T0 (by omega)
  have m3 := mul_bd (x := 1152921504606846976 * w) (X := 819934654828124569863099833944526025) (y := e) (Y := a) (by omega) (by omega)
  have e3 : 1152921504606846976 * w * e = 1152921504606846976 * (w * e) := by grind
  rw [e3] at m3
  have hp : 0 < 1329227995784915872903807060280344576 * c := Int.mul_pos (by omega) (by omega)
  have k1 : 1329227995784915872903807060280344576 * c * (q2 - 1152921504606846976 * q1) ≤ 1329227995784915872903807060280344576 * c * a' := by
    rw [key]
    generalize r * S2 = z1 at *
    generalize w * e = z2 at *
    generalize 1329227995784915872903807060280344576 * c * a' = z3 at *
    omega
  have k2 : 1329227995784915872903807060280344576 * c * -a' ≤ 1329227995784915872903807060280344576 * c * (q2 - 1152921504606846976 * q1) := by
    have e5 : 1329227995784915872903807060280344576 * c * -a' = -(1329227995784915872903807060280344576 * c * a') := by grind
    rw [key, e5]
    generalize r * S2 = z1 at *
    generalize w * e = z2 at *
    generalize 1329227995784915872903807060280344576 * c * a' = z3 at *
    omega
  have c1 := Int.le_of_mul_le_mul_left k1 hp
  have c2 := Int.le_of_mul_le_mul_left k2 hp
  omega
theorem stV_in {u c S : Int} (u0 : 0 ≤ u) (u1 : u ≤ 1152921504606846976) (S0 : 0 ≤ S) (S1 : S ≤ 1152921504606846976) (hc : 2 ≤ c) : 0 ≤ stV u c S ∧ stV u c S ≤ 1152921504606846976 := by
  have h := scV_range u0 u1 S0 S1
  have h1 := Int.ediv_nonneg h.1 (show 0 ≤ c by omega)
  have h2 := Int.ediv_le_self c h.1
  unfold stV
  omega
/-- A nested form and its exact value. -/
theorem ser_errD {A S N v c : Int} (hA : 0 ≤ A) (v0 : 0 ≤ v) (v1 : 2 * v ≤ c * 1329227995784915872903807060280344576) (hc : 2 ≤ c) (h : -(2 * A) ≤ A * S - 1329227995784915872903807060280344576 * N ∧ A * S - 1329227995784915872903807060280344576 * N ≤ 2 * A) :
    -(2 * (c * 1329227995784915872903807060280344576 * A)) ≤ (c * 1329227995784915872903807060280344576 * A) * stD v c S - 1329227995784915872903807060280344576 * (c * 1329227995784915872903807060280344576 * A - v * N) ∧ (c * 1329227995784915872903807060280344576 * A) * stD v c S - 1329227995784915872903807060280344576 * (c * 1329227995784915872903807060280344576 * A - v * N) ≤ 2 * (c * 1329227995784915872903807060280344576 * A) := by
  obtain ⟨q1, q2⟩ := fl2 (v * S) 1329227995784915872903807060280344576 c (by omega) (by omega)
  unfold stD
  generalize v * S / 1329227995784915872903807060280344576 / c = Q at *
  obtain ⟨th, hth⟩ : ∃ th, th = v * S - 1329227995784915872903807060280344576 * c * Q := ⟨_, rfl⟩
  have e1 : (c * 1329227995784915872903807060280344576 * A) * (1329227995784915872903807060280344576 - Q) - 1329227995784915872903807060280344576 * (c * 1329227995784915872903807060280344576 * A - v * N) = A * th - v * (A * S - 1329227995784915872903807060280344576 * N) := by rw [hth]; grind
  rw [e1]
  generalize A * S - 1329227995784915872903807060280344576 * N = a at *
  have h1 := mul_bd (x := v) (X := v) (y := a) (Y := 2 * A) (by omega) (by omega)
  have h2 : 0 ≤ A * th := Int.mul_nonneg hA (by omega)
  have h3 : A * th ≤ A * (1329227995784915872903807060280344576 * c) := Int.mul_le_mul_of_nonneg_left (by omega) hA
  have h4 : 2 * v * A ≤ c * 1329227995784915872903807060280344576 * A := Int.mul_le_mul_of_nonneg_right v1 hA
  have e2 : A * (1329227995784915872903807060280344576 * c) = c * 1329227995784915872903807060280344576 * A := by grind
  have e3 : v * (2 * A) = 2 * v * A := by grind
  rw [e2] at h3
  rw [e3] at h1
  generalize 2 * v * A = z1 at *
  generalize c * 1329227995784915872903807060280344576 * A = z2 at *
  generalize A * th = z3 at *
  generalize v * a = z4 at *
  omega
def serC2 (v : Int) : Int := stD v 2 (stD v 12 (stD v 30 (stD v 56 (stD v 90 (stD v 132 (stD v 182 1329227995784915872903807060280344576))))))
theorem sin_sc {w v : Int} (w0 : 0 ≤ w) (v0 : 0 ≤ v) (vm : v ≤ 819934654828124569863099833944526025) (hw : 1152921504606846976 * w ≤ v ∧ v < 1152921504606846976 * w + 1152921504606846976) : -34544326588331691851269 ≤ 1152921504606846976 * serS w - serX v ∧ 1152921504606846976 * serS w - serX v ≤ 34544326588331691851269 := by
  have w1 : w ≤ 1152921504606846976 := by omega
  have t1 : 0 ≤ (1329227995784915872903807060280344576 : Int) ∧ (1329227995784915872903807060280344576 : Int) ≤ 1329227995784915872903807060280344576 := by omega
  have t1' := stD_in v0 (show v ≤ 3 * 1329227995784915872903807060280344576 by omega) t1.1 t1.2 (show (6 : Int) ≤ 342 by omega)
  have t2 := stD_in v0 (show v ≤ 3 * 1329227995784915872903807060280344576 by omega) t1'.1 t1'.2 (show (6 : Int) ≤ 272 by omega)
  have t3 := stD_in v0 (show v ≤ 3 * 1329227995784915872903807060280344576 by omega) t2.1 t2.2 (show (6 : Int) ≤ 210 by omega)
  have e0 : -3904450737276783666014761114021554 ≤ 1152921504606846976 * 1152921504606846976 - (stD v 210 (stD v 272 (stD v 342 1329227995784915872903807060280344576))) ∧ 1152921504606846976 * 1152921504606846976 - (stD v 210 (stD v 272 (stD v 342 1329227995784915872903807060280344576))) ≤ 3904450737276783666014761114021554 := by
    have m := mul_bd (x := v) (X := 819934654828124569863099833944526025) (y := stD v 272 (stD v 342 1329227995784915872903807060280344576)) (Y := 1329227995784915872903807060280344576) (by omega) (by omega)
    have p := Int.mul_nonneg v0 t2.1
    rw [show stD v 210 (stD v 272 (stD v 342 1329227995784915872903807060280344576)) = 1329227995784915872903807060280344576 - v * stD v 272 (stD v 342 1329227995784915872903807060280344576) / 1329227995784915872903807060280344576 / 210 from rfl]
    generalize v * stD v 272 (stD v 342 1329227995784915872903807060280344576) = z at *
    omega
  have u0 : 0 ≤ (1152921504606846976 : Int) ∧ (1152921504606846976 : Int) ≤ 1152921504606846976 := by omega
  have e1 := sc_step (c := 156) (a' := 15438855841533025346100460663791) w0 v0 vm hw u0.1 u0.2 t3.1 t3.2 (by omega) (by omega) e0 (by omega)
  have u1 := stV_in w0 w1 u0.1 u0.2 (show (2 : Int) ≤ 156 by omega)
  have t4 := stD_in v0 (show v ≤ 3 * 1329227995784915872903807060280344576 by omega) t3.1 t3.2 (show (6 : Int) ≤ 156 by omega)
  have e2 := sc_step (c := 110) (a' := 86576931570128459584645852629) w0 v0 vm hw u1.1 u1.2 t4.1 t4.2 (by omega) (by omega) e1 (by omega)
  have u2 := stV_in w0 w1 u1.1 u1.2 (show (2 : Int) ≤ 110 by omega)
  have t5 := stD_in v0 (show v ≤ 3 * 1329227995784915872903807060280344576 by omega) t4.1 t4.2 (show (6 : Int) ≤ 110 by omega)
  have e3 := sc_step (c := 72) (a' := 741736168579830205467282494) w0 v0 vm hw u2.1 u2.2 t5.1 t5.2 (by omega) (by omega) e2 (by omega)
  have u3 := stV_in w0 w1 u2.1 u2.2 (show (2 : Int) ≤ 72 by omega)
  have t6 := stD_in v0 (show v ≤ 3 * 1329227995784915872903807060280344576 by omega) t5.1 t5.2 (show (6 : Int) ≤ 72 by omega)
  have e4 := sc_step (c := 42) (a' := 10893814504572389583285915) w0 v0 vm hw u3.1 u3.2 t6.1 t6.2 (by omega) (by omega) e3 (by omega)
  have u4 := stV_in w0 w1 u3.1 u3.2 (show (2 : Int) ≤ 42 by omega)
  have t7 := stD_in v0 (show v ≤ 3 * 1329227995784915872903807060280344576 by omega) t6.1 t6.2 (show (6 : Int) ≤ 42 by omega)
  have e5 := sc_step (c := 20) (a' := 335993834251888421568937) w0 v0 vm hw u4.1 u4.2 t7.1 t7.2 (by omega) (by omega) e4 (by omega)
  have u5 := stV_in w0 w1 u4.1 u4.2 (show (2 : Int) ≤ 20 by omega)
  have t8 := stD_in v0 (show v ≤ 3 * 1329227995784915872903807060280344576 by omega) t7.1 t7.2 (show (6 : Int) ≤ 20 by omega)
  have e6 := sc_step (c := 6) (a' := 34544326588331691851269) w0 v0 vm hw u5.1 u5.2 t8.1 t8.2 (by omega) (by omega) e5 (by omega)
  exact e6
theorem cos_sc {w v : Int} (w0 : 0 ≤ w) (v0 : 0 ≤ v) (vm : v ≤ 819934654828124569863099833944526025) (hw : 1152921504606846976 * w ≤ v ∧ v < 1152921504606846976 * w + 1152921504606846976) : -2133879605813959466 ≤ 1152921504606846976 * serC w - serC2 v ∧ 1152921504606846976 * serC w - serC2 v ≤ 2133879605813959466 := by
  have w1 : w ≤ 1152921504606846976 := by omega
  have t3 : 0 ≤ (1329227995784915872903807060280344576 : Int) ∧ (1329227995784915872903807060280344576 : Int) ≤ 1329227995784915872903807060280344576 := by omega
  have e0 : -0 ≤ 1152921504606846976 * (1152921504606846976 : Int) - 1329227995784915872903807060280344576 ∧ 1152921504606846976 * (1152921504606846976 : Int) - 1329227995784915872903807060280344576 ≤ 0 := by omega
  have u0 : 0 ≤ (1152921504606846976 : Int) ∧ (1152921504606846976 : Int) ≤ 1152921504606846976 := by omega
  have e1 := sc_step (c := 182) (a' := 1159256238148642840) w0 v0 vm hw u0.1 u0.2 t3.1 t3.2 (by omega) (by omega) e0 (by omega)
  have u1 := stV_in w0 w1 u0.1 u0.2 (show (2 : Int) ≤ 182 by omega)
  have t4 := stD_in v0 (show v ≤ 3 * 1329227995784915872903807060280344576 by omega) t3.1 t3.2 (show (6 : Int) ≤ 182 by omega)
  have e2 := sc_step (c := 132) (a' := 1167073088197629028) w0 v0 vm hw u1.1 u1.2 t4.1 t4.2 (by omega) (by omega) e1 (by omega)
  have u2 := stV_in w0 w1 u1.1 u1.2 (show (2 : Int) ≤ 132 by omega)
  have t5 := stD_in v0 (show v ≤ 3 * 1329227995784915872903807060280344576 by omega) t4.1 t4.2 (show (6 : Int) ≤ 132 by omega)
  have e3 := sc_step (c := 90) (a' := 1173730736385581575) w0 v0 vm hw u2.1 u2.2 t5.1 t5.2 (by omega) (by omega) e2 (by omega)
  have u3 := stV_in w0 w1 u2.1 u2.2 (show (2 : Int) ≤ 90 by omega)
  have t6 := stD_in v0 (show v ≤ 3 * 1329227995784915872903807060280344576 by omega) t5.1 t5.2 (show (6 : Int) ≤ 90 by omega)
  have e4 := sc_step (c := 56) (a' := 1186438248039028385) w0 v0 vm hw u3.1 u3.2 t6.1 t6.2 (by omega) (by omega) e3 (by omega)
  have u4 := stV_in w0 w1 u3.1 u3.2 (show (2 : Int) ≤ 56 by omega)
  have t7 := stD_in v0 (show v ≤ 3 * 1329227995784915872903807060280344576 by omega) t6.1 t6.2 (show (6 : Int) ≤ 56 by omega)
  have e5 := sc_step (c := 30) (a' := 1215747380082214257) w0 v0 vm hw u4.1 u4.2 t7.1 t7.2 (by omega) (by omega) e4 (by omega)
  have u5 := stV_in w0 w1 u4.1 u4.2 (show (2 : Int) ≤ 30 by omega)
  have t8 := stD_in v0 (show v ≤ 3 * 1329227995784915872903807060280344576 by omega) t7.1 t7.2 (show (6 : Int) ≤ 30 by omega)
  have e6 := sc_step (c := 12) (a' := 1311492805475502346) w0 v0 vm hw u5.1 u5.2 t8.1 t8.2 (by omega) (by omega) e5 (by omega)
  have u6 := stV_in w0 w1 u5.1 u5.2 (show (2 : Int) ≤ 12 by omega)
  have t9 := stD_in v0 (show v ≤ 3 * 1329227995784915872903807060280344576 by omega) t8.1 t8.2 (show (6 : Int) ≤ 12 by omega)
  have e7 := sc_step (c := 2) (a' := 2133879605813959466) w0 v0 vm hw u6.1 u6.2 t9.1 t9.2 (by omega) (by omega) e6 (by omega)
  exact e7
def NX (v : Int) : Int := ((6 * 1329227995784915872903807060280344576 * (20 * 1329227995784915872903807060280344576 * (42 * 1329227995784915872903807060280344576 * (72 * 1329227995784915872903807060280344576 * (110 * 1329227995784915872903807060280344576 * (156 * 1329227995784915872903807060280344576 * (210 * 1329227995784915872903807060280344576 * (272 * 1329227995784915872903807060280344576 * (342 * 1329227995784915872903807060280344576 * 1))))))))) - v * ((20 * 1329227995784915872903807060280344576 * (42 * 1329227995784915872903807060280344576 * (72 * 1329227995784915872903807060280344576 * (110 * 1329227995784915872903807060280344576 * (156 * 1329227995784915872903807060280344576 * (210 * 1329227995784915872903807060280344576 * (272 * 1329227995784915872903807060280344576 * (342 * 1329227995784915872903807060280344576 * 1)))))))) - v * ((42 * 1329227995784915872903807060280344576 * (72 * 1329227995784915872903807060280344576 * (110 * 1329227995784915872903807060280344576 * (156 * 1329227995784915872903807060280344576 * (210 * 1329227995784915872903807060280344576 * (272 * 1329227995784915872903807060280344576 * (342 * 1329227995784915872903807060280344576 * 1))))))) - v * ((72 * 1329227995784915872903807060280344576 * (110 * 1329227995784915872903807060280344576 * (156 * 1329227995784915872903807060280344576 * (210 * 1329227995784915872903807060280344576 * (272 * 1329227995784915872903807060280344576 * (342 * 1329227995784915872903807060280344576 * 1)))))) - v * ((110 * 1329227995784915872903807060280344576 * (156 * 1329227995784915872903807060280344576 * (210 * 1329227995784915872903807060280344576 * (272 * 1329227995784915872903807060280344576 * (342 * 1329227995784915872903807060280344576 * 1))))) - v * ((156 * 1329227995784915872903807060280344576 * (210 * 1329227995784915872903807060280344576 * (272 * 1329227995784915872903807060280344576 * (342 * 1329227995784915872903807060280344576 * 1)))) - v * ((210 * 1329227995784915872903807060280344576 * (272 * 1329227995784915872903807060280344576 * (342 * 1329227995784915872903807060280344576 * 1))) - v * ((272 * 1329227995784915872903807060280344576 * (342 * 1329227995784915872903807060280344576 * 1)) - v * ((342 * 1329227995784915872903807060280344576 * 1) - v * 1)))))))))
def NC (v : Int) : Int := ((2 * 1329227995784915872903807060280344576 * (12 * 1329227995784915872903807060280344576 * (30 * 1329227995784915872903807060280344576 * (56 * 1329227995784915872903807060280344576 * (90 * 1329227995784915872903807060280344576 * (132 * 1329227995784915872903807060280344576 * (182 * 1329227995784915872903807060280344576 * 1))))))) - v * ((12 * 1329227995784915872903807060280344576 * (30 * 1329227995784915872903807060280344576 * (56 * 1329227995784915872903807060280344576 * (90 * 1329227995784915872903807060280344576 * (132 * 1329227995784915872903807060280344576 * (182 * 1329227995784915872903807060280344576 * 1)))))) - v * ((30 * 1329227995784915872903807060280344576 * (56 * 1329227995784915872903807060280344576 * (90 * 1329227995784915872903807060280344576 * (132 * 1329227995784915872903807060280344576 * (182 * 1329227995784915872903807060280344576 * 1))))) - v * ((56 * 1329227995784915872903807060280344576 * (90 * 1329227995784915872903807060280344576 * (132 * 1329227995784915872903807060280344576 * (182 * 1329227995784915872903807060280344576 * 1)))) - v * ((90 * 1329227995784915872903807060280344576 * (132 * 1329227995784915872903807060280344576 * (182 * 1329227995784915872903807060280344576 * 1))) - v * ((132 * 1329227995784915872903807060280344576 * (182 * 1329227995784915872903807060280344576 * 1)) - v * ((182 * 1329227995784915872903807060280344576 * 1) - v * 1)))))))
theorem serX_err {v : Int} (v0 : 0 ≤ v) (v1 : v ≤ 3 * 1329227995784915872903807060280344576) : -(2 * 1575759515298665531179874971100463699043995141882136872839094522846160793910601686942072558843752751510747141576251419780260817292639159794927632030184060956020863085830345874345849093653468053578700767132564583722566500377106414672393792631661696655602603081176165810056397691381168036323326453738290876448989214180909379427577219810066432000) ≤ 1575759515298665531179874971100463699043995141882136872839094522846160793910601686942072558843752751510747141576251419780260817292639159794927632030184060956020863085830345874345849093653468053578700767132564583722566500377106414672393792631661696655602603081176165810056397691381168036323326453738290876448989214180909379427577219810066432000 * serX v - 1329227995784915872903807060280344576 * NX v ∧ 1575759515298665531179874971100463699043995141882136872839094522846160793910601686942072558843752751510747141576251419780260817292639159794927632030184060956020863085830345874345849093653468053578700767132564583722566500377106414672393792631661696655602603081176165810056397691381168036323326453738290876448989214180909379427577219810066432000 * serX v - 1329227995784915872903807060280344576 * NX v ≤ 2 * 1575759515298665531179874971100463699043995141882136872839094522846160793910601686942072558843752751510747141576251419780260817292639159794927632030184060956020863085830345874345849093653468053578700767132564583722566500377106414672393792631661696655602603081176165810056397691381168036323326453738290876448989214180909379427577219810066432000 := by
  have h0 : -(2 * (1 : Int)) ≤ 1 * 1329227995784915872903807060280344576 - 1329227995784915872903807060280344576 * 1 ∧ (1 : Int) * 1329227995784915872903807060280344576 - 1329227995784915872903807060280344576 * 1 ≤ 2 * 1 := by omega
  have h1 := ser_errD (c := 342) (by decide) v0 (by omega) (by omega) h0
  have h2 := ser_errD (c := 272) (by decide) v0 (by omega) (by omega) h1
  have h3 := ser_errD (c := 210) (by decide) v0 (by omega) (by omega) h2
  have h4 := ser_errD (c := 156) (by decide) v0 (by omega) (by omega) h3
  have h5 := ser_errD (c := 110) (by decide) v0 (by omega) (by omega) h4
  have h6 := ser_errD (c := 72) (by decide) v0 (by omega) (by omega) h5
  have h7 := ser_errD (c := 42) (by decide) v0 (by omega) (by omega) h6
  have h8 := ser_errD (c := 20) (by decide) v0 (by omega) (by omega) h7
  have h9 := ser_errD (c := 6) (by decide) v0 (by omega) (by omega) h8
  exact h9
theorem serC2_err {v : Int} (v0 : 0 ≤ v) (v1 : v ≤ 1329227995784915872903807060280344576) : -(2 * 639152820596129594313606008965065358350619718584816661070249798527546176215166422417688164626646441125110688850990858795357249329010174795202225062359833657795240153541122620466682721399229889135132093540679035972780221131086177112679448866520837509281146417971200) ≤ 639152820596129594313606008965065358350619718584816661070249798527546176215166422417688164626646441125110688850990858795357249329010174795202225062359833657795240153541122620466682721399229889135132093540679035972780221131086177112679448866520837509281146417971200 * serC2 v - 1329227995784915872903807060280344576 * NC v ∧ 639152820596129594313606008965065358350619718584816661070249798527546176215166422417688164626646441125110688850990858795357249329010174795202225062359833657795240153541122620466682721399229889135132093540679035972780221131086177112679448866520837509281146417971200 * serC2 v - 1329227995784915872903807060280344576 * NC v ≤ 2 * 639152820596129594313606008965065358350619718584816661070249798527546176215166422417688164626646441125110688850990858795357249329010174795202225062359833657795240153541122620466682721399229889135132093540679035972780221131086177112679448866520837509281146417971200 := by
  have h0 : -(2 * (1 : Int)) ≤ 1 * 1329227995784915872903807060280344576 - 1329227995784915872903807060280344576 * 1 ∧ (1 : Int) * 1329227995784915872903807060280344576 - 1329227995784915872903807060280344576 * 1 ≤ 2 * 1 := by omega
  have h1 := ser_errD (c := 182) (by decide) v0 (by omega) (by omega) h0
  have h2 := ser_errD (c := 132) (by decide) v0 (by omega) (by omega) h1
  have h3 := ser_errD (c := 90) (by decide) v0 (by omega) (by omega) h2
  have h4 := ser_errD (c := 56) (by decide) v0 (by omega) (by omega) h3
  have h5 := ser_errD (c := 30) (by decide) v0 (by omega) (by omega) h4
  have h6 := ser_errD (c := 12) (by decide) v0 (by omega) (by omega) h5
  have h7 := ser_errD (c := 2) (by decide) v0 (by omega) (by omega) h6
  exact h7
def pd19 (y : Int) : Int := 1
def pd18 (y : Int) : Int := -34409092425866333490 + y * pd19 y
def pd17 (y : Int) : Int := 106239329343995977253258271802177956108 + y * pd18 y
def pd16 (y : Int) : Int := 8240189568860787514934273605538847137208630683230815214440 + y * pd17 y
def pd15 (y : Int) : Int := 3282081550726870592182712779110997767206709578916921199831383601365942863424 + y * pd16 y
def pd14 (y : Int) : Int := -12861442675098676034096332899449439174433782350392010832614884815151266585987732976143390810240 + y * pd15 y
def pd13 (y : Int) : Int := 41039707307552248216214303570051985263820466601333303102925552119410456951040262870568022445214896903286862472960 + y * pd14 y
def pd12 (y : Int) : Int := -107888438084377109064912109512144179780202162628275927717496173099655326268508247213703645280401283222542518528313381509713755000320 + y * pd13 y
def pd11 (y : Int) : Int := 235336181763018928707790117191430425585179144739219564044017842700497232346131083658901406616377182482407635507829149496182434162681734163034104266240 + y * pd12 y
def pd10 (y : Int) : Int := -427414684328141443655463174289609047705231392043980214792086814662383537532104615709088822081519564376911603467209923277474926795300446465273666089625298432216085109760 + y * pd11 y
def pd9 (y : Int) : Int := 646492281629890587570514482591604833230914155792351117131154181495853549155726313247971602336717606510002499452154947463761455770362695503260062217895167666029971436649212529307169433600 + y * pd10 y
def pd8 (y : Int) : Int := -812012755950763983245977096183233239328597860535405003988572848182571563147957669228943326736242021824622205296828378872617278261040096833305402709368712433747908295924263774565698543199514525397740441600 + y * pd9 y
def pd7 (y : Int) : Int := 841548224227434264821470543751291356091174350582151584992264354250538846572621079701551457678018665510497568880348006127918997883301992422222058285530895886213239902107815177865192706353315789090833448348384775161844940800 + y * pd8 y
def pd6 (y : Int) : Int := -712079029912188373470683277978350243151853474832173344802930473286042135034631144215365471932419521545898311433555970870398097416807252064442401690633520188541859060905441411119910927222392214427025856726331358942953596432882118329333350400 + y * pd7 y
def pd5 (y : Int) : Int := 484077484149686131786781750532916268294741307857848519880833476648911748252009739640247755309948545271476439218692800459562394874222898085283071264636223876690301533878038439992634291626750099443531671193630191631312368043147048988499648207585229134513766400 + y * pd6 y
def pd4 (y : Int) : Int := -258061188841018499994027347067676523416085148445582652445724672424468472768922641597864970111299944974097095831667753022744048729119064999500124411694919107653875265202570652242793670124043479726838118426143222895011357615138635923516769086585321178745819555897685583577088000 + y * pd5 y
def pd3 (y : Int) : Int := 103930341333065525516437072353938053937198291889619927059570826918412484137828070703487056212410517886752582412242639811591027462554964726231127936082413483918784619471162936474622921010742649549063592565729250461132090337435805589078967669416082774216926037153082148593407200712143848579072000 + y * pd4 y
def pd2 (y : Int) : Int := -29736976305934161452806537453937506787160253996365574952560183689999525977860728727570369358340530880252088549970079456096201764621983497014723078119218332876431537823815561132872049189943356875954246896751597626525012271017460498426084253343924168688427064441796926441585024518549158749303570693864415903744000 + y * pd3 y
def pd1 (y : Int) : Int := 5387433542317476513887670789102450299755560639243387141406602357627736015510014486210215047847260231492877125128063543501311842108271936794292394296421024028673171129755212078877057810841667500647393720843738899570737090021158816461489804802151696868311746195922734335569188472855360774434763086977430276477616224631146119168000 + y * pd2 y
def pd0 (y : Int) : Int := -464888689685481496518481908178451149218078756890117300609693419271621279554026414300216458780201788143144698371732165521734294816101555797807273499495011656682976517677238351597923996836243395080523890973109707022715061125545137369957039639428393677622459354801894556904321271209937709398499237060014441903643826183103923571203778674463014912000 + y * pd1 y
theorem poly_id (y : Int) : (1811004864519280710 - y) * ((6 * 1329227995784915872903807060280344576 * (20 * 1329227995784915872903807060280344576 * (42 * 1329227995784915872903807060280344576 * (72 * 1329227995784915872903807060280344576 * (110 * 1329227995784915872903807060280344576 * (156 * 1329227995784915872903807060280344576 * (210 * 1329227995784915872903807060280344576 * (272 * 1329227995784915872903807060280344576 * (342 * 1329227995784915872903807060280344576 * 1))))))))) - ((1811004864519280710 - y) * (1811004864519280710 - y)) * ((20 * 1329227995784915872903807060280344576 * (42 * 1329227995784915872903807060280344576 * (72 * 1329227995784915872903807060280344576 * (110 * 1329227995784915872903807060280344576 * (156 * 1329227995784915872903807060280344576 * (210 * 1329227995784915872903807060280344576 * (272 * 1329227995784915872903807060280344576 * (342 * 1329227995784915872903807060280344576 * 1)))))))) - ((1811004864519280710 - y) * (1811004864519280710 - y)) * ((42 * 1329227995784915872903807060280344576 * (72 * 1329227995784915872903807060280344576 * (110 * 1329227995784915872903807060280344576 * (156 * 1329227995784915872903807060280344576 * (210 * 1329227995784915872903807060280344576 * (272 * 1329227995784915872903807060280344576 * (342 * 1329227995784915872903807060280344576 * 1))))))) - ((1811004864519280710 - y) * (1811004864519280710 - y)) * ((72 * 1329227995784915872903807060280344576 * (110 * 1329227995784915872903807060280344576 * (156 * 1329227995784915872903807060280344576 * (210 * 1329227995784915872903807060280344576 * (272 * 1329227995784915872903807060280344576 * (342 * 1329227995784915872903807060280344576 * 1)))))) - ((1811004864519280710 - y) * (1811004864519280710 - y)) * ((110 * 1329227995784915872903807060280344576 * (156 * 1329227995784915872903807060280344576 * (210 * 1329227995784915872903807060280344576 * (272 * 1329227995784915872903807060280344576 * (342 * 1329227995784915872903807060280344576 * 1))))) - ((1811004864519280710 - y) * (1811004864519280710 - y)) * ((156 * 1329227995784915872903807060280344576 * (210 * 1329227995784915872903807060280344576 * (272 * 1329227995784915872903807060280344576 * (342 * 1329227995784915872903807060280344576 * 1)))) - ((1811004864519280710 - y) * (1811004864519280710 - y)) * ((210 * 1329227995784915872903807060280344576 * (272 * 1329227995784915872903807060280344576 * (342 * 1329227995784915872903807060280344576 * 1))) - ((1811004864519280710 - y) * (1811004864519280710 - y)) * ((272 * 1329227995784915872903807060280344576 * (342 * 1329227995784915872903807060280344576 * 1)) - ((1811004864519280710 - y) * (1811004864519280710 - y)) * ((342 * 1329227995784915872903807060280344576 * 1) - ((1811004864519280710 - y) * (1811004864519280710 - y)) * 1))))))))) - 2842398519938088505335538375778909910804776937785700806687644937411129490437769506340065362575360 * ((2 * 1329227995784915872903807060280344576 * (12 * 1329227995784915872903807060280344576 * (30 * 1329227995784915872903807060280344576 * (56 * 1329227995784915872903807060280344576 * (90 * 1329227995784915872903807060280344576 * (132 * 1329227995784915872903807060280344576 * (182 * 1329227995784915872903807060280344576 * 1))))))) - (y * y) * ((12 * 1329227995784915872903807060280344576 * (30 * 1329227995784915872903807060280344576 * (56 * 1329227995784915872903807060280344576 * (90 * 1329227995784915872903807060280344576 * (132 * 1329227995784915872903807060280344576 * (182 * 1329227995784915872903807060280344576 * 1)))))) - (y * y) * ((30 * 1329227995784915872903807060280344576 * (56 * 1329227995784915872903807060280344576 * (90 * 1329227995784915872903807060280344576 * (132 * 1329227995784915872903807060280344576 * (182 * 1329227995784915872903807060280344576 * 1))))) - (y * y) * ((56 * 1329227995784915872903807060280344576 * (90 * 1329227995784915872903807060280344576 * (132 * 1329227995784915872903807060280344576 * (182 * 1329227995784915872903807060280344576 * 1)))) - (y * y) * ((90 * 1329227995784915872903807060280344576 * (132 * 1329227995784915872903807060280344576 * (182 * 1329227995784915872903807060280344576 * 1))) - (y * y) * ((132 * 1329227995784915872903807060280344576 * (182 * 1329227995784915872903807060280344576 * 1)) - (y * y) * ((182 * 1329227995784915872903807060280344576 * 1) - (y * y) * 1))))))) = pd0 y := by unfold pd0 pd1 pd2 pd3 pd4 pd5 pd6 pd7 pd8 pd9 pd10 pd11 pd12 pd13 pd14 pd15 pd16 pd17 pd18 pd19; grind
theorem poly_bd {y : Int} (y0 : 0 ≤ y) (y1 : y ≤ 905502432259640355) : -2306346054778073519303503295438960319105874120223447858091350994155960716578602606990580879767698736237699487406402958155027201255608036917389263809372023342128821640277908087515484782414865495710143200262695728492305237453273718561433989690115836347564332510030094282143609877022613392523321682566808738064726882299256930110052723888476222842167625 ≤ pd0 y ∧ pd0 y ≤ 2306346054778073519303503295438960319105874120223447858091350994155960716578602606990580879767698736237699487406402958155027201255608036917389263809372023342128821640277908087515484782414865495710143200262695728492305237453273718561433989690115836347564332510030094282143609877022613392523321682566808738064726882299256930110052723888476222842167625 := by
  have h19 : -1 ≤ pd19 y ∧ pd19 y ≤ 1 := by unfold pd19; omega
  have h18 : -35314594858125973845 ≤ pd18 y ∧ pd18 y ≤ 35314594858125973845 := by have := mul_bd (x := y) (X := 905502432259640355) (by omega) h19; unfold pd18; generalize y * pd19 y = z at *; omega
  have h17 : -138216780882292835477919165326014471083 ≤ pd17 y ∧ pd17 y ≤ 138216780882292835477919165326014471083 := by have := mul_bd (x := y) (X := 905502432259640355) (by omega) h18; unfold pd17; generalize y * pd18 y = z at *; omega
  have h16 : -8365345200128801437250941017058406840388030945093942568905 ≤ pd16 y ∧ pd16 y ≤ 8365345200128801437250941017058406840388030945093942568905 := by have := mul_bd (x := y) (X := 905502432259640355) (by omega) h17; unfold pd16; generalize y * pd17 y = z at *; omega
  have h15 : -10856921976135008204317523315238283196976613231163521356778365435266049024699 ≤ pd15 y ∧ pd15 y ≤ 10856921976135008204317523315238283196976613231163521356778365435266049024699 := by have := mul_bd (x := y) (X := 905502432259640355) (by omega) h16; unfold pd15; generalize y * pd16 y = z at *; omega
  have h14 : -22692411931342066999536798219711321555090085437187500396898628149893429002816112032331642938385 ≤ pd14 y ∧ pd14 y ≤ 22692411931342066999536798219711321555090085437187500396898628149893429002816112032331642938385 := by have := mul_bd (x := y) (X := 905502432259640355) (by omega) h15; unfold pd14; generalize y * pd15 y = z at *; omega
  have h13 : -61587741505220172797861707133687376395217776469877109792209917971216018165760910283087259084272499805862386999635 ≤ pd13 y ∧ pd13 y ≤ 61587741505220172797861707133687376395217776469877109792209917971216018165760910283087259084272499805862386999635 := by have := mul_bd (x := y) (X := 905502432259640355) (by omega) h14; unfold pd13; generalize y * pd14 y = z at *; omega
  have h12 : -163656287814731979296899729739768005114867875257654989160422808069935296051528337343817578440448051192087924580139598363766371270745 ≤ pd12 y ∧ pd12 y ≤ 163656287814731979296899729739768005114867875257654989160422808069935296051528337343817578440448051192087924580139598363766371270745 := by have := mul_bd (x := y) (X := 905502432259640355) (by omega) h13; unfold pd12; generalize y * pd13 y = z at *; omega
  have h11 : -383527348433842478055505657865432777561517867609364894255707591409226198840804855534493559859062213128022028743550016643276775296881981888672137180715 ≤ pd11 y ∧ pd11 y ≤ 383527348433842478055505657865432777561517867609364894255707591409226198840804855534493559859062213128022028743550016643276775296881981888672137180715 := by have := mul_bd (x := y) (X := 905502432259640355) (by omega) h12; unfold pd11; generalize y * pd12 y = z at *; omega
  have h10 : -774699631173076375539201733492929555232390359370422686000991371033389547630255433775308561598937598230658540827713667652398053557260893383783907728078758607305626863585 ≤ pd10 y ∧ pd10 y ≤ 774699631173076375539201733492929555232390359370422686000991371033389547630255433775308561598937598230658540827713667652398053557260893383783907728078758607305626863585 := by have := mul_bd (x := y) (X := 905502432259640355) (by omega) h11; unfold pd10; generalize y * pd11 y = z at *; omega
  have h9 : -1347984681927757545799153580195180054799241571086152788578538345070953067665348424312737375981077515492190230760676521946937194406149332947685331213916883318291761881670100820385915406275 ≤ pd9 y ∧ pd9 y ≤ 1347984681927757545799153580195180054799241571086152788578538345070953067665348424312737375981077515492190230760676521946937194406149332947685331213916883318291761881670100820385915406275 := by have := mul_bd (x := y) (X := 905502432259640355) (by omega) h10; unfold pd9; generalize y * pd10 y = z at *; omega
  have h8 : -2032616164085086110623747100136696807888601893626411770817587588260346419772125984248465035351655861404813575662172450703104254945533177890928825883846178348995289290596287337642633092018585399282950669225 ≤ pd8 y ∧ pd8 y ≤ 2032616164085086110623747100136696807888601893626411770817587588260346419772125984248465035351655861404813575662172450703104254945533177890928825883846178348995289290596287337642633092018585399282950669225 := by have := mul_bd (x := y) (X := 905502432259640355) (by omega) h9; unfold pd8; generalize y * pd9 y = z at *; omega
  have h7 : -2682087104656739975342484587845936816590652658068236139015850333344554260498284221101544049110904893223402675842037766136725825857804300895215480834137071527349229623212758897009520324087362776487689515135291887566911515675 ≤ pd7 y ∧ pd7 y ≤ 2682087104656739975342484587845936816590652658068236139015850333344554260498284221101544049110904893223402675842037766136725825857804300895215480834137071527349229623212758897009520324087362776487689515135291887566911515675 := by have := mul_bd (x := y) (X := 905502432259640355) (by omega) h8; unfold pd7; generalize y * pd8 y = z at *; omega
  have h6 : -3140715426711082994328921225535977616863375125547392536454603482035451443048237443762576319415174728039682534571590181006627186771404004668508284954954592323185586368072384434139146068385887684328659053043288331004167595321893732112778415025 ≤ pd6 y ∧ pd6 y ≤ 3140715426711082994328921225535977616863375125547392536454603482035451443048237443762576319415174728039682534571590181006627186771404004668508284954954592323185586368072384434139146068385887684328659053043288331004167595321893732112778415025 := by have := mul_bd (x := y) (X := 905502432259640355) (by omega) h7; unfold pd6; generalize y * pd7 y = z at *; omega
  have h5 : -3328002942071946012850704199274188597627287989483778496994420154717105029610018973539030495148805930503896925556443414831850968124122392493135316724049766101048949337185810072634049443129771716674546886372365749838930340371993227191049829167864757647942100275 ≤ pd5 y ∧ pd5 y ≤ 3328002942071946012850704199274188597627287989483778496994420154717105029610018973539030495148805930503896925556443414831850968124122392493135316724049766101048949337185810072634049443129771716674546886372365749838930340371993227191049829167864757647942100275 := by have := mul_bd (x := y) (X := 905502432259640355) (by omega) h6; unfold pd5; generalize y * pd6 y = z at *; omega
  have h4 : -3271575947454404598923647750740458333693804922312435717300281328651621031070130908163831568237117401057660497022487345058253512191420419938533519060779243898454574949212424787186960515107577843282221516120686840009532094578587354226996071596751225943881751417798706318423685625 ≤ pd4 y ∧ pd4 y ≤ 3271575947454404598923647750740458333693804922312435717300281328651621031070130908163831568237117401057660497022487345058253512191420419938533519060779243898454574949212424787186960515107577843282221516120686840009532094578587354226996071596751225943881751417798706318423685625 := by have := mul_bd (x := y) (X := 905502432259640355) (by omega) h5; unfold pd4; generalize y * pd5 y = z at *; omega
  have h3 : -3066350319075166239360307649338921395788810307000069504248588274851171294285157726436720014581623903751275420883722036367457821678360242100411745746226295717430552739935619857077119048284649007783944412195668749234371659144303786386347386604728451778369252617143926822518830367609352624662468875 ≤ pd3 y ∧ pd3 y ≤ 3066350319075166239360307649338921395788810307000069504248588274851171294285157726436720014581623903751275420883722036367457821678360242100411745746226295717430552739935619857077119048284649007783944412195668749234371659144303786386347386604728451778369252617143926822518830367609352624662468875 := by have := mul_bd (x := y) (X := 905502432259640355) (by omega) h4; unfold pd3; generalize y * pd4 y = z at *; omega
  have h2 : -2806324648388621467396898672270059273914335611891297348355848230242197038932854438533618859988099307857943912108470954579845708195569163759142496129529635239080917165348431266386802775801770913764591252124161200407396451131677813800238165745965162564970450201624161628862346534477083097157625132918213589785194625 ≤ pd2 y ∧ pd2 y ≤ 2806324648388621467396898672270059273914335611891297348355848230242197038932854438533618859988099307857943912108470954579845708195569163759142496129529635239080917165348431266386802775801770913764591252124161200407396451131677813800238165745965162564970450201624161628862346534477083097157625132918213589785194625 := by have := mul_bd (x := y) (X := 905502432259640355) (by omega) h3; unfold pd2; generalize y * pd3 y = z at *; omega
  have h1 : -2546521228368394224322059983542763780780567462621181593573377041202504204618614168448871754112333154796383200126433607626845335952258496866028071979612984939746545585638785057713627216701465019845504257683709730959919332528927130650589290387710437025555647037903129694091024270563823853861406202999248373390228869173111452298259875 ≤ pd1 y ∧ pd1 y ≤ 2546521228368394224322059983542763780780567462621181593573377041202504204618614168448871754112333154796383200126433607626845335952258496866028071979612984939746545585638785057713627216701465019845504257683709730959919332528927130650589290387710437025555647037903129694091024270563823853861406202999248373390228869173111452298259875 := by have := mul_bd (x := y) (X := 905502432259640355) (by omega) h2; unfold pd1; generalize y * pd2 y = z at *; omega
  have h0 : -2306346054778073519303503295438960319105874120223447858091350994155960716578602606990580879767698736237699487406402958155027201255608036917389263809372023342128821640277908087515484782414865495710143200262695728492305237453273718561433989690115836347564332510030094282143609877022613392523321682566808738064726882299256930110052723888476222842167625 ≤ pd0 y ∧ pd0 y ≤ 2306346054778073519303503295438960319105874120223447858091350994155960716578602606990580879767698736237699487406402958155027201255608036917389263809372023342128821640277908087515484782414865495710143200262695728492305237453273718561433989690115836347564332510030094282143609877022613392523321682566808738064726882299256930110052723888476222842167625 := by have := mul_bd (x := y) (X := 905502432259640355) (by omega) h1; unfold pd0; generalize y * pd1 y = z at *; omega
  exact h0
theorem cs_close {y : Int} (y0 : 0 ≤ y) (y1 : y ≤ 905502432259640355) : -1945512442866669888815459187884976159984983 ≤ (1811004864519280710 - y) * serX ((1811004864519280710 - y) * (1811004864519280710 - y)) - 1152921504606846976 * serC2 (y * y) ∧ (1811004864519280710 - y) * serX ((1811004864519280710 - y) * (1811004864519280710 - y)) - 1152921504606846976 * serC2 (y * y) ≤ 1945512442866669888815459187884976159984983 := by
  have x0 : 0 ≤ 1811004864519280710 - y := by omega
  have vx : (1811004864519280710 - y) * (1811004864519280710 - y) ≤ 1811004864519280710 * 1811004864519280710 := Int.mul_le_mul (by omega) (by omega) x0 (by omega)
  have vy : y * y ≤ 905502432259640355 * 905502432259640355 := Int.mul_le_mul y1 y1 y0 (by omega)
  have a1 := serX_err (v := (1811004864519280710 - y) * (1811004864519280710 - y)) (Int.mul_nonneg x0 x0) (by omega)
  have b1 := serC2_err (v := y * y) (Int.mul_nonneg y0 y0) (by omega)
  have P := poly_bd y0 y1
  rw [← poly_id y] at P
  have P' : -2306346054778073519303503295438960319105874120223447858091350994155960716578602606990580879767698736237699487406402958155027201255608036917389263809372023342128821640277908087515484782414865495710143200262695728492305237453273718561433989690115836347564332510030094282143609877022613392523321682566808738064726882299256930110052723888476222842167625 ≤ (1811004864519280710 - y) * NX ((1811004864519280710 - y) * (1811004864519280710 - y)) - 2842398519938088505335538375778909910804776937785700806687644937411129490437769506340065362575360 * NC (y * y) ∧ (1811004864519280710 - y) * NX ((1811004864519280710 - y) * (1811004864519280710 - y)) - 2842398519938088505335538375778909910804776937785700806687644937411129490437769506340065362575360 * NC (y * y) ≤ 2306346054778073519303503295438960319105874120223447858091350994155960716578602606990580879767698736237699487406402958155027201255608036917389263809372023342128821640277908087515484782414865495710143200262695728492305237453273718561433989690115836347564332510030094282143609877022613392523321682566808738064726882299256930110052723888476222842167625 := P
  clear P
  generalize serX ((1811004864519280710 - y) * (1811004864519280710 - y)) = SX at *
  generalize serC2 (y * y) = SC at *
  generalize NX ((1811004864519280710 - y) * (1811004864519280710 - y)) = nx at *
  generalize NC (y * y) = nc at *
  generalize 1811004864519280710 - y = x at *
  obtain ⟨a, ha⟩ : ∃ a, a = 1575759515298665531179874971100463699043995141882136872839094522846160793910601686942072558843752751510747141576251419780260817292639159794927632030184060956020863085830345874345849093653468053578700767132564583722566500377106414672393792631661696655602603081176165810056397691381168036323326453738290876448989214180909379427577219810066432000 * SX - 1329227995784915872903807060280344576 * nx := ⟨_, rfl⟩
  obtain ⟨b, hb⟩ : ∃ b, b = 639152820596129594313606008965065358350619718584816661070249798527546176215166422417688164626646441125110688850990858795357249329010174795202225062359833657795240153541122620466682721399229889135132093540679035972780221131086177112679448866520837509281146417971200 * SC - 1329227995784915872903807060280344576 * nc := ⟨_, rfl⟩
  rw [← ha] at a1
  rw [← hb] at b1
  have hx : x ≤ 1811004864519280710 := by
    rcases Int.lt_or_le 1811004864519280710 x with g | g
    · exfalso
      have := Int.mul_lt_mul_of_pos_left g (show 0 < x by omega)
      have := Int.mul_lt_mul_of_pos_right g (show (0 : Int) < 1811004864519280710 by omega)
      omega
    · exact g
  have m1 := mul_bd (x := x) (X := 1811004864519280710) (y := a) (Y := 2 * 1575759515298665531179874971100463699043995141882136872839094522846160793910601686942072558843752751510747141576251419780260817292639159794927632030184060956020863085830345874345849093653468053578700767132564583722566500377106414672393792631661696655602603081176165810056397691381168036323326453738290876448989214180909379427577219810066432000) (by omega) (by omega)
  have key : 1575759515298665531179874971100463699043995141882136872839094522846160793910601686942072558843752751510747141576251419780260817292639159794927632030184060956020863085830345874345849093653468053578700767132564583722566500377106414672393792631661696655602603081176165810056397691381168036323326453738290876448989214180909379427577219810066432000 * (x * SX - 1152921504606846976 * SC) = 1329227995784915872903807060280344576 * (x * nx - 2842398519938088505335538375778909910804776937785700806687644937411129490437769506340065362575360 * nc) + x * a - 2842398519938088505335538375778909910804776937785700806687644937411129490437769506340065362575360 * b := by
    have k1 : 1575759515298665531179874971100463699043995141882136872839094522846160793910601686942072558843752751510747141576251419780260817292639159794927632030184060956020863085830345874345849093653468053578700767132564583722566500377106414672393792631661696655602603081176165810056397691381168036323326453738290876448989214180909379427577219810066432000 * (x * SX) = x * (1575759515298665531179874971100463699043995141882136872839094522846160793910601686942072558843752751510747141576251419780260817292639159794927632030184060956020863085830345874345849093653468053578700767132564583722566500377106414672393792631661696655602603081176165810056397691381168036323326453738290876448989214180909379427577219810066432000 * SX) := by grind
    have k2 : 1575759515298665531179874971100463699043995141882136872839094522846160793910601686942072558843752751510747141576251419780260817292639159794927632030184060956020863085830345874345849093653468053578700767132564583722566500377106414672393792631661696655602603081176165810056397691381168036323326453738290876448989214180909379427577219810066432000 * SX = 1329227995784915872903807060280344576 * nx + a := by omega
    have k3 : 1575759515298665531179874971100463699043995141882136872839094522846160793910601686942072558843752751510747141576251419780260817292639159794927632030184060956020863085830345874345849093653468053578700767132564583722566500377106414672393792631661696655602603081176165810056397691381168036323326453738290876448989214180909379427577219810066432000 * (1152921504606846976 * SC) = 2842398519938088505335538375778909910804776937785700806687644937411129490437769506340065362575360 * (639152820596129594313606008965065358350619718584816661070249798527546176215166422417688164626646441125110688850990858795357249329010174795202225062359833657795240153541122620466682721399229889135132093540679035972780221131086177112679448866520837509281146417971200 * SC) := by generalize SC = z; omega
    have k4 : 639152820596129594313606008965065358350619718584816661070249798527546176215166422417688164626646441125110688850990858795357249329010174795202225062359833657795240153541122620466682721399229889135132093540679035972780221131086177112679448866520837509281146417971200 * SC = 1329227995784915872903807060280344576 * nc + b := by omega
    rw [Int.mul_sub, k1, k2, k3, k4]; grind
  clear ha hb
  generalize x * nx = z1 at *
  generalize x * a = z2 at *
  generalize x * SX = z3 at *
  omega
theorem pi_near : 2 * 1811004864519280710 * 1237940039285380274899124224 ≤ 4483830866258026290414848827874327273881010752 ∧ 4483830866258026290414848827874327273881010752 ≤ 2 * 1811004864519280710 * 1237940039285380274899124224 + 2 * 1237940039285380274899124224 := by decide +kernel
/-- The reference's sine in the first quarter. -/
def rsQ (r : Int) : Int := alt ((4483830866258026290414848827874327273881010752 * r / 2147483648) * (4483830866258026290414848827874327273881010752 * r / 2147483648) / 1427247692705959881058285969449495136382746624) 160 (4483830866258026290414848827874327273881010752 * r / 2147483648) 1
/-- The series at x (150 bits) against the nested form at z (60 bits). -/
theorem tail_x {x z : Int} (x0 : 0 ≤ x) (x1 : x ≤ 2241915433129013145207424413937163636940505376) (z0 : 0 ≤ z) (z1 : z ≤ 1811004864519280710 + 1) (h : -(3 * 1237940039285380274899124224) ≤ x - 1237940039285380274899124224 * z ∧ x - 1237940039285380274899124224 * z ≤ 3 * 1237940039285380274899124224) :
    -(953391645926941779010542434042962716507464599439678763977465135104 + 3 * 1237940039285380274899124224 * 1329227995784915872903807060280344576) ≤ 1329227995784915872903807060280344576 * alt (x * x / 1427247692705959881058285969449495136382746624) 160 x 1 - 1237940039285380274899124224 * (z * serX (z * z)) ∧ 1329227995784915872903807060280344576 * alt (x * x / 1427247692705959881058285969449495136382746624) 160 x 1 - 1237940039285380274899124224 * (z * serX (z * z)) ≤ 953391645926941779010542434042962716507464599439678763977465135104 + 3 * 1237940039285380274899124224 * 1329227995784915872903807060280344576 := by
  have hxx : x * x ≤ 2241915433129013145207424413937163636940505376 * 2241915433129013145207424413937163636940505376 := Int.mul_le_mul x1 x1 x0 (by omega)
  have hx0 : 0 ≤ x * x := Int.mul_nonneg x0 x0
  have hzz : z * z ≤ (1811004864519280710 + 1) * (1811004864519280710 + 1) := Int.mul_le_mul z1 z1 z0 (by omega)
  have hz0 : 0 ≤ z * z := Int.mul_nonneg z0 z0
  have u0 : 0 ≤ x * x / 1427247692705959881058285969449495136382746624 := Int.ediv_nonneg hx0 (by omega)
  have u1 : x * x / 1427247692705959881058285969449495136382746624 ≤ 3521592528771091224016130976643791299216150222 := by omega
  obtain ⟨e, he⟩ : ∃ e, e = x - 1237940039285380274899124224 * z := ⟨_, rfl⟩
  rw [← he] at h
  have key : x * x = 1237940039285380274899124224 * 1237940039285380274899124224 * (z * z) + 2 * 1237940039285380274899124224 * (z * e) + e * e := by rw [show x = 1237940039285380274899124224 * z + e by omega]; grind
  have m1 := mul_bd (x := z) (X := 1811004864519280710 + 1) (y := e) (Y := 3 * 1237940039285380274899124224) (by omega) (by omega)
  have m2 := mul_bd (x := e) (X := 3 * 1237940039285380274899124224) (y := e) (Y := 3 * 1237940039285380274899124224) (by omega) (by omega)
  have hu : 1427247692705959881058285969449495136382746624 * (x * x / 1427247692705959881058285969449495136382746624) ≤ x * x ∧ x * x < 1427247692705959881058285969449495136382746624 * (x * x / 1427247692705959881058285969449495136382746624) + 1427247692705959881058285969449495136382746624 := by generalize x * x = p; omega
  have hv : -(12 * 1152921504606846976 * 1427247692705959881058285969449495136382746624) ≤ 1427247692705959881058285969449495136382746624 * (z * z) - 1329227995784915872903807060280344576 * (x * x / 1427247692705959881058285969449495136382746624) ∧ 1427247692705959881058285969449495136382746624 * (z * z) - 1329227995784915872903807060280344576 * (x * x / 1427247692705959881058285969449495136382746624) ≤ 12 * 1152921504606846976 * 1427247692705959881058285969449495136382746624 := by
    generalize x * x / 1427247692705959881058285969449495136382746624 = u at *
    generalize x * x = p at *
    generalize z * z = q at *
    generalize z * e = m at *
    generalize e * e = n at *
    omega
  have T := tail (u := x * x / 1427247692705959881058285969449495136382746624) (v := z * z) (x := x) 160 (by omega) u0 (by omega) x0 (by omega) hz0 (by omega) hv u1
  have s0 : 0 ≤ serX (z * z) ∧ serX (z * z) ≤ 1329227995784915872903807060280344576 := by
    unfold serX
    have t0 : (0 : Int) ≤ 1329227995784915872903807060280344576 ∧ (1329227995784915872903807060280344576 : Int) ≤ 1329227995784915872903807060280344576 := by omega
    have w : z * z ≤ 3 * 1329227995784915872903807060280344576 := by omega
    have q1 := stD_in hz0 w t0.1 t0.2 (show (6 : Int) ≤ 342 by omega)
    have q2 := stD_in hz0 w q1.1 q1.2 (show (6 : Int) ≤ 272 by omega)
    have q3 := stD_in hz0 w q2.1 q2.2 (show (6 : Int) ≤ 210 by omega)
    have q4 := stD_in hz0 w q3.1 q3.2 (show (6 : Int) ≤ 156 by omega)
    have q5 := stD_in hz0 w q4.1 q4.2 (show (6 : Int) ≤ 110 by omega)
    have q6 := stD_in hz0 w q5.1 q5.2 (show (6 : Int) ≤ 72 by omega)
    have q7 := stD_in hz0 w q6.1 q6.2 (show (6 : Int) ≤ 42 by omega)
    have q8 := stD_in hz0 w q7.1 q7.2 (show (6 : Int) ≤ 20 by omega)
    exact stD_in hz0 w q8.1 q8.2 (show (6 : Int) ≤ 6 by omega)
  have m3 := mul_bd (x := e) (X := 3 * 1237940039285380274899124224) (y := serX (z * z)) (Y := 1329227995784915872903807060280344576) (by omega) (by omega)
  have k2 : x * serX (z * z) = 1237940039285380274899124224 * (z * serX (z * z)) + e * serX (z * z) := by rw [show x = 1237940039285380274899124224 * z + e by omega]; grind
  rw [k2] at T
  generalize alt (x * x / 1427247692705959881058285969449495136382746624) 160 x 1 = A at *
  generalize z * serX (z * z) = z2 at *
  generalize e * serX (z * z) = z3 at *
  omega
theorem near_1 {r : Int} (h0 : 0 ≤ r) (h1 : r ≤ 536870912) : -669806294750992764080434026469392384 ≤ 1329227995784915872903807060280344576 * sinP r - rsQ r ∧ 1329227995784915872903807060280344576 * sinP r - rsQ r ≤ 669806294750992764080434026469392384 := by
  have rr := rad_range h0 h1
  have hx : -(3 * 1237940039285380274899124224) ≤ 4483830866258026290414848827874327273881010752 * r / 2147483648 - 1237940039285380274899124224 * radV r ∧ 4483830866258026290414848827874327273881010752 * r / 2147483648 - 1237940039285380274899124224 * radV r ≤ 3 * 1237940039285380274899124224 := by unfold radV; omega
  have T := tail_x (x := 4483830866258026290414848827874327273881010752 * r / 2147483648) (z := radV r) (by omega) (by omega) rr.1 (by omega) hx
  rw [sinP_eq]
  unfold rsQ
  generalize alt (4483830866258026290414848827874327273881010752 * r / 2147483648 * (4483830866258026290414848827874327273881010752 * r / 2147483648) / 1427247692705959881058285969449495136382746624) 160 (4483830866258026290414848827874327273881010752 * r / 2147483648) 1 = A at *
  generalize radV r = z at *
  have hzz : z * z ≤ 905502432259640355 * 905502432259640355 := Int.mul_le_mul rr.2 rr.2 rr.1 (by omega)
  have hz0 : 0 ≤ z * z := Int.mul_nonneg rr.1 rr.1
  have hw : 1152921504606846976 * sqV z ≤ z * z ∧ z * z < 1152921504606846976 * sqV z + 1152921504606846976 := by unfold sqV scV; generalize z * z = q; omega
  have S := sin_sc (w := sqV z) (v := z * z) (by omega) hz0 (by omega) hw
  have hy : 1152921504606846976 * sinY z ≤ z * serS (sqV z) ∧ z * serS (sqV z) < 1152921504606846976 * sinY z + 1152921504606846976 := by unfold sinY scV; generalize z * serS (sqV z) = m; omega
  have hr : -536870912 ≤ 1073741824 * rndV (sinY z) - sinY z ∧ 1073741824 * rndV (sinY z) - sinY z ≤ 536870912 := by unfold rndV; omega
  generalize rndV (sinY z) = p at *
  generalize sinY z = y at *
  obtain ⟨e, he⟩ : ∃ e, e = 1152921504606846976 * serS (sqV z) - serX (z * z) := ⟨_, rfl⟩
  rw [← he] at S
  have k : z * serX (z * z) = 1152921504606846976 * (z * serS (sqV z)) - z * e := by rw [he]; grind
  have m := mul_bd (x := z) (X := 905502432259640355) (y := e) (Y := 34544326588331691851269) (by omega) S
  rw [k] at T
  generalize z * serS (sqV z) = q at *
  generalize z * e = n at *
  omega
theorem near_2 {r : Int} (h0 : 536870912 ≤ r) (h1 : r ≤ 1073741824) : -669806294750992764080434026469392384 ≤ 1329227995784915872903807060280344576 * cosP (1073741824 - r) - rsQ r ∧ 1329227995784915872903807060280344576 * cosP (1073741824 - r) - rsQ r ≤ 669806294750992764080434026469392384 := by
  have rr := rad_range (t := 1073741824 - r) (by omega) (by omega)
  have hx : -(3 * 1237940039285380274899124224) ≤ 4483830866258026290414848827874327273881010752 * r / 2147483648 - 1237940039285380274899124224 * (1811004864519280710 - radV (1073741824 - r)) ∧ 4483830866258026290414848827874327273881010752 * r / 2147483648 - 1237940039285380274899124224 * (1811004864519280710 - radV (1073741824 - r)) ≤ 3 * 1237940039285380274899124224 := by unfold radV; omega
  have T := tail_x (x := 4483830866258026290414848827874327273881010752 * r / 2147483648) (z := 1811004864519280710 - radV (1073741824 - r)) (by omega) (by omega) (by omega) (by omega) hx
  rw [cosP_eq]
  unfold rsQ
  generalize alt (4483830866258026290414848827874327273881010752 * r / 2147483648 * (4483830866258026290414848827874327273881010752 * r / 2147483648) / 1427247692705959881058285969449495136382746624) 160 (4483830866258026290414848827874327273881010752 * r / 2147483648) 1 = A at *
  generalize radV (1073741824 - r) = z at *
  have K := cs_close rr.1 rr.2
  have hzz : z * z ≤ 905502432259640355 * 905502432259640355 := Int.mul_le_mul rr.2 rr.2 rr.1 (by omega)
  have hz0 : 0 ≤ z * z := Int.mul_nonneg rr.1 rr.1
  have hw : 1152921504606846976 * sqV z ≤ z * z ∧ z * z < 1152921504606846976 * sqV z + 1152921504606846976 := by unfold sqV scV; generalize z * z = q; omega
  have S := cos_sc (w := sqV z) (v := z * z) (by omega) hz0 (by omega) hw
  unfold cosY
  have hr : -536870912 ≤ 1073741824 * rndV (serC (sqV z)) - serC (sqV z) ∧ 1073741824 * rndV (serC (sqV z)) - serC (sqV z) ≤ 536870912 := by unfold rndV; omega
  generalize rndV (serC (sqV z)) = p at *
  generalize serC (sqV z) = y at *
  generalize serC2 (z * z) = y2 at *
  generalize (1811004864519280710 - z) * serX ((1811004864519280710 - z) * (1811004864519280710 - z)) = q at *
  omega
theorem near_q {r : Int} (h0 : 0 ≤ r) (h1 : r ≤ 1073741824) : -669806294750992764080434026469392384 ≤ 1329227995784915872903807060280344576 * risV r - rsQ r ∧ 1329227995784915872903807060280344576 * risV r - rsQ r ≤ 669806294750992764080434026469392384 := by
  unfold risV
  split
  · exact near_1 h0 (by omega)
  · exact near_2 (by omega) h1
end Go.Proofs.Ytdhodjbomepfbaa.Tg

