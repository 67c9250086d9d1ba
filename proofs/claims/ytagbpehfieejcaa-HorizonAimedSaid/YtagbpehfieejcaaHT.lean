/-
  The bound of the height: what it is, that it is known, and what it admits (no program).
  Conditions: those of each theorem.
-/
import Derived.Test.YtagbpehfieejcaaH2
import Derived.Test.YtagbpehfieejcaaT3
import Derived.Test.YtagbpehfieejcaaBJ
set_option linter.unusedVariables false
set_option linter.unusedSimpArgs false
namespace Go.Proofs.Ytagbpehfieejcaa.AtHz
open Go.RowKit Ev Wd Tg
open Go.Proofs.Ytagbpehfieejcaa
/-- P10.2, part by part. -/
def hLoc (s : Si) (b : Bd) : Bd := addB b (ofB s.lon s.lon)
def hTA (s : Si) : Bd := waveV sinV 1073741824 (ofB s.lat s.lat)
def hTB (s : Si) : Bd := waveV cosV 0 (ofB s.lat s.lat)
def hTC (s : Si) (b : Bd) : Bd := waveV cosV 0 (hLoc s b)
def hTD (s : Si) (b : Bd) : Bd := waveV sinV 1073741824 (hLoc s b)
def hTE (s : Si) (b : Bd) (v : V3) : Bd := addB (scaB (hTC s b) (grV v).x 1) (scaB (hTD s b) (grV v).y 1)
def hTU (s : Si) (b : Bd) (v : V3) : Bd := addB (scaB (hTA s) (grV v).z 1) (mulB (hTB s) (hTE s b v) 1073741824)
def nnV (v : V3) : Int := (grV v).x * (grV v).x + (grV v).y * (grV v).y + (grV v).z * (grV v).z
def hTN (v : V3) : Bd := rootB (ofB (nnV v) (nnV v)) 1099511627776
def hTV (s : Si) (b : Bd) (v : V3) : Bd := divB (hTU s b v) (hTN v) 1048576
def hQ (s : Si) (b : Bd) (v : V3) : Prop := sE s = 0 ∧ vE v = 0 ∧ (hLoc s b).u = false
instance (s : Si) (b : Bd) (v : V3) : Decidable (hQ s b v) := by unfold hQ; infer_instance
def htV (s : Si) (b : Bd) (v : V3) : Bd := if hQ s b v then meetB (hTV s b v) (ofB (-1073741824) 1073741824) else noneB
/-- One unit nearer to 0. -/
def shV (x : Int) : Int := if 0 < x then x - 1 else if x < 0 then x + 1 else 0
theorem shV_near (x : Int) : x - 1 ≤ shV x ∧ shV x ≤ x + 1 ∧ (∀ m, -m ≤ x → x ≤ m → -m ≤ shV x ∧ shV x ≤ m) := by
  unfold shV
  refine ⟨?_, ?_, fun m h1 h2 => ⟨?_, ?_⟩⟩ <;> split <;> (try split) <;> omega
theorem shrinkP {a b : Int} (ha : 0 ≤ a) (hb : 0 ≤ b) (a1 : a ≤ 1073741824) (b1 : b ≤ 1073741824) (h : a * a + b * b ≤ 1152921504606846976 + 2147483648) : shV a * shV a + shV b * shV b ≤ 1152921504606846976 := by
  have sq : ∀ {x : Int}, 0 ≤ x → x ≤ 1073741823 → x * x ≤ 1152921504606846976 - 2147483647 := fun h0 h1 => by
    have := Int.mul_le_mul h1 h1 h0 (by omega); omega
  unfold shV
  by_cases ha0 : 0 < a
  · rw [if_pos ha0]
    by_cases hb0 : 0 < b
    · rw [if_pos hb0]
      by_cases hs : 1073741825 ≤ a + b
      · have : (a - 1) * (a - 1) + (b - 1) * (b - 1) = a * a + b * b - 2 * (a + b) + 2 := by grind
        omega
      · have h1 : (a - 1) * (a - 1) + (b - 1) * (b - 1) + 2 * ((a - 1) * (b - 1)) = (a + b - 2) * (a + b - 2) := by grind
        have h2 := Int.mul_nonneg (show 0 ≤ a - 1 by omega) (show 0 ≤ b - 1 by omega)
        have h3 := sq (x := a + b - 2) (by omega) (by omega)
        omega
    · rw [if_neg hb0, if_neg (by omega)]
      have := sq (x := a - 1) (by omega) (by omega)
      omega
  · rw [if_neg ha0, if_neg (by omega)]
    by_cases hb0 : 0 < b
    · rw [if_pos hb0]
      have := sq (x := b - 1) (by omega) (by omega)
      omega
    · rw [if_neg hb0, if_neg (by omega)]
      omega
theorem shV_neg (x : Int) : shV (-x) = -shV x := by
  unfold shV
  split <;> split <;> (try split) <;> (try split) <;> omega
theorem shrink {a b : Int} (ha : -1073741824 ≤ a ∧ a ≤ 1073741824) (hb : -1073741824 ≤ b ∧ b ≤ 1073741824) (h : a * a + b * b ≤ 1152921504606846976 + 2147483648) : shV a * shV a + shV b * shV b ≤ 1152921504606846976 := by
  rcases Int.le_total 0 a with h1 | h1 <;> rcases Int.le_total 0 b with h2 | h2
  · exact shrinkP h1 h2 (by omega) (by omega) h
  · have := shrinkP (b := -b) h1 (by omega) (by omega) (by omega) (by rw [Int.neg_mul_neg]; exact h)
    rw [shV_neg, Int.neg_mul_neg] at this; exact this
  · have := shrinkP (a := -a) (by omega) h2 (by omega) (by omega) (by rw [Int.neg_mul_neg]; exact h)
    rw [shV_neg, Int.neg_mul_neg] at this; exact this
  · have := shrinkP (a := -a) (b := -b) (by omega) (by omega) (by omega) (by omega) (by rw [Int.neg_mul_neg, Int.neg_mul_neg]; exact h)
    rw [shV_neg, Int.neg_mul_neg, shV_neg, Int.neg_mul_neg] at this; exact this
theorem csch (a b c d : Int) : (a * c + b * d) * (a * c + b * d) ≤ (a * a + b * b) * (c * c + d * d) := by
  have h : (a * a + b * b) * (c * c + d * d) = (a * c + b * d) * (a * c + b * d) + (a * d - b * c) * (a * d - b * c) := by grind
  have := sq_nn (a * d - b * c)
  omega
/-- What is in all bounds, and not longer than its direction. -/
theorem in_one {x y z c s p q L : Int} (hL : 0 ≤ L) (h1 : c * c + s * s ≤ 1152921504606846976) (h2 : p * p + q * q ≤ 1152921504606846976)
    (hl : (x * x + y * y + z * z) * 1099511627776 ≤ L * L) :
    -(1152921504606846976 * L) ≤ (z * q * 1073741824 + p * (x * c + y * s)) * 1048576 ∧ (z * q * 1073741824 + p * (x * c + y * s)) * 1048576 ≤ 1152921504606846976 * L := by
  refine sq_le (by omega) ?_
  have a1 := csch x y c s
  have a2 : (x * x + y * y) * (c * c + s * s) ≤ (x * x + y * y) * 1152921504606846976 := Int.mul_le_mul_of_nonneg_left h1 (by have := sq_nn x; have := sq_nn y; omega)
  generalize x * c + y * s = w at *
  have b1 := csch (z * 1073741824) w q p
  have b0 : z * 1073741824 * q + w * p = z * q * 1073741824 + p * w := by grind
  rw [b0] at b1
  generalize z * q * 1073741824 + p * w = V at *
  have b2 : z * 1073741824 * (z * 1073741824) + w * w ≤ (x * x + y * y + z * z) * 1152921504606846976 := by
    have : z * 1073741824 * (z * 1073741824) = z * z * 1152921504606846976 := by grind
    omega
  have b3 : 0 ≤ q * q + p * p := by have := sq_nn q; have := sq_nn p; omega
  have b4 := Int.mul_le_mul_of_nonneg_right b2 b3
  have b5 : 0 ≤ (x * x + y * y + z * z) * 1152921504606846976 := by have := sq_nn x; have := sq_nn y; have := sq_nn z; omega
  have b6 := Int.mul_le_mul_of_nonneg_left (show q * q + p * p ≤ 1152921504606846976 by omega) b5
  have e1 : V * 1048576 * (V * 1048576) = V * V * 1099511627776 := by grind
  have e2 : 1152921504606846976 * L * (1152921504606846976 * L) = 1152921504606846976 * 1152921504606846976 * (L * L) := by grind
  rw [e1, e2]
  generalize V * V = VV at *
  generalize x * x + y * y + z * z = n at *
  generalize L * L = LL at *
  generalize (z * 1073741824 * (z * 1073741824) + w * w) * (q * q + p * p) = T at *
  generalize n * 1152921504606846976 * (q * q + p * p) = T2 at *
  omega
/-- A grown direction is long. -/
theorem gk_max {v : V3} : ∀ (n : Nat) (k : Int), 1 ≤ k → 1048576 < 2 ^ n * k → vE ⟨v.x * k, v.y * k, v.z * k⟩ = 0 → vE ⟨v.x * gk n v k * 2, v.y * gk n v k * 2, v.z * gk n v k * 2⟩ ≠ 0
  | 0, k, hk, hn, h => by
    have := big_in (by omega) h
    omega
  | n + 1, k, hk, hn, h => by
    have d2 : ∀ x : Int, x * k * 2 = x * (k * 2) := fun x => Int.mul_assoc _ _ _
    by_cases g : vE ⟨v.x * k * 2, v.y * k * 2, v.z * k * 2⟩ = 0
    · rw [gk, if_pos g]
      rw [d2, d2, d2] at g
      exact gk_max n (k * 2) (by omega) (by rw [Int.pow_succ] at hn; rw [Int.mul_comm k 2, ← Int.mul_assoc]; exact hn) g
    · rw [gk, if_neg g]; exact g
theorem gr_long {v : V3} (h : vE v = 0) : 274877906944 ≤ nnV v ∧ nnV v ≤ 3298534883328 := by
  have hin := gr_in h
  have hm := gk_max (v := v) 21 1 (by omega) (by omega) (by simpa using h)
  have e : grV v = ⟨v.x * gk 21 v 1, v.y * gk 21 v 1, v.z * gk 21 v 1⟩ := if_pos h
  have h0 := vE_iff.1 (gr_ok h)
  have s1 := sq_bd hin.1.1 hin.1.2
  have s2 := sq_bd hin.2.1.1 hin.2.1.2
  have s3 := sq_bd hin.2.2.1 hin.2.2.2
  refine ⟨?_, by unfold nnV; omega⟩
  rw [Ne, vE_iff] at hm
  rw [e] at h0
  simp only at hm h0
  have big : ∀ x : Int, (x < -524288 ∨ 524288 < x) → 274877906944 ≤ x * x := fun x hx => by
    rcases hx with hx | hx
    · have := sq_lt (a := -x) (b := 524288) (by omega) (by omega); rw [Int.neg_mul_neg] at this; omega
    · have := sq_lt (a := x) (b := 524288) (by omega) (by omega); omega
  unfold nnV
  rw [e]
  simp only
  have n1 := sq_nn (v.x * gk 21 v 1)
  have n2 := sq_nn (v.y * gk 21 v 1)
  have n3 := sq_nn (v.z * gk 21 v 1)
  by_cases c1 : v.x * gk 21 v 1 < -524288 ∨ 524288 < v.x * gk 21 v 1
  · have := big _ c1; omega
  · by_cases c2 : v.y * gk 21 v 1 < -524288 ∨ 524288 < v.y * gk 21 v 1
    · have := big _ c2; omega
    · by_cases c3 : v.z * gk 21 v 1 < -524288 ∨ 524288 < v.z * gk 21 v 1
      · have := big _ c3; omega
      · exfalso; apply hm; omega
/-- A bound lies in a range. -/
def Rg (z : Bd) (m M : Int) : Prop := knB z = true ∧ m ≤ z.lo ∧ z.lo ≤ z.hi ∧ z.hi ≤ M
theorem hull_rg {p q : Bd} {m M : Int} (hp : Rg p m M) (hq : Rg q m M) : Rg (hullB p q) m M := by
  obtain ⟨p1, p2, p3, p4⟩ := hp
  obtain ⟨q1, q2, q3, q4⟩ := hq
  have kp := knB_iff.1 p1
  have kq := knB_iff.1 q1
  have a := minI_sp p.lo q.lo
  have b := maxI_sp p.hi q.hi
  obtain ⟨e, k⟩ := op2_mk (f := minI p.lo q.lo) (g := maxI p.hi q.hi) p1 q1 (by omega) (by omega) (by omega)
  have e : hullB p q = ⟨minI p.lo q.lo, maxI p.hi q.hi, false⟩ := e
  unfold Rg
  rw [e]
  exact ⟨k, by simp only; omega, by simp only; omega, by simp only; omega⟩
theorem add_rg {p q : Bd} {m M n K : Int} (hp : Rg p m M) (hq : Rg q n K) (h1 : -1152921504606846976 ≤ m + n) (h2 : M + K ≤ 1152921504606846976) : Rg (addB p q) (m + n) (M + K) := by
  obtain ⟨p1, p2, p3, p4⟩ := hp
  obtain ⟨q1, q2, q3, q4⟩ := hq
  obtain ⟨e, k⟩ := op2_mk (f := p.lo + q.lo) (g := p.hi + q.hi) p1 q1 (by omega) (by omega) (by omega)
  have e : addB p q = ⟨p.lo + q.lo, p.hi + q.hi, false⟩ := e
  unfold Rg
  rw [e]
  exact ⟨k, by simp only; omega, by simp only; omega, by simp only; omega⟩
theorem Rg.wide {z : Bd} {m M n K : Int} (h : Rg z m M) (h1 : n ≤ m) (h2 : M ≤ K) : Rg z n K := ⟨h.1, by have := h.2; omega, by have := h.2; omega, by have := h.2; omega⟩
theorem Q_rg {p d m M : Int} (hd : 1 ≤ d) (h1 : m ≤ p / d) (h2 : (p + (d - 1)) / d ≤ M) (h3 : -1152921504606846976 ≤ m) (h4 : M ≤ 1152921504606846976) : Rg (Q p d) m M := by
  obtain ⟨e, k⟩ := Q_mk hd (Int.le_trans h3 h1) (Int.le_trans h2 h4)
  have := fl_le_ce p d hd
  unfold Rg
  rw [e]
  exact ⟨by rw [← e]; exact k, h1, this, h2⟩
theorem hull4_rg {p q r s : Bd} {m M : Int} (hp : Rg p m M) (hq : Rg q m M) (hr : Rg r m M) (hs : Rg s m M) : Rg (hull4 p q r s) m M := hull_rg (hull_rg hp hq) (hull_rg hr hs)
theorem sca_rg {a : Bd} {k : Int} (ha : Rg a (-1073741824) 1073741824) (hk : -1048576 ≤ k ∧ k ≤ 1048576) : Rg (scaB a k 1) (-1125899906842624) 1125899906842624 := by
  have hn : inB k = true := inB_iff.2 (by omega)
  have e : scaB a k 1 = hullB (Q (a.lo * k) 1) (Q (a.hi * k) 1) := by unfold scaB; rw [ha.1, hn]; rfl
  rw [e]
  obtain ⟨h1, h2, h3, h4⟩ := ha
  have m1 := mul_bd (x := a.lo) (X := 1073741824) (y := k) (Y := 1048576) (by omega) hk
  have m2 := mul_bd (x := a.hi) (X := 1073741824) (y := k) (Y := 1048576) (by omega) hk
  refine hull_rg (Q_rg (by omega) ?_ ?_ (by omega) (by omega)) (Q_rg (by omega) ?_ ?_ (by omega) (by omega)) <;> rw [Int.ediv_one] <;> omega
theorem mul_rg {a b : Bd} (ha : Rg a (-1073741824) 1073741824) (hb : Rg b (-2251799813685248) 2251799813685248) : Rg (mulB a b 1073741824) (-2251799813685249) 2251799813685249 := by
  have e : mulB a b 1073741824 = hull4 (Q (a.lo * b.lo * 1) 1073741824) (Q (a.lo * b.hi * 1) 1073741824) (Q (a.hi * b.lo * 1) 1073741824) (Q (a.hi * b.hi * 1) 1073741824) ∨ True := .inr trivial
  obtain ⟨a1, a2, a3, a4⟩ := ha
  obtain ⟨b1, b2, b3, b4⟩ := hb
  have key : ∀ x y : Int, -1073741824 ≤ x ∧ x ≤ 1073741824 → -2251799813685248 ≤ y ∧ y ≤ 2251799813685248 → Rg (quotB x y 1073741824) (-2251799813685249) 2251799813685249 := fun x y hx hy => by
    have m := mul_bd hx hy
    rw [quotB_Q]
    exact Q_rg (by omega) (by omega) (by omega) (by omega) (by omega)
  have e : mulB a b 1073741824 = hull4 (quotB a.lo b.lo 1073741824) (quotB a.lo b.hi 1073741824) (quotB a.hi b.lo 1073741824) (quotB a.hi b.hi 1073741824) := by unfold mulB; rw [a1, b1]; rfl
  rw [e]
  exact hull4_rg (key _ _ (by omega) (by omega)) (key _ _ (by omega) (by omega)) (key _ _ (by omega) (by omega)) (key _ _ (by omega) (by omega))
theorem div_rg {a b : Bd} (ha : Rg a (-4503599627370496) 4503599627370496) (hb : Rg b 549755813888 4398046511104) : Rg (divB a b 1048576) (-17179869184) 17179869184 := by
  obtain ⟨a1, a2, a3, a4⟩ := ha
  obtain ⟨b1, b2, b3, b4⟩ := hb
  have key : ∀ x y : Int, -4503599627370496 ≤ x ∧ x ≤ 4503599627370496 → 549755813888 ≤ y → Rg (quotB x 1048576 y) (-17179869184) 17179869184 := fun x y hx hy => by
    rw [quotB_Q]
    have f1 := div_mono (p := -(4503599627370496 * 1048576)) (y := 549755813888) (z := y) (by omega) (by omega) hy
    have f2 := fl_mono (p := -(4503599627370496 * 1048576)) (q := x * 1048576) (d := y) (by omega) (by omega)
    have g1 := div_anti (p := 4503599627370496 * 1048576) (y := 549755813888) (z := y) (by omega) (by omega) hy
    have g2 : (x * 1048576 + (y - 1)) / y ≤ (4503599627370496 * 1048576) / y + 1 := by
      have := fl_mono (p := x * 1048576 + (y - 1)) (q := 4503599627370496 * 1048576 + 1 * y) (d := y) (by omega) (by omega)
      rw [Int.add_mul_ediv_right _ _ (by omega)] at this
      exact this
    refine Q_rg (by omega) ?_ ?_ (by omega) (by omega)
    · refine Int.le_trans ?_ f2; refine Int.le_trans ?_ f1; decide
    · have : (4503599627370496 * 1048576 : Int) / 549755813888 = 8589934592 := by decide
      omega
  have h0 : hasB b 0 = false := no0 b1 (.inl (by omega))
  have e : divB a b 1048576 = div4 a b 1048576 := by
    unfold divB
    rw [a1, h0, show decide ((1048576 : Int) < 1) = false from by decide, show decide (b.hi < 0) = false from decide_eq_false (by omega)]; rfl
  rw [e]
  exact hull4_rg (key _ _ (by omega) (by omega)) (key _ _ (by omega) (by omega)) (key _ _ (by omega) (by omega)) (key _ _ (by omega) (by omega))
theorem isqI_sq {x n : Int} (hx : 0 ≤ x) (hn : 0 ≤ n) : isqI x n * isqI x n ≤ x * n ∧ x * n < (isqI x n + 1) * (isqI x n + 1) ∧ 0 ≤ isqI x n := by
  obtain ⟨a, rfl⟩ := Int.eq_ofNat_of_zero_le hx
  obtain ⟨b, rfl⟩ := Int.eq_ofNat_of_zero_le hn
  have q := isq_spec (a * b)
  unfold isqI
  simp only [Int.toNat_natCast]
  exact ⟨by exact_mod_cast q.1, by exact_mod_cast q.2, by omega⟩
theorem root_one {x n : Int} (h1 : 0 ≤ x) (h2 : x ≤ 1152921504606846976) (hn : 1 ≤ n) : rootB (ofB x x) n = ofB (isqI x n) (rootUp x n) := by
  obtain ⟨e1, k1⟩ := ofB_mk (lo := x) (hi := x) (by omega) (Int.le_refl _) h2
  unfold rootB
  rw [e1, k1, decide_eq_false (show ¬ n < 1 by omega)]
  simp only
  rw [decide_eq_false (show ¬ x < 0 by omega), show maxI x 0 = x by unfold maxI; split <;> omega]
  rfl
theorem rootUp_sq {x n : Int} (hx : 0 ≤ x) (hn : 0 ≤ n) : x * n ≤ rootUp x n * rootUp x n := by
  have q := isqI_sq hx hn
  unfold rootUp
  by_cases hlt : isqI x n * isqI x n < x * n
  · rw [decide_eq_true hlt]; simp only [cond_true]; omega
  · rw [decide_eq_false hlt]; simp only [cond_false]; omega
/-- The length, rounded down. -/
def lnV (v : V3) : Int := isqI (nnV v) 1099511627776
theorem ln_sq {v : V3} (h : vE v = 0) : lnV v * lnV v ≤ nnV v * 1099511627776 ∧ nnV v * 1099511627776 < (lnV v + 1) * (lnV v + 1) ∧ 549755813888 ≤ lnV v ∧ lnV v ≤ 2199023255552 := by
  obtain ⟨g1, g2⟩ := gr_long h
  obtain ⟨q1, q2, q0⟩ := isqI_sq (x := nnV v) (n := 1099511627776) (by omega) (by omega)
  rw [show isqI (nnV v) 1099511627776 = lnV v from rfl] at q1 q2 q0
  refine ⟨q1, q2, ?_, ?_⟩
  · apply Int.not_lt.1; intro hc
    have := sq_bd (a := lnV v + 1) (b := 549755813888) (by omega) (by omega)
    omega
  · apply Int.not_lt.1; intro hc
    have := sq_lt (a := lnV v) (b := 2199023255552) (by omega) hc
    omega
theorem hTN_rg {v : V3} (h : vE v = 0) : Rg (hTN v) 549755813888 4398046511104 ∧ (hTN v).lo = lnV v ∧ nnV v * 1099511627776 ≤ (hTN v).hi * (hTN v).hi ∧ (hTN v).hi ≤ lnV v + 1 := by
  obtain ⟨g1, g2⟩ := gr_long h
  obtain ⟨l1, l2, l3, l4⟩ := ln_sq h
  have e : hTN v = ofB (isqI (nnV v) 1099511627776) (rootUp (nnV v) 1099511627776) := root_one (by omega) (by omega) (by omega)
  have r := rootUp_ge (nnV v) 1099511627776
  have rs := rootUp_sq (x := nnV v) (n := 1099511627776) (by omega) (by omega)
  rw [show isqI (nnV v) 1099511627776 = lnV v from rfl] at r e
  generalize rootUp (nnV v) 1099511627776 = U at *
  obtain ⟨e2, k2⟩ := ofB_mk (lo := lnV v) (hi := U) (by omega) r.1 (by omega)
  rw [e2] at e
  unfold Rg
  rw [e]
  exact ⟨⟨k2, by simp only; omega, r.1, by simp only; omega⟩, rfl, rs, r.2⟩
theorem wave_rg (f : Int → Int) (s : Int) (hf : ∀ x, f x = sinV (x + s)) {a : Bd} (h : knB a = true) : Rg (waveV f (1073741824 - s) a) (-1073741824) 1073741824 := by
  have k := wave_kn hf a
  have w := wave_in hf a
  have e : waveV f (1073741824 - s) a = ⟨wLo f (1073741824 - s) a, wHi f (1073741824 - s) a, false⟩ := by unfold waveV; rw [h]; rfl
  unfold Rg
  rw [k, h, e]
  exact ⟨rfl, w⟩
/-- A sine less a unit is still admitted. -/
theorem wave_sh (f : Int → Int) (s : Int) (hf : ∀ x, f x = sinV (x + s)) {a : Bd} (h : knB a = true) : hasB (waveV f (1073741824 - s) a) (shV (f a.lo)) = true := by
  have e : waveV f (1073741824 - s) a = ⟨wLo f (1073741824 - s) a, wHi f (1073741824 - s) a, false⟩ := by unfold waveV; rw [h]; rfl
  rw [hasB_iff]
  intro _
  rw [e]
  simp only
  have r := f_in hf a.lo
  have n := shV_near (f a.lo)
  have n3 := n.2.2 1073741824 r.1 r.2
  have m1 := minI_eq (f a.lo) (f a.hi)
  have m2 := maxI_eq (f a.lo) (f a.hi)
  have m3 := minI_eq 1073741824 (maxI (f a.lo) (f a.hi) + 1)
  have m4 := maxI_eq (-1073741824) (minI (f a.lo) (f a.hi) - 1)
  unfold wLo wHi
  cases admV a (1073741824 - s) <;> cases admV a (1073741824 - s + 2147483648) <;> simp only [cond_true, cond_false] <;> omega
theorem loc_kn {s : Si} {b : Bd} (h : (hLoc s b).u = false) : knB (hLoc s b) = true := by
  unfold hLoc addB at h ⊢
  cases hk : knB b && knB (ofB s.lon s.lon) with
  | false => rw [hk] at h; cases h
  | true =>
    rw [hk] at h
    simp only [cond_true] at h ⊢
    unfold ofB normB at h ⊢
    cases hn : knB (⟨b.lo + (bif knB ⟨s.lon, s.lon, false⟩ then (⟨s.lon, s.lon, false⟩ : Bd) else noneB).lo, b.hi + (bif knB ⟨s.lon, s.lon, false⟩ then (⟨s.lon, s.lon, false⟩ : Bd) else noneB).hi, false⟩ : Bd) with
    | false => rw [hn] at h; cases h
    | true => rw [cond_true]; exact hn
theorem lat_kn {s : Si} (h : sE s = 0) : ofB s.lat s.lat = ⟨s.lat, s.lat, false⟩ ∧ knB (ofB s.lat s.lat) = true := by
  have := sE_iff.1 h
  obtain ⟨e, k⟩ := ofB_mk (lo := s.lat) (hi := s.lat) (by omega) (Int.le_refl _) (by omega)
  exact ⟨e, by rw [e]; exact k⟩
theorem hTA_rg {s : Si} (h : sE s = 0) : Rg (hTA s) (-1073741824) 1073741824 := wave_rg sinV 0 sin_s (lat_kn h).2
theorem hTB_rg {s : Si} (h : sE s = 0) : Rg (hTB s) (-1073741824) 1073741824 := wave_rg cosV 1073741824 cos_s (lat_kn h).2
theorem hTC_rg {s : Si} {b : Bd} (h : (hLoc s b).u = false) : Rg (hTC s b) (-1073741824) 1073741824 := wave_rg cosV 1073741824 cos_s (loc_kn h)
theorem hTD_rg {s : Si} {b : Bd} (h : (hLoc s b).u = false) : Rg (hTD s b) (-1073741824) 1073741824 := wave_rg sinV 0 sin_s (loc_kn h)
theorem hTE_rg {s : Si} {b : Bd} {v : V3} (hv : vE v = 0) (h : (hLoc s b).u = false) : Rg (hTE s b v) (-2251799813685248) 2251799813685248 := by
  have g := gr_in hv
  exact (add_rg (sca_rg (hTC_rg h) g.1) (sca_rg (hTD_rg h) g.2.1) (by omega) (by omega)).wide (by omega) (by omega)
theorem hTU_rg {s : Si} {b : Bd} {v : V3} (hq : hQ s b v) : Rg (hTU s b v) (-4503599627370496) 4503599627370496 := by
  obtain ⟨hs, hv, h⟩ := hq
  have g := gr_in hv
  exact (add_rg (sca_rg (hTA_rg hs) g.2.2) (mul_rg (hTB_rg hs) (hTE_rg hv h)) (by omega) (by omega)).wide (by omega) (by omega)
theorem hTV_rg {s : Si} {b : Bd} {v : V3} (hq : hQ s b v) : Rg (hTV s b v) (-17179869184) 17179869184 := div_rg (hTU_rg hq) (hTN_rg hq.2.1).1
/-- What the sum admits: any sines and cosines within their bounds. -/
theorem hTU_has {s : Si} {b : Bd} {v : V3} (hq : hQ s b v) {c d p q : Int} (hc : hasB (hTC s b) c = true) (hd : hasB (hTD s b) d = true) (hp : hasB (hTB s) p = true) (hqq : hasB (hTA s) q = true) :
    (hTU s b v).lo * 1073741824 ≤ (grV v).z * q * 1073741824 + p * ((grV v).x * c + (grV v).y * d) ∧ (grV v).z * q * 1073741824 + p * ((grV v).x * c + (grV v).y * d) ≤ (hTU s b v).hi * 1073741824 := by
  have ku := (hTU_rg hq).1
  have f1 : ∀ z : Int, fdV z 1 = z := fun z => by unfold fdV; rw [if_neg (by omega), Int.ediv_one]
  have e1 := (has_sca (n := (grV v).x) (d := 1) (by omega) hc).1
  have e2 := (has_sca (n := (grV v).y) (d := 1) (by omega) hd).1
  have e3 := (has_sca (n := (grV v).z) (d := 1) (by omega) hqq).1
  rw [f1] at e1 e2 e3
  have w : hasB (hTE s b v) (c * (grV v).x + d * (grV v).y) = true := has_add e1 e2
  have m := has_mul (n := 1073741824) (by omega) hp w
  have u1 := (hasB_iff (b := hTU s b v)).1 (has_add e3 m.1) ku
  have u2 := (hasB_iff (b := hTU s b v)).1 (has_add e3 m.2) ku
  have ew : (grV v).x * c + (grV v).y * d = c * (grV v).x + d * (grV v).y := by rw [Int.mul_comm c, Int.mul_comm d]
  have ez : (grV v).z * q = q * (grV v).z := Int.mul_comm _ _
  rw [ew, ez]
  generalize p * (c * (grV v).x + d * (grV v).y) = P at *
  generalize q * (grV v).z = Z at *
  unfold fdV at u1
  unfold cdV at u2
  rw [if_neg (by omega)] at u1 u2
  constructor
  · have := u1.1; omega
  · have := u2.2; omega
theorem hTV_lo {s : Si} {b : Bd} {v : V3} (hq : hQ s b v) {y : Int} (hy : hasB (hTN v) y = true) (h1 : 1 ≤ y) : (hTV s b v).lo * y ≤ (hTU s b v).lo * 1048576 ∧ (hTU s b v).hi * 1048576 ≤ (hTV s b v).hi * y := by
  have kv := (hTV_rg hq).1
  have ku := (hTU_rg hq)
  have a1 : hasB (hTU s b v) (hTU s b v).lo = true := hasB_iff.2 fun _ => ⟨Int.le_refl _, ku.2.2.1⟩
  have a2 : hasB (hTU s b v) (hTU s b v).hi = true := hasB_iff.2 fun _ => ⟨ku.2.2.1, Int.le_refl _⟩
  have d1 := (hasB_iff (b := hTV s b v)).1 (has_div (n := 1048576) (by omega) a1 hy (.inl ⟨h1, rfl, rfl⟩)).1 kv
  have d2 := (hasB_iff (b := hTV s b v)).1 (has_div (n := 1048576) (by omega) a2 hy (.inl ⟨h1, rfl, rfl⟩)).2 kv
  unfold fdV at d1
  unfold cdV at d2
  rw [if_neg (by omega)] at d1 d2
  constructor
  · have := Int.mul_le_mul_of_nonneg_right d1.1 (show 0 ≤ y by omega)
    have := Int.ediv_mul_le ((hTU s b v).lo * 1048576) (show y ≠ 0 by omega)
    exact Int.le_trans (by assumption) this
  · have e := Int.ediv_mul_le (-((hTU s b v).hi * 1048576)) (show y ≠ 0 by omega)
    have := Int.mul_le_mul_of_nonneg_right d2.2 (show 0 ≤ y by omega)
    rw [Int.neg_mul] at this
    generalize -((hTU s b v).hi * 1048576) / y * y = T at *
    omega
/-- The bound of the height is known. -/
theorem ht_known {s : Si} {b : Bd} {v : V3} (hq : hQ s b v) : htV s b v = ⟨maxI (hTV s b v).lo (-1073741824), minI (hTV s b v).hi 1073741824, false⟩ ∧ knB (htV s b v) = true := by
  obtain ⟨hs, hv, hu⟩ := hq
  have hq : hQ s b v := ⟨hs, hv, hu⟩
  obtain ⟨n1, n2, n3, n4⟩ := hTN_rg hv
  have nk := n1.2
  have c0 := circle (hLoc s b).lo
  have c1 := shrink (a := cosV (hLoc s b).lo) (b := sinV (hLoc s b).lo) (cos_range _) (sin_range _) (by have := c0.2; omega)
  have p0 := circle s.lat
  have p1 := shrink (a := cosV s.lat) (b := sinV s.lat) (cos_range _) (sin_range _) (by have := p0.2; omega)
  have hc : hasB (hTC s b) (shV (cosV (hLoc s b).lo)) = true := wave_sh cosV 1073741824 cos_s (loc_kn hu)
  have hd : hasB (hTD s b) (shV (sinV (hLoc s b).lo)) = true := wave_sh sinV 0 sin_s (loc_kn hu)
  have hl := lat_kn hs
  have hp : hasB (hTB s) (shV (cosV s.lat)) = true := by have := wave_sh cosV 1073741824 cos_s hl.2; rw [show (ofB s.lat s.lat).lo = s.lat by rw [hl.1]] at this; exact this
  have ha : hasB (hTA s) (shV (sinV s.lat)) = true := by have := wave_sh sinV 0 sin_s hl.2; rw [show (ofB s.lat s.lat).lo = s.lat by rw [hl.1]] at this; exact this
  have u := hTU_has hq hc hd hp ha
  have o := in_one (x := (grV v).x) (y := (grV v).y) (z := (grV v).z) (L := (hTN v).hi) (by omega) c1 p1 n3
  have hy : hasB (hTN v) (hTN v).hi = true := hasB_iff.2 fun _ => ⟨nk.2.1, Int.le_refl _⟩
  have w := hTV_lo hq hy (by omega)
  have rv := hTV_rg hq
  obtain ⟨e1, k1⟩ := ofB_mk (lo := -1073741824) (hi := 1073741824) (by omega) (by omega) (by omega)
  generalize hL : (hTN v).hi = L at *
  have lo : (hTV s b v).lo ≤ 1073741824 := by
    apply Int.not_lt.1; intro hc
    have := Int.mul_le_mul_of_nonneg_right (show (1073741825 : Int) ≤ (hTV s b v).lo by omega) (show 0 ≤ L by omega)
    omega
  have hi : -1073741824 ≤ (hTV s b v).hi := by
    apply Int.not_lt.1; intro hc
    have := Int.mul_le_mul_of_nonneg_right (show (hTV s b v).hi ≤ (-1073741825 : Int) by omega) (show 0 ≤ L by omega)
    omega
  have hm : meetO (hTV s b v) (ofB (-1073741824) 1073741824) = true := by
    unfold meetO
    rw [e1]
    rw [rv.1, k1, (cmp0 rv.1 k1).2 ⟨hi, lo⟩]; rfl
  have kn := meet_kn rv.1 (by rw [e1]; exact k1) hm
  have e : htV s b v = meetB (hTV s b v) (ofB (-1073741824) 1073741824) := if_pos hq
  rw [e]
  have e2 := kn.2.2.1
  rw [e1] at e2
  refine ⟨?_, kn.2.2.2⟩
  rw [e1]; exact e2
end Go.Proofs.Ytagbpehfieejcaa.AtHz

