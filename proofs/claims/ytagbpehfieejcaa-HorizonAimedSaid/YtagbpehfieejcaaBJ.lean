/-
  Bounds: what they admit, their results admit (no program).
  Conditions: those of each lemma.
-/
import Derived.Test.YtagbpehfieejcaaBI
set_option linter.unusedVariables false
set_option linter.unusedSimpArgs false
namespace Go.Proofs.Ytagbpehfieejcaa
open Go.RowKit Ev Wd

theorem hasB_iff {b : Bd} {v : Int} : hasB b v = true ↔ (knB b = true → b.lo ≤ v ∧ v ≤ b.hi) := by
  unfold hasB
  cases knB b <;> simp
theorem has_op2 {a b : Bd} {f g x y v : Int} (ha : hasB a x = true) (hb : hasB b y = true)
    (h : knB a = true → knB b = true → a.lo ≤ x → x ≤ a.hi → b.lo ≤ y → y ≤ b.hi → f ≤ v ∧ v ≤ g) : hasB (op2 a b f g) v = true := hasB_iff.2 fun hk => by
  obtain ⟨ka, kb, e, r1, r2, r3⟩ := op2_kn hk
  obtain ⟨a1, a2⟩ := hasB_iff.1 ha ka
  obtain ⟨b1, b2⟩ := hasB_iff.1 hb kb
  rw [e]
  exact h ka kb a1 a2 b1 b2
theorem has_neg {a : Bd} {x : Int} (ha : hasB a x = true) : hasB (negB a) (-x) = true := by
  rw [negB_op]; exact has_op2 ha ha fun _ _ _ _ _ _ => by omega
theorem has_abs {a : Bd} {x : Int} (ha : hasB a x = true) : hasB (absB a) (maxI x (-x)) = true := by
  rw [absB_op]; exact has_op2 ha ha fun _ _ _ _ _ _ => by
    have := maxI_sp (maxI 0 a.lo) (-a.hi); have := maxI_sp 0 a.lo; have := maxI_sp (-a.lo) a.hi; have := maxI_sp x (-x); omega
section
variable {a b : Bd} {x y : Int} (ha : hasB a x = true) (hb : hasB b y = true)
include ha hb
theorem has_add : hasB (addB a b) (x + y) = true := has_op2 ha hb fun _ _ _ _ _ _ => by omega
theorem has_sub : hasB (subB a b) (x - y) = true := by
  have := has_neg hb
  have h : hasB (addB a (negB b)) (x + -y) = true := has_op2 ha this fun _ _ _ _ _ _ => by omega
  rw [show x - y = x + -y by omega]; exact h
theorem has_min : hasB (minB a b) (minI x y) = true := has_op2 ha hb fun _ _ _ _ _ _ => by
  have := minI_sp x y; have := minI_sp a.lo b.lo; have := minI_sp a.hi b.hi; omega
theorem has_max : hasB (maxB a b) (maxI x y) = true := has_op2 ha hb fun _ _ _ _ _ _ => by
  have := maxI_sp x y; have := maxI_sp a.lo b.lo; have := maxI_sp a.hi b.hi; omega
theorem has_hull1 : hasB (hullB a b) x = true := has_op2 ha hb fun _ _ _ _ _ _ => by
  have := minI_sp a.lo b.lo; have := maxI_sp a.hi b.hi; omega
theorem has_hull2 : hasB (hullB a b) y = true := has_op2 ha hb fun _ _ _ _ _ _ => by
  have := minI_sp a.lo b.lo; have := maxI_sp a.hi b.hi; omega
end
theorem has_Q {z : Bd} {p d : Int} (hd : 1 ≤ d) (h : insB (Q p d) z = true) : hasB z (fdV p d) = true ∧ hasB z (cdV p d) = true := by
  have e1 : fdV p d = p / d := by unfold fdV; rw [if_neg (by omega)]
  have e2 : cdV p d = (p + (d - 1)) / d := by unfold cdV; rw [if_neg (by omega), ce_eq p d hd]
  have m := fl_le_ce p d hd
  have key : knB z = true → z.lo ≤ p / d ∧ (p + (d - 1)) / d ≤ z.hi := fun hk => by
    obtain ⟨k, c1, c2⟩ := insB_iff.1 h hk
    rw [(Q_kn k).2.1] at c1 c2
    exact ⟨c1, c2⟩
  rw [e1, e2]
  exact ⟨hasB_iff.2 fun hk => by have := key hk; omega, hasB_iff.2 fun hk => by have := key hk; omega⟩
theorem has_no {z : Bd} {v : Int} (h : knB z = false) : hasB z v = true := hasB_iff.2 fun hk => by rw [h] at hk; cases hk
theorem has_mul {a b : Bd} {x y n : Int} (hn : 1 ≤ n) (ha : hasB a x = true) (hb : hasB b y = true) : hasB (mulB a b n) (fdV (x * y) n) = true ∧ hasB (mulB a b n) (cdV (x * y) n) = true := by
  unfold mulB
  cases ka : knB a with
  | false => exact ⟨has_no rfl, has_no rfl⟩
  | true =>
    cases kb : knB b with
    | false => exact ⟨has_no rfl, has_no rfl⟩
    | true =>
      obtain ⟨a1, a2⟩ := hasB_iff.1 ha ka
      obtain ⟨b1, b2⟩ := hasB_iff.1 hb kb
      exact has_Q hn (Q_mul_in a1 a2 b1 b2)
theorem has_sca {a : Bd} {x n d : Int} (hd : 1 ≤ d) (ha : hasB a x = true) : hasB (scaB a n d) (fdV (x * n) d) = true ∧ hasB (scaB a n d) (cdV (x * n) d) = true := by
  unfold scaB
  cases ka : knB a with
  | false => exact ⟨has_no rfl, has_no rfl⟩
  | true =>
    cases hn : inB n with
    | false => exact ⟨has_no rfl, has_no rfl⟩
    | true =>
      obtain ⟨a1, a2⟩ := hasB_iff.1 ha ka
      exact has_Q hd (Q_sca_in a1 a2)
/-- The quotient's bound: of x * n over y, or both negated. -/
theorem has_div {a b : Bd} {x y x' y' n : Int} (hn : 1 ≤ n) (ha : hasB a x = true) (hb : hasB b y = true) (hy : (1 ≤ y ∧ x' = x ∧ y' = y) ∨ (y ≤ -1 ∧ x' = -x ∧ y' = -y)) :
    hasB (divB a b n) (fdV (x' * n) y') = true ∧ hasB (divB a b n) (cdV (x' * n) y') = true := by
  cases ka : knB a with
  | false => unfold divB; rw [ka]; exact ⟨has_no rfl, has_no rfl⟩
  | true =>
    cases h0 : hasB b 0 with
    | true =>
      unfold divB; rw [ka, h0, show decide (n < 1) = false from decide_eq_false (by omega)]; exact ⟨has_no rfl, has_no rfl⟩
    | false =>
      obtain ⟨kb, hs⟩ := has0 h0
      obtain ⟨a1, a2⟩ := hasB_iff.1 ha ka
      obtain ⟨b1, b2⟩ := hasB_iff.1 hb kb
      have gb := knB_iff.1 kb
      unfold divB
      rw [ka, h0, show decide (n < 1) = false from decide_eq_false (by omega)]
      simp only [Bool.not_true, Bool.or_self, cond_false]
      rcases hy with ⟨hy, rfl, rfl⟩ | ⟨hy, rfl, rfl⟩
      · rw [show decide (b.hi < 0) = false from decide_eq_false (by omega)]
        exact has_Q hy (Q_div_in hn (by omega) a1 a2 b1 b2)
      · rw [show decide (b.hi < 0) = true from decide_eq_true (by omega)]
        obtain ⟨ea, na⟩ := neg_of ka; obtain ⟨eb, nb⟩ := neg_of kb
        exact has_Q (show 1 ≤ -y by omega) (Q_div_in hn (by rw [eb]; simp only; omega) (by rw [ea]; simp only; omega) (by rw [ea]; simp only; omega) (by rw [eb]; simp only; omega) (by rw [eb]; simp only; omega))
/-- A root's bound: the root rounded down, and rounded up where it is no root. -/
theorem has_root {a : Bd} {x n : Int} (hn : 1 ≤ n) (hx : 0 ≤ x) (ha : hasB a x = true) (h0 : knB a = true → 0 ≤ a.lo) :
    hasB (rootB a n) (isqI x n) = true ∧ (isqI x n * isqI x n = x * n ∨ hasB (rootB a n) (isqI x n + 1) = true) := by
  have key : knB (rootB a n) = true → (rootB a n).lo ≤ isqI x n ∧ rootUp x n ≤ (rootB a n).hi := fun hk => by
    cases ka : knB a with
    | false => unfold rootB at hk; rw [ka] at hk; cases hk
    | true =>
      obtain ⟨a1, a2⟩ := hasB_iff.1 ha ka
      have ga := knB_iff.1 ka; have ha0 := h0 ka
      have e : rootB a n = ofB (isqI a.lo n) (rootUp a.hi n) := by
        unfold rootB
        rw [ka, show decide (n < 1) = false from decide_eq_false (by omega), show decide (a.hi < 0) = false from decide_eq_false (by omega), show maxI a.lo 0 = a.lo by unfold maxI; split <;> omega]
        rfl
      rw [e] at hk ⊢
      rw [(ofB_kn hk).1]
      exact ⟨isqI_mono a1, rootUp_mono (by omega) a2⟩
  have m := rootUp_ge x n
  refine ⟨hasB_iff.2 fun hk => by have := key hk; omega, ?_⟩
  by_cases hlt : isqI x n * isqI x n < x * n
  · refine .inr (hasB_iff.2 fun hk => ?_)
    have := key hk
    have e : rootUp x n = isqI x n + 1 := by unfold rootUp; rw [decide_eq_true hlt]; rfl
    omega
  · refine .inl ?_
    have h1 : isqI x n * isqI x n ≤ x * n := by
      unfold isqI
      have := (isq_spec (x.toNat * n.toNat)).1
      have e : ((x.toNat * n.toNat : Nat) : Int) = x * n := by rw [Int.natCast_mul, Int.toNat_of_nonneg hx, Int.toNat_of_nonneg (by omega)]
      rw [← e, ← Int.natCast_mul]
      exact Int.ofNat_le.2 this
    omega
end Go.Proofs.Ytagbpehfieejcaa

