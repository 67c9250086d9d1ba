/-
  Clocks that drift: what is known of a clock stays true of it (pure mathematics over package clock's functions).
  Conditions: those of each theorem.
-/
import Derived.Test.YtjegnlnnjcchaaaC3
set_option linter.unusedVariables false
set_option linter.unusedSimpArgs false
namespace Go.Proofs.Ytjegnlnnjcchaaa.AtCk
open Go.RowKit Ev Wd
open Go.Proofs.Ytjegnlnnjcchaaa

/-- A leg's deviation is within a drift. -/
def ppB (d : Int) (r : List Int) : Bool := decide (-d ≤ r.getD 1 0) && decide (r.getD 1 0 ≤ d)
theorem ppB_iff {d : Int} {r : List Int} : ppB d r = true ↔ -d ≤ r.getD 1 0 ∧ r.getD 1 0 ≤ d := by unfold ppB; simp
theorem gnT_nil (x : Int) : gnT [] x = 1000000 * x := by unfold gnT; rw [mlT, lfT]; omega
theorem gnT_cons (r : List Int) (T : List (List Int)) (x : Int) : gnT (r :: T) x = minI x (r.getD 0 0) * (1000000 + r.getD 1 0) + gnT T (x - minI x (r.getD 0 0)) := by unfold gnT; rw [mlT, lfT]; omega
/-- What a clock gains in a time lies between the times at its slowest and at its fastest rate. -/
theorem gn_lip {d : Int} : ∀ {T : List (List Int)} {x y : Int}, T.all lgB = true → T.all (ppB d) = true → 0 ≤ d → d ≤ 100000 → 0 ≤ y → y ≤ x → (x - y) * (1000000 - d) ≤ gnT T x - gnT T y ∧ gnT T x - gnT T y ≤ (x - y) * (1000000 + d)
  | [], x, y, h, hp, h0, h1, hy, hx => by
    rw [gnT_nil, gnT_nil]
    have a : (x - y) * (1000000 - d) ≤ (x - y) * 1000000 := Int.mul_le_mul_of_nonneg_left (by omega) (by omega)
    have b : (x - y) * 1000000 ≤ (x - y) * (1000000 + d) := Int.mul_le_mul_of_nonneg_left (by omega) (by omega)
    omega
  | r :: T, x, y, h, hp, h0, h1, hy, hx => by
    rw [List.all_cons, Bool.and_eq_true] at h hp
    have g := lgB_iff.1 h.1
    have p := ppB_iff.1 hp.1
    rw [gnT_cons, gnT_cons]
    have m : 0 ≤ minI y (r.getD 0 0) ∧ minI y (r.getD 0 0) ≤ y ∧ minI y (r.getD 0 0) ≤ minI x (r.getD 0 0) ∧ minI x (r.getD 0 0) ≤ x ∧ y - minI y (r.getD 0 0) ≤ x - minI x (r.getD 0 0) := by
      unfold minI
      split <;> split <;> omega
    obtain ⟨ih1, ih2⟩ := gn_lip (x := x - minI x (r.getD 0 0)) (y := y - minI y (r.getD 0 0)) h.2 hp.2 h0 h1 (by omega) m.2.2.2.2
    generalize minI x (r.getD 0 0) = u at *
    generalize minI y (r.getD 0 0) = v at *
    generalize r.getD 1 0 = q at *
    have a1 : (u - v) * (1000000 - d) ≤ (u - v) * (1000000 + q) := Int.mul_le_mul_of_nonneg_left (by omega) (by omega)
    have a2 : (u - v) * (1000000 + q) ≤ (u - v) * (1000000 + d) := Int.mul_le_mul_of_nonneg_left (by omega) (by omega)
    have e1 : u * (1000000 + q) - v * (1000000 + q) = (u - v) * (1000000 + q) := by grind
    have e2 : (x - y) * (1000000 - d) = (u - v) * (1000000 - d) + (x - u - (y - v)) * (1000000 - d) := by grind
    have e3 : (x - y) * (1000000 + d) = (u - v) * (1000000 + d) + (x - u - (y - v)) * (1000000 + d) := by grind
    rw [e2, e3]
    omega
theorem has_of {x y v : Int} (h1 : x ≤ v) (h2 : v ≤ y) : hasB (ofB x y) v = true := by
  unfold hasB ofB normB
  cases k : knB ⟨x, y, false⟩ with
  | false => rfl
  | true => simp only [cond_true, k, decide_eq_true h1, decide_eq_true h2]; rfl
theorem has_none (v : Int) : hasB noneB v = true := by unfold hasB; rw [show knB noneB = false by decide]; rfl
/-- What is known of a clock of a simulated run: at some time that At admits it showed Set. -/
structure Tells (s a : Int) (T : List (List Int)) (c : Ck) (q : Int) : Prop where
  ok : ruE s a T = 0
  pp : T.all (ppB c.d) = true
  d0 : 0 ≤ c.d
  d1 : c.d ≤ 100000
  aq : a ≤ q
  set : c.s = s + gnT T (q - a) / 1000000
  lo : c.b.lo ≤ q
  hi : q ≤ c.b.hi
theorem fl_lo {x g h d : Int} (hd : 0 ≤ d) (h0 : 0 ≤ x) (h1 : g - h ≤ x * (1000000 + d)) : maxI (g / 1000000 - h / 1000000 - 1) 0 * 1000000 / (1000000 + d) ≤ x := by
  refine Int.ediv_le_of_le_mul (by omega) ?_
  have h3 : 0 ≤ x * (1000000 + d) := Int.mul_nonneg h0 (by omega)
  generalize x * (1000000 + d) = z at *
  unfold maxI
  split <;> omega
theorem fl_hi {x g h d : Int} (hd : d ≤ 100000) (h1 : x * (1000000 - d) ≤ g - h) : x ≤ -(-((g / 1000000 - h / 1000000 + 1) * 1000000) / (1000000 - d)) := by
  have : -((g / 1000000 - h / 1000000 + 1) * 1000000) / (1000000 - d) ≤ -x := by
    refine Int.ediv_le_of_le_mul (by omega) ?_
    rw [Int.neg_mul]
    generalize x * (1000000 - d) = z at *
    omega
  omega
/-- Uniform admits the time at which a clock shows what it shows. -/
theorem truth_uni {s a : Int} {T : List (List Int)} {c : Ck} {q t : Int} (H : Tells s a T c q) (ht : q ≤ t) : hasB (uniC c (s + gnT T (t - a) / 1000000)) t = true := by
  obtain ⟨h1, h2, h3, h4, h5, h6, h7, h8⟩ := H
  obtain ⟨_, _, _, g4⟩ := ru_in h1
  have L := gn_lip (x := t - a) (y := q - a) g4 h2 h3 h4 (by omega) (by omega)
  rw [show t - a - (q - a) = t - q by omega] at L
  unfold uniC
  cases tlC c && (tmC (s + gnT T (t - a) / 1000000) && decide (c.s ≤ s + gnT T (t - a) / 1000000)) with
  | false => exact has_none t
  | true =>
    simp only [cond_true]
    rw [h6]
    have e1 : s + gnT T (t - a) / 1000000 - (s + gnT T (q - a) / 1000000) - 1 = gnT T (t - a) / 1000000 - gnT T (q - a) / 1000000 - 1 := by omega
    have e2 : s + gnT T (t - a) / 1000000 - (s + gnT T (q - a) / 1000000) + 1 = gnT T (t - a) / 1000000 - gnT T (q - a) / 1000000 + 1 := by omega
    rw [e1, e2]
    have f1 := fl_lo h3 (x := t - q) (by omega) L.2
    have f2 := fl_hi h4 L.1
    unfold shC loC
    exact has_of (by omega) (by omega)
/-- Show admits what a clock shows at a time. -/
theorem truth_sho {s a : Int} {T : List (List Int)} {c : Ck} {q t : Int} (H : Tells s a T c q) (ht : q ≤ t) : hasB (shoC c t) (s + gnT T (t - a) / 1000000) = true := by
  obtain ⟨h1, h2, h3, h4, h5, h6, h7, h8⟩ := H
  obtain ⟨_, _, _, g4⟩ := ru_in h1
  have L := gn_lip (x := t - a) (y := q - a) g4 h2 h3 h4 (by omega) (by omega)
  rw [show t - a - (q - a) = t - q by omega] at L
  unfold shoC
  cases hh : tlC c && (tmC t && decide (c.b.hi ≤ t)) with
  | false => exact has_none _
  | true =>
    simp only [cond_true]
    simp only [Bool.and_eq_true, decide_eq_true_eq] at hh
    have b1 : (t - c.b.hi) * (1000000 - c.d) ≤ (t - q) * (1000000 - c.d) := Int.mul_le_mul_of_nonneg_right (by omega) (by omega)
    have b2 : (t - q) * (1000000 + c.d) ≤ (t - c.b.lo) * (1000000 + c.d) := Int.mul_le_mul_of_nonneg_right (by omega) (by omega)
    unfold gaC
    rw [h6]
    generalize (t - c.b.hi) * (1000000 - c.d) = z1 at *
    generalize (t - c.b.lo) * (1000000 + c.d) = z2 at *
    generalize (t - q) * (1000000 - c.d) = z3 at *
    generalize (t - q) * (1000000 + c.d) = z4 at *
    exact has_of (by omega) (by omega)
/-- The bound that Uniform returns is known, as far as its numbers are in their ranges. -/
theorem uni_known {c : Ck} {x : Int} (h : tlC c = true) (hx : tmC x = true) (hs : c.s ≤ x) : (uniC c x).u = false ∧ uniC c x = ⟨c.b.lo + shC (maxI (x - c.s - 1) 0) c.d, c.b.hi + loC (x - c.s + 1) c.d, false⟩ := by
  obtain ⟨h1, h2⟩ := tl_iff.1 h
  obtain ⟨g1, g2, g3, g4, g5, g6⟩ := ck_in h1
  have hk := knB_iff.1 (chk_kn g1 h2)
  have hx' := tmC_iff.1 hx
  have m : 0 ≤ maxI (x - c.s - 1) 0 ∧ maxI (x - c.s - 1) 0 ≤ x - c.s + 1 := by unfold maxI; split <;> omega
  have q1 : gnC (maxI (x - c.s - 1) 0) = true := gnC_iff.2 (by omega)
  have q2 : gnC (x - c.s + 1) = true := gnC_iff.2 (by omega)
  have q3 : drC c.d = true := drC_iff.2 (by omega)
  have b1 := shC_in q1 q3
  have b2 := loC_in q2 q3
  have b3 := shlo m.1 m.2 q3 q2
  have e : uniC c x = ⟨c.b.lo + shC (maxI (x - c.s - 1) 0) c.d, c.b.hi + loC (x - c.s + 1) c.d, false⟩ := by
    unfold uniC
    rw [h, hx, decide_eq_true hs]
    exact ofB_inC (by omega) (by omega) (by omega)
  exact ⟨by rw [e], e⟩
/-- What a run of short legs gains. -/
theorem gn_pos {T : List (List Int)} {x : Int} (h : T.all lgB = true) (hx : 0 ≤ x) : 0 ≤ gnT T x ∧ gnT T x ≤ 1100000 * x := by
  obtain ⟨q1, q2, q3, q4⟩ := gn_in h hx
  unfold gnT
  omega
end Go.Proofs.Ytjegnlnnjcchaaa.AtCk

