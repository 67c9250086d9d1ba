/-
  A clock that is set by a true exchange still tells the truth (pure mathematics over package clock's functions).
  Conditions: those of each theorem.
-/
import Derived.Test.YtpolpckjfgndeabCM
set_option linter.unusedVariables false
set_option linter.unusedSimpArgs false
namespace Go.Proofs.Ytpolpckjfgndeab.AtCk
open Go.RowKit Ev Wd
open Go.Proofs.Ytpolpckjfgndeab

theorem uni_kn (c : Ck) (x : Int) (h : (uniC c x).u = false) : knB (uniC c x) = true := by
  unfold uniC at h ⊢
  cases hb : tlC c && (tmC x && decide (c.s ≤ x)) with
  | false => rw [hb] at h; cases h
  | true =>
    rw [hb] at h
    simp only [cond_true] at h ⊢
    unfold ofB normB at h ⊢
    cases k : knB ⟨c.b.lo + shC (maxI (x - c.s - 1) 0) c.d, c.b.hi + loC (x - c.s + 1) c.d, false⟩ with
    | true => simp only [cond_true, k]
    | false => rw [k] at h; cases h
theorem has_kn {b : Bd} {v : Int} (hk : knB b = true) (h : hasB b v = true) : b.lo ≤ v ∧ v ≤ b.hi := by
  unfold hasB at h
  rw [hk] at h
  simpa using h
theorem has_mk {b : Bd} {v : Int} (h1 : b.lo ≤ v) (h2 : v ≤ b.hi) : hasB b v = true := by
  unfold hasB
  rw [decide_eq_true h1, decide_eq_true h2]; simp
theorem sync_step {s a : Int} {T : List (List Int)} {c : Ck} {q t1 tm t2 p r : Int} (H : Tells s a T c q) (hk : ckE c = 0) (hu : c.b.u = false) (hs : -1000 ≤ s ∧ s ≤ 1000) (ha : -1000 ≤ a) (h1 : q ≤ t1) (h2 : t1 ≤ tm) (h3 : tm ≤ t2) (h4 : t2 ≤ 1000000) (hp : 0 ≤ p ∧ p ≤ 9) (hr : 0 ≤ r ∧ r ≤ 9) :
    syE c (s + gnT T (t1 - a) / 1000000) (s + gnT T (t2 - a) / 1000000) ⟨tm - p, tm + r, false⟩ = 0 ∧ Tells s a T (syC c (s + gnT T (t1 - a) / 1000000) (s + gnT T (t2 - a) / 1000000) ⟨tm - p, tm + r, false⟩) t2 ∧
    ckE (syC c (s + gnT T (t1 - a) / 1000000) (s + gnT T (t2 - a) / 1000000) ⟨tm - p, tm + r, false⟩) = 0 ∧ (syC c (s + gnT T (t1 - a) / 1000000) (s + gnT T (t2 - a) / 1000000) ⟨tm - p, tm + r, false⟩).b.u = false ∧
    hasB (syC c (s + gnT T (t1 - a) / 1000000) (s + gnT T (t2 - a) / 1000000) ⟨tm - p, tm + r, false⟩).b t2 = true ∧
    insB (syC c (s + gnT T (t1 - a) / 1000000) (s + gnT T (t2 - a) / 1000000) ⟨tm - p, tm + r, false⟩).b (uniC c (s + gnT T (t2 - a) / 1000000)) = true := by
  have H0 := H
  obtain ⟨e1, e2, e3, e4, e5, e6, e7, e8⟩ := H
  obtain ⟨_, _, _, g4⟩ := ru_in e1
  have L2 := gn_lip (x := t2 - a) (y := t1 - a) g4 e2 e3 e4 (by omega) (by omega)
  have L1 := gn_lip (x := t1 - a) (y := q - a) g4 e2 e3 e4 (by omega) (by omega)
  rw [show t2 - a - (t1 - a) = t2 - t1 by omega] at L2
  rw [show t1 - a - (q - a) = t1 - q by omega] at L1
  have P1 := gn_pos (x := t1 - a) g4 (by omega)
  have P2 := gn_pos (x := t2 - a) g4 (by omega)
  have N2 : 0 ≤ (t2 - t1) * (1000000 - c.d) := Int.mul_nonneg (by omega) (by omega)
  have N1 : 0 ≤ (t1 - q) * (1000000 - c.d) := Int.mul_nonneg (by omega) (by omega)
  have F := fl_hi e4 (x := t2 - t1) L2.1
  have hU := truth_uni H0 (t := t2) (by omega)
  obtain ⟨_, m1, m2, m3, m4, m5⟩ := ck_in hk
  generalize gnT T (t1 - a) = G1 at *
  generalize hG2 : gnT T (t2 - a) = G2 at *
  generalize gnT T (q - a) = Gq at *
  have sle : c.s ≤ s + G1 / 1000000 := by omega
  have sle2 : s + G1 / 1000000 ≤ s + G2 / 1000000 := by omega
  have tm1 : tmC (s + G1 / 1000000) = true := tmC_iff.2 (by omega)
  have tm2 : tmC (s + G2 / 1000000) = true := tmC_iff.2 (by omega)
  have hd : drC c.d = true := drC_iff.2 (by omega)
  obtain ⟨u1, u2⟩ := uni_known (tl_iff.2 ⟨hk, hu⟩) tm2 (show c.s ≤ s + G2 / 1000000 by omega)
  have u3 := uni_kn c _ u1
  have u4 := has_kn u3 hU
  have u5 := knB_iff.1 u3
  generalize hUd : uniC c (s + G2 / 1000000) = U at *
  have hgn : gnC (s + G2 / 1000000 - (s + G1 / 1000000) + 1) = true := gnC_iff.2 (by omega)
  have b2 := loC_in hgn hd
  have eF : s + G2 / 1000000 - (s + G1 / 1000000) + 1 = G2 / 1000000 - G1 / 1000000 + 1 := by omega
  have F' : t2 - t1 ≤ loC (s + G2 / 1000000 - (s + G1 / 1000000) + 1) c.d := by rw [eF]; exact F
  have tk : knB (⟨tm - p, tm + r, false⟩ : Bd) = true := knB_iff.2 ⟨rfl, by simp only; omega, by simp only; omega, by simp only; omega⟩
  have hW : camC c (s + G1 / 1000000) (s + G2 / 1000000) ⟨tm - p, tm + r, false⟩ = ⟨tm - p, tm + r + loC (s + G2 / 1000000 - (s + G1 / 1000000) + 1) c.d, false⟩ := by
    unfold camC
    rw [addC tk (by omega) b2.1 (by omega), Int.add_zero]
    exact ofB_inC (by simp only; omega) (by simp only; omega) (by simp only; omega)
  generalize loC (s + G2 / 1000000 - (s + G1 / 1000000) + 1) c.d = LO at *
  have wk : knB (⟨tm - p, tm + r + LO, false⟩ : Bd) = true := knB_iff.2 ⟨rfl, by simp only; omega, by simp only; omega, by simp only; omega⟩
  have hcmp : cmpB U ⟨tm - p, tm + r + LO, false⟩ = 0 := by
    unfold cmpB
    rw [u3, wk, decide_eq_false (show ¬ U.hi < tm - p by omega), decide_eq_false (show ¬ U.lo > tm + r + LO by omega)]; rfl
  have hO : meetO U (camC c (s + G1 / 1000000) (s + G2 / 1000000) ⟨tm - p, tm + r, false⟩) = true := by
    rw [hW]; unfold meetO
    rw [hcmp]; simp
  have mx : U.lo ≤ maxI U.lo (tm - p) ∧ tm - p ≤ maxI U.lo (tm - p) ∧ maxI U.lo (tm - p) ≤ t2 := by unfold maxI; split <;> omega
  have mn : minI U.hi (tm + r + LO) ≤ U.hi ∧ minI U.hi (tm + r + LO) ≤ tm + r + LO ∧ t2 ≤ minI U.hi (tm + r + LO) := by unfold minI; split <;> omega
  have hM : meetB U (camC c (s + G1 / 1000000) (s + G2 / 1000000) ⟨tm - p, tm + r, false⟩) = ⟨maxI U.lo (tm - p), minI U.hi (tm + r + LO), false⟩ := by
    rw [hW]; unfold meetB
    rw [u3, wk, hcmp]
    show ofB (maxI U.lo (tm - p)) (minI U.hi (tm + r + LO)) = _
    exact ofB_inC (by omega) (by omega) (by omega)
  have hN : nxC c (s + G1 / 1000000) (s + G2 / 1000000) ⟨tm - p, tm + r, false⟩ = ⟨s + G2 / 1000000, ⟨maxI U.lo (tm - p), minI U.hi (tm + r + LO), false⟩, c.d⟩ := by
    unfold nxC
    rw [hUd, hM]
  generalize maxI U.lo (tm - p) = MX at *
  generalize minI U.hi (tm + r + LO) = MN at *
  have hkn : ckE ⟨s + G2 / 1000000, ⟨MX, MN, false⟩, c.d⟩ = 0 := by
    unfold ckE
    have e : chkB ⟨MX, MN, false⟩ = 0 := by
      unfold chkB
      rw [inB_iff.2 (by simp only; omega), inB_iff.2 (by simp only; omega), decide_eq_false (show ¬ MX > MN by omega)]; rfl
    rw [if_pos e, if_pos (by simp only [Bool.and_eq_true, tmC_iff, drC_iff]; omega)]
  have hE : syE c (s + G1 / 1000000) (s + G2 / 1000000) ⟨tm - p, tm + r, false⟩ = 0 := by
    unfold syE
    rw [if_neg (by omega), if_neg (by rw [tm1, tm2]; simp), if_neg (by omega), hUd, if_neg (by rw [hO]; simp), hN, hkn]
  have hS : syC c (s + G1 / 1000000) (s + G2 / 1000000) ⟨tm - p, tm + r, false⟩ = ⟨s + G2 / 1000000, ⟨MX, MN, false⟩, c.d⟩ := (if_pos hE).trans hN
  rw [hS]
  refine ⟨hE, ⟨e1, e2, e3, e4, by omega, ?_, mx.2.2, mn.2.2⟩, hkn, rfl, has_mk mx.2.2 mn.2.2, ?_⟩
  · simp only [hG2]
  · unfold insB
    rw [u3, knB_iff.2 ⟨rfl, by simp only; omega, by simp only; omega, by simp only; omega⟩, decide_eq_true (show U.lo ≤ MX from mx.1), decide_eq_true (show MN ≤ U.hi from mn.1)]; rfl
end Go.Proofs.Ytpolpckjfgndeab.AtCk

