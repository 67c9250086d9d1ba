/-
  The reference's LeapsErr, Begin, CivilErr and UniformOf as functions of their arguments; the walk of spylaw1.ScaleUniforms.
  Conditions: those of each theorem.
-/
import Derived.Test.YtokkaeaciigapaaDoorD8
set_option linter.unusedVariables false
set_option linter.unusedSimpArgs false
namespace Go.Proofs.YtokkaeaciigapaaDoor.RL
open Go.RowKit Ev Sc
open Go.Proofs.YtokkaeaciigapaaDoor
variable {F : Type}
noncomputable section

theorem chL_gt : ∀ {l : List (Int × Int)} {q : Int}, chL (some q) l = 0 → ∀ e ∈ l, q < e.1
  | [], q, h, e, he => by cases he
  | (d, s) :: r, q, h, e, he => by
    rw [chL_cons] at h
    by_cases a : s ≠ 1 ∧ s ≠ -1
    · rw [if_pos a] at h; omega
    · rw [if_neg a] at h
      by_cases b : d < -200000 ∨ 200000 < d
      · rw [if_pos b] at h; omega
      · rw [if_neg b] at h
        by_cases c : befL (some q) d = true
        · rw [if_pos c] at h; omega
        · rw [if_neg c] at h
          have hq : q < d := by
            unfold befL at c
            simpa using c
          rcases List.mem_cons.1 he with rfl | he
          · exact hq
          · have := chL_gt h e he
            omega
theorem sum_no {d : Int} : ∀ {l : List (Int × Int)}, (∀ e ∈ l, e.1 ≠ d) → sumL (d + 1) l = sumL d l ∧ stL d l = 0
  | [], h => ⟨rfl, rfl⟩
  | (q, s) :: r, h => by
    obtain ⟨h1, h2⟩ := sum_no (d := d) (l := r) fun e he => h e (List.mem_cons_of_mem _ he)
    have h3 := h (q, s) List.mem_cons_self
    simp only at h3
    simp only [sumL, stL]
    rw [if_neg h3]
    refine ⟨?_, h2⟩
    rw [h1]
    by_cases g : q < d
    · rw [if_pos g, if_pos (by omega)]
    · rw [if_neg g, if_neg (by omega)]
theorem sum_step {d : Int} : ∀ {l : List (Int × Int)} {p : Option Int}, chL p l = 0 → sumL (d + 1) l = sumL d l + stL d l
  | [], p, h => rfl
  | (q, s) :: r, p, h => by
    rw [chL_cons] at h
    by_cases a : s ≠ 1 ∧ s ≠ -1
    · rw [if_pos a] at h; omega
    · rw [if_neg a] at h
      by_cases b : q < -200000 ∨ 200000 < q
      · rw [if_pos b] at h; omega
      · rw [if_neg b] at h
        split at h
        · omega
        · simp only [sumL, stL]
          by_cases g : q = d
          · subst g
            have := sum_no (d := q) (l := r) fun e he => by have := chL_gt h e he; omega
            rw [if_pos rfl, if_pos (by omega), if_neg (by omega), this.1]; omega
          · have ih := sum_step (d := d) h
            rw [if_neg g, ih]
            by_cases k : q < d
            · rw [if_pos k, if_pos (by omega)]; omega
            · rw [if_neg k, if_neg (by omega)]; omega
theorem ck_step {l : List (Int × Int)} (h : ckL l = 0) (d : Int) : sumL (d + 1) l = sumL d l + stL d l := by
  unfold ckL at h
  split at h
  · omega
  · exact sum_step h
def lastV (l : List (Int × Int)) (i : Int) : Int := if 0 < i then fstP l (i - 1) else -4611686018427387904
structure leT where
  l : List (Int × Int)
  u : Int
  n : Int
  i : Int
def leP (l : List (Int × Int)) (u : Int) (n : Int) (i : Int) : Prop := 0 ≤ i ∧ i ≤ n ∧ n = lenP l ∧ n ≤ 9223372036854775807 ∧ u = lastV l i
instance (l : List (Int × Int)) (u : Int) (n : Int) (i : Int) : Decidable (leP l u n i) := by unfold leP; infer_instance
def leTm (l : List (Int × Int)) (u : Int) (n : Int) (i : Int) : List (Nat × AV Lp) := [(9, (.w (.one (.fv (.row l))))), (3, (.w (.one (.int .i64 u)))), (10, (.w (.one (.int .i64 n)))), (11, (.w (.one (.int .i64 i))))]
def leS : LpSt leT Lp where
  ps := []
  tm := fun t => leTm t.l t.u t.n t.i
  hp := fun t => []
def leNx (l : List (Int × Int)) (u : Int) (n : Int) (i : Int) : Nxt leT Lp := if i < n then (if erV l i = 0 then .go ⟨l, fstP l i, n, i + 1⟩ else .out .ret [(2, .w (.one (.int .i64 (erV l i))))] []) else .out (.exit 0) (leTm l u n i) []
def leStep (t : leT) : Nxt leT Lp := if leP t.l t.u t.n t.i then leNx t.l t.u t.n t.i else .bad
theorem le_go {l : List (Int × Int)} {u : Int} {n : Int} {i : Int} (h : leP l u n i) : leStep ⟨l, u, n, i⟩ = leNx l u n i := if_pos h
theorem le_runs {l : List (Int × Int)} (h : lenP l ≤ 9223372036854775807) : ∀ (j i : Nat), i + j = l.length → ∃ c, runs leStep c ⟨l, lastV l i, lenP l, i⟩ = (if chL (prevP l i) (l.drop i) = 0 then some (.exit 0, leTm l (lastV l (lenP l)) (lenP l) (lenP l), []) else some (.ret, [(2, .w (.one (.int .i64 (chL (prevP l i) (l.drop i)))))], []))
  | 0, i, hi => by
    have e : (i : Int) = lenP l := by unfold lenP; omega
    refine ⟨1, ?_⟩
    rw [runs, le_go ⟨by omega, by omega, rfl, h, rfl⟩]
    unfold leNx
    rw [if_neg (by omega), List.drop_eq_nil_of_le (by omega), e]
    rfl
  | j + 1, i, hi => by
    have hl : (i : Int) < lenP l := by unfold lenP; omega
    have s := chL_step (l := l) (i := i) (by omega)
    by_cases g : erV l i = 0
    · obtain ⟨c, hc⟩ := le_runs h j (i + 1) (by omega)
      refine ⟨c + 1, ?_⟩
      have e : lastV l ((i + 1 : Nat) : Int) = fstP l i := by
        unfold lastV
        rw [if_pos (by omega), show ((i + 1 : Nat) : Int) - 1 = (i : Int) by omega]
      rw [e] at hc
      rw [runs, le_go ⟨by omega, by omega, rfl, h, rfl⟩]
      unfold leNx
      rw [if_pos hl, if_pos g, s, if_pos g]
      exact hc
    · refine ⟨1, ?_⟩
      rw [runs, le_go ⟨by omega, by omega, rfl, h, rfl⟩]
      unfold leNx
      rw [if_pos hl, if_neg g, s, if_neg g, if_neg g]
def leD : LpDefR leT Lp where
  ts := [9, 3, 10, 11]
  ps := []
  rs := []
  W := [2, 3, 5, 9, 10, 11, 12, 13, 14, 15, 16, 17, 18, 19, 20, 21, 22, 23, 24, 25, 26, 27, 28, 29, 30, 31, 32, 33, 34, 35, 36, 37]
  dec := fun vs tr ks => match vs, tr, ks with
    | [.w (.one (.fv (.row l))), .w (.one (.int .i64 u)), .w (.one (.int .i64 n)), .w (.one (.int .i64 i))], [], [] => some ⟨l, u, n, i⟩
    | _, _, _ => none
  fk := fun t => some (decide (chL none t.l = 0))
  spec := fun t β => match β with
    | true => some (.exit 0, leTm t.l (lastV t.l t.n) t.n t.n, [], [], [(decide (t.u = -4611686018427387904) && decide (t.i = 0) && decide (t.n = lenP t.l) && decide (t.n ≤ 9223372036854775807), true)])
    | false => some (.ret, [(2, .w (.one (.int .i64 (chL none t.l))))], [], [], [(decide (t.u = -4611686018427387904) && decide (t.i = 0) && decide (t.n = lenP t.l) && decide (t.n ≤ 9223372036854775807), true)])
structure rgT where
  l : List (Int × Int)
  day : Int
  u : Int
  n : Int
  i : Int
def rgP (l : List (Int × Int)) (day : Int) (u : Int) (n : Int) (i : Int) : Prop := okT l ∧ -10000000 ≤ day ∧ day ≤ 10000000 ∧ 0 ≤ i ∧ i ≤ n ∧ n = lenP l ∧ 86400000 * day - 1000 * i ≤ u ∧ u ≤ 86400000 * day + 1000 * i
instance (l : List (Int × Int)) (day : Int) (u : Int) (n : Int) (i : Int) : Decidable (rgP l day u n i) := by unfold rgP; infer_instance
def rgTm (l : List (Int × Int)) (day : Int) (u : Int) (n : Int) (i : Int) : List (Nat × AV Lp) := [(10, (.w (.one (.fv (.row l))))), (0, (.w (.one (.int .i64 day)))), (5, (.w (.one (.int .i64 u)))), (11, (.w (.one (.int .i64 n)))), (12, (.w (.one (.int .i64 i))))]
def rgS : LpSt rgT Lp where
  ps := []
  tm := fun t => rgTm t.l t.day t.u t.n t.i
  hp := fun t => []
def rgNx (l : List (Int × Int)) (day : Int) (u : Int) (n : Int) (i : Int) : Nxt rgT Lp := if i < n then .go ⟨l, day, if fstP l i < day then u + 1000 * sndP l i else u, n, i + 1⟩ else .out (.exit 0) (rgTm l day u n i) []
def rgStep (t : rgT) : Nxt rgT Lp := if rgP t.l t.day t.u t.n t.i then rgNx t.l t.day t.u t.n t.i else .bad
theorem rg_go {l : List (Int × Int)} {day : Int} {u : Int} {n : Int} {i : Int} (h : rgP l day u n i) : rgStep ⟨l, day, u, n, i⟩ = rgNx l day u n i := if_pos h
theorem rg_runs {l : List (Int × Int)} {day : Int} (h : okT l) (h1 : -10000000 ≤ day) (h2 : day ≤ 10000000) : ∀ (j i : Nat) (u : Int), i + j = l.length → 86400000 * day - 1000 * (i : Int) ≤ u → u ≤ 86400000 * day + 1000 * (i : Int) → ∃ c, runs rgStep c ⟨l, day, u, lenP l, i⟩ = some (.exit 0, rgTm l day (u + 1000 * sumL day (l.drop i)) (lenP l) (lenP l), [])
  | 0, i, u, hi, g1, g2 => by
    have e : (i : Int) = lenP l := by unfold lenP; omega
    refine ⟨1, ?_⟩
    rw [runs, rg_go ⟨h, h1, h2, by omega, by omega, rfl, g1, g2⟩]
    unfold rgNx
    rw [if_neg (by omega), List.drop_eq_nil_of_le (by omega), e, show u + 1000 * sumL day [] = u by simp [sumL]]
  | j + 1, i, u, hi, g1, g2 => by
    have hl : (i : Int) < lenP l := by unfold lenP; omega
    have s := (okT_get h (by omega) hl).1
    obtain ⟨c, hc⟩ := rg_runs h h1 h2 j (i + 1) (if fstP l i < day then u + 1000 * sndP l i else u) (by omega) (by split <;> omega) (by split <;> omega)
    refine ⟨c + 1, ?_⟩
    rw [runs, rg_go ⟨h, h1, h2, by omega, by omega, rfl, g1, g2⟩]
    unfold rgNx
    rw [if_pos hl, drop_cons (by omega)]
    have e : (if fstP l i < day then u + 1000 * sndP l i else u) + 1000 * sumL day (l.drop (i + 1)) = u + 1000 * sumL day ((fstP l i, sndP l i) :: l.drop (i + 1)) := by
      simp only [sumL]; split <;> omega
    rw [← e]
    exact hc
def rgD : LpDef rgT Lp where
  ts := [10, 0, 5, 11, 12]
  ps := []
  W := [0, 5, 7, 10, 11, 12, 13, 14, 15, 16, 17, 18, 19, 20, 21, 22, 23, 24, 25]
  dec := fun vs ks => match vs, ks with
    | [.w (.one (.fv (.row l))), .w (.one (.int .i64 day)), .w (.one (.int .i64 u)), .w (.one (.int .i64 n)), .w (.one (.int .i64 i))], [] => some ⟨l, day, u, n, i⟩
    | _, _ => none
  spec := fun t => some ((.exit 0), rgTm t.l t.day (86400000 * t.day + 1000 * sumL t.day t.l) t.n t.n, [], [(decide (okT t.l) && decide (-10000000 ≤ t.day) && decide (t.day ≤ 10000000) && decide (t.n = lenP t.l) && decide (t.i = 0) && decide (t.u = 86400000 * t.day), true)])
end
end Go.Proofs.YtokkaeaciigapaaDoor.RL

