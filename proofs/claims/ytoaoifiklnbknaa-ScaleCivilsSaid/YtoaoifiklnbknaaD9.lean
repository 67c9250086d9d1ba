/-
  The reference's LeapsErr, Begin, CivilErr and UniformOf as functions of their arguments; the walk of spylaw1.ScaleUniforms.
  Conditions: those of each theorem.
-/
import Derived.Test.YtoaoifiklnbknaaD8
set_option linter.unusedVariables false
set_option linter.unusedSimpArgs false
namespace Go.Proofs.Ytoaoifiklnbknaa.RL
open Go.RowKit Ev Sc
open Go.Proofs.Ytoaoifiklnbknaa
variable {F : Type}
noncomputable section

theorem chL_gt : ∀ {l : List (Int × Int)} {q : Int}, chL (some q) l = 0 → ∀ e ∈ l, q < e.1
  | [], q, h, e, he => by cases he
  | (d, s) :: r, q, h, e, he => by
    rw [chL_cons] at h
    by_cases a : s ≠ 1 ∧ s ≠ -1
    · rw [if_pos a] at h; omega
    · rw [if_neg a] at h
      by_cases b : d < -200000 ∨ 200000 < d
      · rw [if_pos b] at h; omega
      · rw [if_neg b] at h
        by_cases c : befL (some q) d = true
        · rw [if_pos c] at h; omega
        · rw [if_neg c] at h
          have hq : q < d := by
            unfold befL at c
            simpa using c
          rcases List.mem_cons.1 he with rfl | he
          · exact hq
          · have := chL_gt h e he
            omega
theorem sum_no {d : Int} : ∀ {l : List (Int × Int)}, (∀ e ∈ l, e.1 ≠ d) → sumL (d + 1) l = sumL d l ∧ stL d l = 0
  | [], h => ⟨rfl, rfl⟩
  | (q, s) :: r, h => by
    obtain ⟨h1, h2⟩ := sum_no (d := d) (l := r) fun e he => h e (List.mem_cons_of_mem _ he)
    have h3 := h (q, s) List.mem_cons_self
    simp only at h3
    simp only [sumL, stL]
    rw [if_neg h3]
    refine ⟨?_, h2⟩
    rw [h1]
    by_cases g : q < d
    · rw [if_pos g, if_pos (by omega)]
    · rw [if_neg g, if_neg (by omega)]
theorem sum_step {d : Int} : ∀ {l : List (Int × Int)} {p : Option Int}, chL p l = 0 → sumL (d + 1) l = sumL d l + stL d l
  | [], p, h => rfl
  | (q, s) :: r, p, h => by
    rw [chL_cons] at h
    by_cases a : s ≠ 1 ∧ s ≠ -1
    · rw [if_pos a] at h; omega
    · rw [if_neg a] at h
      by_cases b : q < -200000 ∨ 200000 < q
      · rw [if_pos b] at h; omega
      · rw [if_neg b] at h
        split at h
        · omega
        · simp only [sumL, stL]
          by_cases g : q = d
          · subst g
            have := sum_no (d := q) (l := r) fun e he => by have := chL_gt h e he; omega
            rw [if_pos rfl, if_pos (by omega), if_neg (by omega), this.1]; omega
          · have ih := sum_step (d := d) h
            rw [if_neg g, ih]
            by_cases k : q < d
            · rw [if_pos k, if_pos (by omega)]; omega
            · rw [if_neg k, if_neg (by omega)]; omega
theorem ck_step {l : List (Int × Int)} (h : ckL l = 0) (d : Int) : sumL (d + 1) l = sumL d l + stL d l := by
  unfold ckL at h
  split at h
  · omega
  · exact sum_step h
set_option maxRecDepth 100000 in
theorem le_110000 (l : List (Int × Int)) (u : Int) (n : Int) (i : Int) (rest : List (Nat × AV Lp)) : evView (ctxOf Try.prog lpI (fun _ => false) []) 38 (false :: [false, true, false, true, true, true]) (loopAt (bodyOf Try.f65) [false, true, false, true, true, true]) ([(9, (.w (.one (.fv (.row l))))), (3, (.w (.one (.int .i64 u)))), (10, (.w (.one (.int .i64 n)))), (11, (.w (.one (.int .i64 i))))] ++ (ptrN 0 [] ++ rest)) [] 0 [9, 3, 10, 11] [true, true, false, false, false, false] = some ((Ex.normal, [AV.w (AW.one (AC.fv (Lp.row l))), AV.w (AW.one (AC.int IntKind.i64 (fstP l i))), AV.w (AW.one (AC.int IntKind.i64 n)), AV.w (AW.one (AC.int IntKind.i64 (IntKind.i64.wrap (i + 1))))], []), (pickL [(decide (i < n), true), (decide (0 ≤ i), true), (decide (i < lenP l), true), (sndP l i != 1, true), (sndP l i != -1, false), (decide (fstP l i > 200000), false), (decide (fstP l i < -200000), false), (decide (fstP l i ≤ u), false)] [0, 1, 2, 1, 2, 3, 3, 3, 3, 4, 5, 5, 5, 5, 6, 7])) := by kernel_rfl
set_option maxRecDepth 100000 in
theorem le_10000 (l : List (Int × Int)) (u : Int) (n : Int) (i : Int) (rest : List (Nat × AV Lp)) : evView (ctxOf Try.prog lpI (fun _ => false) []) 38 (false :: [false, true, false, true, true, true]) (loopAt (bodyOf Try.f65) [false, true, false, true, true, true]) ([(9, (.w (.one (.fv (.row l))))), (3, (.w (.one (.int .i64 u)))), (10, (.w (.one (.int .i64 n)))), (11, (.w (.one (.int .i64 i))))] ++ (ptrN 0 [] ++ rest)) [] 0 [9, 3, 10, 11] [true, false, false, false, false] = some ((Ex.normal, [AV.w (AW.one (AC.fv (Lp.row l))), AV.w (AW.one (AC.int IntKind.i64 (fstP l i))), AV.w (AW.one (AC.int IntKind.i64 n)), AV.w (AW.one (AC.int IntKind.i64 (IntKind.i64.wrap (i + 1))))], []), (pickL [(decide (i < n), true), (decide (0 ≤ i), true), (decide (i < lenP l), true), (sndP l i != 1, false), (false, false), (decide (fstP l i > 200000), false), (decide (fstP l i < -200000), false), (decide (fstP l i ≤ u), false)] [0, 1, 2, 1, 2, 3, 3, 3, 3, 4, 5, 5, 5, 5, 6, 7])) := by kernel_rfl
set_option maxRecDepth 100000 in
theorem le_0 (l : List (Int × Int)) (u : Int) (n : Int) (i : Int) (rest : List (Nat × AV Lp)) : evView (ctxOf Try.prog lpI (fun _ => false) []) 38 (false :: [false, true, false, true, true, true]) (loopAt (bodyOf Try.f65) [false, true, false, true, true, true]) ([(9, (.w (.one (.fv (.row l))))), (3, (.w (.one (.int .i64 u)))), (10, (.w (.one (.int .i64 n)))), (11, (.w (.one (.int .i64 i))))] ++ (ptrN 0 [] ++ rest)) [] 0 [9, 3, 10, 11] [false] = some ((Ex.exit 0, [AV.w (AW.one (AC.fv (Lp.row l))), AV.w (AW.one (AC.int IntKind.i64 u)), AV.w (AW.one (AC.int IntKind.i64 n)), AV.w (AW.one (AC.int IntKind.i64 i))], []), (pickL [(decide (i < n), false)] [0])) := by kernel_rfl
set_option maxRecDepth 100000 in
theorem ler_111 (l : List (Int × Int)) (u : Int) (n : Int) (i : Int) (rest : List (Nat × AV Lp)) : evView (ctxOf Try.prog lpI (fun _ => false) []) 38 (false :: [false, true, false, true, true, true]) (loopAt (bodyOf Try.f65) [false, true, false, true, true, true]) ([(9, (.w (.one (.fv (.row l))))), (3, (.w (.one (.int .i64 u)))), (10, (.w (.one (.int .i64 n)))), (11, (.w (.one (.int .i64 i))))] ++ (ptrN 0 [] ++ rest)) [] 0 [2] [true, true, true] = some ((Ex.ret, [AV.w (AW.one (AC.int IntKind.i64 1))], []), (pickL [(decide (i < n), true), (decide (0 ≤ i), true), (decide (i < lenP l), true), (sndP l i != 1, true), (sndP l i != -1, true)] [0, 1, 2, 1, 2, 3, 3, 3, 3, 4])) := by kernel_rfl
set_option maxRecDepth 100000 in
theorem ler_1101 (l : List (Int × Int)) (u : Int) (n : Int) (i : Int) (rest : List (Nat × AV Lp)) : evView (ctxOf Try.prog lpI (fun _ => false) []) 38 (false :: [false, true, false, true, true, true]) (loopAt (bodyOf Try.f65) [false, true, false, true, true, true]) ([(9, (.w (.one (.fv (.row l))))), (3, (.w (.one (.int .i64 u)))), (10, (.w (.one (.int .i64 n)))), (11, (.w (.one (.int .i64 i))))] ++ (ptrN 0 [] ++ rest)) [] 0 [2] [true, true, false, true] = some ((Ex.ret, [AV.w (AW.one (AC.int IntKind.i64 4))], []), (pickL [(decide (i < n), true), (decide (0 ≤ i), true), (decide (i < lenP l), true), (sndP l i != 1, true), (sndP l i != -1, false), (decide (fstP l i > 200000), true), (true, true)] [0, 1, 2, 1, 2, 3, 3, 3, 3, 4, 5, 5, 5, 5, 6])) := by kernel_rfl
set_option maxRecDepth 100000 in
theorem ler_11001 (l : List (Int × Int)) (u : Int) (n : Int) (i : Int) (rest : List (Nat × AV Lp)) : evView (ctxOf Try.prog lpI (fun _ => false) []) 38 (false :: [false, true, false, true, true, true]) (loopAt (bodyOf Try.f65) [false, true, false, true, true, true]) ([(9, (.w (.one (.fv (.row l))))), (3, (.w (.one (.int .i64 u)))), (10, (.w (.one (.int .i64 n)))), (11, (.w (.one (.int .i64 i))))] ++ (ptrN 0 [] ++ rest)) [] 0 [2] [true, true, false, false, true] = some ((Ex.ret, [AV.w (AW.one (AC.int IntKind.i64 4))], []), (pickL [(decide (i < n), true), (decide (0 ≤ i), true), (decide (i < lenP l), true), (sndP l i != 1, true), (sndP l i != -1, false), (decide (fstP l i > 200000), false), (decide (fstP l i < -200000), true)] [0, 1, 2, 1, 2, 3, 3, 3, 3, 4, 5, 5, 5, 5, 6])) := by kernel_rfl
set_option maxRecDepth 100000 in
theorem ler_110001 (l : List (Int × Int)) (u : Int) (n : Int) (i : Int) (rest : List (Nat × AV Lp)) : evView (ctxOf Try.prog lpI (fun _ => false) []) 38 (false :: [false, true, false, true, true, true]) (loopAt (bodyOf Try.f65) [false, true, false, true, true, true]) ([(9, (.w (.one (.fv (.row l))))), (3, (.w (.one (.int .i64 u)))), (10, (.w (.one (.int .i64 n)))), (11, (.w (.one (.int .i64 i))))] ++ (ptrN 0 [] ++ rest)) [] 0 [2] [true, true, false, false, false, true] = some ((Ex.ret, [AV.w (AW.one (AC.int IntKind.i64 11))], []), (pickL [(decide (i < n), true), (decide (0 ≤ i), true), (decide (i < lenP l), true), (sndP l i != 1, true), (sndP l i != -1, false), (decide (fstP l i > 200000), false), (decide (fstP l i < -200000), false), (decide (fstP l i ≤ u), true)] [0, 1, 2, 1, 2, 3, 3, 3, 3, 4, 5, 5, 5, 5, 6, 7])) := by kernel_rfl
set_option maxRecDepth 100000 in
theorem ler_101 (l : List (Int × Int)) (u : Int) (n : Int) (i : Int) (rest : List (Nat × AV Lp)) : evView (ctxOf Try.prog lpI (fun _ => false) []) 38 (false :: [false, true, false, true, true, true]) (loopAt (bodyOf Try.f65) [false, true, false, true, true, true]) ([(9, (.w (.one (.fv (.row l))))), (3, (.w (.one (.int .i64 u)))), (10, (.w (.one (.int .i64 n)))), (11, (.w (.one (.int .i64 i))))] ++ (ptrN 0 [] ++ rest)) [] 0 [2] [true, false, true] = some ((Ex.ret, [AV.w (AW.one (AC.int IntKind.i64 4))], []), (pickL [(decide (i < n), true), (decide (0 ≤ i), true), (decide (i < lenP l), true), (sndP l i != 1, false), (false, false), (decide (fstP l i > 200000), true), (true, true)] [0, 1, 2, 1, 2, 3, 3, 3, 3, 4, 5, 5, 5, 5, 6])) := by kernel_rfl
set_option maxRecDepth 100000 in
theorem ler_1001 (l : List (Int × Int)) (u : Int) (n : Int) (i : Int) (rest : List (Nat × AV Lp)) : evView (ctxOf Try.prog lpI (fun _ => false) []) 38 (false :: [false, true, false, true, true, true]) (loopAt (bodyOf Try.f65) [false, true, false, true, true, true]) ([(9, (.w (.one (.fv (.row l))))), (3, (.w (.one (.int .i64 u)))), (10, (.w (.one (.int .i64 n)))), (11, (.w (.one (.int .i64 i))))] ++ (ptrN 0 [] ++ rest)) [] 0 [2] [true, false, false, true] = some ((Ex.ret, [AV.w (AW.one (AC.int IntKind.i64 4))], []), (pickL [(decide (i < n), true), (decide (0 ≤ i), true), (decide (i < lenP l), true), (sndP l i != 1, false), (false, false), (decide (fstP l i > 200000), false), (decide (fstP l i < -200000), true)] [0, 1, 2, 1, 2, 3, 3, 3, 3, 4, 5, 5, 5, 5, 6])) := by kernel_rfl
set_option maxRecDepth 100000 in
theorem ler_10001 (l : List (Int × Int)) (u : Int) (n : Int) (i : Int) (rest : List (Nat × AV Lp)) : evView (ctxOf Try.prog lpI (fun _ => false) []) 38 (false :: [false, true, false, true, true, true]) (loopAt (bodyOf Try.f65) [false, true, false, true, true, true]) ([(9, (.w (.one (.fv (.row l))))), (3, (.w (.one (.int .i64 u)))), (10, (.w (.one (.int .i64 n)))), (11, (.w (.one (.int .i64 i))))] ++ (ptrN 0 [] ++ rest)) [] 0 [2] [true, false, false, false, true] = some ((Ex.ret, [AV.w (AW.one (AC.int IntKind.i64 11))], []), (pickL [(decide (i < n), true), (decide (0 ≤ i), true), (decide (i < lenP l), true), (sndP l i != 1, false), (false, false), (decide (fstP l i > 200000), false), (decide (fstP l i < -200000), false), (decide (fstP l i ≤ u), true)] [0, 1, 2, 1, 2, 3, 3, 3, 3, 4, 5, 5, 5, 5, 6, 7])) := by kernel_rfl
def lastV (l : List (Int × Int)) (i : Int) : Int := if 0 < i then fstP l (i - 1) else -4611686018427387904
structure leT where
  l : List (Int × Int)
  u : Int
  n : Int
  i : Int
def leP (l : List (Int × Int)) (u : Int) (n : Int) (i : Int) : Prop := 0 ≤ i ∧ i ≤ n ∧ n = lenP l ∧ n ≤ 9223372036854775807 ∧ u = lastV l i
instance (l : List (Int × Int)) (u : Int) (n : Int) (i : Int) : Decidable (leP l u n i) := by unfold leP; infer_instance
def leTm (l : List (Int × Int)) (u : Int) (n : Int) (i : Int) : List (Nat × AV Lp) := [(9, (.w (.one (.fv (.row l))))), (3, (.w (.one (.int .i64 u)))), (10, (.w (.one (.int .i64 n)))), (11, (.w (.one (.int .i64 i))))]
def leS : LpSt leT Lp where
  ps := []
  tm := fun t => leTm t.l t.u t.n t.i
  hp := fun t => []
def leNx (l : List (Int × Int)) (u : Int) (n : Int) (i : Int) : Nxt leT Lp := if i < n then (if erV l i = 0 then .go ⟨l, fstP l i, n, i + 1⟩ else .out .ret [(2, .w (.one (.int .i64 (erV l i))))] []) else .out (.exit 0) (leTm l u n i) []
def leStep (t : leT) : Nxt leT Lp := if leP t.l t.u t.n t.i then leNx t.l t.u t.n t.i else .bad
theorem le_go {l : List (Int × Int)} {u : Int} {n : Int} {i : Int} (h : leP l u n i) : leStep ⟨l, u, n, i⟩ = leNx l u n i := if_pos h
set_option maxRecDepth 100000 in
set_option maxHeartbeats 4000000 in
theorem le_round (t : leT) (hb : (leStep t).isBad = false) (rest : List (Nat × AV Lp)) : ∃ fuel path r, evC (ctxOf Try.prog lpI (fun _ => false) []) fuel 38 (false :: [false, true, false, true, true, true]) (loopAt (bodyOf Try.f65) [false, true, false, true, true, true]) (leS.tm t ++ (ptrN 0 leS.ps ++ rest)) (numb 0 (leS.hp t)) 0 path = some r ∧ (∀ p ∈ r.cd, p.1 = p.2) ∧ Gives leS 0 r (leStep t) := by
  obtain ⟨l, u, n, i⟩ := t
  by_cases ok : leP l u n i
  · rw [le_go ok]
    clear hb
    unfold leNx
    obtain ⟨h1, h2, rfl, h4, h5⟩ := ok
    have e0 : decide (0 ≤ i) = true := decide_eq_true h1
    have e1 : i < lenP l → IntKind.i64.wrap (i + 1) = i + 1 := fun _ => w64 (by omega) (by omega)
    have hu : 0 < i ∧ u = fstP l (i - 1) ∨ i ≤ 0 ∧ u = -4611686018427387904 := by
      rw [h5]; unfold lastV
      by_cases g : 0 < i
      · rw [if_pos g]; exact .inl ⟨g, rfl⟩
      · rw [if_neg g]; exact .inr ⟨by omega, rfl⟩
    clear h5
    cases k0 : (decide (i < lenP l)) with
    | true =>
      cases k1 : (sndP l i != 1) with
      | true =>
        cases k2 : (sndP l i != -1) with
        | true =>
          have hE : erV l i = 1 := by
            clear e1
            simp only [beq_iff_eq, beq_eq_false_iff_ne, ne_eq, bne_iff_ne, bne_eq_false_iff_eq, decide_eq_true_eq, decide_eq_false_iff_not, Bool.not_eq_true', Bool.not_eq_false'] at *
            unfold erV
            (repeat' split) <;> omega
          rw [if_pos (of_decide_eq_true k0), if_neg (by rw [hE]; decide), hE]
          have L := ler_111 l u (lenP l) i rest
          refine round_out L rfl (pickL_ok ?_ _) rfl rfl rfl
          repeat' (first | exact cd_nil | refine cd_cons ?_ ?_)
          all_goals first | rfl | with_reducible assumption
        | false =>
          cases k3 : (decide (fstP l i > 200000)) with
          | true =>
            have hE : erV l i = 4 := by
              clear e1
              simp only [beq_iff_eq, beq_eq_false_iff_ne, ne_eq, bne_iff_ne, bne_eq_false_iff_eq, decide_eq_true_eq, decide_eq_false_iff_not, Bool.not_eq_true', Bool.not_eq_false'] at *
              unfold erV
              (repeat' split) <;> omega
            rw [if_pos (of_decide_eq_true k0), if_neg (by rw [hE]; decide), hE]
            have L := ler_1101 l u (lenP l) i rest
            refine round_out L rfl (pickL_ok ?_ _) rfl rfl rfl
            repeat' (first | exact cd_nil | refine cd_cons ?_ ?_)
            all_goals first | rfl | with_reducible assumption
          | false =>
            cases k4 : (decide (fstP l i < -200000)) with
            | true =>
              have hE : erV l i = 4 := by
                clear e1
                simp only [beq_iff_eq, beq_eq_false_iff_ne, ne_eq, bne_iff_ne, bne_eq_false_iff_eq, decide_eq_true_eq, decide_eq_false_iff_not, Bool.not_eq_true', Bool.not_eq_false'] at *
                unfold erV
                (repeat' split) <;> omega
              rw [if_pos (of_decide_eq_true k0), if_neg (by rw [hE]; decide), hE]
              have L := ler_11001 l u (lenP l) i rest
              refine round_out L rfl (pickL_ok ?_ _) rfl rfl rfl
              repeat' (first | exact cd_nil | refine cd_cons ?_ ?_)
              all_goals first | rfl | with_reducible assumption
            | false =>
              cases k5 : (decide (fstP l i ≤ u)) with
              | true =>
                have hE : erV l i = 11 := by
                  clear e1
                  simp only [beq_iff_eq, beq_eq_false_iff_ne, ne_eq, bne_iff_ne, bne_eq_false_iff_eq, decide_eq_true_eq, decide_eq_false_iff_not, Bool.not_eq_true', Bool.not_eq_false'] at *
                  unfold erV
                  (repeat' split) <;> omega
                rw [if_pos (of_decide_eq_true k0), if_neg (by rw [hE]; decide), hE]
                have L := ler_110001 l u (lenP l) i rest
                refine round_out L rfl (pickL_ok ?_ _) rfl rfl rfl
                repeat' (first | exact cd_nil | refine cd_cons ?_ ?_)
                all_goals first | rfl | with_reducible assumption
              | false =>
                have hE : erV l i = 0 := by
                  clear e1
                  simp only [beq_iff_eq, beq_eq_false_iff_ne, ne_eq, bne_iff_ne, bne_eq_false_iff_eq, decide_eq_true_eq, decide_eq_false_iff_not, Bool.not_eq_true', Bool.not_eq_false'] at *
                  unfold erV
                  (repeat' split) <;> omega
                rw [if_pos (of_decide_eq_true k0), if_pos hE]
                have L := le_110000 l u (lenP l) i rest
                rw [e1 (of_decide_eq_true k0)] at L
                refine round_go L (pickL_ok ?_ _) rfl rfl rfl rfl
                repeat' (first | exact cd_nil | refine cd_cons ?_ ?_)
                all_goals first | rfl | with_reducible assumption
      | false =>
        cases k6 : (decide (fstP l i > 200000)) with
        | true =>
          have hE : erV l i = 4 := by
            clear e1
            simp only [beq_iff_eq, beq_eq_false_iff_ne, ne_eq, bne_iff_ne, bne_eq_false_iff_eq, decide_eq_true_eq, decide_eq_false_iff_not, Bool.not_eq_true', Bool.not_eq_false'] at *
            unfold erV
            (repeat' split) <;> omega
          rw [if_pos (of_decide_eq_true k0), if_neg (by rw [hE]; decide), hE]
          have L := ler_101 l u (lenP l) i rest
          refine round_out L rfl (pickL_ok ?_ _) rfl rfl rfl
          repeat' (first | exact cd_nil | refine cd_cons ?_ ?_)
          all_goals first | rfl | with_reducible assumption
        | false =>
          cases k7 : (decide (fstP l i < -200000)) with
          | true =>
            have hE : erV l i = 4 := by
              clear e1
              simp only [beq_iff_eq, beq_eq_false_iff_ne, ne_eq, bne_iff_ne, bne_eq_false_iff_eq, decide_eq_true_eq, decide_eq_false_iff_not, Bool.not_eq_true', Bool.not_eq_false'] at *
              unfold erV
              (repeat' split) <;> omega
            rw [if_pos (of_decide_eq_true k0), if_neg (by rw [hE]; decide), hE]
            have L := ler_1001 l u (lenP l) i rest
            refine round_out L rfl (pickL_ok ?_ _) rfl rfl rfl
            repeat' (first | exact cd_nil | refine cd_cons ?_ ?_)
            all_goals first | rfl | with_reducible assumption
          | false =>
            cases k8 : (decide (fstP l i ≤ u)) with
            | true =>
              have hE : erV l i = 11 := by
                clear e1
                simp only [beq_iff_eq, beq_eq_false_iff_ne, ne_eq, bne_iff_ne, bne_eq_false_iff_eq, decide_eq_true_eq, decide_eq_false_iff_not, Bool.not_eq_true', Bool.not_eq_false'] at *
                unfold erV
                (repeat' split) <;> omega
              rw [if_pos (of_decide_eq_true k0), if_neg (by rw [hE]; decide), hE]
              have L := ler_10001 l u (lenP l) i rest
              refine round_out L rfl (pickL_ok ?_ _) rfl rfl rfl
              repeat' (first | exact cd_nil | refine cd_cons ?_ ?_)
              all_goals first | rfl | with_reducible assumption
            | false =>
              have hE : erV l i = 0 := by
                clear e1
                simp only [beq_iff_eq, beq_eq_false_iff_ne, ne_eq, bne_iff_ne, bne_eq_false_iff_eq, decide_eq_true_eq, decide_eq_false_iff_not, Bool.not_eq_true', Bool.not_eq_false'] at *
                unfold erV
                (repeat' split) <;> omega
              rw [if_pos (of_decide_eq_true k0), if_pos hE]
              have L := le_10000 l u (lenP l) i rest
              rw [e1 (of_decide_eq_true k0)] at L
              refine round_go L (pickL_ok ?_ _) rfl rfl rfl rfl
              repeat' (first | exact cd_nil | refine cd_cons ?_ ?_)
              all_goals first | rfl | with_reducible assumption
    | false =>
      rw [if_neg (of_decide_eq_false k0)]
      have L := le_0 l u (lenP l) i rest
      refine round_out L rfl (pickL_ok ?_ _) rfl rfl rfl
      repeat' (first | exact cd_nil | refine cd_cons ?_ ?_)
      all_goals first | rfl | with_reducible assumption
  · exfalso
    have : leStep ⟨l, u, n, i⟩ = .bad := if_neg ok
    rw [this] at hb; cases hb
theorem le_runs {l : List (Int × Int)} (h : lenP l ≤ 9223372036854775807) : ∀ (j i : Nat), i + j = l.length → ∃ c, runs leStep c ⟨l, lastV l i, lenP l, i⟩ = (if chL (prevP l i) (l.drop i) = 0 then some (.exit 0, leTm l (lastV l (lenP l)) (lenP l) (lenP l), []) else some (.ret, [(2, .w (.one (.int .i64 (chL (prevP l i) (l.drop i)))))], []))
  | 0, i, hi => by
    have e : (i : Int) = lenP l := by unfold lenP; omega
    refine ⟨1, ?_⟩
    rw [runs, le_go ⟨by omega, by omega, rfl, h, rfl⟩]
    unfold leNx
    rw [if_neg (by omega), List.drop_eq_nil_of_le (by omega), e]
    rfl
  | j + 1, i, hi => by
    have hl : (i : Int) < lenP l := by unfold lenP; omega
    have s := chL_step (l := l) (i := i) (by omega)
    by_cases g : erV l i = 0
    · obtain ⟨c, hc⟩ := le_runs h j (i + 1) (by omega)
      refine ⟨c + 1, ?_⟩
      have e : lastV l ((i + 1 : Nat) : Int) = fstP l i := by
        unfold lastV
        rw [if_pos (by omega), show ((i + 1 : Nat) : Int) - 1 = (i : Int) by omega]
      rw [e] at hc
      rw [runs, le_go ⟨by omega, by omega, rfl, h, rfl⟩]
      unfold leNx
      rw [if_pos hl, if_pos g, s, if_pos g]
      exact hc
    · refine ⟨1, ?_⟩
      rw [runs, le_go ⟨by omega, by omega, rfl, h, rfl⟩]
      unfold leNx
      rw [if_pos hl, if_neg g, s, if_neg g, if_neg g]
def leD : LpDefR leT Lp where
  ts := [9, 3, 10, 11]
  ps := []
  rs := []
  W := [2, 3, 5, 9, 10, 11, 12, 13, 14, 15, 16, 17, 18, 19, 20, 21, 22, 23, 24, 25, 26, 27, 28, 29, 30, 31, 32, 33, 34, 35, 36, 37]
  dec := fun vs tr ks => match vs, tr, ks with
    | [.w (.one (.fv (.row l))), .w (.one (.int .i64 u)), .w (.one (.int .i64 n)), .w (.one (.int .i64 i))], [], [] => some ⟨l, u, n, i⟩
    | _, _, _ => none
  fk := fun t => some (decide (chL none t.l = 0))
  spec := fun t β => match β with
    | true => some (.exit 0, leTm t.l (lastV t.l t.n) t.n t.n, [], [], [(decide (t.u = -4611686018427387904) && decide (t.i = 0) && decide (t.n = lenP t.l) && decide (t.n ≤ 9223372036854775807), true)])
    | false => some (.ret, [(2, .w (.one (.int .i64 (chL none t.l))))], [], [], [(decide (t.u = -4611686018427387904) && decide (t.i = 0) && decide (t.n = lenP t.l) && decide (t.n ≤ 9223372036854775807), true)])
theorem leD_ok (x : Code) (hx : codeAt (bodyOf Try.f65) [false, true, false, true, true, true] = some (.loop x)) : LpOk Try.prog lpI 38 x (leD.sp (fun _ => false)) := by
  obtain rfl := loopAt_eq hx
  refine lpR_ok (c := ctxOf Try.prog lpI (fun _ => false) []) (ctxOf_ok (lib1_nil _ _) (eq_none _)) (by kernel_rfl) (fun _ _ _ h => h) hx lps_nil (S := leS) (step := leStep) (fun _ h => by cases h) (by kernel_rfl) (by kernel_rfl) ?_ rfl (fun t e he => ?_) (fun t hb rest => le_round t hb rest) ?_
  · intro vs tr ks s hv1 hv2 h hv3
    simp only [leD] at h
    split at h
    · cases h
      exact ⟨rfl, fun e he => .inl he⟩
    · cases h
  · simp only [leS, leTm, List.mem_cons, List.not_mem_nil, or_false] at he
    rcases he with rfl | rfl | rfl | rfl <;> rfl
  · intro s β ex outs rts wb cd h hfk hc
    obtain ⟨l, u, n, i⟩ := s
    have hβ := hfk _ rfl
    cases β with
    | true =>
      simp only [leD] at h hβ
      cases h
      have := cd1' hc
      simp only [Bool.and_eq_true, decide_eq_true_eq] at this
      obtain ⟨⟨⟨rfl, rfl⟩, rfl⟩, h3⟩ := this
      obtain ⟨c, hc⟩ := le_runs h3 l.length 0 (by omega)
      refine ⟨c, ?_⟩
      have hz : chL none l = 0 := by simpa using hβ
      rw [List.drop_zero, show prevP l 0 = none from rfl, if_pos hz] at hc
      exact hc
    | false =>
      simp only [leD] at h hβ
      cases h
      have := cd1' hc
      simp only [Bool.and_eq_true, decide_eq_true_eq] at this
      obtain ⟨⟨⟨rfl, rfl⟩, rfl⟩, h3⟩ := this
      obtain ⟨c, hc⟩ := le_runs h3 l.length 0 (by omega)
      refine ⟨c, ?_⟩
      have hz : ¬ chL none l = 0 := by simpa using hβ
      rw [List.drop_zero, show prevP l 0 = none from rfl, if_neg hz] at hc
      exact hc
set_option maxRecDepth 100000 in
theorem rg_11 (l : List (Int × Int)) (day : Int) (u : Int) (n : Int) (i : Int) (rest : List (Nat × AV Lp)) : evView (ctxOf Try.prog lpI (fun _ => false) []) 27 (false :: [false, true, false, true, true]) (loopAt (bodyOf Try.f108) [false, true, false, true, true]) ([(10, (.w (.one (.fv (.row l))))), (0, (.w (.one (.int .i64 day)))), (5, (.w (.one (.int .i64 u)))), (11, (.w (.one (.int .i64 n)))), (12, (.w (.one (.int .i64 i))))] ++ (ptrN 0 [] ++ rest)) [] 0 [10, 0, 5, 11, 12] [true, true] = some ((Ex.normal, [AV.w (AW.one (AC.fv (Lp.row l))), AV.w (AW.one (AC.int IntKind.i64 day)), AV.w (AW.one (AC.int IntKind.i64 (IntKind.i64.wrap (u + IntKind.i64.wrap (1000 * sndP l i))))), AV.w (AW.one (AC.int IntKind.i64 n)), AV.w (AW.one (AC.int IntKind.i64 (IntKind.i64.wrap (i + 1))))], []), (pickL [(decide (i < n), true), (decide (0 ≤ i), true), (decide (i < lenP l), true), (decide (fstP l i < day), true)] [0, 1, 2, 1, 2, 3])) := by kernel_rfl
set_option maxRecDepth 100000 in
theorem rg_10 (l : List (Int × Int)) (day : Int) (u : Int) (n : Int) (i : Int) (rest : List (Nat × AV Lp)) : evView (ctxOf Try.prog lpI (fun _ => false) []) 27 (false :: [false, true, false, true, true]) (loopAt (bodyOf Try.f108) [false, true, false, true, true]) ([(10, (.w (.one (.fv (.row l))))), (0, (.w (.one (.int .i64 day)))), (5, (.w (.one (.int .i64 u)))), (11, (.w (.one (.int .i64 n)))), (12, (.w (.one (.int .i64 i))))] ++ (ptrN 0 [] ++ rest)) [] 0 [10, 0, 5, 11, 12] [true, false] = some ((Ex.normal, [AV.w (AW.one (AC.fv (Lp.row l))), AV.w (AW.one (AC.int IntKind.i64 day)), AV.w (AW.one (AC.int IntKind.i64 u)), AV.w (AW.one (AC.int IntKind.i64 n)), AV.w (AW.one (AC.int IntKind.i64 (IntKind.i64.wrap (i + 1))))], []), (pickL [(decide (i < n), true), (decide (0 ≤ i), true), (decide (i < lenP l), true), (decide (fstP l i < day), false)] [0, 1, 2, 1, 2, 3])) := by kernel_rfl
set_option maxRecDepth 100000 in
theorem rg_0 (l : List (Int × Int)) (day : Int) (u : Int) (n : Int) (i : Int) (rest : List (Nat × AV Lp)) : evView (ctxOf Try.prog lpI (fun _ => false) []) 27 (false :: [false, true, false, true, true]) (loopAt (bodyOf Try.f108) [false, true, false, true, true]) ([(10, (.w (.one (.fv (.row l))))), (0, (.w (.one (.int .i64 day)))), (5, (.w (.one (.int .i64 u)))), (11, (.w (.one (.int .i64 n)))), (12, (.w (.one (.int .i64 i))))] ++ (ptrN 0 [] ++ rest)) [] 0 [10, 0, 5, 11, 12] [false] = some ((Ex.exit 0, [AV.w (AW.one (AC.fv (Lp.row l))), AV.w (AW.one (AC.int IntKind.i64 day)), AV.w (AW.one (AC.int IntKind.i64 u)), AV.w (AW.one (AC.int IntKind.i64 n)), AV.w (AW.one (AC.int IntKind.i64 i))], []), (pickL [(decide (i < n), false)] [0])) := by kernel_rfl
structure rgT where
  l : List (Int × Int)
  day : Int
  u : Int
  n : Int
  i : Int
def rgP (l : List (Int × Int)) (day : Int) (u : Int) (n : Int) (i : Int) : Prop := okT l ∧ -10000000 ≤ day ∧ day ≤ 10000000 ∧ 0 ≤ i ∧ i ≤ n ∧ n = lenP l ∧ 86400000 * day - 1000 * i ≤ u ∧ u ≤ 86400000 * day + 1000 * i
instance (l : List (Int × Int)) (day : Int) (u : Int) (n : Int) (i : Int) : Decidable (rgP l day u n i) := by unfold rgP; infer_instance
def rgTm (l : List (Int × Int)) (day : Int) (u : Int) (n : Int) (i : Int) : List (Nat × AV Lp) := [(10, (.w (.one (.fv (.row l))))), (0, (.w (.one (.int .i64 day)))), (5, (.w (.one (.int .i64 u)))), (11, (.w (.one (.int .i64 n)))), (12, (.w (.one (.int .i64 i))))]
def rgS : LpSt rgT Lp where
  ps := []
  tm := fun t => rgTm t.l t.day t.u t.n t.i
  hp := fun t => []
def rgNx (l : List (Int × Int)) (day : Int) (u : Int) (n : Int) (i : Int) : Nxt rgT Lp := if i < n then .go ⟨l, day, if fstP l i < day then u + 1000 * sndP l i else u, n, i + 1⟩ else .out (.exit 0) (rgTm l day u n i) []
def rgStep (t : rgT) : Nxt rgT Lp := if rgP t.l t.day t.u t.n t.i then rgNx t.l t.day t.u t.n t.i else .bad
theorem rg_go {l : List (Int × Int)} {day : Int} {u : Int} {n : Int} {i : Int} (h : rgP l day u n i) : rgStep ⟨l, day, u, n, i⟩ = rgNx l day u n i := if_pos h
set_option maxRecDepth 100000 in
set_option maxHeartbeats 4000000 in
theorem rg_round (t : rgT) (hb : (rgStep t).isBad = false) (rest : List (Nat × AV Lp)) : ∃ fuel path r, evC (ctxOf Try.prog lpI (fun _ => false) []) fuel 27 (false :: [false, true, false, true, true]) (loopAt (bodyOf Try.f108) [false, true, false, true, true]) (rgS.tm t ++ (ptrN 0 rgS.ps ++ rest)) (numb 0 (rgS.hp t)) 0 path = some r ∧ (∀ p ∈ r.cd, p.1 = p.2) ∧ Gives rgS 0 r (rgStep t) := by
  obtain ⟨l, day, u, n, i⟩ := t
  by_cases ok : rgP l day u n i
  · rw [rg_go ok]
    clear hb
    unfold rgNx
    obtain ⟨h1, h2, h3, h4, h5, h6, h7, h8⟩ := ok
    subst h6
    have e0 : decide (0 ≤ i) = true := decide_eq_true h4
    have hl := h1.1
    have e1 : i < lenP l → IntKind.i64.wrap (i + 1) = i + 1 := fun _ => w64 (by omega) (by omega)
    have e2 : i < lenP l → IntKind.i64.wrap (u + IntKind.i64.wrap (1000 * sndP l i)) = u + 1000 * sndP l i := fun hi => by
      have := (okT_get h1 h4 hi).1
      rw [w64 (x := 1000 * sndP l i) (by omega) (by omega), w64 (by omega) (by omega)]
    cases k0 : (decide (i < lenP l)) with
    | true =>
      cases k1 : (decide (fstP l i < day)) with
      | true =>
        rw [if_pos (of_decide_eq_true k0), if_pos (of_decide_eq_true k1)]
        have L := rg_11 l day u (lenP l) i rest
        rw [e1 (of_decide_eq_true k0), e2 (of_decide_eq_true k0)] at L
        refine round_go L (pickL_ok ?_ _) rfl rfl rfl rfl
        repeat' (first | exact cd_nil | refine cd_cons ?_ ?_)
        all_goals first | rfl | with_reducible assumption
      | false =>
        rw [if_pos (of_decide_eq_true k0), if_neg (of_decide_eq_false k1)]
        have L := rg_10 l day u (lenP l) i rest
        rw [e1 (of_decide_eq_true k0)] at L
        refine round_go L (pickL_ok ?_ _) rfl rfl rfl rfl
        repeat' (first | exact cd_nil | refine cd_cons ?_ ?_)
        all_goals first | rfl | with_reducible assumption
    | false =>
      rw [if_neg (of_decide_eq_false k0)]
      have L := rg_0 l day u (lenP l) i rest
      refine round_out L rfl (pickL_ok ?_ _) rfl rfl rfl
      repeat' (first | exact cd_nil | refine cd_cons ?_ ?_)
      all_goals first | rfl | with_reducible assumption
  · exfalso
    have : rgStep ⟨l, day, u, n, i⟩ = .bad := if_neg ok
    rw [this] at hb; cases hb
theorem rg_runs {l : List (Int × Int)} {day : Int} (h : okT l) (h1 : -10000000 ≤ day) (h2 : day ≤ 10000000) : ∀ (j i : Nat) (u : Int), i + j = l.length → 86400000 * day - 1000 * (i : Int) ≤ u → u ≤ 86400000 * day + 1000 * (i : Int) → ∃ c, runs rgStep c ⟨l, day, u, lenP l, i⟩ = some (.exit 0, rgTm l day (u + 1000 * sumL day (l.drop i)) (lenP l) (lenP l), [])
  | 0, i, u, hi, g1, g2 => by
    have e : (i : Int) = lenP l := by unfold lenP; omega
    refine ⟨1, ?_⟩
    rw [runs, rg_go ⟨h, h1, h2, by omega, by omega, rfl, g1, g2⟩]
    unfold rgNx
    rw [if_neg (by omega), List.drop_eq_nil_of_le (by omega), e, show u + 1000 * sumL day [] = u by simp [sumL]]
  | j + 1, i, u, hi, g1, g2 => by
    have hl : (i : Int) < lenP l := by unfold lenP; omega
    have s := (okT_get h (by omega) hl).1
    obtain ⟨c, hc⟩ := rg_runs h h1 h2 j (i + 1) (if fstP l i < day then u + 1000 * sndP l i else u) (by omega) (by split <;> omega) (by split <;> omega)
    refine ⟨c + 1, ?_⟩
    rw [runs, rg_go ⟨h, h1, h2, by omega, by omega, rfl, g1, g2⟩]
    unfold rgNx
    rw [if_pos hl, drop_cons (by omega)]
    have e : (if fstP l i < day then u + 1000 * sndP l i else u) + 1000 * sumL day (l.drop (i + 1)) = u + 1000 * sumL day ((fstP l i, sndP l i) :: l.drop (i + 1)) := by
      simp only [sumL]; split <;> omega
    rw [← e]
    exact hc
def rgD : LpDef rgT Lp where
  ts := [10, 0, 5, 11, 12]
  ps := []
  W := [0, 5, 7, 10, 11, 12, 13, 14, 15, 16, 17, 18, 19, 20, 21, 22, 23, 24, 25]
  dec := fun vs ks => match vs, ks with
    | [.w (.one (.fv (.row l))), .w (.one (.int .i64 day)), .w (.one (.int .i64 u)), .w (.one (.int .i64 n)), .w (.one (.int .i64 i))], [] => some ⟨l, day, u, n, i⟩
    | _, _ => none
  spec := fun t => some ((.exit 0), rgTm t.l t.day (86400000 * t.day + 1000 * sumL t.day t.l) t.n t.n, [], [(decide (okT t.l) && decide (-10000000 ≤ t.day) && decide (t.day ≤ 10000000) && decide (t.n = lenP t.l) && decide (t.i = 0) && decide (t.u = 86400000 * t.day), true)])
theorem rgD_ok (x : Code) (hx : codeAt (bodyOf Try.f108) [false, true, false, true, true] = some (.loop x)) : LpOk Try.prog lpI 27 x (rgD.sp (fun _ => false)) := by
  obtain rfl := loopAt_eq hx
  refine lp_ok (c := ctxOf Try.prog lpI (fun _ => false) []) (ctxOf_ok (lib1_nil _ _) (eq_none _)) (by kernel_rfl) hx lps_nil (S := rgS) (step := rgStep) (fun _ h => by cases h) (by kernel_rfl) (by kernel_rfl) ?_ rfl (fun t e he => ?_) (fun t hb rest => rg_round t hb rest) ?_
  · intro vs ks s hv1 h hv2
    simp only [rgD] at h
    split at h
    · cases h
      exact ⟨rfl, fun e he => he⟩
    · cases h
  · simp only [rgS, rgTm, List.mem_cons, List.not_mem_nil, or_false] at he
    rcases he with rfl | rfl | rfl | rfl | rfl <;> rfl
  · intro s ex outs wb cd h hc
    obtain ⟨l, day, u, n, i⟩ := s
    simp only [rgD] at h
    cases h
    have := cd1' hc
    simp only [Bool.and_eq_true, decide_eq_true_eq] at this
    obtain ⟨⟨⟨⟨⟨h1, h2⟩, h3⟩, rfl⟩, rfl⟩, rfl⟩ := this
    exact rg_runs h1 h2 h3 l.length 0 (86400000 * day) (by omega) (by omega) (by omega)
end
end Go.Proofs.Ytoaoifiklnbknaa.RL

