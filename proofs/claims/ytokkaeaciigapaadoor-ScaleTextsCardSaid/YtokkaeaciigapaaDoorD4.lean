/-
  Package scale: CheckLeaps, stepAt and begin as functions of tables of leap seconds.
  Conditions: those of each theorem.
-/
import Derived.Test.YtokkaeaciigapaaDoorLV
import Derived.Test.YtokkaeaciigapaaDoorD2
set_option linter.unusedVariables false
set_option linter.unusedSimpArgs false
namespace Go.Proofs.YtokkaeaciigapaaDoor
open Go.RowKit Ev Sc

def befL : Option Int → Int → Bool
  | some q, d => decide (d ≤ q)
  | none, _ => false
/-- The error of a table from its i-th entry on, p: the day before. -/
def chL : Option Int → List (Int × Int) → Int
  | _, [] => 0
  | p, (d, s) :: r => if s ≠ 1 ∧ s ≠ -1 then 1 else if d < -200000 ∨ 200000 < d then 4 else if befL p d = true then 11 else chL (some d) r
theorem chL_cons (p : Option Int) (d s : Int) (r : List (Int × Int)) : chL p ((d, s) :: r) = if s ≠ 1 ∧ s ≠ -1 then 1 else if d < -200000 ∨ 200000 < d then 4 else if befL p d = true then 11 else chL (some d) r := by rw [chL]
def ckL (l : List (Int × Int)) : Int := if 64 < lenP l then 2 else chL none l
/-- What the leap seconds before a day add up to. -/
def sumL (day : Int) : List (Int × Int) → Int
  | [] => 0
  | (d, s) :: r => (if d < day then s else 0) + sumL day r
/-- The leap second of a day. -/
def stL (day : Int) : List (Int × Int) → Int
  | [] => 0
  | (d, s) :: r => if d = day then s else stL day r
def hasL (day : Int) : List (Int × Int) → Bool
  | [] => false
  | (d, _) :: r => decide (d = day) || hasL day r
def okT (l : List (Int × Int)) : Prop := lenP l ≤ 64 ∧ ∀ e ∈ l, (e.2 = 1 ∨ e.2 = -1) ∧ -200000 ≤ e.1 ∧ e.1 ≤ 200000
instance (l : List (Int × Int)) : Decidable (okT l) := by unfold okT; infer_instance
theorem chL_mem : ∀ {l : List (Int × Int)} {p : Option Int}, chL p l = 0 → ∀ e ∈ l, (e.2 = 1 ∨ e.2 = -1) ∧ -200000 ≤ e.1 ∧ e.1 ≤ 200000
  | [], p, h, e, he => by cases he
  | (d, s) :: r, p, h, e, he => by
    unfold chL at h
    by_cases a : s ≠ 1 ∧ s ≠ -1
    · rw [if_pos a] at h; omega
    · rw [if_neg a] at h
      by_cases b : d < -200000 ∨ 200000 < d
      · rw [if_pos b] at h; omega
      · rw [if_neg b] at h
        split at h
        · omega
        · rcases List.mem_cons.1 he with rfl | he
          · exact ⟨by omega, by omega, by omega⟩
          · exact chL_mem h e he
theorem ckL_ok {l : List (Int × Int)} (h : ckL l = 0) : okT l := by
  unfold ckL at h
  split at h
  · omega
  · exact ⟨by omega, chL_mem h⟩
theorem drop_cons {l : List (Int × Int)} {i : Nat} (h : i < l.length) : l.drop i = (fstP l i, sndP l i) :: l.drop (i + 1) := by
  rw [List.drop_eq_getElem_cons h]
  have e : l.getD i (0, 0) = l[i] := by simp [List.getD_eq_getElem?_getD, h]
  unfold fstP sndP
  rw [Int.toNat_natCast, e]
theorem okT_get {l : List (Int × Int)} (h : okT l) {i : Int} (h0 : 0 ≤ i) (h1 : i < lenP l) : (sndP l i = 1 ∨ sndP l i = -1) ∧ -200000 ≤ fstP l i ∧ fstP l i ≤ 200000 := by
  unfold lenP at h1
  have hi : i.toNat < l.length := by omega
  have e : l.getD i.toNat (0, 0) = l[i.toNat] := by simp [List.getD_eq_getElem?_getD, hi]
  unfold fstP sndP
  rw [e]
  exact h.2 _ (List.getElem_mem hi)
theorem sumL_in {day : Int} : ∀ {l : List (Int × Int)}, (∀ e ∈ l, (e.2 = 1 ∨ e.2 = -1) ∧ -200000 ≤ e.1 ∧ e.1 ≤ 200000) → -lenP l ≤ sumL day l ∧ sumL day l ≤ lenP l
  | [], h => by simp [sumL, lenP]
  | (d, s) :: r, h => by
    have ih := sumL_in (day := day) (l := r) fun e he => h e (List.mem_cons_of_mem _ he)
    have := (h (d, s) List.mem_cons_self).1
    simp only at this
    simp only [sumL, lenP, List.length_cons] at ih ⊢
    split <;> omega
theorem lenP_nn (l : List (Int × Int)) : 0 ≤ lenP l := by unfold lenP; omega

set_option maxRecDepth 100000 in
theorem bg_11 (l : List (Int × Int)) (day : Int) (u : Int) (n : Int) (i : Int) (rest : List (Nat × AV Lp)) : evView (ctxOf Tryd.prog lpI (fun _ => false) []) 27 (false :: [false, true, false, true, true]) (loopAt (bodyOf Tryd.f32) [false, true, false, true, true]) ([(10, (.w (.one (.fv (.row l))))), (0, (.w (.one (.int .i64 day)))), (5, (.w (.one (.int .i64 u)))), (11, (.w (.one (.int .i64 n)))), (12, (.w (.one (.int .i64 i))))] ++ (ptrN 0 [] ++ rest)) [] 0 [10, 0, 5, 11, 12] [true, true] = some ((Ex.normal, [AV.w (AW.one (AC.fv (Lp.row l))), AV.w (AW.one (AC.int IntKind.i64 day)), AV.w (AW.one (AC.int IntKind.i64 (IntKind.i64.wrap (u + IntKind.i64.wrap (sndP l i * 1000))))), AV.w (AW.one (AC.int IntKind.i64 n)), AV.w (AW.one (AC.int IntKind.i64 (IntKind.i64.wrap (i + 1))))], []), (pickL [(decide (i < n), true), (decide (0 ≤ i), true), (decide (i < lenP l), true), (decide (fstP l i < day), true)] [0, 1, 2, 1, 2, 3])) := by kernel_rfl
set_option maxRecDepth 100000 in
theorem bg_10 (l : List (Int × Int)) (day : Int) (u : Int) (n : Int) (i : Int) (rest : List (Nat × AV Lp)) : evView (ctxOf Tryd.prog lpI (fun _ => false) []) 27 (false :: [false, true, false, true, true]) (loopAt (bodyOf Tryd.f32) [false, true, false, true, true]) ([(10, (.w (.one (.fv (.row l))))), (0, (.w (.one (.int .i64 day)))), (5, (.w (.one (.int .i64 u)))), (11, (.w (.one (.int .i64 n)))), (12, (.w (.one (.int .i64 i))))] ++ (ptrN 0 [] ++ rest)) [] 0 [10, 0, 5, 11, 12] [true, false] = some ((Ex.normal, [AV.w (AW.one (AC.fv (Lp.row l))), AV.w (AW.one (AC.int IntKind.i64 day)), AV.w (AW.one (AC.int IntKind.i64 u)), AV.w (AW.one (AC.int IntKind.i64 n)), AV.w (AW.one (AC.int IntKind.i64 (IntKind.i64.wrap (i + 1))))], []), (pickL [(decide (i < n), true), (decide (0 ≤ i), true), (decide (i < lenP l), true), (decide (fstP l i < day), false)] [0, 1, 2, 1, 2, 3])) := by kernel_rfl
set_option maxRecDepth 100000 in
theorem bg_0 (l : List (Int × Int)) (day : Int) (u : Int) (n : Int) (i : Int) (rest : List (Nat × AV Lp)) : evView (ctxOf Tryd.prog lpI (fun _ => false) []) 27 (false :: [false, true, false, true, true]) (loopAt (bodyOf Tryd.f32) [false, true, false, true, true]) ([(10, (.w (.one (.fv (.row l))))), (0, (.w (.one (.int .i64 day)))), (5, (.w (.one (.int .i64 u)))), (11, (.w (.one (.int .i64 n)))), (12, (.w (.one (.int .i64 i))))] ++ (ptrN 0 [] ++ rest)) [] 0 [10, 0, 5, 11, 12] [false] = some ((Ex.exit 0, [AV.w (AW.one (AC.fv (Lp.row l))), AV.w (AW.one (AC.int IntKind.i64 day)), AV.w (AW.one (AC.int IntKind.i64 u)), AV.w (AW.one (AC.int IntKind.i64 n)), AV.w (AW.one (AC.int IntKind.i64 i))], []), (pickL [(decide (i < n), false)] [0])) := by kernel_rfl
structure bgT where
  l : List (Int × Int)
  day : Int
  u : Int
  n : Int
  i : Int
def bgP (l : List (Int × Int)) (day : Int) (u : Int) (n : Int) (i : Int) : Prop := okT l ∧ -10000000 ≤ day ∧ day ≤ 10000000 ∧ 0 ≤ i ∧ i ≤ n ∧ n = lenP l ∧ 86400000 * day - 1000 * i ≤ u ∧ u ≤ 86400000 * day + 1000 * i
instance (l : List (Int × Int)) (day : Int) (u : Int) (n : Int) (i : Int) : Decidable (bgP l day u n i) := by unfold bgP; infer_instance
def bgTm (l : List (Int × Int)) (day : Int) (u : Int) (n : Int) (i : Int) : List (Nat × AV Lp) := [(10, (.w (.one (.fv (.row l))))), (0, (.w (.one (.int .i64 day)))), (5, (.w (.one (.int .i64 u)))), (11, (.w (.one (.int .i64 n)))), (12, (.w (.one (.int .i64 i))))]
def bgS : LpSt bgT Lp where
  ps := []
  tm := fun t => bgTm t.l t.day t.u t.n t.i
  hp := fun t => []
def bgNx (l : List (Int × Int)) (day : Int) (u : Int) (n : Int) (i : Int) : Nxt bgT Lp := if i < n then .go ⟨l, day, if fstP l i < day then u + 1000 * sndP l i else u, n, i + 1⟩ else .out (.exit 0) (bgTm l day u n i) []
def bgStep (t : bgT) : Nxt bgT Lp := if bgP t.l t.day t.u t.n t.i then bgNx t.l t.day t.u t.n t.i else .bad
theorem bg_go {l : List (Int × Int)} {day : Int} {u : Int} {n : Int} {i : Int} (h : bgP l day u n i) : bgStep ⟨l, day, u, n, i⟩ = bgNx l day u n i := if_pos h
set_option maxRecDepth 100000 in
set_option maxHeartbeats 4000000 in
theorem bg_round (t : bgT) (hb : (bgStep t).isBad = false) (rest : List (Nat × AV Lp)) : ∃ fuel path r, evC (ctxOf Tryd.prog lpI (fun _ => false) []) fuel 27 (false :: [false, true, false, true, true]) (loopAt (bodyOf Tryd.f32) [false, true, false, true, true]) (bgS.tm t ++ (ptrN 0 bgS.ps ++ rest)) (numb 0 (bgS.hp t)) 0 path = some r ∧ (∀ p ∈ r.cd, p.1 = p.2) ∧ Gives bgS 0 r (bgStep t) := by
  obtain ⟨l, day, u, n, i⟩ := t
  by_cases ok : bgP l day u n i
  · rw [bg_go ok]
    clear hb
    unfold bgNx
    obtain ⟨h1, h2, h3, h4, h5, h6, h7, h8⟩ := ok
    subst h6
    have e0 : decide (0 ≤ i) = true := decide_eq_true h4
    have hl := h1.1
    have e1 : i < lenP l → IntKind.i64.wrap (i + 1) = i + 1 := fun _ => w64 (by omega) (by omega)
    have e2 : i < lenP l → IntKind.i64.wrap (u + IntKind.i64.wrap (sndP l i * 1000)) = u + 1000 * sndP l i := fun hi => by
      have := (okT_get h1 h4 hi).1
      rw [w64 (x := sndP l i * 1000) (by omega) (by omega), w64 (by omega) (by omega)]; omega
    cases k0 : (decide (i < lenP l)) with
    | true =>
      cases k1 : (decide (fstP l i < day)) with
      | true =>
        rw [if_pos (of_decide_eq_true k0), if_pos (of_decide_eq_true k1)]
        have L := bg_11 l day u (lenP l) i rest
        rw [e1 (of_decide_eq_true k0), e2 (of_decide_eq_true k0)] at L
        refine round_go L (pickL_ok ?_ _) rfl rfl rfl rfl
        repeat' (first | exact cd_nil | refine cd_cons ?_ ?_)
        all_goals first | rfl | with_reducible assumption
      | false =>
        rw [if_pos (of_decide_eq_true k0), if_neg (of_decide_eq_false k1)]
        have L := bg_10 l day u (lenP l) i rest
        rw [e1 (of_decide_eq_true k0)] at L
        refine round_go L (pickL_ok ?_ _) rfl rfl rfl rfl
        repeat' (first | exact cd_nil | refine cd_cons ?_ ?_)
        all_goals first | rfl | with_reducible assumption
    | false =>
      rw [if_neg (of_decide_eq_false k0)]
      have L := bg_0 l day u (lenP l) i rest
      refine round_out L rfl (pickL_ok ?_ _) rfl rfl rfl
      repeat' (first | exact cd_nil | refine cd_cons ?_ ?_)
      all_goals first | rfl | with_reducible assumption
  · exfalso
    have : bgStep ⟨l, day, u, n, i⟩ = .bad := if_neg ok
    rw [this] at hb; cases hb
theorem bg_runs {l : List (Int × Int)} {day : Int} (h : okT l) (h1 : -10000000 ≤ day) (h2 : day ≤ 10000000) : ∀ (j i : Nat) (u : Int), i + j = l.length → 86400000 * day - 1000 * (i : Int) ≤ u → u ≤ 86400000 * day + 1000 * (i : Int) → ∃ c, runs bgStep c ⟨l, day, u, lenP l, i⟩ = some (.exit 0, bgTm l day (u + 1000 * sumL day (l.drop i)) (lenP l) (lenP l), [])
  | 0, i, u, hi, g1, g2 => by
    have e : (i : Int) = lenP l := by unfold lenP; omega
    refine ⟨1, ?_⟩
    rw [runs, bg_go ⟨h, h1, h2, by omega, by omega, rfl, g1, g2⟩]
    unfold bgNx
    rw [if_neg (by omega), List.drop_eq_nil_of_le (by omega), e, show u + 1000 * sumL day [] = u by simp [sumL]]
  | j + 1, i, u, hi, g1, g2 => by
    have hl : (i : Int) < lenP l := by unfold lenP; omega
    have s := (okT_get h (by omega) hl).1
    obtain ⟨c, hc⟩ := bg_runs h h1 h2 j (i + 1) (if fstP l i < day then u + 1000 * sndP l i else u) (by omega) (by split <;> omega) (by split <;> omega)
    refine ⟨c + 1, ?_⟩
    rw [runs, bg_go ⟨h, h1, h2, by omega, by omega, rfl, g1, g2⟩]
    unfold bgNx
    rw [if_pos hl, drop_cons (by omega)]
    have e : (if fstP l i < day then u + 1000 * sndP l i else u) + 1000 * sumL day (l.drop (i + 1)) = u + 1000 * sumL day ((fstP l i, sndP l i) :: l.drop (i + 1)) := by
      simp only [sumL]; split <;> omega
    rw [← e]
    exact hc
def bgD : LpDef bgT Lp where
  ts := [10, 0, 5, 11, 12]
  ps := []
  W := [0, 5, 7, 10, 11, 12, 13, 14, 15, 16, 17, 18, 19, 20, 21, 22, 23, 24, 25]
  dec := fun vs ks => match vs, ks with
    | [.w (.one (.fv (.row l))), .w (.one (.int .i64 day)), .w (.one (.int .i64 u)), .w (.one (.int .i64 n)), .w (.one (.int .i64 i))], [] => some ⟨l, day, u, n, i⟩
    | _, _ => none
  spec := fun t => some ((.exit 0), bgTm t.l t.day (86400000 * t.day + 1000 * sumL t.day t.l) t.n t.n, [], [(decide (okT t.l) && decide (-10000000 ≤ t.day) && decide (t.day ≤ 10000000) && decide (t.n = lenP t.l) && decide (t.i = 0) && decide (t.u = 86400000 * t.day), true)])
theorem bgD_ok (x : Code) (hx : codeAt (bodyOf Tryd.f32) [false, true, false, true, true] = some (.loop x)) : LpOk Tryd.prog lpI 27 x (bgD.sp (fun _ => false)) := by
  obtain rfl := loopAt_eq hx
  refine lp_ok (c := ctxOf Tryd.prog lpI (fun _ => false) []) (ctxOf_ok (lib1_nil _ _) (eq_none _)) (by kernel_rfl) hx lps_nil (S := bgS) (step := bgStep) (fun _ h => by cases h) (by kernel_rfl) (by kernel_rfl) ?_ rfl (fun t e he => ?_) (fun t hb rest => bg_round t hb rest) ?_
  · intro vs ks s hv1 h hv2
    simp only [bgD] at h
    split at h
    · cases h
      exact ⟨rfl, fun e he => he⟩
    · cases h
  · simp only [bgS, bgTm, List.mem_cons, List.not_mem_nil, or_false] at he
    rcases he with rfl | rfl | rfl | rfl | rfl <;> rfl
  · intro s ex outs wb cd h hc
    obtain ⟨l, day, u, n, i⟩ := s
    simp only [bgD] at h
    cases h
    have := cd1' hc
    simp only [Bool.and_eq_true, decide_eq_true_eq] at this
    obtain ⟨⟨⟨⟨⟨h1, h2⟩, h3⟩, rfl⟩, rfl⟩, rfl⟩ := this
    exact bg_runs h1 h2 h3 l.length 0 (86400000 * day) (by omega) (by omega) (by omega)
set_option maxRecDepth 100000 in
theorem sa_0 (l : List (Int × Int)) (day : Int) (n : Int) (i : Int) (rest : List (Nat × AV Lp)) : evView (ctxOf Tryd.prog lpI (fun _ => false) []) 20 (false :: [false, true, false, true]) (loopAt (bodyOf Tryd.f31) [false, true, false, true]) ([(7, (.w (.one (.fv (.row l))))), (0, (.w (.one (.int .i64 day)))), (8, (.w (.one (.int .i64 n)))), (9, (.w (.one (.int .i64 i))))] ++ (ptrN 0 [] ++ rest)) [] 0 [7, 0, 8, 9] [false] = some ((Ex.exit 0, [AV.w (AW.one (AC.fv (Lp.row l))), AV.w (AW.one (AC.int IntKind.i64 day)), AV.w (AW.one (AC.int IntKind.i64 n)), AV.w (AW.one (AC.int IntKind.i64 i))], []), (pickL [(decide (i < n), false)] [0])) := by kernel_rfl
set_option maxRecDepth 100000 in
theorem sa_10 (l : List (Int × Int)) (day : Int) (n : Int) (i : Int) (rest : List (Nat × AV Lp)) : evView (ctxOf Tryd.prog lpI (fun _ => false) []) 20 (false :: [false, true, false, true]) (loopAt (bodyOf Tryd.f31) [false, true, false, true]) ([(7, (.w (.one (.fv (.row l))))), (0, (.w (.one (.int .i64 day)))), (8, (.w (.one (.int .i64 n)))), (9, (.w (.one (.int .i64 i))))] ++ (ptrN 0 [] ++ rest)) [] 0 [7, 0, 8, 9] [true, false] = some ((Ex.normal, [AV.w (AW.one (AC.fv (Lp.row l))), AV.w (AW.one (AC.int IntKind.i64 day)), AV.w (AW.one (AC.int IntKind.i64 n)), AV.w (AW.one (AC.int IntKind.i64 (IntKind.i64.wrap (i + 1))))], []), (pickL [(decide (i < n), true), (decide (0 ≤ i), true), (decide (i < lenP l), true), (fstP l i == day, false)] [0, 1, 2, 1, 2, 3])) := by kernel_rfl
set_option maxRecDepth 100000 in
theorem sar_11 (l : List (Int × Int)) (day : Int) (n : Int) (i : Int) (rest : List (Nat × AV Lp)) : evView (ctxOf Tryd.prog lpI (fun _ => false) []) 20 (false :: [false, true, false, true]) (loopAt (bodyOf Tryd.f31) [false, true, false, true]) ([(7, (.w (.one (.fv (.row l))))), (0, (.w (.one (.int .i64 day)))), (8, (.w (.one (.int .i64 n)))), (9, (.w (.one (.int .i64 i))))] ++ (ptrN 0 [] ++ rest)) [] 0 [4] [true, true] = some ((Ex.ret, [AV.w (AW.one (AC.int IntKind.i64 (sndP l i)))], []), (pickL [(decide (i < n), true), (decide (0 ≤ i), true), (decide (i < lenP l), true), (fstP l i == day, true)] [0, 1, 2, 1, 2, 3])) := by kernel_rfl
structure saT where
  l : List (Int × Int)
  day : Int
  n : Int
  i : Int
def saP (l : List (Int × Int)) (day : Int) (n : Int) (i : Int) : Prop := 0 ≤ i ∧ i ≤ n ∧ n = lenP l ∧ n ≤ 9223372036854775807
instance (l : List (Int × Int)) (day : Int) (n : Int) (i : Int) : Decidable (saP l day n i) := by unfold saP; infer_instance
def saTm (l : List (Int × Int)) (day : Int) (n : Int) (i : Int) : List (Nat × AV Lp) := [(7, (.w (.one (.fv (.row l))))), (0, (.w (.one (.int .i64 day)))), (8, (.w (.one (.int .i64 n)))), (9, (.w (.one (.int .i64 i))))]
def saS : LpSt saT Lp where
  ps := []
  tm := fun t => saTm t.l t.day t.n t.i
  hp := fun t => []
def saNx (l : List (Int × Int)) (day : Int) (n : Int) (i : Int) : Nxt saT Lp := if i < n then (if fstP l i = day then .out .ret [(4, .w (.one (.int .i64 (sndP l i))))] [] else .go ⟨l, day, n, i + 1⟩) else .out (.exit 0) (saTm l day n i) []
def saStep (t : saT) : Nxt saT Lp := if saP t.l t.day t.n t.i then saNx t.l t.day t.n t.i else .bad
theorem sa_go {l : List (Int × Int)} {day : Int} {n : Int} {i : Int} (h : saP l day n i) : saStep ⟨l, day, n, i⟩ = saNx l day n i := if_pos h
set_option maxRecDepth 100000 in
set_option maxHeartbeats 4000000 in
theorem sa_round (t : saT) (hb : (saStep t).isBad = false) (rest : List (Nat × AV Lp)) : ∃ fuel path r, evC (ctxOf Tryd.prog lpI (fun _ => false) []) fuel 20 (false :: [false, true, false, true]) (loopAt (bodyOf Tryd.f31) [false, true, false, true]) (saS.tm t ++ (ptrN 0 saS.ps ++ rest)) (numb 0 (saS.hp t)) 0 path = some r ∧ (∀ p ∈ r.cd, p.1 = p.2) ∧ Gives saS 0 r (saStep t) := by
  obtain ⟨l, day, n, i⟩ := t
  by_cases ok : saP l day n i
  · rw [sa_go ok]
    clear hb
    unfold saNx
    obtain ⟨h1, h2, rfl, h4⟩ := ok
    have e0 : decide (0 ≤ i) = true := decide_eq_true h1
    have e1 : i < lenP l → IntKind.i64.wrap (i + 1) = i + 1 := fun _ => w64 (by omega) (by omega)
    cases k0 : (decide (i < lenP l)) with
    | true =>
      cases k1 : (fstP l i == day) with
      | true =>
        rw [if_pos (of_decide_eq_true k0), if_pos (by simpa using k1)]
        have L := sar_11 l day (lenP l) i rest
        refine round_out L rfl (pickL_ok ?_ _) rfl rfl rfl
        repeat' (first | exact cd_nil | refine cd_cons ?_ ?_)
        all_goals first | rfl | with_reducible assumption
      | false =>
        rw [if_pos (of_decide_eq_true k0), if_neg (by simpa using k1)]
        have L := sa_10 l day (lenP l) i rest
        rw [e1 (of_decide_eq_true k0)] at L
        refine round_go L (pickL_ok ?_ _) rfl rfl rfl rfl
        repeat' (first | exact cd_nil | refine cd_cons ?_ ?_)
        all_goals first | rfl | with_reducible assumption
    | false =>
      rw [if_neg (of_decide_eq_false k0)]
      have L := sa_0 l day (lenP l) i rest
      refine round_out L rfl (pickL_ok ?_ _) rfl rfl rfl
      repeat' (first | exact cd_nil | refine cd_cons ?_ ?_)
      all_goals first | rfl | with_reducible assumption
  · exfalso
    have : saStep ⟨l, day, n, i⟩ = .bad := if_neg ok
    rw [this] at hb; cases hb
theorem sa_runs {l : List (Int × Int)} {day : Int} (h : lenP l ≤ 9223372036854775807) : ∀ (j i : Nat), i + j = l.length → ∃ c, runs saStep c ⟨l, day, lenP l, i⟩ = (if hasL day (l.drop i) = true then some (.ret, [(4, .w (.one (.int .i64 (stL day (l.drop i)))))], []) else some (.exit 0, saTm l day (lenP l) (lenP l), []))
  | 0, i, hi => by
    have e : (i : Int) = lenP l := by unfold lenP; omega
    refine ⟨1, ?_⟩
    rw [runs, sa_go ⟨by omega, by omega, rfl, h⟩]
    unfold saNx
    rw [if_neg (by omega), List.drop_eq_nil_of_le (by omega), e]
    rfl
  | j + 1, i, hi => by
    have hl : (i : Int) < lenP l := by unfold lenP; omega
    have d := drop_cons (l := l) (i := i) (by omega)
    by_cases g : fstP l i = day
    · refine ⟨1, ?_⟩
      rw [runs, sa_go ⟨by omega, by omega, rfl, h⟩]
      unfold saNx
      rw [if_pos hl, if_pos g, d]
      simp only [hasL, stL, g, decide_true, Bool.true_or, if_true]
    · obtain ⟨c, hc⟩ := sa_runs (day := day) h j (i + 1) (by omega)
      refine ⟨c + 1, ?_⟩
      rw [runs, sa_go ⟨by omega, by omega, rfl, h⟩]
      unfold saNx
      rw [if_pos hl, if_neg g, d]
      simp only [hasL, stL, g, decide_false, Bool.false_or, if_false]
      exact hc
theorem hasL_no {day : Int} : ∀ {l : List (Int × Int)}, hasL day l = false → stL day l = 0
  | [], _ => rfl
  | (d, s) :: r, h => by
    simp only [hasL, Bool.or_eq_false_iff, decide_eq_false_iff_not] at h
    unfold stL
    rw [if_neg h.1]
    exact hasL_no h.2
def saD : LpDefR saT Lp where
  ts := [7, 0, 8, 9]
  ps := []
  rs := []
  W := [0, 4, 6, 7, 8, 9, 10, 11, 12, 13, 14, 15, 16, 17, 18, 19]
  dec := fun vs tr ks => match vs, tr, ks with
    | [.w (.one (.fv (.row l))), .w (.one (.int .i64 day)), .w (.one (.int .i64 n)), .w (.one (.int .i64 i))], [], [] => some ⟨l, day, n, i⟩
    | _, _, _ => none
  fk := fun t => some (hasL t.day t.l)
  spec := fun t β => match β with
    | true => some (.ret, [(4, .w (.one (.int .i64 (stL t.day t.l))))], [], [], [(decide (t.i = 0) && decide (t.n = lenP t.l) && decide (t.n ≤ 9223372036854775807), true)])
    | false => some (.exit 0, saTm t.l t.day t.n t.n, [], [], [(decide (t.i = 0) && decide (t.n = lenP t.l) && decide (t.n ≤ 9223372036854775807), true)])
theorem saD_ok (x : Code) (hx : codeAt (bodyOf Tryd.f31) [false, true, false, true] = some (.loop x)) : LpOk Tryd.prog lpI 20 x (saD.sp (fun _ => false)) := by
  obtain rfl := loopAt_eq hx
  refine lpR_ok (c := ctxOf Tryd.prog lpI (fun _ => false) []) (ctxOf_ok (lib1_nil _ _) (eq_none _)) (by kernel_rfl) (fun _ _ _ h => h) hx lps_nil (S := saS) (step := saStep) (fun _ h => by cases h) (by kernel_rfl) (by kernel_rfl) ?_ rfl (fun t e he => ?_) (fun t hb rest => sa_round t hb rest) ?_
  · intro vs tr ks s hv1 hv2 h hv3
    simp only [saD] at h
    split at h
    · cases h
      exact ⟨rfl, fun e he => .inl he⟩
    · cases h
  · simp only [saS, saTm, List.mem_cons, List.not_mem_nil, or_false] at he
    rcases he with rfl | rfl | rfl | rfl <;> rfl
  · intro s β ex outs rts wb cd h hfk hc
    obtain ⟨l, day, n, i⟩ := s
    have hβ := hfk _ rfl
    cases β with
    | true =>
      simp only [saD] at h hβ
      cases h
      have := cd1' hc
      simp only [Bool.and_eq_true, decide_eq_true_eq] at this
      obtain ⟨⟨rfl, rfl⟩, h3⟩ := this
      obtain ⟨c, hc⟩ := sa_runs (day := day) h3 l.length 0 (by omega)
      refine ⟨c, ?_⟩
      rw [List.drop_zero, hβ] at hc
      exact hc
    | false =>
      simp only [saD] at h hβ
      cases h
      have := cd1' hc
      simp only [Bool.and_eq_true, decide_eq_true_eq] at this
      obtain ⟨⟨rfl, rfl⟩, h3⟩ := this
      obtain ⟨c, hc⟩ := sa_runs (day := day) h3 l.length 0 (by omega)
      refine ⟨c, ?_⟩
      rw [List.drop_zero, hβ] at hc
      exact hc
set_option maxRecDepth 100000 in
theorem cl_1100010 (l : List (Int × Int)) (m : List (Int × Int)) (n : Int) (i : Int) (rest : List (Nat × AV Lp)) : evView (ctxOf Tryd.prog lpI (fun _ => false) []) 48 (false :: [false, true, false, true, true]) (loopAt (bodyOf Tryd.f30) [false, true, false, true, true]) ([(0, (.w (.one (.fv (.row l))))), (8, (.w (.one (.fv (.row m))))), (9, (.w (.one (.int .i64 n)))), (10, (.w (.one (.int .i64 i))))] ++ (ptrN 0 [] ++ rest)) [] 0 [0, 8, 9, 10] [true, true, false, false, false, true, false] = some ((Ex.normal, [AV.w (AW.one (AC.fv (Lp.row l))), AV.w (AW.one (AC.fv (Lp.row m))), AV.w (AW.one (AC.int IntKind.i64 n)), AV.w (AW.one (AC.int IntKind.i64 (IntKind.i64.wrap (i + 1))))], []), (pickL [(decide (i < n), true), (decide (0 ≤ i), true), (decide (i < lenP m), true), (sndP m i != 1, true), (sndP m i != -1, false), (decide (fstP m i < -200000), false), (decide (fstP m i > 200000), false), (decide (i > 0), true), (decide (0 ≤ IntKind.i64.wrap (i - 1)), true), (decide (IntKind.i64.wrap (i - 1) < lenP l), true), (decide (fstP m i ≤ fstP l (IntKind.i64.wrap (i - 1))), false)] [0, 1, 2, 1, 2, 3, 3, 3, 3, 4, 5, 5, 5, 5, 6, 7, 7, 7, 7, 7, 7, 8, 9, 7, 7, 8, 9, 7, 7, 10])) := by kernel_rfl
set_option maxRecDepth 100000 in
theorem cl_110000 (l : List (Int × Int)) (m : List (Int × Int)) (n : Int) (i : Int) (rest : List (Nat × AV Lp)) : evView (ctxOf Tryd.prog lpI (fun _ => false) []) 48 (false :: [false, true, false, true, true]) (loopAt (bodyOf Tryd.f30) [false, true, false, true, true]) ([(0, (.w (.one (.fv (.row l))))), (8, (.w (.one (.fv (.row m))))), (9, (.w (.one (.int .i64 n)))), (10, (.w (.one (.int .i64 i))))] ++ (ptrN 0 [] ++ rest)) [] 0 [0, 8, 9, 10] [true, true, false, false, false, false] = some ((Ex.normal, [AV.w (AW.one (AC.fv (Lp.row l))), AV.w (AW.one (AC.fv (Lp.row m))), AV.w (AW.one (AC.int IntKind.i64 n)), AV.w (AW.one (AC.int IntKind.i64 (IntKind.i64.wrap (i + 1))))], []), (pickL [(decide (i < n), true), (decide (0 ≤ i), true), (decide (i < lenP m), true), (sndP m i != 1, true), (sndP m i != -1, false), (decide (fstP m i < -200000), false), (decide (fstP m i > 200000), false), (decide (i > 0), false), (false, false)] [0, 1, 2, 1, 2, 3, 3, 3, 3, 4, 5, 5, 5, 5, 6, 7, 7, 7, 7, 7, 7, 7, 7, 7, 7, 8])) := by kernel_rfl
set_option maxRecDepth 100000 in
theorem cl_100010 (l : List (Int × Int)) (m : List (Int × Int)) (n : Int) (i : Int) (rest : List (Nat × AV Lp)) : evView (ctxOf Tryd.prog lpI (fun _ => false) []) 48 (false :: [false, true, false, true, true]) (loopAt (bodyOf Tryd.f30) [false, true, false, true, true]) ([(0, (.w (.one (.fv (.row l))))), (8, (.w (.one (.fv (.row m))))), (9, (.w (.one (.int .i64 n)))), (10, (.w (.one (.int .i64 i))))] ++ (ptrN 0 [] ++ rest)) [] 0 [0, 8, 9, 10] [true, false, false, false, true, false] = some ((Ex.normal, [AV.w (AW.one (AC.fv (Lp.row l))), AV.w (AW.one (AC.fv (Lp.row m))), AV.w (AW.one (AC.int IntKind.i64 n)), AV.w (AW.one (AC.int IntKind.i64 (IntKind.i64.wrap (i + 1))))], []), (pickL [(decide (i < n), true), (decide (0 ≤ i), true), (decide (i < lenP m), true), (sndP m i != 1, false), (false, false), (decide (fstP m i < -200000), false), (decide (fstP m i > 200000), false), (decide (i > 0), true), (decide (0 ≤ IntKind.i64.wrap (i - 1)), true), (decide (IntKind.i64.wrap (i - 1) < lenP l), true), (decide (fstP m i ≤ fstP l (IntKind.i64.wrap (i - 1))), false)] [0, 1, 2, 1, 2, 3, 3, 3, 3, 4, 5, 5, 5, 5, 6, 7, 7, 7, 7, 7, 7, 8, 9, 7, 7, 8, 9, 7, 7, 10])) := by kernel_rfl
set_option maxRecDepth 100000 in
theorem cl_10000 (l : List (Int × Int)) (m : List (Int × Int)) (n : Int) (i : Int) (rest : List (Nat × AV Lp)) : evView (ctxOf Tryd.prog lpI (fun _ => false) []) 48 (false :: [false, true, false, true, true]) (loopAt (bodyOf Tryd.f30) [false, true, false, true, true]) ([(0, (.w (.one (.fv (.row l))))), (8, (.w (.one (.fv (.row m))))), (9, (.w (.one (.int .i64 n)))), (10, (.w (.one (.int .i64 i))))] ++ (ptrN 0 [] ++ rest)) [] 0 [0, 8, 9, 10] [true, false, false, false, false] = some ((Ex.normal, [AV.w (AW.one (AC.fv (Lp.row l))), AV.w (AW.one (AC.fv (Lp.row m))), AV.w (AW.one (AC.int IntKind.i64 n)), AV.w (AW.one (AC.int IntKind.i64 (IntKind.i64.wrap (i + 1))))], []), (pickL [(decide (i < n), true), (decide (0 ≤ i), true), (decide (i < lenP m), true), (sndP m i != 1, false), (false, false), (decide (fstP m i < -200000), false), (decide (fstP m i > 200000), false), (decide (i > 0), false)] [0, 1, 2, 1, 2, 3, 3, 3, 3, 4, 5, 5, 5, 5, 6, 7, 7, 7, 7, 7, 7, 7, 7, 7, 7, 4])) := by kernel_rfl
set_option maxRecDepth 100000 in
theorem cl_0 (l : List (Int × Int)) (m : List (Int × Int)) (n : Int) (i : Int) (rest : List (Nat × AV Lp)) : evView (ctxOf Tryd.prog lpI (fun _ => false) []) 48 (false :: [false, true, false, true, true]) (loopAt (bodyOf Tryd.f30) [false, true, false, true, true]) ([(0, (.w (.one (.fv (.row l))))), (8, (.w (.one (.fv (.row m))))), (9, (.w (.one (.int .i64 n)))), (10, (.w (.one (.int .i64 i))))] ++ (ptrN 0 [] ++ rest)) [] 0 [0, 8, 9, 10] [false] = some ((Ex.exit 0, [AV.w (AW.one (AC.fv (Lp.row l))), AV.w (AW.one (AC.fv (Lp.row m))), AV.w (AW.one (AC.int IntKind.i64 n)), AV.w (AW.one (AC.int IntKind.i64 i))], []), (pickL [(decide (i < n), false)] [0])) := by kernel_rfl
set_option maxRecDepth 100000 in
theorem clr_111 (l : List (Int × Int)) (m : List (Int × Int)) (n : Int) (i : Int) (rest : List (Nat × AV Lp)) : evView (ctxOf Tryd.prog lpI (fun _ => false) []) 48 (false :: [false, true, false, true, true]) (loopAt (bodyOf Tryd.f30) [false, true, false, true, true]) ([(0, (.w (.one (.fv (.row l))))), (8, (.w (.one (.fv (.row m))))), (9, (.w (.one (.int .i64 n)))), (10, (.w (.one (.int .i64 i))))] ++ (ptrN 0 [] ++ rest)) [] 0 [2] [true, true, true] = some ((Ex.ret, [AV.w (AW.one (AC.int IntKind.i64 1))], []), (pickL [(decide (i < n), true), (decide (0 ≤ i), true), (decide (i < lenP m), true), (sndP m i != 1, true), (sndP m i != -1, true)] [0, 1, 2, 1, 2, 3, 3, 3, 3, 4])) := by kernel_rfl
set_option maxRecDepth 100000 in
theorem clr_1101 (l : List (Int × Int)) (m : List (Int × Int)) (n : Int) (i : Int) (rest : List (Nat × AV Lp)) : evView (ctxOf Tryd.prog lpI (fun _ => false) []) 48 (false :: [false, true, false, true, true]) (loopAt (bodyOf Tryd.f30) [false, true, false, true, true]) ([(0, (.w (.one (.fv (.row l))))), (8, (.w (.one (.fv (.row m))))), (9, (.w (.one (.int .i64 n)))), (10, (.w (.one (.int .i64 i))))] ++ (ptrN 0 [] ++ rest)) [] 0 [2] [true, true, false, true] = some ((Ex.ret, [AV.w (AW.one (AC.int IntKind.i64 4))], []), (pickL [(decide (i < n), true), (decide (0 ≤ i), true), (decide (i < lenP m), true), (sndP m i != 1, true), (sndP m i != -1, false), (decide (fstP m i < -200000), true), (true, true)] [0, 1, 2, 1, 2, 3, 3, 3, 3, 4, 5, 5, 5, 5, 6])) := by kernel_rfl
set_option maxRecDepth 100000 in
theorem clr_11001 (l : List (Int × Int)) (m : List (Int × Int)) (n : Int) (i : Int) (rest : List (Nat × AV Lp)) : evView (ctxOf Tryd.prog lpI (fun _ => false) []) 48 (false :: [false, true, false, true, true]) (loopAt (bodyOf Tryd.f30) [false, true, false, true, true]) ([(0, (.w (.one (.fv (.row l))))), (8, (.w (.one (.fv (.row m))))), (9, (.w (.one (.int .i64 n)))), (10, (.w (.one (.int .i64 i))))] ++ (ptrN 0 [] ++ rest)) [] 0 [2] [true, true, false, false, true] = some ((Ex.ret, [AV.w (AW.one (AC.int IntKind.i64 4))], []), (pickL [(decide (i < n), true), (decide (0 ≤ i), true), (decide (i < lenP m), true), (sndP m i != 1, true), (sndP m i != -1, false), (decide (fstP m i < -200000), false), (decide (fstP m i > 200000), true)] [0, 1, 2, 1, 2, 3, 3, 3, 3, 4, 5, 5, 5, 5, 6])) := by kernel_rfl
set_option maxRecDepth 100000 in
theorem clr_1100011 (l : List (Int × Int)) (m : List (Int × Int)) (n : Int) (i : Int) (rest : List (Nat × AV Lp)) : evView (ctxOf Tryd.prog lpI (fun _ => false) []) 48 (false :: [false, true, false, true, true]) (loopAt (bodyOf Tryd.f30) [false, true, false, true, true]) ([(0, (.w (.one (.fv (.row l))))), (8, (.w (.one (.fv (.row m))))), (9, (.w (.one (.int .i64 n)))), (10, (.w (.one (.int .i64 i))))] ++ (ptrN 0 [] ++ rest)) [] 0 [2] [true, true, false, false, false, true, true] = some ((Ex.ret, [AV.w (AW.one (AC.int IntKind.i64 11))], []), (pickL [(decide (i < n), true), (decide (0 ≤ i), true), (decide (i < lenP m), true), (sndP m i != 1, true), (sndP m i != -1, false), (decide (fstP m i < -200000), false), (decide (fstP m i > 200000), false), (decide (i > 0), true), (decide (0 ≤ IntKind.i64.wrap (i - 1)), true), (decide (IntKind.i64.wrap (i - 1) < lenP l), true), (decide (fstP m i ≤ fstP l (IntKind.i64.wrap (i - 1))), true)] [0, 1, 2, 1, 2, 3, 3, 3, 3, 4, 5, 5, 5, 5, 6, 7, 7, 7, 7, 7, 7, 8, 9, 7, 7, 8, 9, 7, 7, 10])) := by kernel_rfl
set_option maxRecDepth 100000 in
theorem clr_101 (l : List (Int × Int)) (m : List (Int × Int)) (n : Int) (i : Int) (rest : List (Nat × AV Lp)) : evView (ctxOf Tryd.prog lpI (fun _ => false) []) 48 (false :: [false, true, false, true, true]) (loopAt (bodyOf Tryd.f30) [false, true, false, true, true]) ([(0, (.w (.one (.fv (.row l))))), (8, (.w (.one (.fv (.row m))))), (9, (.w (.one (.int .i64 n)))), (10, (.w (.one (.int .i64 i))))] ++ (ptrN 0 [] ++ rest)) [] 0 [2] [true, false, true] = some ((Ex.ret, [AV.w (AW.one (AC.int IntKind.i64 4))], []), (pickL [(decide (i < n), true), (decide (0 ≤ i), true), (decide (i < lenP m), true), (sndP m i != 1, false), (false, false), (decide (fstP m i < -200000), true), (true, true)] [0, 1, 2, 1, 2, 3, 3, 3, 3, 4, 5, 5, 5, 5, 6])) := by kernel_rfl
set_option maxRecDepth 100000 in
theorem clr_1001 (l : List (Int × Int)) (m : List (Int × Int)) (n : Int) (i : Int) (rest : List (Nat × AV Lp)) : evView (ctxOf Tryd.prog lpI (fun _ => false) []) 48 (false :: [false, true, false, true, true]) (loopAt (bodyOf Tryd.f30) [false, true, false, true, true]) ([(0, (.w (.one (.fv (.row l))))), (8, (.w (.one (.fv (.row m))))), (9, (.w (.one (.int .i64 n)))), (10, (.w (.one (.int .i64 i))))] ++ (ptrN 0 [] ++ rest)) [] 0 [2] [true, false, false, true] = some ((Ex.ret, [AV.w (AW.one (AC.int IntKind.i64 4))], []), (pickL [(decide (i < n), true), (decide (0 ≤ i), true), (decide (i < lenP m), true), (sndP m i != 1, false), (false, false), (decide (fstP m i < -200000), false), (decide (fstP m i > 200000), true)] [0, 1, 2, 1, 2, 3, 3, 3, 3, 4, 5, 5, 5, 5, 6])) := by kernel_rfl
set_option maxRecDepth 100000 in
theorem clr_100011 (l : List (Int × Int)) (m : List (Int × Int)) (n : Int) (i : Int) (rest : List (Nat × AV Lp)) : evView (ctxOf Tryd.prog lpI (fun _ => false) []) 48 (false :: [false, true, false, true, true]) (loopAt (bodyOf Tryd.f30) [false, true, false, true, true]) ([(0, (.w (.one (.fv (.row l))))), (8, (.w (.one (.fv (.row m))))), (9, (.w (.one (.int .i64 n)))), (10, (.w (.one (.int .i64 i))))] ++ (ptrN 0 [] ++ rest)) [] 0 [2] [true, false, false, false, true, true] = some ((Ex.ret, [AV.w (AW.one (AC.int IntKind.i64 11))], []), (pickL [(decide (i < n), true), (decide (0 ≤ i), true), (decide (i < lenP m), true), (sndP m i != 1, false), (false, false), (decide (fstP m i < -200000), false), (decide (fstP m i > 200000), false), (decide (i > 0), true), (decide (0 ≤ IntKind.i64.wrap (i - 1)), true), (decide (IntKind.i64.wrap (i - 1) < lenP l), true), (decide (fstP m i ≤ fstP l (IntKind.i64.wrap (i - 1))), true)] [0, 1, 2, 1, 2, 3, 3, 3, 3, 4, 5, 5, 5, 5, 6, 7, 7, 7, 7, 7, 7, 8, 9, 7, 7, 8, 9, 7, 7, 10])) := by kernel_rfl
def erV (l : List (Int × Int)) (i : Int) : Int := if sndP l i ≠ 1 ∧ sndP l i ≠ -1 then 1 else if fstP l i < -200000 ∨ 200000 < fstP l i then 4 else if 0 < i ∧ fstP l i ≤ fstP l (i - 1) then 11 else 0
structure clT where
  l : List (Int × Int)
  m : List (Int × Int)
  n : Int
  i : Int
def clP (l : List (Int × Int)) (m : List (Int × Int)) (n : Int) (i : Int) : Prop := l = m ∧ 0 ≤ i ∧ i ≤ n ∧ n = lenP l ∧ n ≤ 9223372036854775807
instance (l : List (Int × Int)) (m : List (Int × Int)) (n : Int) (i : Int) : Decidable (clP l m n i) := by unfold clP; infer_instance
def clTm (l : List (Int × Int)) (m : List (Int × Int)) (n : Int) (i : Int) : List (Nat × AV Lp) := [(0, (.w (.one (.fv (.row l))))), (8, (.w (.one (.fv (.row m))))), (9, (.w (.one (.int .i64 n)))), (10, (.w (.one (.int .i64 i))))]
def clS : LpSt clT Lp where
  ps := []
  tm := fun t => clTm t.l t.m t.n t.i
  hp := fun t => []
def clNx (l : List (Int × Int)) (m : List (Int × Int)) (n : Int) (i : Int) : Nxt clT Lp := if i < n then (if erV l i = 0 then .go ⟨l, m, n, i + 1⟩ else .out .ret [(2, .w (.one (.int .i64 (erV l i))))] []) else .out (.exit 0) (clTm l m n i) []
def clStep (t : clT) : Nxt clT Lp := if clP t.l t.m t.n t.i then clNx t.l t.m t.n t.i else .bad
theorem cl_go {l : List (Int × Int)} {m : List (Int × Int)} {n : Int} {i : Int} (h : clP l m n i) : clStep ⟨l, m, n, i⟩ = clNx l m n i := if_pos h
set_option maxRecDepth 100000 in
set_option maxHeartbeats 4000000 in
theorem cl_round (t : clT) (hb : (clStep t).isBad = false) (rest : List (Nat × AV Lp)) : ∃ fuel path r, evC (ctxOf Tryd.prog lpI (fun _ => false) []) fuel 48 (false :: [false, true, false, true, true]) (loopAt (bodyOf Tryd.f30) [false, true, false, true, true]) (clS.tm t ++ (ptrN 0 clS.ps ++ rest)) (numb 0 (clS.hp t)) 0 path = some r ∧ (∀ p ∈ r.cd, p.1 = p.2) ∧ Gives clS 0 r (clStep t) := by
  obtain ⟨l, m, n, i⟩ := t
  by_cases ok : clP l m n i
  · rw [cl_go ok]
    clear hb
    unfold clNx
    obtain ⟨h0, h1, h2, rfl, h4⟩ := ok
    subst h0
    have e0 : decide (0 ≤ i) = true := decide_eq_true h1
    have e1 : i < lenP l → IntKind.i64.wrap (i + 1) = i + 1 := fun _ => w64 (by omega) (by omega)
    have w1 : IntKind.i64.wrap (i - 1) = i - 1 := w64 (by omega) (by omega)
    cases k0 : (decide (i < lenP l)) with
    | true =>
      cases k1 : (sndP l i != 1) with
      | true =>
        cases k2 : (sndP l i != -1) with
        | true =>
          have hE : erV l i = 1 := by
            try rw [w1] at *
            clear e1 w1
            simp only [beq_iff_eq, beq_eq_false_iff_ne, ne_eq, bne_iff_ne, bne_eq_false_iff_eq, decide_eq_true_eq, decide_eq_false_iff_not, Bool.not_eq_true', Bool.not_eq_false'] at *
            unfold erV
            (repeat' split) <;> omega
          rw [if_pos (of_decide_eq_true k0), if_neg (by rw [hE]; decide), hE]
          have L := clr_111 l l (lenP l) i rest
          refine round_out L rfl (pickL_ok ?_ _) rfl rfl rfl
          repeat' (first | exact cd_nil | refine cd_cons ?_ ?_)
          all_goals first | rfl | with_reducible assumption
        | false =>
          cases k3 : (decide (fstP l i < -200000)) with
          | true =>
            have hE : erV l i = 4 := by
              try rw [w1] at *
              clear e1 w1
              simp only [beq_iff_eq, beq_eq_false_iff_ne, ne_eq, bne_iff_ne, bne_eq_false_iff_eq, decide_eq_true_eq, decide_eq_false_iff_not, Bool.not_eq_true', Bool.not_eq_false'] at *
              unfold erV
              (repeat' split) <;> omega
            rw [if_pos (of_decide_eq_true k0), if_neg (by rw [hE]; decide), hE]
            have L := clr_1101 l l (lenP l) i rest
            refine round_out L rfl (pickL_ok ?_ _) rfl rfl rfl
            repeat' (first | exact cd_nil | refine cd_cons ?_ ?_)
            all_goals first | rfl | with_reducible assumption
          | false =>
            cases k4 : (decide (fstP l i > 200000)) with
            | true =>
              have hE : erV l i = 4 := by
                try rw [w1] at *
                clear e1 w1
                simp only [beq_iff_eq, beq_eq_false_iff_ne, ne_eq, bne_iff_ne, bne_eq_false_iff_eq, decide_eq_true_eq, decide_eq_false_iff_not, Bool.not_eq_true', Bool.not_eq_false'] at *
                unfold erV
                (repeat' split) <;> omega
              rw [if_pos (of_decide_eq_true k0), if_neg (by rw [hE]; decide), hE]
              have L := clr_11001 l l (lenP l) i rest
              refine round_out L rfl (pickL_ok ?_ _) rfl rfl rfl
              repeat' (first | exact cd_nil | refine cd_cons ?_ ?_)
              all_goals first | rfl | with_reducible assumption
            | false =>
              cases k5 : (decide (i > 0)) with
              | true =>
                cases k6 : (decide (fstP l i ≤ fstP l (IntKind.i64.wrap (i - 1)))) with
                | true =>
                  have j0 : decide (0 ≤ IntKind.i64.wrap (i - 1)) = true := by rw [w1]; exact decide_eq_true (by simp only [decide_eq_true_eq] at *; omega)
                  have j1 : decide (IntKind.i64.wrap (i - 1) < lenP l) = true := by rw [w1]; exact decide_eq_true (by simp only [decide_eq_true_eq] at *; omega)
                  have hE : erV l i = 11 := by
                    try rw [w1] at *
                    clear e1 w1
                    simp only [beq_iff_eq, beq_eq_false_iff_ne, ne_eq, bne_iff_ne, bne_eq_false_iff_eq, decide_eq_true_eq, decide_eq_false_iff_not, Bool.not_eq_true', Bool.not_eq_false'] at *
                    unfold erV
                    (repeat' split) <;> omega
                  rw [if_pos (of_decide_eq_true k0), if_neg (by rw [hE]; decide), hE]
                  have L := clr_1100011 l l (lenP l) i rest
                  refine round_out L rfl (pickL_ok ?_ _) rfl rfl rfl
                  repeat' (first | exact cd_nil | refine cd_cons ?_ ?_)
                  all_goals first | rfl | with_reducible assumption
                | false =>
                  have j0 : decide (0 ≤ IntKind.i64.wrap (i - 1)) = true := by rw [w1]; exact decide_eq_true (by simp only [decide_eq_true_eq] at *; omega)
                  have j1 : decide (IntKind.i64.wrap (i - 1) < lenP l) = true := by rw [w1]; exact decide_eq_true (by simp only [decide_eq_true_eq] at *; omega)
                  have hE : erV l i = 0 := by
                    try rw [w1] at *
                    clear e1 w1
                    simp only [beq_iff_eq, beq_eq_false_iff_ne, ne_eq, bne_iff_ne, bne_eq_false_iff_eq, decide_eq_true_eq, decide_eq_false_iff_not, Bool.not_eq_true', Bool.not_eq_false'] at *
                    unfold erV
                    (repeat' split) <;> omega
                  rw [if_pos (of_decide_eq_true k0), if_pos hE]
                  have L := cl_1100010 l l (lenP l) i rest
                  rw [e1 (of_decide_eq_true k0)] at L
                  refine round_go L (pickL_ok ?_ _) rfl rfl rfl rfl
                  repeat' (first | exact cd_nil | refine cd_cons ?_ ?_)
                  all_goals first | rfl | with_reducible assumption
              | false =>
                have hE : erV l i = 0 := by
                  try rw [w1] at *
                  clear e1 w1
                  simp only [beq_iff_eq, beq_eq_false_iff_ne, ne_eq, bne_iff_ne, bne_eq_false_iff_eq, decide_eq_true_eq, decide_eq_false_iff_not, Bool.not_eq_true', Bool.not_eq_false'] at *
                  unfold erV
                  (repeat' split) <;> omega
                rw [if_pos (of_decide_eq_true k0), if_pos hE]
                have L := cl_110000 l l (lenP l) i rest
                rw [e1 (of_decide_eq_true k0)] at L
                refine round_go L (pickL_ok ?_ _) rfl rfl rfl rfl
                repeat' (first | exact cd_nil | refine cd_cons ?_ ?_)
                all_goals first | rfl | with_reducible assumption
      | false =>
        cases k7 : (decide (fstP l i < -200000)) with
        | true =>
          have hE : erV l i = 4 := by
            try rw [w1] at *
            clear e1 w1
            simp only [beq_iff_eq, beq_eq_false_iff_ne, ne_eq, bne_iff_ne, bne_eq_false_iff_eq, decide_eq_true_eq, decide_eq_false_iff_not, Bool.not_eq_true', Bool.not_eq_false'] at *
            unfold erV
            (repeat' split) <;> omega
          rw [if_pos (of_decide_eq_true k0), if_neg (by rw [hE]; decide), hE]
          have L := clr_101 l l (lenP l) i rest
          refine round_out L rfl (pickL_ok ?_ _) rfl rfl rfl
          repeat' (first | exact cd_nil | refine cd_cons ?_ ?_)
          all_goals first | rfl | with_reducible assumption
        | false =>
          cases k8 : (decide (fstP l i > 200000)) with
          | true =>
            have hE : erV l i = 4 := by
              try rw [w1] at *
              clear e1 w1
              simp only [beq_iff_eq, beq_eq_false_iff_ne, ne_eq, bne_iff_ne, bne_eq_false_iff_eq, decide_eq_true_eq, decide_eq_false_iff_not, Bool.not_eq_true', Bool.not_eq_false'] at *
              unfold erV
              (repeat' split) <;> omega
            rw [if_pos (of_decide_eq_true k0), if_neg (by rw [hE]; decide), hE]
            have L := clr_1001 l l (lenP l) i rest
            refine round_out L rfl (pickL_ok ?_ _) rfl rfl rfl
            repeat' (first | exact cd_nil | refine cd_cons ?_ ?_)
            all_goals first | rfl | with_reducible assumption
          | false =>
            cases k9 : (decide (i > 0)) with
            | true =>
              cases k10 : (decide (fstP l i ≤ fstP l (IntKind.i64.wrap (i - 1)))) with
              | true =>
                have j0 : decide (0 ≤ IntKind.i64.wrap (i - 1)) = true := by rw [w1]; exact decide_eq_true (by simp only [decide_eq_true_eq] at *; omega)
                have j1 : decide (IntKind.i64.wrap (i - 1) < lenP l) = true := by rw [w1]; exact decide_eq_true (by simp only [decide_eq_true_eq] at *; omega)
                have hE : erV l i = 11 := by
                  try rw [w1] at *
                  clear e1 w1
                  simp only [beq_iff_eq, beq_eq_false_iff_ne, ne_eq, bne_iff_ne, bne_eq_false_iff_eq, decide_eq_true_eq, decide_eq_false_iff_not, Bool.not_eq_true', Bool.not_eq_false'] at *
                  unfold erV
                  (repeat' split) <;> omega
                rw [if_pos (of_decide_eq_true k0), if_neg (by rw [hE]; decide), hE]
                have L := clr_100011 l l (lenP l) i rest
                refine round_out L rfl (pickL_ok ?_ _) rfl rfl rfl
                repeat' (first | exact cd_nil | refine cd_cons ?_ ?_)
                all_goals first | rfl | with_reducible assumption
              | false =>
                have j0 : decide (0 ≤ IntKind.i64.wrap (i - 1)) = true := by rw [w1]; exact decide_eq_true (by simp only [decide_eq_true_eq] at *; omega)
                have j1 : decide (IntKind.i64.wrap (i - 1) < lenP l) = true := by rw [w1]; exact decide_eq_true (by simp only [decide_eq_true_eq] at *; omega)
                have hE : erV l i = 0 := by
                  try rw [w1] at *
                  clear e1 w1
                  simp only [beq_iff_eq, beq_eq_false_iff_ne, ne_eq, bne_iff_ne, bne_eq_false_iff_eq, decide_eq_true_eq, decide_eq_false_iff_not, Bool.not_eq_true', Bool.not_eq_false'] at *
                  unfold erV
                  (repeat' split) <;> omega
                rw [if_pos (of_decide_eq_true k0), if_pos hE]
                have L := cl_100010 l l (lenP l) i rest
                rw [e1 (of_decide_eq_true k0)] at L
                refine round_go L (pickL_ok ?_ _) rfl rfl rfl rfl
                repeat' (first | exact cd_nil | refine cd_cons ?_ ?_)
                all_goals first | rfl | with_reducible assumption
            | false =>
              have hE : erV l i = 0 := by
                try rw [w1] at *
                clear e1 w1
                simp only [beq_iff_eq, beq_eq_false_iff_ne, ne_eq, bne_iff_ne, bne_eq_false_iff_eq, decide_eq_true_eq, decide_eq_false_iff_not, Bool.not_eq_true', Bool.not_eq_false'] at *
                unfold erV
                (repeat' split) <;> omega
              rw [if_pos (of_decide_eq_true k0), if_pos hE]
              have L := cl_10000 l l (lenP l) i rest
              rw [e1 (of_decide_eq_true k0)] at L
              refine round_go L (pickL_ok ?_ _) rfl rfl rfl rfl
              repeat' (first | exact cd_nil | refine cd_cons ?_ ?_)
              all_goals first | rfl | with_reducible assumption
    | false =>
      rw [if_neg (of_decide_eq_false k0)]
      have L := cl_0 l l (lenP l) i rest
      refine round_out L rfl (pickL_ok ?_ _) rfl rfl rfl
      repeat' (first | exact cd_nil | refine cd_cons ?_ ?_)
      all_goals first | rfl | with_reducible assumption
  · exfalso
    have : clStep ⟨l, m, n, i⟩ = .bad := if_neg ok
    rw [this] at hb; cases hb
def prevP (l : List (Int × Int)) : Nat → Option Int
  | 0 => none
  | i + 1 => some (fstP l i)
theorem chL_step {l : List (Int × Int)} {i : Nat} (h : i < l.length) : chL (prevP l i) (l.drop i) = if erV l i = 0 then chL (prevP l (i + 1)) (l.drop (i + 1)) else erV l i := by
  rw [drop_cons h, chL_cons]
  unfold erV
  by_cases a : sndP l i ≠ 1 ∧ sndP l i ≠ -1
  · rw [if_pos a, if_pos a]; rfl
  · rw [if_neg a, if_neg a]
    by_cases b : fstP l i < -200000 ∨ 200000 < fstP l i
    · rw [if_pos b, if_pos b]; rfl
    · rw [if_neg b, if_neg b]
      cases i with
      | zero =>
        have e : (if 0 < ((0 : Nat) : Int) ∧ fstP l ((0 : Nat) : Int) ≤ fstP l (((0 : Nat) : Int) - 1) then (11 : Int) else 0) = 0 := if_neg (by omega)
        rw [if_neg (by simp [prevP, befL]), e, if_pos rfl]; rfl
      | succ i =>
        have e : ((i + 1 : Nat) : Int) - 1 = (i : Int) := by omega
        rw [e]
        by_cases c : fstP l ((i + 1 : Nat) : Int) ≤ fstP l i
        · have e : (if 0 < ((i + 1 : Nat) : Int) ∧ fstP l ((i + 1 : Nat) : Int) ≤ fstP l (i : Int) then (11 : Int) else 0) = 11 := if_pos ⟨by omega, c⟩
          rw [if_pos (by simpa [prevP, befL] using c), e, if_neg (by decide)]
        · have e : (if 0 < ((i + 1 : Nat) : Int) ∧ fstP l ((i + 1 : Nat) : Int) ≤ fstP l (i : Int) then (11 : Int) else 0) = 0 := if_neg (fun h => c h.2)
          rw [if_neg (by simpa [prevP, befL] using c), e, if_pos rfl]; rfl
theorem cl_runs {l : List (Int × Int)} (h : lenP l ≤ 9223372036854775807) : ∀ (j i : Nat), i + j = l.length → ∃ c, runs clStep c ⟨l, l, lenP l, i⟩ = (if chL (prevP l i) (l.drop i) = 0 then some (.exit 0, clTm l l (lenP l) (lenP l), []) else some (.ret, [(2, .w (.one (.int .i64 (chL (prevP l i) (l.drop i)))))], []))
  | 0, i, hi => by
    have e : (i : Int) = lenP l := by unfold lenP; omega
    refine ⟨1, ?_⟩
    rw [runs, cl_go ⟨rfl, by omega, by omega, rfl, h⟩]
    unfold clNx
    rw [if_neg (by omega), List.drop_eq_nil_of_le (by omega), e]
    rfl
  | j + 1, i, hi => by
    have hl : (i : Int) < lenP l := by unfold lenP; omega
    have s := chL_step (l := l) (i := i) (by omega)
    by_cases g : erV l i = 0
    · obtain ⟨c, hc⟩ := cl_runs h j (i + 1) (by omega)
      refine ⟨c + 1, ?_⟩
      rw [runs, cl_go ⟨rfl, by omega, by omega, rfl, h⟩]
      unfold clNx
      rw [if_pos hl, if_pos g, s, if_pos g]
      exact hc
    · refine ⟨1, ?_⟩
      rw [runs, cl_go ⟨rfl, by omega, by omega, rfl, h⟩]
      unfold clNx
      rw [if_pos hl, if_neg g, s, if_neg g, if_neg g]
def clD : LpDefR clT Lp where
  ts := [0, 8, 9, 10]
  ps := []
  rs := []
  W := [0, 2, 3, 4, 8, 9, 10, 11, 12, 13, 14, 15, 16, 17, 18, 19, 20, 21, 22, 23, 24, 25, 26, 27, 28, 29, 30, 31, 32, 33, 34, 35, 36, 37, 38, 39, 40, 41, 42, 43, 44, 45, 46, 47]
  dec := fun vs tr ks => match vs, tr, ks with
    | [.w (.one (.fv (.row l))), .w (.one (.fv (.row m))), .w (.one (.int .i64 n)), .w (.one (.int .i64 i))], [], [] => some ⟨l, m, n, i⟩
    | _, _, _ => none
  fk := fun t => some (decide (chL none t.l = 0))
  spec := fun t β => match β with
    | true => some (.exit 0, clTm t.l t.l t.n t.n, [], [], [(decide (t.l = t.m) && decide (t.i = 0) && decide (t.n = lenP t.l) && decide (t.n ≤ 9223372036854775807), true)])
    | false => some (.ret, [(2, .w (.one (.int .i64 (chL none t.l))))], [], [], [(decide (t.l = t.m) && decide (t.i = 0) && decide (t.n = lenP t.l) && decide (t.n ≤ 9223372036854775807), true)])
theorem clD_ok (x : Code) (hx : codeAt (bodyOf Tryd.f30) [false, true, false, true, true] = some (.loop x)) : LpOk Tryd.prog lpI 48 x (clD.sp (fun _ => false)) := by
  obtain rfl := loopAt_eq hx
  refine lpR_ok (c := ctxOf Tryd.prog lpI (fun _ => false) []) (ctxOf_ok (lib1_nil _ _) (eq_none _)) (by kernel_rfl) (fun _ _ _ h => h) hx lps_nil (S := clS) (step := clStep) (fun _ h => by cases h) (by kernel_rfl) (by kernel_rfl) ?_ rfl (fun t e he => ?_) (fun t hb rest => cl_round t hb rest) ?_
  · intro vs tr ks s hv1 hv2 h hv3
    simp only [clD] at h
    split at h
    · cases h
      exact ⟨rfl, fun e he => .inl he⟩
    · cases h
  · simp only [clS, clTm, List.mem_cons, List.not_mem_nil, or_false] at he
    rcases he with rfl | rfl | rfl | rfl <;> rfl
  · intro s β ex outs rts wb cd h hfk hc
    obtain ⟨l, m, n, i⟩ := s
    have hβ := hfk _ rfl
    cases β with
    | true =>
      simp only [clD] at h hβ
      cases h
      have := cd1' hc
      simp only [Bool.and_eq_true, decide_eq_true_eq] at this
      obtain ⟨⟨⟨rfl, rfl⟩, rfl⟩, h3⟩ := this
      obtain ⟨c, hc⟩ := cl_runs h3 l.length 0 (by omega)
      refine ⟨c, ?_⟩
      have hz : chL none l = 0 := by simpa using hβ
      rw [List.drop_zero, show prevP l 0 = none from rfl, if_pos hz] at hc
      exact hc
    | false =>
      simp only [clD] at h hβ
      cases h
      have := cd1' hc
      simp only [Bool.and_eq_true, decide_eq_true_eq] at this
      obtain ⟨⟨⟨rfl, rfl⟩, rfl⟩, h3⟩ := this
      obtain ⟨c, hc⟩ := cl_runs h3 l.length 0 (by omega)
      refine ⟨c, ?_⟩
      have hz : ¬ chL none l = 0 := by simpa using hβ
      rw [List.drop_zero, show prevP l 0 = none from rfl, if_neg hz] at hc
      exact hc
end Go.Proofs.YtokkaeaciigapaaDoor

