/-
  Package clock: the loops of CheckRun and Reads over tables of legs.
  Conditions: those of each theorem.
-/
import Derived.Test.YtjegnlnnjcchaaaC1
import Derived.Test.YtjegnlnnjcchaaaTB
set_option linter.unusedVariables false
set_option linter.unusedSimpArgs false
namespace Go.Proofs.Ytjegnlnnjcchaaa.AtCk
open Go.RowKit Ev Wd
open Go.Proofs.Ytjegnlnnjcchaaa

/-- A valid leg. -/
def lgB (r : List Int) : Bool := decide (0 ≤ r.getD 0 0) && (decide (r.getD 0 0 ≤ 1099511627776) && (decide (-100000 ≤ r.getD 1 0) && decide (r.getD 1 0 ≤ 100000)))
theorem lgB_iff {r : List Int} : lgB r = true ↔ 0 ≤ r.getD 0 0 ∧ r.getD 0 0 ≤ 1099511627776 ∧ -100000 ≤ r.getD 1 0 ∧ r.getD 1 0 ≤ 100000 := by unfold lgB; simp
def rowT (T : List (List Int)) (i : Int) : List Int := T.getD i.toNat []
theorem cel_row (T : List (List Int)) (i : Int) (o : Nat) : cel T i o = (rowT T i).getD o 0 := rfl
theorem dropT {T : List (List Int)} {i : Nat} (h : i < T.length) : T.drop i = rowT T i :: T.drop (i + 1) := by
  rw [List.drop_eq_getElem_cons h]
  have e : T.getD i [] = T[i] := by simp [List.getD_eq_getElem?_getD, h]
  unfold rowT
  rw [Int.toNat_natCast, e]
theorem allT {p : List Int → Bool} {T : List (List Int)} (h : T.all p = true) {i : Int} (h0 : 0 ≤ i) (h1 : i < lenT T) : p (rowT T i) = true := by
  unfold lenT at h1
  have hi : i.toNat < T.length := by omega
  have e : T.getD i.toNat [] = T[i.toNat] := by simp [List.getD_eq_getElem?_getD, hi]
  unfold rowT
  rw [e]
  exact List.all_eq_true.1 h _ (List.getElem_mem hi)
theorem lenT_nn (T : List (List Int)) : 0 ≤ lenT T := by unfold lenT; omega
theorem c1x {b : Bool} (h : ∀ p ∈ [(b, true)], p.1 = p.2) : b = true := h (b, true) (by simp)
/-- What is left of a time behind legs, and what they gain, in millionths. -/
def lfT : List (List Int) → Int → Int
  | [], a => a
  | r :: T, a => lfT T (a - minI a (r.getD 0 0))
def mlT : List (List Int) → Int → Int
  | [], _ => 0
  | r :: T, a => minI a (r.getD 0 0) * (1000000 + r.getD 1 0) + mlT T (a - minI a (r.getD 0 0))

set_option maxRecDepth 100000 in
theorem cr_10000 (T : List (List Int)) (n : Int) (i : Int) (rest : List (Nat × AV Tb)) : evView (ctxOf Try.prog tbI (fun _ => false) []) 45 (false :: [false, true, false, true, true, true]) (loopAt (bodyOf Try.f92) [false, true, false, true, true, true]) ([(20, (.w (.one (.fv (.tab [some .i64, some .i64] T))))), (21, (.w (.one (.int .i64 n)))), (22, (.w (.one (.int .i64 i))))] ++ (ptrN 0 [] ++ rest)) [] 0 [20, 21, 22] [true, false, false, false, false] = some ((Ex.normal, [AV.w (AW.one (AC.fv (Tb.tab [some IntKind.i64, some IntKind.i64] T))), AV.w (AW.one (AC.int IntKind.i64 n)), AV.w (AW.one (AC.int IntKind.i64 (IntKind.i64.wrap (i + 1))))], []), (pickL [(decide (i < n), true), (decide (0 ≤ i), true), (decide (i < lenT T), true), (decide (cel T i 0 < 0), false), (decide (cel T i 0 > 1099511627776), false), (decide (cel T i 1 < -100000), false), (decide (cel T i 1 > 100000), false)] [0, 1, 2, 1, 2, 3, 3, 3, 3, 4, 4, 4, 4, 5, 5, 5, 5, 6])) := by kernel_rfl
set_option maxRecDepth 100000 in
theorem cr_0 (T : List (List Int)) (n : Int) (i : Int) (rest : List (Nat × AV Tb)) : evView (ctxOf Try.prog tbI (fun _ => false) []) 45 (false :: [false, true, false, true, true, true]) (loopAt (bodyOf Try.f92) [false, true, false, true, true, true]) ([(20, (.w (.one (.fv (.tab [some .i64, some .i64] T))))), (21, (.w (.one (.int .i64 n)))), (22, (.w (.one (.int .i64 i))))] ++ (ptrN 0 [] ++ rest)) [] 0 [20, 21, 22] [false] = some ((Ex.exit 0, [AV.w (AW.one (AC.fv (Tb.tab [some IntKind.i64, some IntKind.i64] T))), AV.w (AW.one (AC.int IntKind.i64 n)), AV.w (AW.one (AC.int IntKind.i64 i))], []), (pickL [(decide (i < n), false)] [0])) := by kernel_rfl
set_option maxRecDepth 100000 in
theorem crr_11 (T : List (List Int)) (n : Int) (i : Int) (rest : List (Nat × AV Tb)) : evView (ctxOf Try.prog tbI (fun _ => false) []) 45 (false :: [false, true, false, true, true, true]) (loopAt (bodyOf Try.f92) [false, true, false, true, true, true]) ([(20, (.w (.one (.fv (.tab [some .i64, some .i64] T))))), (21, (.w (.one (.int .i64 n)))), (22, (.w (.one (.int .i64 i))))] ++ (ptrN 0 [] ++ rest)) [] 0 [2] [true, true] = some ((Ex.ret, [AV.w (AW.one (AC.int IntKind.i64 4))], []), (pickL [(decide (i < n), true), (decide (0 ≤ i), true), (decide (i < lenT T), true), (decide (cel T i 0 < 0), true), (true, true)] [0, 1, 2, 1, 2, 3, 3, 3, 3, 4, 4, 4, 4, 4, 4, 4, 4, 4])) := by kernel_rfl
set_option maxRecDepth 100000 in
theorem crr_101 (T : List (List Int)) (n : Int) (i : Int) (rest : List (Nat × AV Tb)) : evView (ctxOf Try.prog tbI (fun _ => false) []) 45 (false :: [false, true, false, true, true, true]) (loopAt (bodyOf Try.f92) [false, true, false, true, true, true]) ([(20, (.w (.one (.fv (.tab [some .i64, some .i64] T))))), (21, (.w (.one (.int .i64 n)))), (22, (.w (.one (.int .i64 i))))] ++ (ptrN 0 [] ++ rest)) [] 0 [2] [true, false, true] = some ((Ex.ret, [AV.w (AW.one (AC.int IntKind.i64 4))], []), (pickL [(decide (i < n), true), (decide (0 ≤ i), true), (decide (i < lenT T), true), (decide (cel T i 0 < 0), false), (decide (cel T i 0 > 1099511627776), true), (true, true)] [0, 1, 2, 1, 2, 3, 3, 3, 3, 4, 4, 4, 4, 5, 5, 5, 5, 5])) := by kernel_rfl
set_option maxRecDepth 100000 in
theorem crr_1001 (T : List (List Int)) (n : Int) (i : Int) (rest : List (Nat × AV Tb)) : evView (ctxOf Try.prog tbI (fun _ => false) []) 45 (false :: [false, true, false, true, true, true]) (loopAt (bodyOf Try.f92) [false, true, false, true, true, true]) ([(20, (.w (.one (.fv (.tab [some .i64, some .i64] T))))), (21, (.w (.one (.int .i64 n)))), (22, (.w (.one (.int .i64 i))))] ++ (ptrN 0 [] ++ rest)) [] 0 [2] [true, false, false, true] = some ((Ex.ret, [AV.w (AW.one (AC.int IntKind.i64 4))], []), (pickL [(decide (i < n), true), (decide (0 ≤ i), true), (decide (i < lenT T), true), (decide (cel T i 0 < 0), false), (decide (cel T i 0 > 1099511627776), false), (decide (cel T i 1 < -100000), true), (true, true)] [0, 1, 2, 1, 2, 3, 3, 3, 3, 4, 4, 4, 4, 5, 5, 5, 5, 6])) := by kernel_rfl
set_option maxRecDepth 100000 in
theorem crr_10001 (T : List (List Int)) (n : Int) (i : Int) (rest : List (Nat × AV Tb)) : evView (ctxOf Try.prog tbI (fun _ => false) []) 45 (false :: [false, true, false, true, true, true]) (loopAt (bodyOf Try.f92) [false, true, false, true, true, true]) ([(20, (.w (.one (.fv (.tab [some .i64, some .i64] T))))), (21, (.w (.one (.int .i64 n)))), (22, (.w (.one (.int .i64 i))))] ++ (ptrN 0 [] ++ rest)) [] 0 [2] [true, false, false, false, true] = some ((Ex.ret, [AV.w (AW.one (AC.int IntKind.i64 4))], []), (pickL [(decide (i < n), true), (decide (0 ≤ i), true), (decide (i < lenT T), true), (decide (cel T i 0 < 0), false), (decide (cel T i 0 > 1099511627776), false), (decide (cel T i 1 < -100000), false), (decide (cel T i 1 > 100000), true)] [0, 1, 2, 1, 2, 3, 3, 3, 3, 4, 4, 4, 4, 5, 5, 5, 5, 6])) := by kernel_rfl
structure crT where
  T : List (List Int)
  n : Int
  i : Int
def crP (T : List (List Int)) (n : Int) (i : Int) : Prop := 0 ≤ i ∧ i ≤ n ∧ n = lenT T ∧ n ≤ 9223372036854775807
instance (T : List (List Int)) (n : Int) (i : Int) : Decidable (crP T n i) := by unfold crP; infer_instance
def crTm (T : List (List Int)) (n : Int) (i : Int) : List (Nat × AV Tb) := [(20, (.w (.one (.fv (.tab [some .i64, some .i64] T))))), (21, (.w (.one (.int .i64 n)))), (22, (.w (.one (.int .i64 i))))]
def crS : LpSt crT Tb where
  ps := []
  tm := fun t => crTm t.T t.n t.i
  hp := fun t => []
def crNx (T : List (List Int)) (n : Int) (i : Int) : Nxt crT Tb := if i < n then (if lgB (rowT T i) = true then .go ⟨T, n, i + 1⟩ else .out .ret [(2, .w (.one (.int .i64 4)))] []) else .out (.exit 0) (crTm T n i) []
def crStep (t : crT) : Nxt crT Tb := if crP t.T t.n t.i then crNx t.T t.n t.i else .bad
theorem cr_go {T : List (List Int)} {n : Int} {i : Int} (h : crP T n i) : crStep ⟨T, n, i⟩ = crNx T n i := if_pos h
set_option maxRecDepth 100000 in
set_option maxHeartbeats 4000000 in
theorem cr_round (t : crT) (hb : (crStep t).isBad = false) (rest : List (Nat × AV Tb)) : ∃ fuel path r, evC (ctxOf Try.prog tbI (fun _ => false) []) fuel 45 (false :: [false, true, false, true, true, true]) (loopAt (bodyOf Try.f92) [false, true, false, true, true, true]) (crS.tm t ++ (ptrN 0 crS.ps ++ rest)) (numb 0 (crS.hp t)) 0 path = some r ∧ (∀ p ∈ r.cd, p.1 = p.2) ∧ Gives crS 0 r (crStep t) := by
  obtain ⟨T, n, i⟩ := t
  by_cases ok : crP T n i
  · rw [cr_go ok]
    clear hb
    unfold crNx
    obtain ⟨h1, h2, rfl, h4⟩ := ok
    have e0 : decide (0 ≤ i) = true := decide_eq_true h1
    have e1 : i < lenT T → IntKind.i64.wrap (i + 1) = i + 1 := fun _ => v64 (by omega) (by omega)
    cases k0 : (decide (i < lenT T)) with
    | true =>
      cases k1 : (decide (cel T i 0 < 0)) with
      | true =>
        have hE : ¬ lgB (rowT T i) = true := by
          clear e1
          simp only [beq_iff_eq, beq_eq_false_iff_ne, ne_eq, bne_iff_ne, bne_eq_false_iff_eq, decide_eq_true_eq, decide_eq_false_iff_not, Bool.not_eq_true', Bool.not_eq_false'] at *
          simp only [cel_row] at *
          rw [lgB_iff]; omega
        rw [if_pos (of_decide_eq_true k0), if_neg hE]
        have L := crr_11 T (lenT T) i rest
        refine round_out L rfl (pickL_ok ?_ _) rfl rfl rfl
        repeat' (first | exact cd_nil | refine cd_cons ?_ ?_)
        all_goals first | rfl | with_reducible assumption
      | false =>
        cases k2 : (decide (cel T i 0 > 1099511627776)) with
        | true =>
          have hE : ¬ lgB (rowT T i) = true := by
            clear e1
            simp only [beq_iff_eq, beq_eq_false_iff_ne, ne_eq, bne_iff_ne, bne_eq_false_iff_eq, decide_eq_true_eq, decide_eq_false_iff_not, Bool.not_eq_true', Bool.not_eq_false'] at *
            simp only [cel_row] at *
            rw [lgB_iff]; omega
          rw [if_pos (of_decide_eq_true k0), if_neg hE]
          have L := crr_101 T (lenT T) i rest
          refine round_out L rfl (pickL_ok ?_ _) rfl rfl rfl
          repeat' (first | exact cd_nil | refine cd_cons ?_ ?_)
          all_goals first | rfl | with_reducible assumption
        | false =>
          cases k3 : (decide (cel T i 1 < -100000)) with
          | true =>
            have hE : ¬ lgB (rowT T i) = true := by
              clear e1
              simp only [beq_iff_eq, beq_eq_false_iff_ne, ne_eq, bne_iff_ne, bne_eq_false_iff_eq, decide_eq_true_eq, decide_eq_false_iff_not, Bool.not_eq_true', Bool.not_eq_false'] at *
              simp only [cel_row] at *
              rw [lgB_iff]; omega
            rw [if_pos (of_decide_eq_true k0), if_neg hE]
            have L := crr_1001 T (lenT T) i rest
            refine round_out L rfl (pickL_ok ?_ _) rfl rfl rfl
            repeat' (first | exact cd_nil | refine cd_cons ?_ ?_)
            all_goals first | rfl | with_reducible assumption
          | false =>
            cases k4 : (decide (cel T i 1 > 100000)) with
            | true =>
              have hE : ¬ lgB (rowT T i) = true := by
                clear e1
                simp only [beq_iff_eq, beq_eq_false_iff_ne, ne_eq, bne_iff_ne, bne_eq_false_iff_eq, decide_eq_true_eq, decide_eq_false_iff_not, Bool.not_eq_true', Bool.not_eq_false'] at *
                simp only [cel_row] at *
                rw [lgB_iff]; omega
              rw [if_pos (of_decide_eq_true k0), if_neg hE]
              have L := crr_10001 T (lenT T) i rest
              refine round_out L rfl (pickL_ok ?_ _) rfl rfl rfl
              repeat' (first | exact cd_nil | refine cd_cons ?_ ?_)
              all_goals first | rfl | with_reducible assumption
            | false =>
              have hE : lgB (rowT T i) = true := by
                clear e1
                simp only [beq_iff_eq, beq_eq_false_iff_ne, ne_eq, bne_iff_ne, bne_eq_false_iff_eq, decide_eq_true_eq, decide_eq_false_iff_not, Bool.not_eq_true', Bool.not_eq_false'] at *
                simp only [cel_row] at *
                rw [lgB_iff]; omega
              rw [if_pos (of_decide_eq_true k0), if_pos hE]
              have L := cr_10000 T (lenT T) i rest
              rw [e1 (of_decide_eq_true k0)] at L
              refine round_go L (pickL_ok ?_ _) rfl rfl rfl rfl
              repeat' (first | exact cd_nil | refine cd_cons ?_ ?_)
              all_goals first | rfl | with_reducible assumption
    | false =>
      rw [if_neg (of_decide_eq_false k0)]
      have L := cr_0 T (lenT T) i rest
      refine round_out L rfl (pickL_ok ?_ _) rfl rfl rfl
      repeat' (first | exact cd_nil | refine cd_cons ?_ ?_)
      all_goals first | rfl | with_reducible assumption
  · exfalso
    have : crStep ⟨T, n, i⟩ = .bad := if_neg ok
    rw [this] at hb; cases hb
theorem cr_runs {T : List (List Int)} (h : lenT T ≤ 9223372036854775807) : ∀ (j i : Nat), i + j = T.length → ∃ c, runs crStep c ⟨T, lenT T, i⟩ = (if (T.drop i).all lgB = true then some (.exit 0, crTm T (lenT T) (lenT T), []) else some (.ret, [(2, .w (.one (.int .i64 4)))], []))
  | 0, i, hi => by
    have e : (i : Int) = lenT T := by unfold lenT; omega
    refine ⟨1, ?_⟩
    rw [runs, cr_go ⟨by omega, by omega, rfl, h⟩]
    unfold crNx
    rw [if_neg (by omega), List.drop_eq_nil_of_le (by omega), e]
    rfl
  | j + 1, i, hi => by
    have hl : (i : Int) < lenT T := by unfold lenT; omega
    have d := dropT (T := T) (i := i) (by omega)
    by_cases g : lgB (rowT T i) = true
    · obtain ⟨c, hc⟩ := cr_runs h j (i + 1) (by omega)
      refine ⟨c + 1, ?_⟩
      rw [runs, cr_go ⟨by omega, by omega, rfl, h⟩]
      unfold crNx
      rw [if_pos hl, if_pos g, d, List.all_cons, g, Bool.true_and]
      exact hc
    · refine ⟨1, ?_⟩
      rw [runs, cr_go ⟨by omega, by omega, rfl, h⟩]
      unfold crNx
      rw [if_pos hl, if_neg g, d, List.all_cons]
      simp only [g, Bool.false_and, Bool.false_eq_true, if_false]
def crD : LpDefR crT Tb where
  ts := [20, 21, 22]
  ps := []
  rs := []
  W := [2, 4, 20, 21, 22, 23, 24, 25, 26, 27, 28, 29, 30, 31, 32, 33, 34, 35, 36, 37, 38, 39, 40, 41, 42, 43, 44]
  dec := fun vs tr ks => match vs, tr, ks with
    | [.w (.one (.fv (.tab [some .i64, some .i64] T))), .w (.one (.int .i64 n)), .w (.one (.int .i64 i))], [], [] => some ⟨T, n, i⟩
    | _, _, _ => none
  fk := fun t => some (t.T.all lgB)
  spec := fun t β => match β with
    | true => some (.exit 0, crTm t.T t.n t.n, [], [], [(decide (t.i = 0) && decide (t.n = lenT t.T) && decide (t.n ≤ 9223372036854775807), true)])
    | false => some (.ret, [(2, .w (.one (.int .i64 4)))], [], [], [(decide (t.i = 0) && decide (t.n = lenT t.T) && decide (t.n ≤ 9223372036854775807), true)])
theorem crD_ok (x : Code) (hx : codeAt (bodyOf Try.f92) [false, true, false, true, true, true] = some (.loop x)) : LpOk Try.prog tbI 45 x (crD.sp (fun _ => false)) := by
  obtain rfl := loopAt_eq hx
  refine lpR_ok (c := ctxOf Try.prog tbI (fun _ => false) []) (ctxOf_ok (lib1_nil _ _) (eq_none _)) (by kernel_rfl) (fun _ _ _ h => h) hx lps_nil (S := crS) (step := crStep) (fun _ h => by cases h) (by kernel_rfl) (by kernel_rfl) ?_ rfl (fun t e he => ?_) (fun t hb rest => cr_round t hb rest) ?_
  · intro vs tr ks s hv1 hv2 h hv3
    simp only [crD] at h
    split at h
    · cases h
      exact ⟨rfl, fun e he => .inl he⟩
    · cases h
  · simp only [crS, crTm, List.mem_cons, List.not_mem_nil, or_false] at he
    rcases he with rfl | rfl | rfl <;> rfl
  · intro s β ex outs rts wb cd h hfk hc
    obtain ⟨T, n, i⟩ := s
    have hβ := hfk _ rfl
    cases β with
    | true =>
      simp only [crD] at h hβ
      cases h
      have := c1x hc
      simp only [Bool.and_eq_true, decide_eq_true_eq] at this
      obtain ⟨⟨rfl, rfl⟩, h3⟩ := this
      obtain ⟨c, hc⟩ := cr_runs h3 T.length 0 (by omega)
      refine ⟨c, ?_⟩
      rw [List.drop_zero, if_pos hβ] at hc
      exact hc
    | false =>
      simp only [crD] at h hβ
      cases h
      have := c1x hc
      simp only [Bool.and_eq_true, decide_eq_true_eq] at this
      obtain ⟨⟨rfl, rfl⟩, h3⟩ := this
      obtain ⟨c, hc⟩ := cr_runs h3 T.length 0 (by omega)
      refine ⟨c, ?_⟩
      rw [List.drop_zero, if_neg (by rw [hβ]; simp)] at hc
      exact hc
set_option maxRecDepth 100000 in
theorem rd_1 (T : List (List Int)) (a : Int) (m : Int) (n : Int) (i : Int) (rest : List (Nat × AV Tb)) : evView (ctxOf Try.prog tbI (fun _ => false) []) 68 (false :: [false, true, false, true, true, true, true]) (loopAt (bodyOf Try.f65) [false, true, false, true, true, true, true]) ([(38, (.w (.one (.fv (.tab [some .i64, some .i64] T))))), (7, (.w (.one (.int .i64 a)))), (8, (.w (.one (.int .i64 m)))), (39, (.w (.one (.int .i64 n)))), (40, (.w (.one (.int .i64 i))))] ++ (ptrN 0 [] ++ rest)) [] 0 [38, 7, 8, 39, 40] [true] = some ((Ex.normal, [AV.w (AW.one (AC.fv (Tb.tab [some IntKind.i64, some IntKind.i64] T))), AV.w (AW.one (AC.int IntKind.i64 (IntKind.i64.wrap (a - minI a (cel T i 0))))), AV.w (AW.one (AC.int IntKind.i64 (IntKind.i64.wrap (m + IntKind.i64.wrap ((minI a (cel T i 0)) * IntKind.i64.wrap (1000000 + cel T i 1)))))), AV.w (AW.one (AC.int IntKind.i64 n)), AV.w (AW.one (AC.int IntKind.i64 (IntKind.i64.wrap (i + 1))))], []), (pickL [(decide (i < n), true), (decide (0 ≤ i), true), (decide (i < lenT T), true)] [0, 1, 2, 1, 2])) := by kernel_rfl
set_option maxRecDepth 100000 in
theorem rd_0 (T : List (List Int)) (a : Int) (m : Int) (n : Int) (i : Int) (rest : List (Nat × AV Tb)) : evView (ctxOf Try.prog tbI (fun _ => false) []) 68 (false :: [false, true, false, true, true, true, true]) (loopAt (bodyOf Try.f65) [false, true, false, true, true, true, true]) ([(38, (.w (.one (.fv (.tab [some .i64, some .i64] T))))), (7, (.w (.one (.int .i64 a)))), (8, (.w (.one (.int .i64 m)))), (39, (.w (.one (.int .i64 n)))), (40, (.w (.one (.int .i64 i))))] ++ (ptrN 0 [] ++ rest)) [] 0 [38, 7, 8, 39, 40] [false] = some ((Ex.exit 0, [AV.w (AW.one (AC.fv (Tb.tab [some IntKind.i64, some IntKind.i64] T))), AV.w (AW.one (AC.int IntKind.i64 a)), AV.w (AW.one (AC.int IntKind.i64 m)), AV.w (AW.one (AC.int IntKind.i64 n)), AV.w (AW.one (AC.int IntKind.i64 i))], []), (pickL [(decide (i < n), false)] [0])) := by kernel_rfl
structure rdT where
  T : List (List Int)
  a : Int
  m : Int
  n : Int
  i : Int
def rdP (T : List (List Int)) (a : Int) (m : Int) (n : Int) (i : Int) : Prop := 0 ≤ i ∧ i ≤ n ∧ n = lenT T ∧ n ≤ 64 ∧ T.all lgB = true ∧ 0 ≤ a ∧ a ≤ 1099511627776 ∧ 0 ≤ m ∧ m ≤ (1099511627776 - a) * 1100000
instance (T : List (List Int)) (a : Int) (m : Int) (n : Int) (i : Int) : Decidable (rdP T a m n i) := by unfold rdP; infer_instance
def rdTm (T : List (List Int)) (a : Int) (m : Int) (n : Int) (i : Int) : List (Nat × AV Tb) := [(38, (.w (.one (.fv (.tab [some .i64, some .i64] T))))), (7, (.w (.one (.int .i64 a)))), (8, (.w (.one (.int .i64 m)))), (39, (.w (.one (.int .i64 n)))), (40, (.w (.one (.int .i64 i))))]
def rdS : LpSt rdT Tb where
  ps := []
  tm := fun t => rdTm t.T t.a t.m t.n t.i
  hp := fun t => []
def rdNx (T : List (List Int)) (a : Int) (m : Int) (n : Int) (i : Int) : Nxt rdT Tb := if i < n then .go ⟨T, a - minI a (cel T i 0), m + minI a (cel T i 0) * (1000000 + cel T i 1), n, i + 1⟩ else .out (.exit 0) (rdTm T a m n i) []
def rdStep (t : rdT) : Nxt rdT Tb := if rdP t.T t.a t.m t.n t.i then rdNx t.T t.a t.m t.n t.i else .bad
theorem rd_go {T : List (List Int)} {a : Int} {m : Int} {n : Int} {i : Int} (h : rdP T a m n i) : rdStep ⟨T, a, m, n, i⟩ = rdNx T a m n i := if_pos h
theorem rd_in {T : List (List Int)} {a m i : Int} (h : T.all lgB = true) (h0 : 0 ≤ i) (h1 : i < lenT T) (ha : 0 ≤ a) (hb : a ≤ 1099511627776) (hm : 0 ≤ m) (hn : m ≤ (1099511627776 - a) * 1100000) :
    0 ≤ minI a (cel T i 0) ∧ minI a (cel T i 0) ≤ a ∧ 0 ≤ m + minI a (cel T i 0) * (1000000 + cel T i 1) ∧ m + minI a (cel T i 0) * (1000000 + cel T i 1) ≤ (1099511627776 - (a - minI a (cel T i 0))) * 1100000 ∧ IntKind.i64.wrap (a - minI a (cel T i 0)) = a - minI a (cel T i 0) ∧
    IntKind.i64.wrap (m + IntKind.i64.wrap (minI a (cel T i 0) * IntKind.i64.wrap (1000000 + cel T i 1))) = m + minI a (cel T i 0) * (1000000 + cel T i 1) := by
  have g := lgB_iff.1 (allT h h0 h1)
  rw [← cel_row, ← cel_row] at g
  have m1 : 0 ≤ minI a (cel T i 0) ∧ minI a (cel T i 0) ≤ a := by unfold minI; split <;> omega
  have e1 : IntKind.i64.wrap (1000000 + cel T i 1) = 1000000 + cel T i 1 := v64 (by omega) (by omega)
  rw [e1]
  have p1 : 0 ≤ minI a (cel T i 0) * (1000000 + cel T i 1) := Int.mul_nonneg m1.1 (by omega)
  have p2 : minI a (cel T i 0) * (1000000 + cel T i 1) ≤ minI a (cel T i 0) * 1100000 := Int.mul_le_mul_of_nonneg_left (by omega) m1.1
  generalize minI a (cel T i 0) * (1000000 + cel T i 1) = p at *
  generalize minI a (cel T i 0) = q at *
  have e2 : IntKind.i64.wrap p = p := v64 (by omega) (by omega)
  rw [e2]
  refine ⟨m1.1, m1.2, by omega, by omega, v64 (by omega) (by omega), v64 (by omega) (by omega)⟩
set_option maxRecDepth 100000 in
set_option maxHeartbeats 4000000 in
theorem rd_round (t : rdT) (hb : (rdStep t).isBad = false) (rest : List (Nat × AV Tb)) : ∃ fuel path r, evC (ctxOf Try.prog tbI (fun _ => false) []) fuel 68 (false :: [false, true, false, true, true, true, true]) (loopAt (bodyOf Try.f65) [false, true, false, true, true, true, true]) (rdS.tm t ++ (ptrN 0 rdS.ps ++ rest)) (numb 0 (rdS.hp t)) 0 path = some r ∧ (∀ p ∈ r.cd, p.1 = p.2) ∧ Gives rdS 0 r (rdStep t) := by
  obtain ⟨T, a, m, n, i⟩ := t
  by_cases ok : rdP T a m n i
  · rw [rd_go ok]
    clear hb
    unfold rdNx
    obtain ⟨h1, h2, rfl, h4, h5, h6, h7, h8, h9⟩ := ok
    have e0 : decide (0 ≤ i) = true := decide_eq_true h1
    have e1 : i < lenT T → IntKind.i64.wrap (i + 1) = i + 1 := fun _ => v64 (by omega) (by omega)
    cases k0 : (decide (i < lenT T)) with
    | true =>
      obtain ⟨g1, g2, g3, g4, g5, g6⟩ := rd_in h5 h1 (of_decide_eq_true k0) h6 h7 h8 h9
      rw [if_pos (of_decide_eq_true k0)]
      have L := rd_1 T a m (lenT T) i rest
      rw [g5, g6, e1 (of_decide_eq_true k0)] at L
      refine round_go L (pickL_ok ?_ _) rfl rfl rfl rfl
      repeat' (first | exact cd_nil | refine cd_cons ?_ ?_)
      all_goals first | rfl | with_reducible assumption
    | false =>
      rw [if_neg (of_decide_eq_false k0)]
      have L := rd_0 T a m (lenT T) i rest
      refine round_out L rfl (pickL_ok ?_ _) rfl rfl rfl
      repeat' (first | exact cd_nil | refine cd_cons ?_ ?_)
      all_goals first | rfl | with_reducible assumption
  · exfalso
    have : rdStep ⟨T, a, m, n, i⟩ = .bad := if_neg ok
    rw [this] at hb; cases hb
theorem rd_runs {T : List (List Int)} (h4 : lenT T ≤ 64) (h5 : T.all lgB = true) : ∀ (j i : Nat) (a m : Int), i + j = T.length → 0 ≤ a → a ≤ 1099511627776 → 0 ≤ m → m ≤ (1099511627776 - a) * 1100000 →
    ∃ c, runs rdStep c ⟨T, a, m, lenT T, i⟩ = some (.exit 0, rdTm T (lfT (T.drop i) a) (m + mlT (T.drop i) a) (lenT T) (lenT T), [])
  | 0, i, a, m, hi, h6, h7, h8, h9 => by
    have e : (i : Int) = lenT T := by unfold lenT; omega
    refine ⟨1, ?_⟩
    rw [runs, rd_go ⟨by omega, by omega, rfl, h4, h5, h6, h7, h8, h9⟩]
    unfold rdNx
    rw [if_neg (by omega), List.drop_eq_nil_of_le (by omega), e, lfT, mlT, Int.add_zero]
  | j + 1, i, a, m, hi, h6, h7, h8, h9 => by
    have hl : (i : Int) < lenT T := by unfold lenT; omega
    have d := dropT (T := T) (i := i) (by omega)
    obtain ⟨g1, g2, g3, g4, g5, g6⟩ := rd_in h5 (show 0 ≤ (i : Int) by omega) hl h6 h7 h8 h9
    obtain ⟨c, hc⟩ := rd_runs h4 h5 j (i + 1) (a - minI a (cel T i 0)) (m + minI a (cel T i 0) * (1000000 + cel T i 1)) (by omega) (by omega) (by omega) g3 g4
    refine ⟨c + 1, ?_⟩
    rw [runs, rd_go ⟨by omega, by omega, rfl, h4, h5, h6, h7, h8, h9⟩]
    unfold rdNx
    rw [if_pos hl, d, lfT, mlT, ← Int.add_assoc]
    exact hc
def rdD : LpDef rdT Tb where
  ts := [38, 7, 8, 39, 40]
  ps := []
  W := [7, 8, 10, 11, 38, 39, 40, 41, 42, 43, 44, 45, 46, 47, 48, 49, 50, 51, 52, 53, 54, 55, 56, 57, 58]
  dec := fun vs ks => match vs, ks with
    | [.w (.one (.fv (.tab [some .i64, some .i64] T))), .w (.one (.int .i64 a)), .w (.one (.int .i64 m)), .w (.one (.int .i64 n)), .w (.one (.int .i64 i))], [] => some ⟨T, a, m, n, i⟩
    | _, _ => none
  spec := fun t => some (.exit 0, rdTm t.T (lfT t.T t.a) (t.m + mlT t.T t.a) t.n t.n, [], [(decide (t.i = 0) && decide (t.n = lenT t.T) && decide (t.n ≤ 64) && t.T.all lgB && decide (0 ≤ t.a) && decide (t.a ≤ 1099511627776) && decide (t.m = 0), true)])
theorem rdD_ok (x : Code) (hx : codeAt (bodyOf Try.f65) [false, true, false, true, true, true, true] = some (.loop x)) : LpOk Try.prog tbI 68 x (rdD.sp (fun _ => false)) := by
  obtain rfl := loopAt_eq hx
  refine lp_ok (c := ctxOf Try.prog tbI (fun _ => false) []) (ctxOf_ok (lib1_nil _ _) (eq_none _)) (by kernel_rfl) hx lps_nil (S := rdS) (step := rdStep) (fun _ h => by cases h) (by kernel_rfl) (by kernel_rfl) ?_ rfl (fun t e he => ?_) (fun t hb rest => rd_round t hb rest) ?_
  · intro vs ks s hv1 h hv2
    simp only [rdD] at h
    split at h
    · cases h
      exact ⟨rfl, fun e he => he⟩
    · cases h
  · simp only [rdS, rdTm, List.mem_cons, List.not_mem_nil, or_false] at he
    rcases he with rfl | rfl | rfl | rfl | rfl <;> rfl
  · intro s ex outs wb cd h hc
    obtain ⟨T, a, m, n, i⟩ := s
    simp only [rdD] at h
    cases h
    have := c1x hc
    simp only [Bool.and_eq_true, decide_eq_true_eq] at this
    obtain ⟨⟨⟨⟨⟨⟨rfl, rfl⟩, h3⟩, h4⟩, h5⟩, h6⟩, rfl⟩ := this
    exact rd_runs h3 h4 T.length 0 a 0 (by omega) h5 h6 (by omega) (by omega)
end Go.Proofs.Ytjegnlnnjcchaaa.AtCk

