/-
  Package scale: the loop of isLaidOut, what it reports, value.
  Conditions: those of each theorem.
-/
import Derived.Test.YtokkaeaciigapaaDoorSX
set_option linter.unusedVariables false
set_option linter.unusedSimpArgs false
namespace Go.Proofs.YtokkaeaciigapaaDoor.AtSx
open Ev Go.RowKit Sc RL
open Go.Proofs.YtokkaeaciigapaaDoor
variable {F : Type}
noncomputable section

/-- What stands at a place of a civil time's text: 48 stands for any digit. -/
def cls (j : Nat) : Int := if j = 4 ∨ j = 7 then 45 else if j = 10 then 84 else if j = 13 ∨ j = 16 then 58 else if j = 19 then 46 else 48
def okAt (s : ByteArray) (j : Nat) : Bool := if cls j = 48 then (decide (48 ≤ sAt s (j : Int)) && decide (sAt s (j : Int) ≤ 57)) else decide (sAt s (j : Int) = cls j)
def okFrom (s : ByteArray) : Nat → Nat → Bool
  | 0, _ => true
  | k + 1, j => okAt s j && okFrom s k (j + 1)
def layS (s : ByteArray) : Bool := decide (sLen s = 23) && okFrom s 23 0
abbrev layout : ByteArray := ⟨#[48, 48, 48, 48, 45, 48, 48, 45, 48, 48, 84, 48, 48, 58, 48, 48, 58, 48, 48, 46, 48, 48, 48]⟩
theorem lay_at (j : Nat) (h : j < 23) : sAt layout (j : Int) = cls j := by
  have : ∀ k : Fin 23, sAt layout ((k.val : Nat) : Int) = cls k.val := by decide +kernel
  exact this ⟨j, h⟩
theorem lay_len : sLen layout = 23 := rfl
set_option maxRecDepth 100000 in
theorem li_1100 (s : ByteArray) (n : Int) (i : Int) (rest : List (Nat × AV Empty)) : evView (ctxOf Tryd.prog noFacts (fun _ => false) []) 32 (false :: [false, true, false, true, true]) (loopAt (bodyOf Tryd.f13) [false, true, false, true, true]) ([(0, (.w (.one (.lit (.string s))))), (8, (.w (.one (.int .i64 n)))), (9, (.w (.one (.int .i64 i))))] ++ (ptrN 0 [] ++ rest)) [] 0 [0, 8, 9] [true, true, false, false] = some ((Ex.normal, [AV.w (AW.one (AC.lit (Value.string s))), AV.w (AW.one (AC.int IntKind.i64 n)), AV.w (AW.one (AC.int IntKind.i64 (IntKind.i64.wrap (i + 1))))], []), (pickL [(decide (i < n), true), (decide ((0 : Int) ≤ i), true), (decide (i < sLen (⟨#[48, 48, 48, 48, 45, 48, 48, 45, 48, 48, 84, 48, 48, 58, 48, 48, 58, 48, 48, 46, 48, 48, 48]⟩ : ByteArray)), true), (sAt (⟨#[48, 48, 48, 48, 45, 48, 48, 45, 48, 48, 84, 48, 48, 58, 48, 48, 58, 48, 48, 46, 48, 48, 48]⟩ : ByteArray) i == 48, true), (decide (i < sLen s), true), (decide (sAt s i < 48), false), (decide (sAt s i > 57), false)] [0, 1, 2, 3, 1, 4, 5, 5, 5, 1, 4, 5, 5, 6])) := by kernel_rfl
set_option maxRecDepth 100000 in
theorem li_100 (s : ByteArray) (n : Int) (i : Int) (rest : List (Nat × AV Empty)) : evView (ctxOf Tryd.prog noFacts (fun _ => false) []) 32 (false :: [false, true, false, true, true]) (loopAt (bodyOf Tryd.f13) [false, true, false, true, true]) ([(0, (.w (.one (.lit (.string s))))), (8, (.w (.one (.int .i64 n)))), (9, (.w (.one (.int .i64 i))))] ++ (ptrN 0 [] ++ rest)) [] 0 [0, 8, 9] [true, false, false] = some ((Ex.normal, [AV.w (AW.one (AC.lit (Value.string s))), AV.w (AW.one (AC.int IntKind.i64 n)), AV.w (AW.one (AC.int IntKind.i64 (IntKind.i64.wrap (i + 1))))], []), (pickL [(decide (i < n), true), (decide ((0 : Int) ≤ i), true), (decide (i < sLen (⟨#[48, 48, 48, 48, 45, 48, 48, 45, 48, 48, 84, 48, 48, 58, 48, 48, 58, 48, 48, 46, 48, 48, 48]⟩ : ByteArray)), true), (sAt (⟨#[48, 48, 48, 48, 45, 48, 48, 45, 48, 48, 84, 48, 48, 58, 48, 48, 58, 48, 48, 46, 48, 48, 48]⟩ : ByteArray) i == 48, false), (decide (i < sLen s), true), (sAt s i != sAt (⟨#[48, 48, 48, 48, 45, 48, 48, 45, 48, 48, 84, 48, 48, 58, 48, 48, 58, 48, 48, 46, 48, 48, 48]⟩ : ByteArray) i, false)] [0, 1, 2, 3, 1, 4, 1, 2, 5])) := by kernel_rfl
set_option maxRecDepth 100000 in
theorem li_0 (s : ByteArray) (n : Int) (i : Int) (rest : List (Nat × AV Empty)) : evView (ctxOf Tryd.prog noFacts (fun _ => false) []) 32 (false :: [false, true, false, true, true]) (loopAt (bodyOf Tryd.f13) [false, true, false, true, true]) ([(0, (.w (.one (.lit (.string s))))), (8, (.w (.one (.int .i64 n)))), (9, (.w (.one (.int .i64 i))))] ++ (ptrN 0 [] ++ rest)) [] 0 [0, 8, 9] [false] = some ((Ex.exit 0, [AV.w (AW.one (AC.lit (Value.string s))), AV.w (AW.one (AC.int IntKind.i64 n)), AV.w (AW.one (AC.int IntKind.i64 i))], []), (pickL [(decide (i < n), false)] [0])) := by kernel_rfl
set_option maxRecDepth 100000 in
theorem lir_111 (s : ByteArray) (n : Int) (i : Int) (rest : List (Nat × AV Empty)) : evView (ctxOf Tryd.prog noFacts (fun _ => false) []) 32 (false :: [false, true, false, true, true]) (loopAt (bodyOf Tryd.f13) [false, true, false, true, true]) ([(0, (.w (.one (.lit (.string s))))), (8, (.w (.one (.int .i64 n)))), (9, (.w (.one (.int .i64 i))))] ++ (ptrN 0 [] ++ rest)) [] 0 [2] [true, true, true] = some ((Ex.ret, [AV.w (AW.one (AC.yes false))], []), (pickL [(decide (i < n), true), (decide ((0 : Int) ≤ i), true), (decide (i < sLen (⟨#[48, 48, 48, 48, 45, 48, 48, 45, 48, 48, 84, 48, 48, 58, 48, 48, 58, 48, 48, 46, 48, 48, 48]⟩ : ByteArray)), true), (sAt (⟨#[48, 48, 48, 48, 45, 48, 48, 45, 48, 48, 84, 48, 48, 58, 48, 48, 58, 48, 48, 46, 48, 48, 48]⟩ : ByteArray) i == 48, true), (decide (i < sLen s), true), (decide (sAt s i < 48), true), (true, true)] [0, 1, 2, 3, 1, 4, 5, 5, 5, 5, 5, 6])) := by kernel_rfl
set_option maxRecDepth 100000 in
theorem lir_1101 (s : ByteArray) (n : Int) (i : Int) (rest : List (Nat × AV Empty)) : evView (ctxOf Tryd.prog noFacts (fun _ => false) []) 32 (false :: [false, true, false, true, true]) (loopAt (bodyOf Tryd.f13) [false, true, false, true, true]) ([(0, (.w (.one (.lit (.string s))))), (8, (.w (.one (.int .i64 n)))), (9, (.w (.one (.int .i64 i))))] ++ (ptrN 0 [] ++ rest)) [] 0 [2] [true, true, false, true] = some ((Ex.ret, [AV.w (AW.one (AC.yes false))], []), (pickL [(decide (i < n), true), (decide ((0 : Int) ≤ i), true), (decide (i < sLen (⟨#[48, 48, 48, 48, 45, 48, 48, 45, 48, 48, 84, 48, 48, 58, 48, 48, 58, 48, 48, 46, 48, 48, 48]⟩ : ByteArray)), true), (sAt (⟨#[48, 48, 48, 48, 45, 48, 48, 45, 48, 48, 84, 48, 48, 58, 48, 48, 58, 48, 48, 46, 48, 48, 48]⟩ : ByteArray) i == 48, true), (decide (i < sLen s), true), (decide (sAt s i < 48), false), (decide (sAt s i > 57), true)] [0, 1, 2, 3, 1, 4, 5, 5, 5, 1, 4, 5, 5, 6])) := by kernel_rfl
set_option maxRecDepth 100000 in
theorem lir_101 (s : ByteArray) (n : Int) (i : Int) (rest : List (Nat × AV Empty)) : evView (ctxOf Tryd.prog noFacts (fun _ => false) []) 32 (false :: [false, true, false, true, true]) (loopAt (bodyOf Tryd.f13) [false, true, false, true, true]) ([(0, (.w (.one (.lit (.string s))))), (8, (.w (.one (.int .i64 n)))), (9, (.w (.one (.int .i64 i))))] ++ (ptrN 0 [] ++ rest)) [] 0 [2] [true, false, true] = some ((Ex.ret, [AV.w (AW.one (AC.yes false))], []), (pickL [(decide (i < n), true), (decide ((0 : Int) ≤ i), true), (decide (i < sLen (⟨#[48, 48, 48, 48, 45, 48, 48, 45, 48, 48, 84, 48, 48, 58, 48, 48, 58, 48, 48, 46, 48, 48, 48]⟩ : ByteArray)), true), (sAt (⟨#[48, 48, 48, 48, 45, 48, 48, 45, 48, 48, 84, 48, 48, 58, 48, 48, 58, 48, 48, 46, 48, 48, 48]⟩ : ByteArray) i == 48, false), (decide (i < sLen s), true), (sAt s i != sAt (⟨#[48, 48, 48, 48, 45, 48, 48, 45, 48, 48, 84, 48, 48, 58, 48, 48, 58, 48, 48, 46, 48, 48, 48]⟩ : ByteArray) i, true)] [0, 1, 2, 3, 1, 4, 1, 2, 5])) := by kernel_rfl
structure liT where
  s : ByteArray
  n : Int
  i : Int
def liP (s : ByteArray) (n : Int) (i : Int) : Prop := 0 ≤ i ∧ i ≤ n ∧ n = sLen s ∧ n = 23
instance (s : ByteArray) (n : Int) (i : Int) : Decidable (liP s n i) := by unfold liP; infer_instance
def liTm (s : ByteArray) (n : Int) (i : Int) : List (Nat × AV Empty) := [(0, (.w (.one (.lit (.string s))))), (8, (.w (.one (.int .i64 n)))), (9, (.w (.one (.int .i64 i))))]
def liS : LpSt liT Empty where
  ps := []
  tm := fun t => liTm t.s t.n t.i
  hp := fun t => []
def liNx (s : ByteArray) (n : Int) (i : Int) : Nxt liT Empty := if i < n then (if okAt s i.toNat = true then .go ⟨s, n, i + 1⟩ else .out .ret [(2, .w (.one (.yes false)))] []) else .out (.exit 0) (liTm s n i) []
def liStep (t : liT) : Nxt liT Empty := if liP t.s t.n t.i then liNx t.s t.n t.i else .bad
theorem li_go {s : ByteArray} {n : Int} {i : Int} (h : liP s n i) : liStep ⟨s, n, i⟩ = liNx s n i := if_pos h
set_option maxRecDepth 100000 in
set_option maxHeartbeats 4000000 in
theorem li_round (t : liT) (hb : (liStep t).isBad = false) (rest : List (Nat × AV Empty)) : ∃ fuel path r, evC (ctxOf Tryd.prog noFacts (fun _ => false) []) fuel 32 (false :: [false, true, false, true, true]) (loopAt (bodyOf Tryd.f13) [false, true, false, true, true]) (liS.tm t ++ (ptrN 0 liS.ps ++ rest)) (numb 0 (liS.hp t)) 0 path = some r ∧ (∀ p ∈ r.cd, p.1 = p.2) ∧ Gives liS 0 r (liStep t) := by
  obtain ⟨s, n, i⟩ := t
  by_cases ok : liP s n i
  · rw [li_go ok]
    clear hb
    unfold liNx
    obtain ⟨h1, h2, rfl, h4⟩ := ok
    have e0 : decide ((0 : Int) ≤ i) = true := decide_eq_true h1
    have e1 : i < sLen s → IntKind.i64.wrap (i + 1) = i + 1 := fun _ => IntWalk.i64_in _ (by omega)
    have e2 : i < sLen s → decide (i < sLen layout) = true := fun h => decide_eq_true (by rw [lay_len]; omega)
    cases k0 : (decide (i < sLen s)) with
    | true =>
      cases k1 : (sAt (⟨#[48, 48, 48, 48, 45, 48, 48, 45, 48, 48, 84, 48, 48, 58, 48, 48, 58, 48, 48, 46, 48, 48, 48]⟩ : ByteArray) i == 48) with
      | true =>
        cases k2 : (decide (sAt s i < 48)) with
        | true =>
          rw [if_pos (of_decide_eq_true k0)]
          have hE : okAt s i.toNat = false := by
            obtain ⟨j, rfl⟩ := Int.eq_ofNat_of_zero_le h1
            have hj : j < 23 := by have := of_decide_eq_true k0; omega
            rw [lay_at j hj] at *
            rw [Int.toNat_natCast]
            unfold okAt
            clear e1
            simp only [beq_iff_eq, beq_eq_false_iff_ne, ne_eq, bne_iff_ne, bne_eq_false_iff_eq, decide_eq_true_eq, decide_eq_false_iff_not, Bool.not_eq_true', Bool.not_eq_false', gt_iff_lt] at *
            simp_all
            try omega
          rw [hE]
          rw [if_neg (by simp)]
          have L := lir_111 s (sLen s) i rest
          refine round_out L rfl (pickL_ok ?_ _) rfl rfl rfl
          repeat' (first | exact cd_nil | refine cd_cons ?_ ?_)
          all_goals first | rfl | with_reducible assumption | exact e2 (of_decide_eq_true k0)
        | false =>
          cases k3 : (decide (sAt s i > 57)) with
          | true =>
            rw [if_pos (of_decide_eq_true k0)]
            have hE : okAt s i.toNat = false := by
              obtain ⟨j, rfl⟩ := Int.eq_ofNat_of_zero_le h1
              have hj : j < 23 := by have := of_decide_eq_true k0; omega
              rw [lay_at j hj] at *
              rw [Int.toNat_natCast]
              unfold okAt
              clear e1
              simp only [beq_iff_eq, beq_eq_false_iff_ne, ne_eq, bne_iff_ne, bne_eq_false_iff_eq, decide_eq_true_eq, decide_eq_false_iff_not, Bool.not_eq_true', Bool.not_eq_false', gt_iff_lt] at *
              simp_all
              try omega
            rw [hE]
            rw [if_neg (by simp)]
            have L := lir_1101 s (sLen s) i rest
            refine round_out L rfl (pickL_ok ?_ _) rfl rfl rfl
            repeat' (first | exact cd_nil | refine cd_cons ?_ ?_)
            all_goals first | rfl | with_reducible assumption | exact e2 (of_decide_eq_true k0)
          | false =>
            rw [if_pos (of_decide_eq_true k0)]
            have hE : okAt s i.toNat = true := by
              obtain ⟨j, rfl⟩ := Int.eq_ofNat_of_zero_le h1
              have hj : j < 23 := by have := of_decide_eq_true k0; omega
              rw [lay_at j hj] at *
              rw [Int.toNat_natCast]
              unfold okAt
              clear e1
              simp only [beq_iff_eq, beq_eq_false_iff_ne, ne_eq, bne_iff_ne, bne_eq_false_iff_eq, decide_eq_true_eq, decide_eq_false_iff_not, Bool.not_eq_true', Bool.not_eq_false', gt_iff_lt] at *
              simp_all
              try omega
            rw [hE]
            rw [if_pos rfl]
            have L := li_1100 s (sLen s) i rest
            rw [e1 (of_decide_eq_true k0)] at L
            refine round_go L (pickL_ok ?_ _) rfl rfl rfl rfl
            repeat' (first | exact cd_nil | refine cd_cons ?_ ?_)
            all_goals first | rfl | with_reducible assumption | exact e2 (of_decide_eq_true k0)
      | false =>
        cases k4 : (sAt s i != sAt (⟨#[48, 48, 48, 48, 45, 48, 48, 45, 48, 48, 84, 48, 48, 58, 48, 48, 58, 48, 48, 46, 48, 48, 48]⟩ : ByteArray) i) with
        | true =>
          rw [if_pos (of_decide_eq_true k0)]
          have hE : okAt s i.toNat = false := by
            obtain ⟨j, rfl⟩ := Int.eq_ofNat_of_zero_le h1
            have hj : j < 23 := by have := of_decide_eq_true k0; omega
            rw [lay_at j hj] at *
            rw [Int.toNat_natCast]
            unfold okAt
            clear e1
            simp only [beq_iff_eq, beq_eq_false_iff_ne, ne_eq, bne_iff_ne, bne_eq_false_iff_eq, decide_eq_true_eq, decide_eq_false_iff_not, Bool.not_eq_true', Bool.not_eq_false', gt_iff_lt] at *
            simp_all
            try omega
          rw [hE]
          rw [if_neg (by simp)]
          have L := lir_101 s (sLen s) i rest
          refine round_out L rfl (pickL_ok ?_ _) rfl rfl rfl
          repeat' (first | exact cd_nil | refine cd_cons ?_ ?_)
          all_goals first | rfl | with_reducible assumption | exact e2 (of_decide_eq_true k0)
        | false =>
          rw [if_pos (of_decide_eq_true k0)]
          have hE : okAt s i.toNat = true := by
            obtain ⟨j, rfl⟩ := Int.eq_ofNat_of_zero_le h1
            have hj : j < 23 := by have := of_decide_eq_true k0; omega
            rw [lay_at j hj] at *
            rw [Int.toNat_natCast]
            unfold okAt
            clear e1
            simp only [beq_iff_eq, beq_eq_false_iff_ne, ne_eq, bne_iff_ne, bne_eq_false_iff_eq, decide_eq_true_eq, decide_eq_false_iff_not, Bool.not_eq_true', Bool.not_eq_false', gt_iff_lt] at *
            simp_all
            try omega
          rw [hE]
          rw [if_pos rfl]
          have L := li_100 s (sLen s) i rest
          rw [e1 (of_decide_eq_true k0)] at L
          refine round_go L (pickL_ok ?_ _) rfl rfl rfl rfl
          repeat' (first | exact cd_nil | refine cd_cons ?_ ?_)
          all_goals first | rfl | with_reducible assumption | exact e2 (of_decide_eq_true k0)
    | false =>
      rw [if_neg (of_decide_eq_false k0)]
      have L := li_0 s (sLen s) i rest
      refine round_out L rfl (pickL_ok ?_ _) rfl rfl rfl
      repeat' (first | exact cd_nil | refine cd_cons ?_ ?_)
      all_goals first | rfl | with_reducible assumption
  · exfalso
    have : liStep ⟨s, n, i⟩ = .bad := if_neg ok
    rw [this] at hb; cases hb
theorem li_runs {s : ByteArray} (h : sLen s = 23) : ∀ (j i : Nat), i + j = 23 → ∃ c, runs liStep c ⟨s, sLen s, i⟩ = (if okFrom s j i = true then some (.exit 0, liTm s (sLen s) (sLen s), []) else some (.ret, [(2, .w (.one (.yes false)))], []))
  | 0, i, hi => by
    have e : (i : Int) = sLen s := by omega
    refine ⟨1, ?_⟩
    rw [runs, li_go ⟨by omega, by omega, rfl, h⟩]
    unfold liNx
    rw [if_neg (by omega), e]
    rfl
  | j + 1, i, hi => by
    have hl : (i : Int) < sLen s := by omega
    have en : (i : Int).toNat = i := Int.toNat_natCast i
    by_cases g : okAt s i = true
    · obtain ⟨c, hc⟩ := li_runs h j (i + 1) (by omega)
      refine ⟨c + 1, ?_⟩
      rw [runs, li_go ⟨by omega, by omega, rfl, h⟩]
      unfold liNx
      rw [if_pos hl, en, if_pos g, okFrom, g, Bool.true_and]
      exact hc
    · refine ⟨1, ?_⟩
      rw [runs, li_go ⟨by omega, by omega, rfl, h⟩]
      unfold liNx
      rw [if_pos hl, en, if_neg g, okFrom]
      simp only [g, Bool.false_and, Bool.false_eq_true, if_false]
def liD : LpDefR liT Empty where
  ts := [0, 8, 9]
  ps := []
  rs := []
  W := [0, 2, 3, 8, 9, 10, 11, 12, 13, 14, 15, 16, 17, 18, 19, 20, 21, 22, 23, 24, 25, 26, 27, 28, 29, 30, 31]
  dec := fun vs tr ks => match vs, tr, ks with
    | [.w (.one (.lit (.string s))), .w (.one (.int .i64 n)), .w (.one (.int .i64 i))], [], [] => some ⟨s, n, i⟩
    | _, _, _ => none
  fk := fun t => some (okFrom t.s 23 0)
  spec := fun t β => match β with
    | true => some (.exit 0, liTm t.s t.n t.n, [], [], [(decide (t.i = 0) && decide (t.n = sLen t.s) && decide (t.n = 23), true)])
    | false => some (.ret, [(2, .w (.one (.yes false)))], [], [], [(decide (t.i = 0) && decide (t.n = sLen t.s) && decide (t.n = 23), true)])
theorem liD_ok (x : Code) (hx : codeAt (bodyOf Tryd.f13) [false, true, false, true, true] = some (.loop x)) : LpOk Tryd.prog noFacts 32 x (liD.sp (fun _ => false)) := by
  obtain rfl := loopAt_eq hx
  refine lpR_ok (c := ctxOf Tryd.prog noFacts (fun _ => false) []) (ctxOf_ok (lib1_nil _ _) (eq_none _)) (by kernel_rfl) (fun f _ _ _ => nomatch f) hx lps_nil (S := liS) (step := liStep) (fun _ h => by cases h) (by kernel_rfl) (by kernel_rfl) ?_ rfl (fun t e he => ?_) (fun t hb rest => li_round t hb rest) ?_
  · intro vs tr ks s hv1 hv2 h hv3
    simp only [liD] at h
    split at h
    · cases h
      exact ⟨rfl, fun e he => .inl he⟩
    · cases h
  · simp only [liS, liTm, List.mem_cons, List.not_mem_nil, or_false] at he
    rcases he with rfl | rfl | rfl <;> rfl
  · intro s β ex outs rts wb cd h hfk hc
    obtain ⟨s, n, i⟩ := s
    have hβ := hfk _ rfl
    cases β with
    | true =>
      simp only [liD] at h hβ
      cases h
      have := hc _ (List.mem_singleton.2 rfl)
      simp only [Bool.and_eq_true, decide_eq_true_eq] at this
      obtain ⟨⟨rfl, rfl⟩, h3⟩ := this
      obtain ⟨c, hc⟩ := li_runs h3 23 0 (by omega)
      refine ⟨c, ?_⟩
      rw [if_pos hβ] at hc
      exact hc
    | false =>
      simp only [liD] at h hβ
      cases h
      have := hc _ (List.mem_singleton.2 rfl)
      simp only [Bool.and_eq_true, decide_eq_true_eq] at this
      obtain ⟨⟨rfl, rfl⟩, h3⟩ := this
      obtain ⟨c, hc⟩ := li_runs h3 23 0 (by omega)
      refine ⟨c, ?_⟩
      rw [if_neg (by rw [hβ]; simp)] at hc
      exact hc
noncomputable abbrev liLps : Lps Empty := [((32, [false, true, false, true, true]), liD.sp (fun _ => false))]
theorem liLps_ok : LpsOk Tryd.prog noFacts liLps Tryd.f13.ntmps (bodyOf Tryd.f13) := lps_cons (fun _ x hx => liD_ok x hx) lps_nil
end
end Go.Proofs.YtokkaeaciigapaaDoor.AtSx

