/-
  Numerals: the loops of frac.isNumeral and frac.value.
  Conditions: those of each theorem.
-/
import Derived.Test.YtocheeocnbfbiaaDoorIV
import Derived.Test.YtocheeocnbfbiaaDoorSM
import Derived.Test.YtocheeocnbfbiaaDoorProg
set_option linter.unusedVariables false
set_option linter.unusedSimpArgs false
namespace Go.Proofs.YtocheeocnbfbiaaDoor.AtFt
open Ev Go.RowKit
open Go.Proofs.YtocheeocnbfbiaaDoor
variable {F : Type}
noncomputable section

/-- A digit stands at this place. -/
def dAt (s : ByteArray) (j : Nat) : Bool := decide (48 ≤ sAt s (j : Int)) && decide (sAt s (j : Int) ≤ 57)
def alF (q : Nat → Bool) : Nat → Nat → Bool
  | 0, _ => true
  | k + 1, j => q j && alF q k (j + 1)
theorem alF_at {q : Nat → Bool} : ∀ (k j : Nat), (alF q k j = true ↔ ∀ i, j ≤ i → i < j + k → q i = true)
  | 0, j => ⟨fun _ i h1 h2 => by omega, fun _ => rfl⟩
  | k + 1, j => by
    rw [alF, Bool.and_eq_true, alF_at k (j + 1)]
    constructor
    · rintro ⟨h1, h2⟩ i h3 h4
      rcases Nat.eq_or_lt_of_le h3 with rfl | h5
      · exact h1
      · exact h2 i (by omega) (by omega)
    · intro h
      exact ⟨h j (Nat.le_refl _) (by omega), fun i h1 h2 => h i (by omega) (by omega)⟩
theorem dAt_iff {s : ByteArray} {j : Nat} (h : j < s.data.toList.length) : dAt s j = isD (s.data.toList[j]'h) := by
  unfold dAt isD
  rw [at_L s j h, Bool.eq_iff_iff, Bool.and_eq_true, decide_eq_true_eq, decide_eq_true_eq, decide_eq_true_eq]
  omega
/-- All bytes are digits. -/
theorem alF_all (s : ByteArray) : alF (dAt s) s.size 0 = s.data.toList.all isD := by
  have hl : s.data.toList.length = s.size := rfl
  rw [Bool.eq_iff_iff, alF_at, List.all_eq_true]
  constructor
  · intro h x hx
    obtain ⟨i, hi, rfl⟩ := List.getElem_of_mem hx
    rw [← dAt_iff hi]
    exact h i (Nat.zero_le _) (by omega)
  · intro h i _ h2
    have hi : i < s.data.toList.length := by omega
    rw [dAt_iff hi]
    exact h _ (List.getElem_mem hi)
theorem u64w {x : Int} (h0 : 0 ≤ x) (h1 : x < 18446744073709551616) : IntKind.u64.wrap x = x := by
  unfold IntKind.wrap
  simp [IntKind.bits, IntKind.signed]
  omega
theorem u8w {x : Int} (h0 : 0 ≤ x) (h1 : x < 256) : IntKind.u8.wrap x = x := by
  unfold IntKind.wrap
  simp [IntKind.bits, IntKind.signed]
  omega
/-- What value adds up, or -1: too large. -/
def vF (s : ByteArray) : Nat → Nat → Int → Int
  | 0, _, x => x
  | k + 1, j, x => if 10 * x + (sAt s (j : Int) - 48) ≤ 1152921504606846976 then vF s k (j + 1) (10 * x + (sAt s (j : Int) - 48)) else -1
set_option maxRecDepth 100000 in
theorem nu_100 (s : ByteArray) (n : Int) (i : Int) (rest : List (Nat × AV Empty)) : evView (ctxOf Tryd.prog noFacts (fun _ => false) []) 31 (false :: [false, true, false, true, true]) (loopAt (bodyOf Tryd.f26) [false, true, false, true, true]) ([(0, (.w (.one (.lit (.string s))))), (16, (.w (.one (.int .i64 n)))), (17, (.w (.one (.int .i64 i))))] ++ (ptrN 0 [] ++ rest)) [] 0 [0, 16, 17] [true, false, false] = some ((Ex.normal, [AV.w (AW.one (AC.lit (Value.string s))), AV.w (AW.one (AC.int IntKind.i64 n)), AV.w (AW.one (AC.int IntKind.i64 (IntKind.i64.wrap (i + 1))))], []), (pickL [(decide (i < n), true), (decide ((0 : Int) ≤ i), true), (decide (i < sLen s), true), (decide (sAt s i < 48), false), (decide (sAt s i > 57), false)] [0, 1, 2, 3, 3, 3, 1, 2, 3, 3, 4])) := by kernel_rfl
set_option maxRecDepth 100000 in
theorem nu_0 (s : ByteArray) (n : Int) (i : Int) (rest : List (Nat × AV Empty)) : evView (ctxOf Tryd.prog noFacts (fun _ => false) []) 31 (false :: [false, true, false, true, true]) (loopAt (bodyOf Tryd.f26) [false, true, false, true, true]) ([(0, (.w (.one (.lit (.string s))))), (16, (.w (.one (.int .i64 n)))), (17, (.w (.one (.int .i64 i))))] ++ (ptrN 0 [] ++ rest)) [] 0 [0, 16, 17] [false] = some ((Ex.exit 0, [AV.w (AW.one (AC.lit (Value.string s))), AV.w (AW.one (AC.int IntKind.i64 n)), AV.w (AW.one (AC.int IntKind.i64 i))], []), (pickL [(decide (i < n), false)] [0])) := by kernel_rfl
set_option maxRecDepth 100000 in
theorem nur_11 (s : ByteArray) (n : Int) (i : Int) (rest : List (Nat × AV Empty)) : evView (ctxOf Tryd.prog noFacts (fun _ => false) []) 31 (false :: [false, true, false, true, true]) (loopAt (bodyOf Tryd.f26) [false, true, false, true, true]) ([(0, (.w (.one (.lit (.string s))))), (16, (.w (.one (.int .i64 n)))), (17, (.w (.one (.int .i64 i))))] ++ (ptrN 0 [] ++ rest)) [] 0 [2] [true, true] = some ((Ex.ret, [AV.w (AW.one (AC.yes false))], []), (pickL [(decide (i < n), true), (decide ((0 : Int) ≤ i), true), (decide (i < sLen s), true), (decide (sAt s i < 48), true), (true, true)] [0, 1, 2, 3, 3, 3, 3, 3, 4])) := by kernel_rfl
set_option maxRecDepth 100000 in
theorem nur_101 (s : ByteArray) (n : Int) (i : Int) (rest : List (Nat × AV Empty)) : evView (ctxOf Tryd.prog noFacts (fun _ => false) []) 31 (false :: [false, true, false, true, true]) (loopAt (bodyOf Tryd.f26) [false, true, false, true, true]) ([(0, (.w (.one (.lit (.string s))))), (16, (.w (.one (.int .i64 n)))), (17, (.w (.one (.int .i64 i))))] ++ (ptrN 0 [] ++ rest)) [] 0 [2] [true, false, true] = some ((Ex.ret, [AV.w (AW.one (AC.yes false))], []), (pickL [(decide (i < n), true), (decide ((0 : Int) ≤ i), true), (decide (i < sLen s), true), (decide (sAt s i < 48), false), (decide (sAt s i > 57), true)] [0, 1, 2, 3, 3, 3, 1, 2, 3, 3, 4])) := by kernel_rfl
structure nuT where
  s : ByteArray
  n : Int
  i : Int
def nuP (s : ByteArray) (n : Int) (i : Int) : Prop := 0 ≤ i ∧ i ≤ n ∧ n = sLen s ∧ n ≤ 9223372036854775807
instance (s : ByteArray) (n : Int) (i : Int) : Decidable (nuP s n i) := by unfold nuP; infer_instance
def nuTm (s : ByteArray) (n : Int) (i : Int) : List (Nat × AV Empty) := [(0, (.w (.one (.lit (.string s))))), (16, (.w (.one (.int .i64 n)))), (17, (.w (.one (.int .i64 i))))]
def nuS : LpSt nuT Empty where
  ps := []
  tm := fun t => nuTm t.s t.n t.i
  hp := fun t => []
def nuNx (s : ByteArray) (n : Int) (i : Int) : Nxt nuT Empty := if i < n then (if dAt s i.toNat = true then .go ⟨s, n, i + 1⟩ else .out .ret [(2, .w (.one (.yes false)))] []) else .out (.exit 0) (nuTm s n i) []
def nuStep (t : nuT) : Nxt nuT Empty := if nuP t.s t.n t.i then nuNx t.s t.n t.i else .bad
theorem nu_go {s : ByteArray} {n : Int} {i : Int} (h : nuP s n i) : nuStep ⟨s, n, i⟩ = nuNx s n i := if_pos h
set_option maxRecDepth 100000 in
set_option maxHeartbeats 4000000 in
theorem nu_round (t : nuT) (hb : (nuStep t).isBad = false) (rest : List (Nat × AV Empty)) : ∃ fuel path r, evC (ctxOf Tryd.prog noFacts (fun _ => false) []) fuel 31 (false :: [false, true, false, true, true]) (loopAt (bodyOf Tryd.f26) [false, true, false, true, true]) (nuS.tm t ++ (ptrN 0 nuS.ps ++ rest)) (numb 0 (nuS.hp t)) 0 path = some r ∧ (∀ p ∈ r.cd, p.1 = p.2) ∧ Gives nuS 0 r (nuStep t) := by
  obtain ⟨s, n, i⟩ := t
  by_cases ok : nuP s n i
  · rw [nu_go ok]
    clear hb
    unfold nuNx
    obtain ⟨h1, h2, rfl, h4⟩ := ok
    have e0 : decide ((0 : Int) ≤ i) = true := decide_eq_true h1
    have e1 : i < sLen s → IntKind.i64.wrap (i + 1) = i + 1 := fun _ => IntWalk.i64_in _ (by omega)
    cases k0 : (decide (i < sLen s)) with
    | true =>
      cases k1 : (decide (sAt s i < 48)) with
      | true =>
        rw [if_pos (of_decide_eq_true k0)]
        have hE : dAt s i.toNat = false := by
          obtain ⟨j, rfl⟩ := Int.eq_ofNat_of_zero_le h1
          rw [Int.toNat_natCast]
          unfold dAt
          clear e1
          simp only [beq_iff_eq, beq_eq_false_iff_ne, ne_eq, bne_iff_ne, bne_eq_false_iff_eq, decide_eq_true_eq, decide_eq_false_iff_not, Bool.not_eq_true', Bool.not_eq_false', gt_iff_lt] at *
          simp_all
          try omega
        rw [hE, if_neg (by simp)]
        have L := nur_11 s (sLen s) i rest
        refine round_out L rfl (pickL_ok ?_ _) rfl rfl rfl
        repeat' (first | exact cd_nil | refine cd_cons ?_ ?_)
        all_goals first | rfl | with_reducible assumption
      | false =>
        cases k2 : (decide (sAt s i > 57)) with
        | true =>
          rw [if_pos (of_decide_eq_true k0)]
          have hE : dAt s i.toNat = false := by
            obtain ⟨j, rfl⟩ := Int.eq_ofNat_of_zero_le h1
            rw [Int.toNat_natCast]
            unfold dAt
            clear e1
            simp only [beq_iff_eq, beq_eq_false_iff_ne, ne_eq, bne_iff_ne, bne_eq_false_iff_eq, decide_eq_true_eq, decide_eq_false_iff_not, Bool.not_eq_true', Bool.not_eq_false', gt_iff_lt] at *
            simp_all
            try omega
          rw [hE, if_neg (by simp)]
          have L := nur_101 s (sLen s) i rest
          refine round_out L rfl (pickL_ok ?_ _) rfl rfl rfl
          repeat' (first | exact cd_nil | refine cd_cons ?_ ?_)
          all_goals first | rfl | with_reducible assumption
        | false =>
          rw [if_pos (of_decide_eq_true k0)]
          have hE : dAt s i.toNat = true := by
            obtain ⟨j, rfl⟩ := Int.eq_ofNat_of_zero_le h1
            rw [Int.toNat_natCast]
            unfold dAt
            clear e1
            simp only [beq_iff_eq, beq_eq_false_iff_ne, ne_eq, bne_iff_ne, bne_eq_false_iff_eq, decide_eq_true_eq, decide_eq_false_iff_not, Bool.not_eq_true', Bool.not_eq_false', gt_iff_lt] at *
            simp_all
            try omega
          rw [hE, if_pos rfl]
          have L := nu_100 s (sLen s) i rest
          rw [e1 (of_decide_eq_true k0)] at L
          refine round_go L (pickL_ok ?_ _) rfl rfl rfl rfl
          repeat' (first | exact cd_nil | refine cd_cons ?_ ?_)
          all_goals first | rfl | with_reducible assumption
    | false =>
      rw [if_neg (of_decide_eq_false k0)]
      have L := nu_0 s (sLen s) i rest
      refine round_out L rfl (pickL_ok ?_ _) rfl rfl rfl
      repeat' (first | exact cd_nil | refine cd_cons ?_ ?_)
      all_goals first | rfl | with_reducible assumption
  · exfalso
    have : nuStep ⟨s, n, i⟩ = .bad := if_neg ok
    rw [this] at hb; cases hb
theorem nu_runs {s : ByteArray} (h : sLen s ≤ 9223372036854775807) : ∀ (j i : Nat), i + j = s.size → ∃ c, runs nuStep c ⟨s, sLen s, i⟩ = (if alF (dAt s) j i = true then some (.exit 0, nuTm s (sLen s) (sLen s), []) else some (.ret, [(2, .w (.one (.yes false)))], []))
  | 0, i, hi => by
    have e : (i : Int) = sLen s := by unfold sLen; omega
    refine ⟨1, ?_⟩
    rw [runs, nu_go ⟨by omega, by omega, rfl, h⟩]
    unfold nuNx
    rw [if_neg (by omega), e]
    rfl
  | j + 1, i, hi => by
    have hl : (i : Int) < sLen s := by unfold sLen; omega
    have en : (i : Int).toNat = i := Int.toNat_natCast i
    by_cases g : dAt s i = true
    · obtain ⟨c, hc⟩ := nu_runs h j (i + 1) (by omega)
      refine ⟨c + 1, ?_⟩
      rw [runs, nu_go ⟨by omega, by omega, rfl, h⟩]
      unfold nuNx
      rw [if_pos hl, en, if_pos g, alF, g, Bool.true_and]
      exact hc
    · refine ⟨1, ?_⟩
      rw [runs, nu_go ⟨by omega, by omega, rfl, h⟩]
      unfold nuNx
      rw [if_pos hl, en, if_neg g, alF]
      simp only [g, Bool.false_and, Bool.false_eq_true, if_false]
def nuD : LpDefR nuT Empty where
  ts := [0, 16, 17]
  ps := []
  rs := []
  W := [0, 2, 3, 16, 17, 18, 19, 20, 21, 22, 23, 24, 25, 26, 27, 28, 29, 30]
  dec := fun vs tr ks => match vs, tr, ks with
    | [.w (.one (.lit (.string s))), .w (.one (.int .i64 n)), .w (.one (.int .i64 i))], [], [] => some ⟨s, n, i⟩
    | _, _, _ => none
  fk := fun t => some (alF (dAt t.s) t.s.size 0)
  spec := fun t β => match β with
    | true => some (.exit 0, nuTm t.s t.n t.n, [], [], [(decide (t.i = 0) && decide (t.n = sLen t.s) && decide (t.n ≤ 9223372036854775807), true)])
    | false => some (.ret, [(2, .w (.one (.yes false)))], [], [], [(decide (t.i = 0) && decide (t.n = sLen t.s) && decide (t.n ≤ 9223372036854775807), true)])
theorem nuD_ok (x : Code) (hx : codeAt (bodyOf Tryd.f26) [false, true, false, true, true] = some (.loop x)) : LpOk Tryd.prog noFacts 31 x (nuD.sp (fun _ => false)) := by
  obtain rfl := loopAt_eq hx
  refine lpR_ok (c := ctxOf Tryd.prog noFacts (fun _ => false) []) (ctxOf_ok (lib1_nil _ _) (eq_none _)) (by kernel_rfl) (fun f _ _ _ => nomatch f) hx lps_nil (S := nuS) (step := nuStep) (fun _ h => by cases h) (by kernel_rfl) (by kernel_rfl) ?_ rfl (fun t e he => ?_) (fun t hb rest => nu_round t hb rest) ?_
  · intro vs tr ks s hv1 hv2 h hv3
    simp only [nuD] at h
    split at h
    · cases h
      exact ⟨rfl, fun e he => .inl he⟩
    · cases h
  · simp only [nuS, nuTm, List.mem_cons, List.not_mem_nil, or_false] at he
    rcases he with rfl | rfl | rfl <;> rfl
  · intro s β ex outs rts wb cd h hfk hc
    obtain ⟨s, n, i⟩ := s
    have hβ := hfk _ rfl
    cases β with
    | true =>
      simp only [nuD] at h hβ
      cases h
      have := hc _ (List.mem_singleton.2 rfl)
      simp only [Bool.and_eq_true, decide_eq_true_eq] at this
      obtain ⟨⟨rfl, rfl⟩, h3⟩ := this
      obtain ⟨c, hc⟩ := nu_runs h3 s.size 0 (by omega)
      refine ⟨c, ?_⟩
      rw [if_pos hβ] at hc
      exact hc
    | false =>
      simp only [nuD] at h hβ
      cases h
      have := hc _ (List.mem_singleton.2 rfl)
      simp only [Bool.and_eq_true, decide_eq_true_eq] at this
      obtain ⟨⟨rfl, rfl⟩, h3⟩ := this
      obtain ⟨c, hc⟩ := nu_runs h3 s.size 0 (by omega)
      refine ⟨c, ?_⟩
      rw [if_neg (by rw [hβ]; simp)] at hc
      exact hc
set_option maxRecDepth 100000 in
theorem va_10 (s : ByteArray) (n : Int) (i : Int) (x : Int) (rest : List (Nat × AV Empty)) : evView (ctxOf Tryd.prog noFacts (fun _ => false) []) 24 (false :: [false, true, false, true, true]) (loopAt (bodyOf Tryd.f27) [false, true, false, true, true]) ([(0, (.w (.one (.lit (.string s))))), (7, (.w (.one (.int .i64 n)))), (8, (.w (.one (.int .i64 i)))), (4, (.w (.one (.int .u64 x))))] ++ (ptrN 0 [] ++ rest)) [] 0 [0, 7, 8, 4] [true, false] = some ((Ex.normal, [AV.w (AW.one (AC.lit (Value.string s))), AV.w (AW.one (AC.int IntKind.i64 n)), AV.w (AW.one (AC.int IntKind.i64 (IntKind.i64.wrap (i + 1)))), AV.w (AW.one (AC.int IntKind.u64 (IntKind.u64.wrap (IntKind.u64.wrap ((10 : Int) * x) + IntKind.u64.wrap (IntKind.u8.wrap (sAt s i - 48))))))], []), (pickL [(decide (i < n), true), (decide ((0 : Int) ≤ i), true), (decide (i < sLen s), true), (decide (IntKind.u64.wrap (IntKind.u64.wrap ((10 : Int) * x) + IntKind.u64.wrap (IntKind.u8.wrap (sAt s i - 48))) > 1152921504606846976), false)] [0, 1, 2, 3])) := by kernel_rfl
set_option maxRecDepth 100000 in
theorem va_0 (s : ByteArray) (n : Int) (i : Int) (x : Int) (rest : List (Nat × AV Empty)) : evView (ctxOf Tryd.prog noFacts (fun _ => false) []) 24 (false :: [false, true, false, true, true]) (loopAt (bodyOf Tryd.f27) [false, true, false, true, true]) ([(0, (.w (.one (.lit (.string s))))), (7, (.w (.one (.int .i64 n)))), (8, (.w (.one (.int .i64 i)))), (4, (.w (.one (.int .u64 x))))] ++ (ptrN 0 [] ++ rest)) [] 0 [0, 7, 8, 4] [false] = some ((Ex.exit 0, [AV.w (AW.one (AC.lit (Value.string s))), AV.w (AW.one (AC.int IntKind.i64 n)), AV.w (AW.one (AC.int IntKind.i64 i)), AV.w (AW.one (AC.int IntKind.u64 x))], []), (pickL [(decide (i < n), false)] [0])) := by kernel_rfl
set_option maxRecDepth 100000 in
theorem var_11 (s : ByteArray) (n : Int) (i : Int) (x : Int) (rest : List (Nat × AV Empty)) : evView (ctxOf Tryd.prog noFacts (fun _ => false) []) 24 (false :: [false, true, false, true, true]) (loopAt (bodyOf Tryd.f27) [false, true, false, true, true]) ([(0, (.w (.one (.lit (.string s))))), (7, (.w (.one (.int .i64 n)))), (8, (.w (.one (.int .i64 i)))), (4, (.w (.one (.int .u64 x))))] ++ (ptrN 0 [] ++ rest)) [] 0 [2, 3] [true, true] = some ((Ex.ret, [AV.w (AW.one (AC.int IntKind.i64 0)), AV.w (AW.one (AC.yes false))], []), (pickL [(decide (i < n), true), (decide ((0 : Int) ≤ i), true), (decide (i < sLen s), true), (decide (IntKind.u64.wrap (IntKind.u64.wrap ((10 : Int) * x) + IntKind.u64.wrap (IntKind.u8.wrap (sAt s i - 48))) > 1152921504606846976), true)] [0, 1, 2, 3])) := by kernel_rfl
structure vaT where
  s : ByteArray
  n : Int
  i : Int
  x : Int
def vaP (s : ByteArray) (n : Int) (i : Int) (x : Int) : Prop := 0 ≤ i ∧ i ≤ n ∧ n = sLen s ∧ n ≤ 9223372036854775807 ∧ alF (dAt s) s.size 0 = true ∧ 0 ≤ x ∧ x ≤ 1152921504606846976
instance (s : ByteArray) (n : Int) (i : Int) (x : Int) : Decidable (vaP s n i x) := by unfold vaP; infer_instance
def vaTm (s : ByteArray) (n : Int) (i : Int) (x : Int) : List (Nat × AV Empty) := [(0, (.w (.one (.lit (.string s))))), (7, (.w (.one (.int .i64 n)))), (8, (.w (.one (.int .i64 i)))), (4, (.w (.one (.int .u64 x))))]
def vaS : LpSt vaT Empty where
  ps := []
  tm := fun t => vaTm t.s t.n t.i t.x
  hp := fun t => []
def vaNx (s : ByteArray) (n : Int) (i : Int) (x : Int) : Nxt vaT Empty := if i < n then (if 10 * x + (sAt s i - 48) ≤ 1152921504606846976 then .go ⟨s, n, i + 1, 10 * x + (sAt s i - 48)⟩ else .out .ret [(2, .w (.one (.int .i64 0))), (3, .w (.one (.yes false)))] []) else .out (.exit 0) (vaTm s n i x) []
def vaStep (t : vaT) : Nxt vaT Empty := if vaP t.s t.n t.i t.x then vaNx t.s t.n t.i t.x else .bad
theorem va_go {s : ByteArray} {n : Int} {i : Int} {x : Int} (h : vaP s n i x) : vaStep ⟨s, n, i, x⟩ = vaNx s n i x := if_pos h
set_option maxRecDepth 100000 in
set_option maxHeartbeats 4000000 in
theorem va_round (t : vaT) (hb : (vaStep t).isBad = false) (rest : List (Nat × AV Empty)) : ∃ fuel path r, evC (ctxOf Tryd.prog noFacts (fun _ => false) []) fuel 24 (false :: [false, true, false, true, true]) (loopAt (bodyOf Tryd.f27) [false, true, false, true, true]) (vaS.tm t ++ (ptrN 0 vaS.ps ++ rest)) (numb 0 (vaS.hp t)) 0 path = some r ∧ (∀ p ∈ r.cd, p.1 = p.2) ∧ Gives vaS 0 r (vaStep t) := by
  obtain ⟨s, n, i, x⟩ := t
  by_cases ok : vaP s n i x
  · rw [va_go ok]
    clear hb
    unfold vaNx
    obtain ⟨h1, h2, rfl, h4, h5, h6, h7⟩ := ok
    have e0 : decide ((0 : Int) ≤ i) = true := decide_eq_true h1
    have e1 : i < sLen s → IntKind.i64.wrap (i + 1) = i + 1 := fun _ => IntWalk.i64_in _ (by omega)
    have ed : i < sLen s → 48 ≤ sAt s i ∧ sAt s i ≤ 57 := fun h => by
      obtain ⟨j, rfl⟩ := Int.eq_ofNat_of_zero_le h1
      have := (alF_at _ _).1 h5 j (Nat.zero_le _) (by unfold sLen at h; omega)
      unfold dAt at this
      simp only [Bool.and_eq_true, decide_eq_true_eq] at this
      exact this
    cases k0 : (decide (i < sLen s)) with
    | true =>
      cases k1 : (decide (IntKind.u64.wrap (IntKind.u64.wrap ((10 : Int) * x) + IntKind.u64.wrap (IntKind.u8.wrap (sAt s i - 48))) > 1152921504606846976)) with
      | true =>
        rw [if_pos (of_decide_eq_true k0)]
        have hd := ed (of_decide_eq_true k0)
        have ew : IntKind.u64.wrap (IntKind.u64.wrap ((10 : Int) * x) + IntKind.u64.wrap (IntKind.u8.wrap (sAt s i - 48))) = 10 * x + (sAt s i - 48) := by rw [u64w (x := (10 : Int) * x) (by omega) (by omega), u8w (by omega) (by omega), u64w (x := sAt s i - 48) (by omega) (by omega), u64w (by omega) (by omega)]
        have hE : ¬ (10 * x + (sAt s i - 48) ≤ 1152921504606846976) := by
          rw [ew] at k1
          have := k1
          simp only [beq_iff_eq, beq_eq_false_iff_ne, ne_eq, bne_iff_ne, bne_eq_false_iff_eq, decide_eq_true_eq, decide_eq_false_iff_not, Bool.not_eq_true', Bool.not_eq_false', gt_iff_lt] at this
          omega
        rw [if_neg hE]
        have L := var_11 s (sLen s) i x rest
        refine round_out L rfl (pickL_ok ?_ _) rfl rfl rfl
        repeat' (first | exact cd_nil | refine cd_cons ?_ ?_)
        all_goals first | rfl | with_reducible assumption | (rw [← ew]; assumption) | (rw [ew] at *; assumption)
      | false =>
        rw [if_pos (of_decide_eq_true k0)]
        have hd := ed (of_decide_eq_true k0)
        have ew : IntKind.u64.wrap (IntKind.u64.wrap ((10 : Int) * x) + IntKind.u64.wrap (IntKind.u8.wrap (sAt s i - 48))) = 10 * x + (sAt s i - 48) := by rw [u64w (x := (10 : Int) * x) (by omega) (by omega), u8w (by omega) (by omega), u64w (x := sAt s i - 48) (by omega) (by omega), u64w (by omega) (by omega)]
        have hE : (10 * x + (sAt s i - 48) ≤ 1152921504606846976) := by
          rw [ew] at k1
          have := k1
          simp only [beq_iff_eq, beq_eq_false_iff_ne, ne_eq, bne_iff_ne, bne_eq_false_iff_eq, decide_eq_true_eq, decide_eq_false_iff_not, Bool.not_eq_true', Bool.not_eq_false', gt_iff_lt] at this
          omega
        rw [if_pos hE]
        have L := va_10 s (sLen s) i x rest
        rw [e1 (of_decide_eq_true k0), ew] at L
        refine round_go L (pickL_ok ?_ _) rfl rfl rfl rfl
        repeat' (first | exact cd_nil | refine cd_cons ?_ ?_)
        all_goals first | rfl | with_reducible assumption | exact decide_eq_false (by omega)
    | false =>
      rw [if_neg (of_decide_eq_false k0)]
      have L := va_0 s (sLen s) i x rest
      refine round_out L rfl (pickL_ok ?_ _) rfl rfl rfl
      repeat' (first | exact cd_nil | refine cd_cons ?_ ?_)
      all_goals first | rfl | with_reducible assumption
  · exfalso
    have : vaStep ⟨s, n, i, x⟩ = .bad := if_neg ok
    rw [this] at hb; cases hb
theorem va_runs {s : ByteArray} (h : sLen s ≤ 9223372036854775807) (hd : alF (dAt s) s.size 0 = true) : ∀ (j i : Nat) (x : Int), i + j = s.size → 0 ≤ x → x ≤ 1152921504606846976 → ∃ c, runs vaStep c ⟨s, sLen s, i, x⟩ = (if 0 ≤ vF s j i x then some (.exit 0, vaTm s (sLen s) (sLen s) (vF s j i x), []) else some (.ret, [(2, .w (.one (.int .i64 0))), (3, .w (.one (.yes false)))], []))
  | 0, i, x, hi, hx, hX => by
    have e : (i : Int) = sLen s := by unfold sLen; omega
    refine ⟨1, ?_⟩
    rw [runs, va_go ⟨by omega, by omega, rfl, h, hd, hx, hX⟩]
    unfold vaNx
    rw [if_neg (by omega), e, vF, if_pos hx]
  | j + 1, i, x, hi, hx, hX => by
    have hl : (i : Int) < sLen s := by unfold sLen; omega
    have hdig : 48 ≤ sAt s (i : Int) := by
      have := (alF_at _ _).1 hd i (Nat.zero_le _) (by omega)
      unfold dAt at this
      simp only [Bool.and_eq_true, decide_eq_true_eq] at this
      exact this.1
    by_cases g : 10 * x + (sAt s (i : Int) - 48) ≤ 1152921504606846976
    · obtain ⟨c, hc⟩ := va_runs h hd j (i + 1) (10 * x + (sAt s (i : Int) - 48)) (by omega) (by omega) g
      refine ⟨c + 1, ?_⟩
      rw [runs, va_go ⟨by omega, by omega, rfl, h, hd, hx, hX⟩]
      unfold vaNx
      rw [if_pos hl, if_pos g, vF, if_pos g]
      exact hc
    · refine ⟨1, ?_⟩
      rw [runs, va_go ⟨by omega, by omega, rfl, h, hd, hx, hX⟩]
      unfold vaNx
      rw [if_pos hl, if_neg g, vF, if_neg g, if_neg (by omega)]
def vaD : LpDefR vaT Empty where
  ts := [0, 7, 8, 4]
  ps := []
  rs := []
  W := [0, 2, 3, 4, 5, 7, 8, 9, 10, 11, 12, 13, 14, 15, 16, 17, 18, 19, 20, 21]
  dec := fun vs tr ks => match vs, tr, ks with
    | [.w (.one (.lit (.string s))), .w (.one (.int .i64 n)), .w (.one (.int .i64 i)), .w (.one (.int .u64 x))], [], [] => some ⟨s, n, i, x⟩
    | _, _, _ => none
  fk := fun t => some (decide (0 ≤ vF t.s t.s.size 0 0))
  spec := fun t β => match β with
    | true => some (.exit 0, vaTm t.s t.n t.n (vF t.s t.s.size 0 0), [], [], [(decide (t.i = 0) && decide (t.n = sLen t.s) && decide (t.n ≤ 9223372036854775807) && alF (dAt t.s) t.s.size 0 && decide (t.x = 0), true)])
    | false => some (.ret, [(2, .w (.one (.int .i64 0))), (3, .w (.one (.yes false)))], [], [], [(decide (t.i = 0) && decide (t.n = sLen t.s) && decide (t.n ≤ 9223372036854775807) && alF (dAt t.s) t.s.size 0 && decide (t.x = 0), true)])
theorem vaD_ok (x : Code) (hx : codeAt (bodyOf Tryd.f27) [false, true, false, true, true] = some (.loop x)) : LpOk Tryd.prog noFacts 24 x (vaD.sp (fun _ => false)) := by
  obtain rfl := loopAt_eq hx
  refine lpR_ok (c := ctxOf Tryd.prog noFacts (fun _ => false) []) (ctxOf_ok (lib1_nil _ _) (eq_none _)) (by kernel_rfl) (fun f _ _ _ => nomatch f) hx lps_nil (S := vaS) (step := vaStep) (fun _ h => by cases h) (by kernel_rfl) (by kernel_rfl) ?_ rfl (fun t e he => ?_) (fun t hb rest => va_round t hb rest) ?_
  · intro vs tr ks s hv1 hv2 h hv3
    simp only [vaD] at h
    split at h
    · cases h
      exact ⟨rfl, fun e he => .inl he⟩
    · cases h
  · simp only [vaS, vaTm, List.mem_cons, List.not_mem_nil, or_false] at he
    rcases he with rfl | rfl | rfl | rfl <;> rfl
  · intro s β ex outs rts wb cd h hfk hc
    obtain ⟨s, n, i, x⟩ := s
    have hβ := hfk _ rfl
    cases β with
    | true =>
      simp only [vaD] at h hβ
      cases h
      have := hc _ (List.mem_singleton.2 rfl)
      simp only [Bool.and_eq_true, decide_eq_true_eq] at this
      obtain ⟨⟨⟨⟨rfl, rfl⟩, h3⟩, h5⟩, rfl⟩ := this
      obtain ⟨c, hc⟩ := va_runs h3 h5 s.size 0 0 (by omega) (by omega) (by omega)
      refine ⟨c, ?_⟩
      rw [if_pos (of_decide_eq_true hβ)] at hc
      exact hc
    | false =>
      simp only [vaD] at h hβ
      cases h
      have := hc _ (List.mem_singleton.2 rfl)
      simp only [Bool.and_eq_true, decide_eq_true_eq] at this
      obtain ⟨⟨⟨⟨rfl, rfl⟩, h3⟩, h5⟩, rfl⟩ := this
      obtain ⟨c, hc⟩ := va_runs h3 h5 s.size 0 0 (by omega) (by omega) (by omega)
      refine ⟨c, ?_⟩
      rw [if_neg (of_decide_eq_false hβ)] at hc
      exact hc
end
end Go.Proofs.YtocheeocnbfbiaaDoor.AtFt

