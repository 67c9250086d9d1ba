/-
  The reference's BendsErr, and the loops of RefractOf, over tables of refraction.
  Conditions: those of each theorem.
-/
import Derived.Test.YtagbpehfieejcaaH8
import Derived.Test.YtagbpehfieejcaaHC
set_option linter.unusedVariables false
set_option linter.unusedSimpArgs false
namespace Go.Proofs.Ytagbpehfieejcaa.AtHz
open Ev Go.RowKit Go.Shelf Zd Wd
open Go.Proofs.Ytagbpehfieejcaa
noncomputable section

noncomputable abbrev libU0 : List (Nat × FnSp Tb) := [(94, sp1 dBd (fun b => aInt .i64 (chkB b)) (fun _ => []))]
theorem libU0_ok : LibOk Try.prog tbI (lib1 libU0) := (lib1_cons (sp1_ok fun a _ => ⟨_, rfl, berr_pl a⟩) Try.call94 (lib1_nil _ _))
noncomputable abbrev libU1 : List (Nat × FnSp Nm) := [(94, sp1 dBd (fun b => aInt .i64 (chkB b)) (fun _ => [])), (15, nfn nI), (58, nfn nCmp)]
theorem libU1_ok : LibOk Try.prog numI (lib1 libU1) := (lib1_cons (sp1_ok fun a _ => ⟨_, rfl, berr_pl a⟩) Try.call94 (lib1_cons nI_ok Try.call15 (lib1_cons nCmp_ok Try.call58 (lib1_nil _ _))))
set_option maxRecDepth 100000 in
theorem be_100010 (T : List (List Int)) (U : List (List Int)) (n : Int) (i : Int) (rest : List (Nat × AV Tb)) : evView (ctxOf Try.prog tbI (fun _ => false) libU0) 44 (false :: [false, true, false, true, true]) (loopAt (bodyOf Try.f33) [false, true, false, true, true]) ([(0, (.w (.one (.fv (.tab [some .i64, some .i64, some .i64, none] T))))), (9, (.w (.one (.fv (.tab [some .i64, some .i64, some .i64, none] U))))), (10, (.w (.one (.int .i64 n)))), (11, (.w (.one (.int .i64 i))))] ++ (ptrN 0 [] ++ rest)) [] 0 [0, 9, 10, 11] [true, false, false, false, true, false] = some ((Ex.normal, [AV.w (AW.one (AC.fv (Tb.tab [some IntKind.i64, some IntKind.i64, some IntKind.i64, none] T))), AV.w (AW.one (AC.fv (Tb.tab [some IntKind.i64, some IntKind.i64, some IntKind.i64, none] U))), AV.w (AW.one (AC.int IntKind.i64 n)), AV.w (AW.one (AC.int IntKind.i64 (IntKind.i64.wrap (i + 1))))], []), (pickL [(decide (i < n), true), (decide (0 ≤ i), true), (decide (i < lenT U), true), (decide (cel U i 0 > 1073741824), false), (decide (cel U i 0 < -1073741824), false), (chkB { lo := cel U i 1, hi := cel U i 2, u := decide (cel U i 3 = 1) } != 0, false), (decide (i > 0), true), (decide (0 ≤ IntKind.i64.wrap (i - 1)), true), (decide (IntKind.i64.wrap (i - 1) < lenT T), true), (decide (cel T (IntKind.i64.wrap (i - 1)) 0 ≥ cel U i 0), false)] [0, 1, 2, 1, 2, 3, 3, 3, 3, 4, 5, 6, 6, 6, 6, 7, 8, 6, 6, 7, 8, 6, 6, 6, 6, 9])) := by kernel_rfl
set_option maxRecDepth 100000 in
theorem be_10000 (T : List (List Int)) (U : List (List Int)) (n : Int) (i : Int) (rest : List (Nat × AV Tb)) : evView (ctxOf Try.prog tbI (fun _ => false) libU0) 44 (false :: [false, true, false, true, true]) (loopAt (bodyOf Try.f33) [false, true, false, true, true]) ([(0, (.w (.one (.fv (.tab [some .i64, some .i64, some .i64, none] T))))), (9, (.w (.one (.fv (.tab [some .i64, some .i64, some .i64, none] U))))), (10, (.w (.one (.int .i64 n)))), (11, (.w (.one (.int .i64 i))))] ++ (ptrN 0 [] ++ rest)) [] 0 [0, 9, 10, 11] [true, false, false, false, false] = some ((Ex.normal, [AV.w (AW.one (AC.fv (Tb.tab [some IntKind.i64, some IntKind.i64, some IntKind.i64, none] T))), AV.w (AW.one (AC.fv (Tb.tab [some IntKind.i64, some IntKind.i64, some IntKind.i64, none] U))), AV.w (AW.one (AC.int IntKind.i64 n)), AV.w (AW.one (AC.int IntKind.i64 (IntKind.i64.wrap (i + 1))))], []), (pickL [(decide (i < n), true), (decide (0 ≤ i), true), (decide (i < lenT U), true), (decide (cel U i 0 > 1073741824), false), (decide (cel U i 0 < -1073741824), false), (chkB { lo := cel U i 1, hi := cel U i 2, u := decide (cel U i 3 = 1) } != 0, false), (decide (i > 0), false), (false, false)] [0, 1, 2, 1, 2, 3, 3, 3, 3, 4, 5, 6, 6, 6, 6, 6, 6, 6, 6, 6, 6, 7])) := by kernel_rfl
set_option maxRecDepth 100000 in
theorem be_0 (T : List (List Int)) (U : List (List Int)) (n : Int) (i : Int) (rest : List (Nat × AV Tb)) : evView (ctxOf Try.prog tbI (fun _ => false) libU0) 44 (false :: [false, true, false, true, true]) (loopAt (bodyOf Try.f33) [false, true, false, true, true]) ([(0, (.w (.one (.fv (.tab [some .i64, some .i64, some .i64, none] T))))), (9, (.w (.one (.fv (.tab [some .i64, some .i64, some .i64, none] U))))), (10, (.w (.one (.int .i64 n)))), (11, (.w (.one (.int .i64 i))))] ++ (ptrN 0 [] ++ rest)) [] 0 [0, 9, 10, 11] [false] = some ((Ex.exit 0, [AV.w (AW.one (AC.fv (Tb.tab [some IntKind.i64, some IntKind.i64, some IntKind.i64, none] T))), AV.w (AW.one (AC.fv (Tb.tab [some IntKind.i64, some IntKind.i64, some IntKind.i64, none] U))), AV.w (AW.one (AC.int IntKind.i64 n)), AV.w (AW.one (AC.int IntKind.i64 i))], []), (pickL [(decide (i < n), false)] [0])) := by kernel_rfl
set_option maxRecDepth 100000 in
theorem ber_11 (T : List (List Int)) (U : List (List Int)) (n : Int) (i : Int) (rest : List (Nat × AV Tb)) : evView (ctxOf Try.prog tbI (fun _ => false) libU0) 44 (false :: [false, true, false, true, true]) (loopAt (bodyOf Try.f33) [false, true, false, true, true]) ([(0, (.w (.one (.fv (.tab [some .i64, some .i64, some .i64, none] T))))), (9, (.w (.one (.fv (.tab [some .i64, some .i64, some .i64, none] U))))), (10, (.w (.one (.int .i64 n)))), (11, (.w (.one (.int .i64 i))))] ++ (ptrN 0 [] ++ rest)) [] 0 [2] [true, true] = some ((Ex.ret, [AV.w (AW.one (AC.int IntKind.i64 4))], []), (pickL [(decide (i < n), true), (decide (0 ≤ i), true), (decide (i < lenT U), true), (decide (cel U i 0 > 1073741824), true), (true, true)] [0, 1, 2, 1, 2, 3, 3, 3, 3, 4])) := by kernel_rfl
set_option maxRecDepth 100000 in
theorem ber_101 (T : List (List Int)) (U : List (List Int)) (n : Int) (i : Int) (rest : List (Nat × AV Tb)) : evView (ctxOf Try.prog tbI (fun _ => false) libU0) 44 (false :: [false, true, false, true, true]) (loopAt (bodyOf Try.f33) [false, true, false, true, true]) ([(0, (.w (.one (.fv (.tab [some .i64, some .i64, some .i64, none] T))))), (9, (.w (.one (.fv (.tab [some .i64, some .i64, some .i64, none] U))))), (10, (.w (.one (.int .i64 n)))), (11, (.w (.one (.int .i64 i))))] ++ (ptrN 0 [] ++ rest)) [] 0 [2] [true, false, true] = some ((Ex.ret, [AV.w (AW.one (AC.int IntKind.i64 4))], []), (pickL [(decide (i < n), true), (decide (0 ≤ i), true), (decide (i < lenT U), true), (decide (cel U i 0 > 1073741824), false), (decide (cel U i 0 < -1073741824), true)] [0, 1, 2, 1, 2, 3, 3, 3, 3, 4])) := by kernel_rfl
set_option maxRecDepth 100000 in
theorem ber_1001 (T : List (List Int)) (U : List (List Int)) (n : Int) (i : Int) (rest : List (Nat × AV Tb)) : evView (ctxOf Try.prog tbI (fun _ => false) libU0) 44 (false :: [false, true, false, true, true]) (loopAt (bodyOf Try.f33) [false, true, false, true, true]) ([(0, (.w (.one (.fv (.tab [some .i64, some .i64, some .i64, none] T))))), (9, (.w (.one (.fv (.tab [some .i64, some .i64, some .i64, none] U))))), (10, (.w (.one (.int .i64 n)))), (11, (.w (.one (.int .i64 i))))] ++ (ptrN 0 [] ++ rest)) [] 0 [2] [true, false, false, true] = some ((Ex.ret, [AV.w (AW.one (AC.int IntKind.i64 (chkB { lo := cel U i 1, hi := cel U i 2, u := decide (cel U i 3 = 1) })))], []), (pickL [(decide (i < n), true), (decide (0 ≤ i), true), (decide (i < lenT U), true), (decide (cel U i 0 > 1073741824), false), (decide (cel U i 0 < -1073741824), false), (chkB { lo := cel U i 1, hi := cel U i 2, u := decide (cel U i 3 = 1) } != 0, true)] [0, 1, 2, 1, 2, 3, 3, 3, 3, 4, 5])) := by kernel_rfl
set_option maxRecDepth 100000 in
theorem ber_100011 (T : List (List Int)) (U : List (List Int)) (n : Int) (i : Int) (rest : List (Nat × AV Tb)) : evView (ctxOf Try.prog tbI (fun _ => false) libU0) 44 (false :: [false, true, false, true, true]) (loopAt (bodyOf Try.f33) [false, true, false, true, true]) ([(0, (.w (.one (.fv (.tab [some .i64, some .i64, some .i64, none] T))))), (9, (.w (.one (.fv (.tab [some .i64, some .i64, some .i64, none] U))))), (10, (.w (.one (.int .i64 n)))), (11, (.w (.one (.int .i64 i))))] ++ (ptrN 0 [] ++ rest)) [] 0 [2] [true, false, false, false, true, true] = some ((Ex.ret, [AV.w (AW.one (AC.int IntKind.i64 11))], []), (pickL [(decide (i < n), true), (decide (0 ≤ i), true), (decide (i < lenT U), true), (decide (cel U i 0 > 1073741824), false), (decide (cel U i 0 < -1073741824), false), (chkB { lo := cel U i 1, hi := cel U i 2, u := decide (cel U i 3 = 1) } != 0, false), (decide (i > 0), true), (decide (0 ≤ IntKind.i64.wrap (i - 1)), true), (decide (IntKind.i64.wrap (i - 1) < lenT T), true), (decide (cel T (IntKind.i64.wrap (i - 1)) 0 ≥ cel U i 0), true)] [0, 1, 2, 1, 2, 3, 3, 3, 3, 4, 5, 6, 6, 6, 6, 7, 8, 6, 6, 7, 8, 6, 6, 6, 6, 9])) := by kernel_rfl
structure beT where
  T : List (List Int)
  U : List (List Int)
  n : Int
  i : Int
def beP (T : List (List Int)) (U : List (List Int)) (n : Int) (i : Int) : Prop := 0 ≤ i ∧ i ≤ n ∧ n = lenT T ∧ n ≤ 64 ∧ U = T
instance (T : List (List Int)) (U : List (List Int)) (n : Int) (i : Int) : Decidable (beP T U n i) := by unfold beP; infer_instance
def beTm (T : List (List Int)) (U : List (List Int)) (n : Int) (i : Int) : List (Nat × AV Tb) := [(0, (.w (.one (.fv (.tab [some .i64, some .i64, some .i64, none] T))))), (9, (.w (.one (.fv (.tab [some .i64, some .i64, some .i64, none] U))))), (10, (.w (.one (.int .i64 n)))), (11, (.w (.one (.int .i64 i))))]
def beS : LpSt beT Tb where
  ps := []
  tm := fun t => beTm t.T t.U t.n t.i
  hp := fun t => []
def beNx (T : List (List Int)) (U : List (List Int)) (n : Int) (i : Int) : Nxt beT Tb := if i < n then (if inQ (bAlt (rwT T i)) = true then (if chkB (bLift (rwT T i)) = 0 then (if 0 < i ∧ bAlt (rwT T i) ≤ bAlt (rwT T (i - 1)) then .out .ret [(2, .w (.one (.int .i64 11)))] [] else .go ⟨T, U, n, i + 1⟩) else .out .ret [(2, .w (.one (.int .i64 (chkB (bLift (rwT T i))))))] []) else .out .ret [(2, .w (.one (.int .i64 4)))] []) else .out (.exit 0) (beTm T U n i) []
def beStep (t : beT) : Nxt beT Tb := if beP t.T t.U t.n t.i then beNx t.T t.U t.n t.i else .bad
theorem be_go {T : List (List Int)} {U : List (List Int)} {n : Int} {i : Int} (h : beP T U n i) : beStep ⟨T, U, n, i⟩ = beNx T U n i := if_pos h
set_option maxRecDepth 100000 in
set_option maxHeartbeats 4000000 in
theorem be_round (t : beT) (hb : (beStep t).isBad = false) (rest : List (Nat × AV Tb)) : ∃ fuel path r, evC (ctxOf Try.prog tbI (fun _ => false) libU0) fuel 44 (false :: [false, true, false, true, true]) (loopAt (bodyOf Try.f33) [false, true, false, true, true]) (beS.tm t ++ (ptrN 0 beS.ps ++ rest)) (numb 0 (beS.hp t)) 0 path = some r ∧ (∀ p ∈ r.cd, p.1 = p.2) ∧ Gives beS 0 r (beStep t) := by
  obtain ⟨T, U, n, i⟩ := t
  by_cases ok : beP T U n i
  · rw [be_go ok]
    clear hb
    unfold beNx
    obtain ⟨h1, h2, rfl, h4, rfl⟩ := ok
    have e0 : decide (0 ≤ i) = true := decide_eq_true h1
    by_cases hk : i < lenT U
    · have c0 : decide (i < lenT U) = true := decide_eq_true hk
      have e1 : IntKind.i64.wrap (i + 1) = i + 1 := v64 (by omega) (by omega)
      have em : IntKind.i64.wrap (i - 1) = i - 1 := v64 (by omega) (by omega)
      rw [if_pos hk]
      have qi : inQ (bAlt (rwT U i)) = true ↔ -1073741824 ≤ bAlt (rwT U i) ∧ bAlt (rwT U i) ≤ 1073741824 := by unfold inQ; exact inL_iff
      by_cases g1 : cel U i 0 > 1073741824
      · have c1 : decide (cel U i 0 > 1073741824) = true := decide_eq_true g1
        rw [if_neg (fun h => by have := (qi.1 h).2; rw [show bAlt (rwT U i) = cel U i 0 from rfl] at this; omega)]
        have L := ber_11 U U (lenT U) i rest
        refine round_out L rfl (pickL_ok ?_ _) rfl rfl rfl
        repeat' (first | exact cd_nil | refine cd_cons ?_ ?_)
        all_goals first | rfl | with_reducible assumption
      · have c1 : decide (cel U i 0 > 1073741824) = false := decide_eq_false g1
        by_cases g2 : cel U i 0 < -1073741824
        · have c2 : decide (cel U i 0 < -1073741824) = true := decide_eq_true g2
          rw [if_neg (fun h => by have := (qi.1 h).1; rw [show bAlt (rwT U i) = cel U i 0 from rfl] at this; omega)]
          have L := ber_101 U U (lenT U) i rest
          refine round_out L rfl (pickL_ok ?_ _) rfl rfl rfl
          repeat' (first | exact cd_nil | refine cd_cons ?_ ?_)
          all_goals first | rfl | with_reducible assumption
        · have c2 : decide (cel U i 0 < -1073741824) = false := decide_eq_false g2
          rw [if_pos (qi.2 (by rw [show bAlt (rwT U i) = cel U i 0 from rfl]; omega))]
          by_cases hb : chkB (bLift (rwT U i)) = 0
          · have c3 : (chkB { lo := cel U i 1, hi := cel U i 2, u := decide (cel U i 3 = 1) } != 0) = false := by rw [show chkB { lo := cel U i 1, hi := cel U i 2, u := decide (cel U i 3 = 1) } = chkB (bLift (rwT U i)) from rfl, hb]; rfl
            rw [if_pos hb]
            by_cases hp : 0 < i
            · have c4 : decide (i > 0) = true := decide_eq_true hp
              have c5 : decide (0 ≤ i - 1) = true := decide_eq_true (by omega)
              have c6 : decide (i - 1 < lenT U) = true := decide_eq_true (by omega)
              by_cases ho : bAlt (rwT U i) ≤ bAlt (rwT U (i - 1))
              · have c7 : decide (cel U (i - 1) 0 ≥ cel U i 0) = true := decide_eq_true ho
                rw [if_pos ⟨hp, ho⟩]
                have L := ber_100011 U U (lenT U) i rest
                rw [em] at L
                refine round_out L rfl (pickL_ok ?_ _) rfl rfl rfl
                repeat' (first | exact cd_nil | refine cd_cons ?_ ?_)
                all_goals first | rfl | with_reducible assumption
              · have c7 : decide (cel U (i - 1) 0 ≥ cel U i 0) = false := decide_eq_false ho
                rw [if_neg (fun h => ho h.2)]
                have L := be_100010 U U (lenT U) i rest
                rw [em, e1] at L
                refine round_go L (pickL_ok ?_ _) rfl rfl rfl rfl
                repeat' (first | exact cd_nil | refine cd_cons ?_ ?_)
                all_goals first | rfl | with_reducible assumption
            · have c4 : decide (i > 0) = false := decide_eq_false hp
              rw [if_neg (fun h => hp h.1)]
              have L := be_10000 U U (lenT U) i rest
              rw [e1] at L
              refine round_go L (pickL_ok ?_ _) rfl rfl rfl rfl
              repeat' (first | exact cd_nil | refine cd_cons ?_ ?_)
              all_goals first | rfl | with_reducible assumption
          · have c3 : (chkB { lo := cel U i 1, hi := cel U i 2, u := decide (cel U i 3 = 1) } != 0) = true := by rw [show chkB { lo := cel U i 1, hi := cel U i 2, u := decide (cel U i 3 = 1) } = chkB (bLift (rwT U i)) from rfl]; simpa using hb
            rw [if_neg hb]
            have L := ber_1001 U U (lenT U) i rest
            refine round_out L rfl (pickL_ok ?_ _) rfl rfl rfl
            repeat' (first | exact cd_nil | refine cd_cons ?_ ?_)
            all_goals first | rfl | with_reducible assumption
    · have c0 : decide (i < lenT U) = false := decide_eq_false hk
      rw [if_neg hk]
      have L := be_0 U U (lenT U) i rest
      refine round_out L rfl (pickL_ok ?_ _) rfl rfl rfl
      repeat' (first | exact cd_nil | refine cd_cons ?_ ?_)
      all_goals first | rfl | with_reducible assumption
  · exfalso
    have : beStep ⟨T, U, n, i⟩ = .bad := if_neg ok
    rw [this] at hb; cases hb
theorem be_runs {T : List (List Int)} (h : lenT T ≤ 64) : ∀ (j i : Nat), i + j = T.length → ∃ c, runs beStep c ⟨T, T, lenT T, i⟩ = (if beL (prT T i) (T.drop i) = 0 then some (.exit 0, beTm T T (lenT T) (lenT T), []) else some (.ret, [(2, .w (.one (.int .i64 (beL (prT T i) (T.drop i)))))], []))
  | 0, i, hi => by
    have e : (i : Int) = lenT T := by unfold lenT; omega
    refine ⟨1, ?_⟩
    rw [runs, be_go ⟨by omega, by omega, rfl, h, rfl⟩]
    unfold beNx
    rw [if_neg (by omega), List.drop_eq_nil_of_le (by omega), e]
    rfl
  | j + 1, i, hi => by
    have hl : (i : Int) < lenT T := by unfold lenT; omega
    have d := drop_rw (T := T) (i := i) (by omega)
    have hgo : beStep ⟨T, T, lenT T, i⟩ = beNx T T (lenT T) i := be_go ⟨by omega, by omega, rfl, h, rfl⟩
    rw [d]
    unfold beL
    by_cases hq : inQ (bAlt (rwT T i)) = true
    · by_cases hb : chkB (bLift (rwT T i)) = 0
      · rw [if_pos hq, if_pos hb]
        by_cases ho : 0 < (i : Int) ∧ bAlt (rwT T i) ≤ bAlt (rwT T ((i : Int) - 1))
        · refine ⟨1, ?_⟩
          have hm : lowP (prT T i) (bAlt (rwT T i)) = true := by
            cases i with
            | zero => exact absurd ho.1 (by omega)
            | succ i =>
              have : ((i + 1 : Nat) : Int) - 1 = (i : Int) := by omega
              rw [this] at ho
              exact decide_eq_true ho.2
          rw [runs, hgo]
          unfold beNx
          rw [if_pos hl, if_pos hq, if_pos hb, if_pos ho, if_pos hm, if_neg (by decide)]
        · have hm : lowP (prT T i) (bAlt (rwT T i)) = false := by
            cases i with
            | zero => rfl
            | succ i =>
              have : ((i + 1 : Nat) : Int) - 1 = (i : Int) := by omega
              rw [this] at ho
              exact decide_eq_false (fun hh => ho ⟨by omega, hh⟩)
          obtain ⟨c, hc⟩ := be_runs h j (i + 1) (by omega)
          refine ⟨c + 1, ?_⟩
          rw [runs, hgo]
          unfold beNx
          rw [if_pos hl, if_pos hq, if_pos hb, if_neg ho, hm, if_neg (show ¬ (false = true) by decide)]
          exact hc
      · refine ⟨1, ?_⟩
        rw [runs, hgo]
        unfold beNx
        rw [if_pos hl, if_pos hq, if_neg hb, if_pos hq, if_neg hb, if_neg hb]
    · refine ⟨1, ?_⟩
      rw [runs, hgo]
      unfold beNx
      rw [if_pos hl, if_neg hq, if_neg hq, if_neg (by decide)]
def beD : LpDefR beT Tb where
  ts := [0, 9, 10, 11]
  ps := []
  rs := []
  W := [0, 2, 3, 4, 5, 9, 10, 11, 12, 13, 14, 15, 16, 17, 18, 19, 20, 21, 22, 23, 24, 25, 26, 27, 28, 29, 30, 31, 32, 33, 34, 35, 36, 37, 38, 39, 40, 41, 42, 43]
  dec := fun vs tr ks => match vs, tr, ks with
    | [.w (.one (.fv (.tab [some .i64, some .i64, some .i64, none] T))), .w (.one (.fv (.tab [some .i64, some .i64, some .i64, none] U))), .w (.one (.int .i64 n)), .w (.one (.int .i64 i))], [], [] => some ⟨T, U, n, i⟩
    | _, _, _ => none
  fk := fun t => some (beL none t.T == 0)
  spec := fun t β => match β with
    | true => some (.exit 0, beTm t.T t.U t.n t.n, [], [], [(decide (t.i = 0) && decide (t.n = lenT t.T) && decide (t.n ≤ 64) && decide (t.U = t.T), true)])
    | false => some (.ret, [(2, .w (.one (.int .i64 (beL none t.T))))], [], [], [(decide (t.i = 0) && decide (t.n = lenT t.T) && decide (t.n ≤ 64) && decide (t.U = t.T), true)])
theorem beD_ok (x : Code) (hx : codeAt (bodyOf Try.f33) [false, true, false, true, true] = some (.loop x)) : LpOk Try.prog tbI 44 x (beD.sp (fun _ => true)) := by
  obtain rfl := loopAt_eq hx
  refine lpR_ok (c := ctxOf Try.prog tbI (fun _ => false) libU0) (ctxOf_ok libU0_ok (eq_none _)) (by kernel_rfl) (fun _ _ _ h => h) hx lps_nil (S := beS) (step := beStep) (fun _ _ => rfl) (by kernel_rfl) (by kernel_rfl) ?_ rfl (fun t e he => ?_) (fun t hb rest => be_round t hb rest) ?_
  · intro vs tr ks s hv1 hv2 h hv3
    simp only [beD] at h
    split at h
    · cases h
      exact ⟨rfl, fun e he => .inl he⟩
    · cases h
  · simp only [beS, beTm, List.mem_cons, List.not_mem_nil, or_false] at he
    rcases he with rfl | rfl | rfl | rfl <;> rfl
  · intro s β ex outs rts wb cd h hfk hc
    obtain ⟨T, U, n, i⟩ := s
    have hβ := hfk _ rfl
    cases β with
    | true =>
      simp only [beD] at h hβ
      cases h
      have := c1' hc
      simp only [Bool.and_eq_true, decide_eq_true_eq] at this
      obtain ⟨⟨⟨rfl, rfl⟩, h3⟩, rfl⟩ := this
      obtain ⟨c, hc⟩ := be_runs h3 U.length 0 (by omega)
      refine ⟨c, ?_⟩
      rw [List.drop_zero, show prT U 0 = none from rfl] at hc
      rw [if_pos (by simpa using hβ)] at hc
      exact hc
    | false =>
      simp only [beD] at h hβ
      cases h
      have := c1' hc
      simp only [Bool.and_eq_true, decide_eq_true_eq] at this
      obtain ⟨⟨⟨rfl, rfl⟩, h3⟩, rfl⟩ := this
      obtain ⟨c, hc⟩ := be_runs h3 U.length 0 (by omega)
      refine ⟨c, ?_⟩
      rw [List.drop_zero, show prT U 0 = none from rfl] at hc
      rw [if_neg (by simpa using hβ)] at hc
      exact hc
/-- The entries found among the first i ones. -/
def fiV (x : Int) (T : List (List Int)) (i : Int) : Int := if i ≤ ggT (x + 1) T then i - 1 else ggT (x + 1) T - 1
def kiV (y : Int) (T : List (List Int)) (i : Int) : Int := if i ≤ ggT y T then -1 else ggT y T
set_option maxRecDepth 100000 in
theorem ra_1111 (T : List (List Int)) (n : Int) (i : Int) (f : Int) (k : Int) (x : Int) (y : Int) (u : Bool) (rest : List (Nat × AV Nm)) : evView (ctxOf Try.prog numI (fun _ => false) libU1) 111 (false :: [false, true, false, true, true, true, true, true]) (loopAt (bodyOf Try.f35) [false, true, false, true, true, true, true, true]) ([(34, (.w (.one (.fv (.tab [some .i64, some .i64, some .i64, none] T))))), (35, (.w (.one (.int .i64 n)))), (36, (.w (.one (.int .i64 i)))), (9, (.w (.one (.int .i64 f)))), (10, (.w (.one (.int .i64 k))))] ++ (ptrN 0 [3] ++ rest)) [⟨62, [.int .i64 x, .int .i64 y, .bool u]⟩] 1 [34, 35, 36, 9, 10, 3] [true, true, true, true] = some ((Ex.normal, [AV.w (AW.one (AC.fv (Nm.tab [some IntKind.i64, some IntKind.i64, some IntKind.i64, none] T))), AV.w (AW.one (AC.int IntKind.i64 n)), AV.w (AW.one (AC.int IntKind.i64 (IntKind.i64.wrap (i + 1)))), AV.w (AW.one (AC.int IntKind.i64 i)), AV.w (AW.one (AC.int IntKind.i64 i)), AV.w (AW.one (AC.ptr 0 0))], [{ ty := 62, cs := [AC.int IntKind.i64 x, AC.int IntKind.i64 y, AC.bool u] }]), (pickL [(decide (i < n), true), (decide (0 ≤ i), true), (decide (i < lenT T), true), (decide (cel T i 0 ≤ x), true), (decide (cel T i 0 ≥ y), true), (decide (k < 0), true)] [0, 1, 2, 1, 2, 3, 4, 4, 4, 5])) := by kernel_rfl
set_option maxRecDepth 100000 in
theorem ra_1110 (T : List (List Int)) (n : Int) (i : Int) (f : Int) (k : Int) (x : Int) (y : Int) (u : Bool) (rest : List (Nat × AV Nm)) : evView (ctxOf Try.prog numI (fun _ => false) libU1) 111 (false :: [false, true, false, true, true, true, true, true]) (loopAt (bodyOf Try.f35) [false, true, false, true, true, true, true, true]) ([(34, (.w (.one (.fv (.tab [some .i64, some .i64, some .i64, none] T))))), (35, (.w (.one (.int .i64 n)))), (36, (.w (.one (.int .i64 i)))), (9, (.w (.one (.int .i64 f)))), (10, (.w (.one (.int .i64 k))))] ++ (ptrN 0 [3] ++ rest)) [⟨62, [.int .i64 x, .int .i64 y, .bool u]⟩] 1 [34, 35, 36, 9, 10, 3] [true, true, true, false] = some ((Ex.normal, [AV.w (AW.one (AC.fv (Nm.tab [some IntKind.i64, some IntKind.i64, some IntKind.i64, none] T))), AV.w (AW.one (AC.int IntKind.i64 n)), AV.w (AW.one (AC.int IntKind.i64 (IntKind.i64.wrap (i + 1)))), AV.w (AW.one (AC.int IntKind.i64 i)), AV.w (AW.one (AC.int IntKind.i64 k)), AV.w (AW.one (AC.ptr 0 0))], [{ ty := 62, cs := [AC.int IntKind.i64 x, AC.int IntKind.i64 y, AC.bool u] }]), (pickL [(decide (i < n), true), (decide (0 ≤ i), true), (decide (i < lenT T), true), (decide (cel T i 0 ≤ x), true), (decide (cel T i 0 ≥ y), true), (decide (k < 0), false)] [0, 1, 2, 1, 2, 3, 4, 4, 4, 5])) := by kernel_rfl
set_option maxRecDepth 100000 in
theorem ra_110 (T : List (List Int)) (n : Int) (i : Int) (f : Int) (k : Int) (x : Int) (y : Int) (u : Bool) (rest : List (Nat × AV Nm)) : evView (ctxOf Try.prog numI (fun _ => false) libU1) 111 (false :: [false, true, false, true, true, true, true, true]) (loopAt (bodyOf Try.f35) [false, true, false, true, true, true, true, true]) ([(34, (.w (.one (.fv (.tab [some .i64, some .i64, some .i64, none] T))))), (35, (.w (.one (.int .i64 n)))), (36, (.w (.one (.int .i64 i)))), (9, (.w (.one (.int .i64 f)))), (10, (.w (.one (.int .i64 k))))] ++ (ptrN 0 [3] ++ rest)) [⟨62, [.int .i64 x, .int .i64 y, .bool u]⟩] 1 [34, 35, 36, 9, 10, 3] [true, true, false] = some ((Ex.normal, [AV.w (AW.one (AC.fv (Nm.tab [some IntKind.i64, some IntKind.i64, some IntKind.i64, none] T))), AV.w (AW.one (AC.int IntKind.i64 n)), AV.w (AW.one (AC.int IntKind.i64 (IntKind.i64.wrap (i + 1)))), AV.w (AW.one (AC.int IntKind.i64 i)), AV.w (AW.one (AC.int IntKind.i64 k)), AV.w (AW.one (AC.ptr 0 0))], [{ ty := 62, cs := [AC.int IntKind.i64 x, AC.int IntKind.i64 y, AC.bool u] }]), (pickL [(decide (i < n), true), (decide (0 ≤ i), true), (decide (i < lenT T), true), (decide (cel T i 0 ≤ x), true), (decide (cel T i 0 ≥ y), false), (false, false)] [0, 1, 2, 1, 2, 3, 4, 4, 4, 5])) := by kernel_rfl
set_option maxRecDepth 100000 in
theorem ra_1011 (T : List (List Int)) (n : Int) (i : Int) (f : Int) (k : Int) (x : Int) (y : Int) (u : Bool) (rest : List (Nat × AV Nm)) : evView (ctxOf Try.prog numI (fun _ => false) libU1) 111 (false :: [false, true, false, true, true, true, true, true]) (loopAt (bodyOf Try.f35) [false, true, false, true, true, true, true, true]) ([(34, (.w (.one (.fv (.tab [some .i64, some .i64, some .i64, none] T))))), (35, (.w (.one (.int .i64 n)))), (36, (.w (.one (.int .i64 i)))), (9, (.w (.one (.int .i64 f)))), (10, (.w (.one (.int .i64 k))))] ++ (ptrN 0 [3] ++ rest)) [⟨62, [.int .i64 x, .int .i64 y, .bool u]⟩] 1 [34, 35, 36, 9, 10, 3] [true, false, true, true] = some ((Ex.normal, [AV.w (AW.one (AC.fv (Nm.tab [some IntKind.i64, some IntKind.i64, some IntKind.i64, none] T))), AV.w (AW.one (AC.int IntKind.i64 n)), AV.w (AW.one (AC.int IntKind.i64 (IntKind.i64.wrap (i + 1)))), AV.w (AW.one (AC.int IntKind.i64 f)), AV.w (AW.one (AC.int IntKind.i64 i)), AV.w (AW.one (AC.ptr 0 0))], [{ ty := 62, cs := [AC.int IntKind.i64 x, AC.int IntKind.i64 y, AC.bool u] }]), (pickL [(decide (i < n), true), (decide (0 ≤ i), true), (decide (i < lenT T), true), (decide (cel T i 0 ≤ x), false), (decide (cel T i 0 ≥ y), true), (decide (k < 0), true)] [0, 1, 2, 1, 2, 3, 4, 4, 4, 5])) := by kernel_rfl
set_option maxRecDepth 100000 in
theorem ra_1010 (T : List (List Int)) (n : Int) (i : Int) (f : Int) (k : Int) (x : Int) (y : Int) (u : Bool) (rest : List (Nat × AV Nm)) : evView (ctxOf Try.prog numI (fun _ => false) libU1) 111 (false :: [false, true, false, true, true, true, true, true]) (loopAt (bodyOf Try.f35) [false, true, false, true, true, true, true, true]) ([(34, (.w (.one (.fv (.tab [some .i64, some .i64, some .i64, none] T))))), (35, (.w (.one (.int .i64 n)))), (36, (.w (.one (.int .i64 i)))), (9, (.w (.one (.int .i64 f)))), (10, (.w (.one (.int .i64 k))))] ++ (ptrN 0 [3] ++ rest)) [⟨62, [.int .i64 x, .int .i64 y, .bool u]⟩] 1 [34, 35, 36, 9, 10, 3] [true, false, true, false] = some ((Ex.normal, [AV.w (AW.one (AC.fv (Nm.tab [some IntKind.i64, some IntKind.i64, some IntKind.i64, none] T))), AV.w (AW.one (AC.int IntKind.i64 n)), AV.w (AW.one (AC.int IntKind.i64 (IntKind.i64.wrap (i + 1)))), AV.w (AW.one (AC.int IntKind.i64 f)), AV.w (AW.one (AC.int IntKind.i64 k)), AV.w (AW.one (AC.ptr 0 0))], [{ ty := 62, cs := [AC.int IntKind.i64 x, AC.int IntKind.i64 y, AC.bool u] }]), (pickL [(decide (i < n), true), (decide (0 ≤ i), true), (decide (i < lenT T), true), (decide (cel T i 0 ≤ x), false), (decide (cel T i 0 ≥ y), true), (decide (k < 0), false)] [0, 1, 2, 1, 2, 3, 4, 4, 4, 5])) := by kernel_rfl
set_option maxRecDepth 100000 in
theorem ra_100 (T : List (List Int)) (n : Int) (i : Int) (f : Int) (k : Int) (x : Int) (y : Int) (u : Bool) (rest : List (Nat × AV Nm)) : evView (ctxOf Try.prog numI (fun _ => false) libU1) 111 (false :: [false, true, false, true, true, true, true, true]) (loopAt (bodyOf Try.f35) [false, true, false, true, true, true, true, true]) ([(34, (.w (.one (.fv (.tab [some .i64, some .i64, some .i64, none] T))))), (35, (.w (.one (.int .i64 n)))), (36, (.w (.one (.int .i64 i)))), (9, (.w (.one (.int .i64 f)))), (10, (.w (.one (.int .i64 k))))] ++ (ptrN 0 [3] ++ rest)) [⟨62, [.int .i64 x, .int .i64 y, .bool u]⟩] 1 [34, 35, 36, 9, 10, 3] [true, false, false] = some ((Ex.normal, [AV.w (AW.one (AC.fv (Nm.tab [some IntKind.i64, some IntKind.i64, some IntKind.i64, none] T))), AV.w (AW.one (AC.int IntKind.i64 n)), AV.w (AW.one (AC.int IntKind.i64 (IntKind.i64.wrap (i + 1)))), AV.w (AW.one (AC.int IntKind.i64 f)), AV.w (AW.one (AC.int IntKind.i64 k)), AV.w (AW.one (AC.ptr 0 0))], [{ ty := 62, cs := [AC.int IntKind.i64 x, AC.int IntKind.i64 y, AC.bool u] }]), (pickL [(decide (i < n), true), (decide (0 ≤ i), true), (decide (i < lenT T), true), (decide (cel T i 0 ≤ x), false), (decide (cel T i 0 ≥ y), false), (false, false)] [0, 1, 2, 1, 2, 3, 4, 4, 4, 5])) := by kernel_rfl
set_option maxRecDepth 100000 in
theorem ra_0 (T : List (List Int)) (n : Int) (i : Int) (f : Int) (k : Int) (x : Int) (y : Int) (u : Bool) (rest : List (Nat × AV Nm)) : evView (ctxOf Try.prog numI (fun _ => false) libU1) 111 (false :: [false, true, false, true, true, true, true, true]) (loopAt (bodyOf Try.f35) [false, true, false, true, true, true, true, true]) ([(34, (.w (.one (.fv (.tab [some .i64, some .i64, some .i64, none] T))))), (35, (.w (.one (.int .i64 n)))), (36, (.w (.one (.int .i64 i)))), (9, (.w (.one (.int .i64 f)))), (10, (.w (.one (.int .i64 k))))] ++ (ptrN 0 [3] ++ rest)) [⟨62, [.int .i64 x, .int .i64 y, .bool u]⟩] 1 [34, 35, 36, 9, 10, 3] [false] = some ((Ex.exit 0, [AV.w (AW.one (AC.fv (Nm.tab [some IntKind.i64, some IntKind.i64, some IntKind.i64, none] T))), AV.w (AW.one (AC.int IntKind.i64 n)), AV.w (AW.one (AC.int IntKind.i64 i)), AV.w (AW.one (AC.int IntKind.i64 f)), AV.w (AW.one (AC.int IntKind.i64 k)), AV.w (AW.one (AC.ptr 0 0))], [{ ty := 62, cs := [AC.int IntKind.i64 x, AC.int IntKind.i64 y, AC.bool u] }]), (pickL [(decide (i < n), false)] [0])) := by kernel_rfl
structure raT where
  T : List (List Int)
  n : Int
  i : Int
  f : Int
  k : Int
  x : Int
  y : Int
  u : Bool
def raP (T : List (List Int)) (n : Int) (i : Int) (f : Int) (k : Int) (x : Int) (y : Int) (u : Bool) : Prop := cbE T = 0 ∧ n = lenT T ∧ 0 ≤ i ∧ i ≤ n ∧ f = fiV x T i ∧ k = kiV y T i
instance (T : List (List Int)) (n : Int) (i : Int) (f : Int) (k : Int) (x : Int) (y : Int) (u : Bool) : Decidable (raP T n i f k x y u) := by unfold raP; infer_instance
def raTm (T : List (List Int)) (n : Int) (i : Int) (f : Int) (k : Int) (x : Int) (y : Int) (u : Bool) : List (Nat × AV Nm) := [(34, (.w (.one (.fv (.tab [some .i64, some .i64, some .i64, none] T))))), (35, (.w (.one (.int .i64 n)))), (36, (.w (.one (.int .i64 i)))), (9, (.w (.one (.int .i64 f)))), (10, (.w (.one (.int .i64 k))))]
def raS : LpSt raT Nm where
  ps := [3]
  tm := fun t => raTm t.T t.n t.i t.f t.k t.x t.y t.u
  hp := fun t => [⟨62, [.int .i64 t.x, .int .i64 t.y, .bool t.u]⟩]
def raNx (T : List (List Int)) (n : Int) (i : Int) (f : Int) (k : Int) (x : Int) (y : Int) (u : Bool) : Nxt raT Nm := if i < n then .go ⟨T, n, i + 1, fiV x T (i + 1), kiV y T (i + 1), x, y, u⟩ else .out (.exit 0) (raTm T n i f k x y u) [⟨62, [.int .i64 x, .int .i64 y, .bool u]⟩]
def raStep (t : raT) : Nxt raT Nm := if raP t.T t.n t.i t.f t.k t.x t.y t.u then raNx t.T t.n t.i t.f t.k t.x t.y t.u else .bad
theorem ra_go {T : List (List Int)} {n : Int} {i : Int} {f : Int} {k : Int} {x : Int} {y : Int} {u : Bool} (h : raP T n i f k x y u) : raStep ⟨T, n, i, f, k, x, y, u⟩ = raNx T n i f k x y u := if_pos h
set_option maxRecDepth 100000 in
set_option maxHeartbeats 4000000 in
theorem ra_round (t : raT) (hb : (raStep t).isBad = false) (rest : List (Nat × AV Nm)) : ∃ fuel path r, evC (ctxOf Try.prog numI (fun _ => false) libU1) fuel 111 (false :: [false, true, false, true, true, true, true, true]) (loopAt (bodyOf Try.f35) [false, true, false, true, true, true, true, true]) (raS.tm t ++ (ptrN 0 raS.ps ++ rest)) (numb 0 (raS.hp t)) 1 path = some r ∧ (∀ p ∈ r.cd, p.1 = p.2) ∧ Gives raS 1 r (raStep t) := by
  obtain ⟨T, n, i, f, k, x, y, u⟩ := t
  by_cases ok : raP T n i f k x y u
  · rw [ra_go ok]
    clear hb
    unfold raNx
    obtain ⟨h0, rfl, h1, h2, rfl, rfl⟩ := ok
    obtain ⟨hl, hs⟩ := cb_len h0
    have e0 : decide (0 ≤ i) = true := decide_eq_true h1
    by_cases hk : i < lenT T
    · have c0 : decide (i < lenT T) = true := decide_eq_true hk
      have e1 : IntKind.i64.wrap (i + 1) = i + 1 := v64 (by omega) (by omega)
      rw [if_pos hk]
      have tn : (T.length : Int) = lenT T := rfl
      have gx := gg_iff (c := x + 1) hs i.toNat (by omega)
      have gy := gg_iff (c := y) hs i.toNat (by omega)
      rw [show (i.toNat : Int) = i by omega, show bAlt (rwT T i) = cel T i 0 from rfl] at gx gy
      by_cases g1 : cel T i 0 ≤ x
      · have c1 : decide (cel T i 0 ≤ x) = true := decide_eq_true g1
        have hx : i < ggT (x + 1) T := by apply Int.not_le.1; intro hh; have := gx.2 hh; omega
        by_cases g2 : cel T i 0 ≥ y
        · have c2 : decide (cel T i 0 ≥ y) = true := decide_eq_true g2
          have hy : ggT y T ≤ i := gy.1 g2
          by_cases g3 : kiV y T i < 0
          · have c3 : decide (kiV y T i < 0) = true := decide_eq_true g3
            have g5 := gg_in y T
            have hi : i ≤ ggT y T := by unfold kiV at g3; split at g3 <;> omega
            have ef : fiV x T (i + 1) = i := by unfold fiV; split <;> (try split) <;> omega
            have ek : kiV y T (i + 1) = i := by unfold kiV; split <;> (try split) <;> omega
            rw [ef, ek]
            have L := ra_1111 T (lenT T) i (fiV x T i) (kiV y T i) x y u rest
            rw [e1] at L
            refine round_go L (pickL_ok ?_ _) rfl rfl rfl rfl
            repeat' (first | exact cd_nil | refine cd_cons ?_ ?_)
            all_goals first | rfl | with_reducible assumption
          · have c3 : decide (kiV y T i < 0) = false := decide_eq_false g3
            have hi : ggT y T < i := by unfold kiV at g3; split at g3 <;> omega
            have ef : fiV x T (i + 1) = i := by unfold fiV; split <;> (try split) <;> omega
            have ek : kiV y T (i + 1) = kiV y T i := by unfold kiV; split <;> (try split) <;> omega
            rw [ef, ek]
            have L := ra_1110 T (lenT T) i (fiV x T i) (kiV y T i) x y u rest
            rw [e1] at L
            refine round_go L (pickL_ok ?_ _) rfl rfl rfl rfl
            repeat' (first | exact cd_nil | refine cd_cons ?_ ?_)
            all_goals first | rfl | with_reducible assumption
        · have c2 : decide (cel T i 0 ≥ y) = false := decide_eq_false g2
          have hy : i < ggT y T := by apply Int.not_le.1; intro hh; exact g2 (gy.2 hh)
          have ef : fiV x T (i + 1) = i := by unfold fiV; split <;> (try split) <;> omega
          have ek : kiV y T (i + 1) = kiV y T i := by unfold kiV; split <;> (try split) <;> omega
          rw [ef, ek]
          have L := ra_110 T (lenT T) i (fiV x T i) (kiV y T i) x y u rest
          rw [e1] at L
          refine round_go L (pickL_ok ?_ _) rfl rfl rfl rfl
          repeat' (first | exact cd_nil | refine cd_cons ?_ ?_)
          all_goals first | rfl | with_reducible assumption
      · have c1 : decide (cel T i 0 ≤ x) = false := decide_eq_false g1
        have hx : ggT (x + 1) T ≤ i := gx.1 (by omega)
        by_cases g2 : cel T i 0 ≥ y
        · have c2 : decide (cel T i 0 ≥ y) = true := decide_eq_true g2
          have hy : ggT y T ≤ i := gy.1 g2
          by_cases g3 : kiV y T i < 0
          · have c3 : decide (kiV y T i < 0) = true := decide_eq_true g3
            have g5 := gg_in y T
            have hi : i ≤ ggT y T := by unfold kiV at g3; split at g3 <;> omega
            have ef : fiV x T (i + 1) = fiV x T i := by unfold fiV; split <;> (try split) <;> omega
            have ek : kiV y T (i + 1) = i := by unfold kiV; split <;> (try split) <;> omega
            rw [ef, ek]
            have L := ra_1011 T (lenT T) i (fiV x T i) (kiV y T i) x y u rest
            rw [e1] at L
            refine round_go L (pickL_ok ?_ _) rfl rfl rfl rfl
            repeat' (first | exact cd_nil | refine cd_cons ?_ ?_)
            all_goals first | rfl | with_reducible assumption
          · have c3 : decide (kiV y T i < 0) = false := decide_eq_false g3
            have hi : ggT y T < i := by unfold kiV at g3; split at g3 <;> omega
            have ef : fiV x T (i + 1) = fiV x T i := by unfold fiV; split <;> (try split) <;> omega
            have ek : kiV y T (i + 1) = kiV y T i := by unfold kiV; split <;> (try split) <;> omega
            rw [ef, ek]
            have L := ra_1010 T (lenT T) i (fiV x T i) (kiV y T i) x y u rest
            rw [e1] at L
            refine round_go L (pickL_ok ?_ _) rfl rfl rfl rfl
            repeat' (first | exact cd_nil | refine cd_cons ?_ ?_)
            all_goals first | rfl | with_reducible assumption
        · have c2 : decide (cel T i 0 ≥ y) = false := decide_eq_false g2
          have hy : i < ggT y T := by apply Int.not_le.1; intro hh; exact g2 (gy.2 hh)
          have ef : fiV x T (i + 1) = fiV x T i := by unfold fiV; split <;> (try split) <;> omega
          have ek : kiV y T (i + 1) = kiV y T i := by unfold kiV; split <;> (try split) <;> omega
          rw [ef, ek]
          have L := ra_100 T (lenT T) i (fiV x T i) (kiV y T i) x y u rest
          rw [e1] at L
          refine round_go L (pickL_ok ?_ _) rfl rfl rfl rfl
          repeat' (first | exact cd_nil | refine cd_cons ?_ ?_)
          all_goals first | rfl | with_reducible assumption
    · have c0 : decide (i < lenT T) = false := decide_eq_false hk
      rw [if_neg hk]
      have L := ra_0 T (lenT T) i (fiV x T i) (kiV y T i) x y u rest
      refine round_out L rfl (pickL_ok ?_ _) rfl rfl rfl
      repeat' (first | exact cd_nil | refine cd_cons ?_ ?_)
      all_goals first | rfl | with_reducible assumption
  · exfalso
    have : raStep ⟨T, n, i, f, k, x, y, u⟩ = .bad := if_neg ok
    rw [this] at hb; cases hb
theorem ra_runs {T : List (List Int)} {x y : Int} {u : Bool} (h : cbE T = 0) : ∀ (j i : Nat), i + j = T.length → ∃ c, runs raStep c ⟨T, lenT T, i, fiV x T i, kiV y T i, x, y, u⟩ = some (.exit 0, raTm T (lenT T) (lenT T) (fiV x T (lenT T)) (kiV y T (lenT T)) x y u, [⟨62, [.int .i64 x, .int .i64 y, .bool u]⟩])
  | 0, i, hi => by
    have e : (i : Int) = lenT T := by unfold lenT; omega
    refine ⟨1, ?_⟩
    rw [runs, ra_go ⟨h, rfl, by omega, by omega, rfl, rfl⟩]
    unfold raNx
    rw [if_neg (by omega), e]
  | j + 1, i, hi => by
    have hl : (i : Int) < lenT T := by unfold lenT; omega
    obtain ⟨c, hc⟩ := ra_runs h j (i + 1) (by omega)
    refine ⟨c + 1, ?_⟩
    rw [runs, ra_go ⟨h, rfl, by omega, by omega, rfl, rfl⟩]
    unfold raNx
    rw [if_pos hl]
    exact hc
def raD : LpDef raT Nm where
  ts := [34, 35, 36, 9, 10]
  ps := [3]
  W := [3, 9, 10, 11, 12, 34, 35, 36, 37, 38, 39, 40, 41, 42, 43, 44, 45, 46, 47, 48, 49, 50, 51, 52, 53, 54, 55, 56, 57]
  dec := fun vs ks => match vs, ks with
    | [.w (.one (.fv (.tab [some .i64, some .i64, some .i64, none] T))), .w (.one (.int .i64 n)), .w (.one (.int .i64 i)), .w (.one (.int .i64 f)), .w (.one (.int .i64 k))], [⟨62, [.int .i64 x, .int .i64 y, .bool u]⟩] => some ⟨T, n, i, f, k, x, y, u⟩
    | _, _ => none
  spec := fun t => some (.exit 0, raTm t.T t.n t.n (fiV t.x t.T (lenT t.T)) (kiV t.y t.T (lenT t.T)) t.x t.y t.u, [⟨62, [.int .i64 t.x, .int .i64 t.y, .bool t.u]⟩], [(decide (cbE t.T = 0) && decide (t.n = lenT t.T) && decide (t.i = 0) && decide (t.f = -1) && decide (t.k = -1), true)])
theorem raD_ok (x : Code) (hx : codeAt (bodyOf Try.f35) [false, true, false, true, true, true, true, true] = some (.loop x)) : LpOk Try.prog numI 111 x (raD.sp nmSafe) := by
  obtain rfl := loopAt_eq hx
  refine lp_ok (c := ctxOf Try.prog numI (fun _ => false) libU1) (ctxOf_ok libU1_ok (eq_none _)) (by kernel_rfl) hx lps_nil (S := raS) (step := raStep) (fun _ h => h) (by kernel_rfl) (by kernel_rfl) ?_ rfl (fun t e he => ?_) (fun t hb rest => ra_round t hb rest) ?_
  · intro vs ks s hv1 h hv2
    simp only [raD] at h
    split at h
    · cases h
      exact ⟨rfl, fun e he => he⟩
    · cases h
  · simp only [raS, raTm, List.mem_cons, List.not_mem_nil, or_false] at he
    rcases he with rfl | rfl | rfl | rfl | rfl <;> rfl
  · intro s ex outs wb cd h hc
    obtain ⟨T, n, i, f, k, x, y, u⟩ := s
    simp only [raD] at h
    cases h
    have := c1' hc
    simp only [Bool.and_eq_true, decide_eq_true_eq] at this
    obtain ⟨⟨⟨⟨h0, rfl⟩, rfl⟩, rfl⟩, rfl⟩ := this
    have g1 := gg_in (x + 1) T
    have g2 := gg_in y T
    have ef : fiV x T ((0 : Nat) : Int) = -1 := by unfold fiV; rw [if_pos (by omega)]; rfl
    have ek : kiV y T ((0 : Nat) : Int) = -1 := by unfold kiV; rw [if_pos (by omega)]
    obtain ⟨c, hc⟩ := ra_runs (x := x) (y := y) (u := u) h0 T.length 0 (by omega)
    rw [ef, ek] at hc
    exact ⟨c, hc⟩
/-- The sums' ends: zero literals at first. -/
def zcA : Option (Int × Int) → List (AC Nm)
  | none => [.yes false, .lit (.slice none 0 0)]
  | some (a, _) => [.bool (decide (a < 0)), .fv (.num a)]
def zcZ : Option (Int × Int) → List (AC Nm)
  | none => [.yes false, .lit (.slice none 0 0)]
  | some (_, z) => [.bool (decide (z < 0)), .fv (.num z)]
def upW (w : Option (Int × Int)) (r : List Int) : Int × Int := match w with
  | none => ((bLift r).lo, (bLift r).hi)
  | some (a, z) => (if (bLift r).lo < a then (bLift r).lo else a, if z < (bLift r).hi then (bLift r).hi else z)
def rbR : Option (Int × Int) → List (List Int) → Bool × Option (Int × Int)
  | w, [] => (true, w)
  | w, r :: R => if (bLift r).u = true then (false, w) else rbR (some (upW w r)) R
def okW (w : Option (Int × Int)) (i n : Int) : Bool := match w with
  | none => n == i
  | some (a, z) => decide (i < n) && (i64B a && i64B z)
theorem chk_in {b : Bd} (h : chkB b = 0) : i64B b.lo = true ∧ i64B b.hi = true := by
  unfold chkB at h
  cases h1 : b.u && !(b.lo == 0 && b.hi == 0) with
  | true => rw [h1] at h; cases h
  | false =>
    rw [h1] at h
    cases h2 : inB b.lo && inB b.hi with
    | false => rw [h2] at h; cases h
    | true =>
      rw [Bool.and_eq_true, inB_iff, inB_iff] at h2
      exact ⟨i64B_iff.2 (by omega), i64B_iff.2 (by omega)⟩
theorem up_in {w : Option (Int × Int)} {r : List Int} {i n : Int} (h : okW w i n = true) (hb : chkB (bLift r) = 0) (hi : i ≤ n) : okW (some (upW w r)) i (n + 1) = true := by
  obtain ⟨b1, b2⟩ := chk_in hb
  have hl : decide (i < n + 1) = true := decide_eq_true (by omega)
  cases w with
  | none => unfold okW upW; simp only; rw [hl, b1, b2]; rfl
  | some p =>
    obtain ⟨a, z⟩ := p
    unfold okW at h
    simp only [Bool.and_eq_true] at h
    unfold okW upW
    simp only
    rw [hl, Bool.true_and]
    split <;> split <;> simp [b1, b2, h.2.1, h.2.2]
theorem take_rw {T : List (List Int)} {m n : Nat} (h : n < m) (hm : m ≤ T.length) : (T.take m).drop n = rwT T n :: (T.take m).drop (n + 1) := by
  have hl : n < (T.take m).length := by rw [List.length_take]; omega
  rw [drop_rw hl]
  congr 1
  unfold rwT
  rw [Int.toNat_natCast, List.getD_eq_getElem?_getD, List.getD_eq_getElem?_getD, List.getElem?_take_of_lt h]
set_option maxRecDepth 100000 in
theorem rb0_10011 (T : List (List Int)) (i : Int) (k : Int) (n : Int) (rest : List (Nat × AV Nm)) : evView (ctxIn Try.prog numI (fun _ => false) libU1 [(101, Try.f101)]) 111 (false :: [false, true, false, true, true, true, true, true, true, true, true]) (loopAt (bodyOf Try.f35) [false, true, false, true, true, true, true, true, true, true, true]) ([(0, (.w (.one (.fv (.tab [some .i64, some .i64, some .i64, none] T))))), (9, (.w (.one (.int .i64 i)))), (10, (.w (.one (.int .i64 k)))), (15, (.w (.one (.int .i64 n))))] ++ (ptrN 0 [13, 14, 4, 5] ++ rest)) [⟨28, [.yes false, .lit (.slice none 0 0)]⟩, ⟨28, [.yes false, .lit (.slice none 0 0)]⟩, ⟨62, [.int .i64 0, .int .i64 0, .yes false]⟩, ⟨62, [.int .i64 0, .int .i64 0, .yes true]⟩] 4 [0, 9, 10, 15, 13, 14, 4, 5] [true, false, false, true, true] = some ((Ex.normal, [AV.w (AW.one (AC.fv (Nm.tab [some IntKind.i64, some IntKind.i64, some IntKind.i64, none] T))), AV.w (AW.one (AC.int IntKind.i64 i)), AV.w (AW.one (AC.int IntKind.i64 k)), AV.w (AW.one (AC.int IntKind.i64 (IntKind.i64.wrap (n + 1)))), AV.w (AW.one (AC.ptr 0 0)), AV.w (AW.one (AC.ptr 1 0)), AV.w (AW.one (AC.ptr 2 0)), AV.w (AW.one (AC.ptr 3 0))], [{ ty := 28, cs := [AC.bool (decide (cel T n 1 < 0)), AC.fv (Nm.num (cel T n 1))] }, { ty := 28, cs := [AC.bool (decide (cel T n 2 < 0)), AC.fv (Nm.num (cel T n 2))] }, { ty := 62, cs := [AC.int IntKind.i64 0, AC.int IntKind.i64 0, AC.yes false] }, { ty := 62, cs := [AC.int IntKind.i64 0, AC.int IntKind.i64 0, AC.yes true] }]), (pickL [(decide (n ≤ k), true), (decide (0 ≤ n), true), (decide (n < lenT T), true), (chkB { lo := cel T n 1, hi := cel T n 2, u := decide (cel T n 3 = 1) } != 0, false), (decide (cel T n 3 = 1), false), (i64B (cel T n 1), true), (i64B (cel T n 2), true), (!true, false), (n == i, true), (true, true)] [0, 1, 2, 1, 2, 3, 3, 3, 4, 5, 6, 7, 8, 8, 8, 8, 8, 9, 8, 8, 8, 8, 8, 9])) := by kernel_rfl
set_option maxRecDepth 100000 in
theorem rb0_0 (T : List (List Int)) (i : Int) (k : Int) (n : Int) (rest : List (Nat × AV Nm)) : evView (ctxIn Try.prog numI (fun _ => false) libU1 [(101, Try.f101)]) 111 (false :: [false, true, false, true, true, true, true, true, true, true, true]) (loopAt (bodyOf Try.f35) [false, true, false, true, true, true, true, true, true, true, true]) ([(0, (.w (.one (.fv (.tab [some .i64, some .i64, some .i64, none] T))))), (9, (.w (.one (.int .i64 i)))), (10, (.w (.one (.int .i64 k)))), (15, (.w (.one (.int .i64 n))))] ++ (ptrN 0 [13, 14, 4, 5] ++ rest)) [⟨28, [.yes false, .lit (.slice none 0 0)]⟩, ⟨28, [.yes false, .lit (.slice none 0 0)]⟩, ⟨62, [.int .i64 0, .int .i64 0, .yes false]⟩, ⟨62, [.int .i64 0, .int .i64 0, .yes true]⟩] 4 [0, 9, 10, 15, 13, 14, 4, 5] [false] = some ((Ex.exit 2, [AV.w (AW.one (AC.fv (Nm.tab [some IntKind.i64, some IntKind.i64, some IntKind.i64, none] T))), AV.w (AW.one (AC.int IntKind.i64 i)), AV.w (AW.one (AC.int IntKind.i64 k)), AV.w (AW.one (AC.int IntKind.i64 n)), AV.w (AW.one (AC.ptr 0 0)), AV.w (AW.one (AC.ptr 1 0)), AV.w (AW.one (AC.ptr 2 0)), AV.w (AW.one (AC.ptr 3 0))], [{ ty := 28, cs := [AC.yes false, AC.lit (Value.slice none 0 0)] }, { ty := 28, cs := [AC.yes false, AC.lit (Value.slice none 0 0)] }, { ty := 62, cs := [AC.int IntKind.i64 0, AC.int IntKind.i64 0, AC.yes false] }, { ty := 62, cs := [AC.int IntKind.i64 0, AC.int IntKind.i64 0, AC.yes true] }]), (pickL [(decide (n ≤ k), false)] [0])) := by kernel_rfl
set_option maxRecDepth 100000 in
theorem rb0r_101 (T : List (List Int)) (i : Int) (k : Int) (n : Int) (rest : List (Nat × AV Nm)) : evView (ctxIn Try.prog numI (fun _ => false) libU1 [(101, Try.f101)]) 111 (false :: [false, true, false, true, true, true, true, true, true, true, true]) (loopAt (bodyOf Try.f35) [false, true, false, true, true, true, true, true, true, true, true]) ([(0, (.w (.one (.fv (.tab [some .i64, some .i64, some .i64, none] T))))), (9, (.w (.one (.int .i64 i)))), (10, (.w (.one (.int .i64 k)))), (15, (.w (.one (.int .i64 n))))] ++ (ptrN 0 [13, 14, 4, 5] ++ rest)) [⟨28, [.yes false, .lit (.slice none 0 0)]⟩, ⟨28, [.yes false, .lit (.slice none 0 0)]⟩, ⟨62, [.int .i64 0, .int .i64 0, .yes false]⟩, ⟨62, [.int .i64 0, .int .i64 0, .yes true]⟩] 4 [13, 14, 4, 5] [true, false, true] = some ((Ex.ret, [AV.w (AW.one (AC.ptr 0 0)), AV.w (AW.one (AC.ptr 1 0)), AV.w (AW.one (AC.ptr 2 0)), AV.w (AW.one (AC.ptr 3 0))], [{ ty := 28, cs := [AC.yes false, AC.lit (Value.slice none 0 0)] }, { ty := 28, cs := [AC.yes false, AC.lit (Value.slice none 0 0)] }, { ty := 62, cs := [AC.int IntKind.i64 0, AC.int IntKind.i64 0, AC.yes true] }, { ty := 62, cs := [AC.int IntKind.i64 0, AC.int IntKind.i64 0, AC.yes true] }]), (pickL [(decide (n ≤ k), true), (decide (0 ≤ n), true), (decide (n < lenT T), true), (chkB { lo := cel T n 1, hi := cel T n 2, u := decide (cel T n 3 = 1) } != 0, false), (decide (cel T n 3 = 1), true), (!false, true)] [0, 1, 2, 1, 2, 3, 3, 3, 4, 5])) := by kernel_rfl
set_option maxRecDepth 100000 in
theorem rb1_0 (T : List (List Int)) (i : Int) (k : Int) (n : Int) (a : Int) (z : Int) (rest : List (Nat × AV Nm)) : evView (ctxIn Try.prog numI (fun _ => false) libU1 [(101, Try.f101)]) 111 (false :: [false, true, false, true, true, true, true, true, true, true, true]) (loopAt (bodyOf Try.f35) [false, true, false, true, true, true, true, true, true, true, true]) ([(0, (.w (.one (.fv (.tab [some .i64, some .i64, some .i64, none] T))))), (9, (.w (.one (.int .i64 i)))), (10, (.w (.one (.int .i64 k)))), (15, (.w (.one (.int .i64 n))))] ++ (ptrN 0 [13, 14, 4, 5] ++ rest)) [⟨28, [.bool (decide (a < 0)), .fv (.num a)]⟩, ⟨28, [.bool (decide (z < 0)), .fv (.num z)]⟩, ⟨62, [.int .i64 0, .int .i64 0, .yes false]⟩, ⟨62, [.int .i64 0, .int .i64 0, .yes true]⟩] 4 [0, 9, 10, 15, 13, 14, 4, 5] [false] = some ((Ex.exit 2, [AV.w (AW.one (AC.fv (Nm.tab [some IntKind.i64, some IntKind.i64, some IntKind.i64, none] T))), AV.w (AW.one (AC.int IntKind.i64 i)), AV.w (AW.one (AC.int IntKind.i64 k)), AV.w (AW.one (AC.int IntKind.i64 n)), AV.w (AW.one (AC.ptr 0 0)), AV.w (AW.one (AC.ptr 1 0)), AV.w (AW.one (AC.ptr 2 0)), AV.w (AW.one (AC.ptr 3 0))], [{ ty := 28, cs := [AC.bool (decide (a < 0)), AC.fv (Nm.num a)] }, { ty := 28, cs := [AC.bool (decide (z < 0)), AC.fv (Nm.num z)] }, { ty := 62, cs := [AC.int IntKind.i64 0, AC.int IntKind.i64 0, AC.yes false] }, { ty := 62, cs := [AC.int IntKind.i64 0, AC.int IntKind.i64 0, AC.yes true] }]), (pickL [(decide (n ≤ k), false)] [0])) := by kernel_rfl
set_option maxRecDepth 100000 in
theorem rb1r_101 (T : List (List Int)) (i : Int) (k : Int) (n : Int) (a : Int) (z : Int) (rest : List (Nat × AV Nm)) : evView (ctxIn Try.prog numI (fun _ => false) libU1 [(101, Try.f101)]) 111 (false :: [false, true, false, true, true, true, true, true, true, true, true]) (loopAt (bodyOf Try.f35) [false, true, false, true, true, true, true, true, true, true, true]) ([(0, (.w (.one (.fv (.tab [some .i64, some .i64, some .i64, none] T))))), (9, (.w (.one (.int .i64 i)))), (10, (.w (.one (.int .i64 k)))), (15, (.w (.one (.int .i64 n))))] ++ (ptrN 0 [13, 14, 4, 5] ++ rest)) [⟨28, [.bool (decide (a < 0)), .fv (.num a)]⟩, ⟨28, [.bool (decide (z < 0)), .fv (.num z)]⟩, ⟨62, [.int .i64 0, .int .i64 0, .yes false]⟩, ⟨62, [.int .i64 0, .int .i64 0, .yes true]⟩] 4 [13, 14, 4, 5] [true, false, true] = some ((Ex.ret, [AV.w (AW.one (AC.ptr 0 0)), AV.w (AW.one (AC.ptr 1 0)), AV.w (AW.one (AC.ptr 2 0)), AV.w (AW.one (AC.ptr 3 0))], [{ ty := 28, cs := [AC.bool (decide (a < 0)), AC.fv (Nm.num a)] }, { ty := 28, cs := [AC.bool (decide (z < 0)), AC.fv (Nm.num z)] }, { ty := 62, cs := [AC.int IntKind.i64 0, AC.int IntKind.i64 0, AC.yes true] }, { ty := 62, cs := [AC.int IntKind.i64 0, AC.int IntKind.i64 0, AC.yes true] }]), (pickL [(decide (n ≤ k), true), (decide (0 ≤ n), true), (decide (n < lenT T), true), (chkB { lo := cel T n 1, hi := cel T n 2, u := decide (cel T n 3 = 1) } != 0, false), (decide (cel T n 3 = 1), true), (!false, true)] [0, 1, 2, 1, 2, 3, 3, 3, 4, 5])) := by kernel_rfl
set_option maxRecDepth 100000 in
theorem rb1_1000000 (T : List (List Int)) (i : Int) (k : Int) (n : Int) (a : Int) (z : Int) (rest : List (Nat × AV Nm)) : evView (ctxIn Try.prog numI (fun _ => false) libU1 [(101, Try.f101)]) 111 (false :: [false, true, false, true, true, true, true, true, true, true, true]) (loopAt (bodyOf Try.f35) [false, true, false, true, true, true, true, true, true, true, true]) ([(0, (.w (.one (.fv (.tab [some .i64, some .i64, some .i64, none] T))))), (9, (.w (.one (.int .i64 i)))), (10, (.w (.one (.int .i64 k)))), (15, (.w (.one (.int .i64 n))))] ++ (ptrN 0 [13, 14, 4, 5] ++ rest)) [⟨28, [.bool (decide (a < 0)), .fv (.num a)]⟩, ⟨28, [.bool (decide (z < 0)), .fv (.num z)]⟩, ⟨62, [.int .i64 0, .int .i64 0, .yes false]⟩, ⟨62, [.int .i64 0, .int .i64 0, .yes true]⟩] 4 [0, 9, 10, 15, 13, 14, 4, 5] [true, false, false, false, false, false, false] = some ((Ex.normal, [AV.w (AW.one (AC.fv (Nm.tab [some IntKind.i64, some IntKind.i64, some IntKind.i64, none] T))), AV.w (AW.one (AC.int IntKind.i64 i)), AV.w (AW.one (AC.int IntKind.i64 k)), AV.w (AW.one (AC.int IntKind.i64 (IntKind.i64.wrap (n + 1)))), AV.w (AW.one (AC.ptr 0 0)), AV.w (AW.one (AC.ptr 1 0)), AV.w (AW.one (AC.ptr 2 0)), AV.w (AW.one (AC.ptr 3 0))], [{ ty := 28, cs := [AC.bool (decide (a < 0)), AC.fv (Nm.num a)] }, { ty := 28, cs := [AC.bool (decide (z < 0)), AC.fv (Nm.num z)] }, { ty := 62, cs := [AC.int IntKind.i64 0, AC.int IntKind.i64 0, AC.yes false] }, { ty := 62, cs := [AC.int IntKind.i64 0, AC.int IntKind.i64 0, AC.yes true] }]), (pickL [(decide (n ≤ k), true), (decide (0 ≤ n), true), (decide (n < lenT T), true), (chkB { lo := cel T n 1, hi := cel T n 2, u := decide (cel T n 3 = 1) } != 0, false), (decide (cel T n 3 = 1), false), (i64B (cel T n 1), true), (i64B (cel T n 2), true), (!true, false), (n == i, false), (decide (cel T n 1 < 0) == decide (cel T n 1 < 0), true), (decide (a < 0) == decide (a < 0), true), (szB (cel T n 1), true), (szB a, true), (decide (cmpI (cel T n 1) a < 0), false), (decide (cel T n 2 < 0) == decide (cel T n 2 < 0), true), (decide (z < 0) == decide (z < 0), true), (szB (cel T n 2), true), (szB z, true), (decide (cmpI (cel T n 2) z > 0), false)] [0, 1, 2, 1, 2, 3, 3, 3, 4, 5, 6, 7, 8, 8, 8, 9, 10, 11, 12, 8, 8, 13, 8, 8, 8, 14, 15, 16, 17, 8, 8, 18])) := by kernel_rfl
set_option maxRecDepth 100000 in
theorem rb1_1000001 (T : List (List Int)) (i : Int) (k : Int) (n : Int) (a : Int) (z : Int) (rest : List (Nat × AV Nm)) : evView (ctxIn Try.prog numI (fun _ => false) libU1 [(101, Try.f101)]) 111 (false :: [false, true, false, true, true, true, true, true, true, true, true]) (loopAt (bodyOf Try.f35) [false, true, false, true, true, true, true, true, true, true, true]) ([(0, (.w (.one (.fv (.tab [some .i64, some .i64, some .i64, none] T))))), (9, (.w (.one (.int .i64 i)))), (10, (.w (.one (.int .i64 k)))), (15, (.w (.one (.int .i64 n))))] ++ (ptrN 0 [13, 14, 4, 5] ++ rest)) [⟨28, [.bool (decide (a < 0)), .fv (.num a)]⟩, ⟨28, [.bool (decide (z < 0)), .fv (.num z)]⟩, ⟨62, [.int .i64 0, .int .i64 0, .yes false]⟩, ⟨62, [.int .i64 0, .int .i64 0, .yes true]⟩] 4 [0, 9, 10, 15, 13, 14, 4, 5] [true, false, false, false, false, false, true] = some ((Ex.normal, [AV.w (AW.one (AC.fv (Nm.tab [some IntKind.i64, some IntKind.i64, some IntKind.i64, none] T))), AV.w (AW.one (AC.int IntKind.i64 i)), AV.w (AW.one (AC.int IntKind.i64 k)), AV.w (AW.one (AC.int IntKind.i64 (IntKind.i64.wrap (n + 1)))), AV.w (AW.one (AC.ptr 0 0)), AV.w (AW.one (AC.ptr 1 0)), AV.w (AW.one (AC.ptr 2 0)), AV.w (AW.one (AC.ptr 3 0))], [{ ty := 28, cs := [AC.bool (decide (a < 0)), AC.fv (Nm.num a)] }, { ty := 28, cs := [AC.bool (decide (cel T n 2 < 0)), AC.fv (Nm.num (cel T n 2))] }, { ty := 62, cs := [AC.int IntKind.i64 0, AC.int IntKind.i64 0, AC.yes false] }, { ty := 62, cs := [AC.int IntKind.i64 0, AC.int IntKind.i64 0, AC.yes true] }]), (pickL [(decide (n ≤ k), true), (decide (0 ≤ n), true), (decide (n < lenT T), true), (chkB { lo := cel T n 1, hi := cel T n 2, u := decide (cel T n 3 = 1) } != 0, false), (decide (cel T n 3 = 1), false), (i64B (cel T n 1), true), (i64B (cel T n 2), true), (!true, false), (n == i, false), (decide (cel T n 1 < 0) == decide (cel T n 1 < 0), true), (decide (a < 0) == decide (a < 0), true), (szB (cel T n 1), true), (szB a, true), (decide (cmpI (cel T n 1) a < 0), false), (decide (cel T n 2 < 0) == decide (cel T n 2 < 0), true), (decide (z < 0) == decide (z < 0), true), (szB (cel T n 2), true), (szB z, true), (decide (cmpI (cel T n 2) z > 0), true)] [0, 1, 2, 1, 2, 3, 3, 3, 4, 5, 6, 7, 8, 8, 8, 9, 10, 11, 12, 8, 8, 13, 8, 8, 8, 14, 15, 16, 17, 8, 8, 18])) := by kernel_rfl
set_option maxRecDepth 100000 in
theorem rb1_1000100 (T : List (List Int)) (i : Int) (k : Int) (n : Int) (a : Int) (z : Int) (rest : List (Nat × AV Nm)) : evView (ctxIn Try.prog numI (fun _ => false) libU1 [(101, Try.f101)]) 111 (false :: [false, true, false, true, true, true, true, true, true, true, true]) (loopAt (bodyOf Try.f35) [false, true, false, true, true, true, true, true, true, true, true]) ([(0, (.w (.one (.fv (.tab [some .i64, some .i64, some .i64, none] T))))), (9, (.w (.one (.int .i64 i)))), (10, (.w (.one (.int .i64 k)))), (15, (.w (.one (.int .i64 n))))] ++ (ptrN 0 [13, 14, 4, 5] ++ rest)) [⟨28, [.bool (decide (a < 0)), .fv (.num a)]⟩, ⟨28, [.bool (decide (z < 0)), .fv (.num z)]⟩, ⟨62, [.int .i64 0, .int .i64 0, .yes false]⟩, ⟨62, [.int .i64 0, .int .i64 0, .yes true]⟩] 4 [0, 9, 10, 15, 13, 14, 4, 5] [true, false, false, false, true, false, false] = some ((Ex.normal, [AV.w (AW.one (AC.fv (Nm.tab [some IntKind.i64, some IntKind.i64, some IntKind.i64, none] T))), AV.w (AW.one (AC.int IntKind.i64 i)), AV.w (AW.one (AC.int IntKind.i64 k)), AV.w (AW.one (AC.int IntKind.i64 (IntKind.i64.wrap (n + 1)))), AV.w (AW.one (AC.ptr 0 0)), AV.w (AW.one (AC.ptr 1 0)), AV.w (AW.one (AC.ptr 2 0)), AV.w (AW.one (AC.ptr 3 0))], [{ ty := 28, cs := [AC.bool (decide (cel T n 1 < 0)), AC.fv (Nm.num (cel T n 1))] }, { ty := 28, cs := [AC.bool (decide (z < 0)), AC.fv (Nm.num z)] }, { ty := 62, cs := [AC.int IntKind.i64 0, AC.int IntKind.i64 0, AC.yes false] }, { ty := 62, cs := [AC.int IntKind.i64 0, AC.int IntKind.i64 0, AC.yes true] }]), (pickL [(decide (n ≤ k), true), (decide (0 ≤ n), true), (decide (n < lenT T), true), (chkB { lo := cel T n 1, hi := cel T n 2, u := decide (cel T n 3 = 1) } != 0, false), (decide (cel T n 3 = 1), false), (i64B (cel T n 1), true), (i64B (cel T n 2), true), (!true, false), (n == i, false), (decide (cel T n 1 < 0) == decide (cel T n 1 < 0), true), (decide (a < 0) == decide (a < 0), true), (szB (cel T n 1), true), (szB a, true), (decide (cmpI (cel T n 1) a < 0), true), (decide (cel T n 2 < 0) == decide (cel T n 2 < 0), true), (decide (z < 0) == decide (z < 0), true), (szB (cel T n 2), true), (szB z, true), (decide (cmpI (cel T n 2) z > 0), false)] [0, 1, 2, 1, 2, 3, 3, 3, 4, 5, 6, 7, 8, 8, 8, 9, 10, 11, 12, 8, 8, 13, 8, 8, 8, 14, 15, 16, 17, 8, 8, 18])) := by kernel_rfl
set_option maxRecDepth 100000 in
theorem rb1_1000101 (T : List (List Int)) (i : Int) (k : Int) (n : Int) (a : Int) (z : Int) (rest : List (Nat × AV Nm)) : evView (ctxIn Try.prog numI (fun _ => false) libU1 [(101, Try.f101)]) 111 (false :: [false, true, false, true, true, true, true, true, true, true, true]) (loopAt (bodyOf Try.f35) [false, true, false, true, true, true, true, true, true, true, true]) ([(0, (.w (.one (.fv (.tab [some .i64, some .i64, some .i64, none] T))))), (9, (.w (.one (.int .i64 i)))), (10, (.w (.one (.int .i64 k)))), (15, (.w (.one (.int .i64 n))))] ++ (ptrN 0 [13, 14, 4, 5] ++ rest)) [⟨28, [.bool (decide (a < 0)), .fv (.num a)]⟩, ⟨28, [.bool (decide (z < 0)), .fv (.num z)]⟩, ⟨62, [.int .i64 0, .int .i64 0, .yes false]⟩, ⟨62, [.int .i64 0, .int .i64 0, .yes true]⟩] 4 [0, 9, 10, 15, 13, 14, 4, 5] [true, false, false, false, true, false, true] = some ((Ex.normal, [AV.w (AW.one (AC.fv (Nm.tab [some IntKind.i64, some IntKind.i64, some IntKind.i64, none] T))), AV.w (AW.one (AC.int IntKind.i64 i)), AV.w (AW.one (AC.int IntKind.i64 k)), AV.w (AW.one (AC.int IntKind.i64 (IntKind.i64.wrap (n + 1)))), AV.w (AW.one (AC.ptr 0 0)), AV.w (AW.one (AC.ptr 1 0)), AV.w (AW.one (AC.ptr 2 0)), AV.w (AW.one (AC.ptr 3 0))], [{ ty := 28, cs := [AC.bool (decide (cel T n 1 < 0)), AC.fv (Nm.num (cel T n 1))] }, { ty := 28, cs := [AC.bool (decide (cel T n 2 < 0)), AC.fv (Nm.num (cel T n 2))] }, { ty := 62, cs := [AC.int IntKind.i64 0, AC.int IntKind.i64 0, AC.yes false] }, { ty := 62, cs := [AC.int IntKind.i64 0, AC.int IntKind.i64 0, AC.yes true] }]), (pickL [(decide (n ≤ k), true), (decide (0 ≤ n), true), (decide (n < lenT T), true), (chkB { lo := cel T n 1, hi := cel T n 2, u := decide (cel T n 3 = 1) } != 0, false), (decide (cel T n 3 = 1), false), (i64B (cel T n 1), true), (i64B (cel T n 2), true), (!true, false), (n == i, false), (decide (cel T n 1 < 0) == decide (cel T n 1 < 0), true), (decide (a < 0) == decide (a < 0), true), (szB (cel T n 1), true), (szB a, true), (decide (cmpI (cel T n 1) a < 0), true), (decide (cel T n 2 < 0) == decide (cel T n 2 < 0), true), (decide (z < 0) == decide (z < 0), true), (szB (cel T n 2), true), (szB z, true), (decide (cmpI (cel T n 2) z > 0), true)] [0, 1, 2, 1, 2, 3, 3, 3, 4, 5, 6, 7, 8, 8, 8, 9, 10, 11, 12, 8, 8, 13, 8, 8, 8, 14, 15, 16, 17, 8, 8, 18])) := by kernel_rfl
structure rbT where
  T : List (List Int)
  i : Int
  k : Int
  n : Int
  w : Option (Int × Int)
def rbP (T : List (List Int)) (i : Int) (k : Int) (n : Int) (w : Option (Int × Int)) : Prop := cbE T = 0 ∧ 0 ≤ i ∧ i ≤ n ∧ k < lenT T ∧ okW w i n = true
instance (T : List (List Int)) (i : Int) (k : Int) (n : Int) (w : Option (Int × Int)) : Decidable (rbP T i k n w) := by unfold rbP; infer_instance
def rbTm (T : List (List Int)) (i : Int) (k : Int) (n : Int) (w : Option (Int × Int)) : List (Nat × AV Nm) := [(0, (.w (.one (.fv (.tab [some .i64, some .i64, some .i64, none] T))))), (9, (.w (.one (.int .i64 i)))), (10, (.w (.one (.int .i64 k)))), (15, (.w (.one (.int .i64 n))))]
def rbS : LpSt rbT Nm where
  ps := [13, 14, 4, 5]
  tm := fun t => rbTm t.T t.i t.k t.n t.w
  hp := fun t => [⟨28, zcA t.w⟩, ⟨28, zcZ t.w⟩, ⟨62, [.int .i64 0, .int .i64 0, .yes false]⟩, ⟨62, [.int .i64 0, .int .i64 0, .yes true]⟩]
def rbNx (T : List (List Int)) (i : Int) (k : Int) (n : Int) (w : Option (Int × Int)) : Nxt rbT Nm := if n ≤ k then (if (bLift (rwT T n)).u = true then .out .ret [] [⟨28, zcA w⟩, ⟨28, zcZ w⟩, ⟨62, [.int .i64 0, .int .i64 0, .yes true]⟩, ⟨62, [.int .i64 0, .int .i64 0, .yes true]⟩] else .go ⟨T, i, k, n + 1, some (upW w (rwT T n))⟩) else .out (.exit 2) (rbTm T i k n w) [⟨28, zcA w⟩, ⟨28, zcZ w⟩, ⟨62, [.int .i64 0, .int .i64 0, .yes false]⟩, ⟨62, [.int .i64 0, .int .i64 0, .yes true]⟩]
def rbStep (t : rbT) : Nxt rbT Nm := if rbP t.T t.i t.k t.n t.w then rbNx t.T t.i t.k t.n t.w else .bad
theorem rb_go {T : List (List Int)} {i : Int} {k : Int} {n : Int} {w : Option (Int × Int)} (h : rbP T i k n w) : rbStep ⟨T, i, k, n, w⟩ = rbNx T i k n w := if_pos h
theorem rb_some : ∀ {R : List (List Int)} {w : Option (Int × Int)}, w.isSome = true → ∃ p, (rbR w R).2 = some p
  | [], w, h => Option.isSome_iff_exists.1 h
  | r :: R, w, h => by
    unfold rbR
    split
    · exact Option.isSome_iff_exists.1 h
    · exact rb_some (w := some (upW w r)) rfl
set_option maxRecDepth 100000 in
set_option maxHeartbeats 4000000 in
theorem rb_round (t : rbT) (hb : (rbStep t).isBad = false) (rest : List (Nat × AV Nm)) : ∃ fuel path r, evC (ctxIn Try.prog numI (fun _ => false) libU1 [(101, Try.f101)]) fuel 111 (false :: [false, true, false, true, true, true, true, true, true, true, true]) (loopAt (bodyOf Try.f35) [false, true, false, true, true, true, true, true, true, true, true]) (rbS.tm t ++ (ptrN 0 rbS.ps ++ rest)) (numb 0 (rbS.hp t)) 4 path = some r ∧ (∀ p ∈ r.cd, p.1 = p.2) ∧ Gives rbS 4 r (rbStep t) := by
  obtain ⟨T, i, k, n, w⟩ := t
  by_cases ok : rbP T i k n w
  · rw [rb_go ok]
    clear hb
    unfold rbNx
    obtain ⟨h0, h1, h2, h3, h4⟩ := ok
    obtain ⟨hl, hs⟩ := cb_len h0
    have tn : (T.length : Int) = lenT T := rfl
    by_cases hk : n ≤ k
    · have c0 : decide (n ≤ k) = true := decide_eq_true hk
      have c1 : decide (0 ≤ n) = true := decide_eq_true (by omega)
      have c2 : decide (n < lenT T) = true := decide_eq_true (by omega)
      have e1 : IntKind.i64.wrap (n + 1) = n + 1 := v64 (by omega) (by omega)
      have br := be_row hs n.toNat (by omega)
      rw [show (n.toNat : Int) = n by omega] at br
      obtain ⟨i1, i2⟩ := chk_in br.2
      have i1' : i64B (cel T n 1) = true := i1
      have i2' : i64B (cel T n 2) = true := i2
      have z1 : szB (cel T n 1) = true := (Dl.i64 i1').sz (by omega)
      have z2 : szB (cel T n 2) = true := (Dl.i64 i2').sz (by omega)
      have c3 : (chkB { lo := cel T n 1, hi := cel T n 2, u := decide (cel T n 3 = 1) } != 0) = false := by rw [show chkB { lo := cel T n 1, hi := cel T n 2, u := decide (cel T n 3 = 1) } = chkB (bLift (rwT T n)) from rfl, br.2]; rfl
      rw [if_pos hk]
      cases hu : (bLift (rwT T n)).u with
      | true =>
        have c4 : decide (cel T n 3 = 1) = true := hu
        rw [if_pos rfl]
        cases w with
        | none =>
          have L := rb0r_101 T i k n rest
          refine round_out L rfl (pickL_ok ?_ _) rfl rfl rfl
          repeat' (first | exact cd_nil | refine cd_cons ?_ ?_)
          all_goals first | rfl | with_reducible assumption | exact eqB _
        | some p =>
          obtain ⟨a, z⟩ := p
          have L := rb1r_101 T i k n a z rest
          refine round_out L rfl (pickL_ok ?_ _) rfl rfl rfl
          repeat' (first | exact cd_nil | refine cd_cons ?_ ?_)
          all_goals first | rfl | with_reducible assumption | exact eqB _
      | false =>
        have c4 : decide (cel T n 3 = 1) = false := hu
        rw [if_neg (show ¬ (false = true) by decide)]
        cases w with
        | none =>
          have c5 : (n == i) = true := h4
          have L := rb0_10011 T i k n rest
          rw [e1] at L
          refine round_go L (pickL_ok ?_ _) rfl rfl rfl rfl
          repeat' (first | exact cd_nil | refine cd_cons ?_ ?_)
          all_goals first | rfl | with_reducible assumption | exact eqB _
        | some p =>
          obtain ⟨a, z⟩ := p
          simp only [okW, Bool.and_eq_true, decide_eq_true_eq] at h4
          have c5 : (n == i) = false := by have := h4.1; simp; omega
          have za : szB a = true := (Dl.i64 h4.2.1).sz (by omega)
          have zz : szB z = true := (Dl.i64 h4.2.2).sz (by omega)
          by_cases ha : cel T n 1 < a
          · by_cases hz : z < cel T n 2
            · have d1 : decide (cmpI (cel T n 1) a < 0) = true := by rw [cmp_lt']; exact decide_eq_true ha
              have d2 : decide (cmpI (cel T n 2) z > 0) = true := by rw [cmp_gt]; exact decide_eq_true hz
              have eu : upW (some (a, z)) (rwT T n) = (cel T n 1, cel T n 2) := by
                unfold upW
                simp only
                rw [show (bLift (rwT T n)).lo = cel T n 1 from rfl, show (bLift (rwT T n)).hi = cel T n 2 from rfl, if_pos ha, if_pos hz]
              rw [eu]
              have L := rb1_1000101 T i k n a z rest
              rw [e1] at L
              refine round_go L (pickL_ok ?_ _) rfl rfl rfl rfl
              repeat' (first | exact cd_nil | refine cd_cons ?_ ?_)
              all_goals first | rfl | with_reducible assumption | exact eqB _
            · have d1 : decide (cmpI (cel T n 1) a < 0) = true := by rw [cmp_lt']; exact decide_eq_true ha
              have d2 : decide (cmpI (cel T n 2) z > 0) = false := by rw [cmp_gt]; exact decide_eq_false hz
              have eu : upW (some (a, z)) (rwT T n) = (cel T n 1, z) := by
                unfold upW
                simp only
                rw [show (bLift (rwT T n)).lo = cel T n 1 from rfl, show (bLift (rwT T n)).hi = cel T n 2 from rfl, if_pos ha, if_neg hz]
              rw [eu]
              have L := rb1_1000100 T i k n a z rest
              rw [e1] at L
              refine round_go L (pickL_ok ?_ _) rfl rfl rfl rfl
              repeat' (first | exact cd_nil | refine cd_cons ?_ ?_)
              all_goals first | rfl | with_reducible assumption | exact eqB _
          · by_cases hz : z < cel T n 2
            · have d1 : decide (cmpI (cel T n 1) a < 0) = false := by rw [cmp_lt']; exact decide_eq_false ha
              have d2 : decide (cmpI (cel T n 2) z > 0) = true := by rw [cmp_gt]; exact decide_eq_true hz
              have eu : upW (some (a, z)) (rwT T n) = (a, cel T n 2) := by
                unfold upW
                simp only
                rw [show (bLift (rwT T n)).lo = cel T n 1 from rfl, show (bLift (rwT T n)).hi = cel T n 2 from rfl, if_neg ha, if_pos hz]
              rw [eu]
              have L := rb1_1000001 T i k n a z rest
              rw [e1] at L
              refine round_go L (pickL_ok ?_ _) rfl rfl rfl rfl
              repeat' (first | exact cd_nil | refine cd_cons ?_ ?_)
              all_goals first | rfl | with_reducible assumption | exact eqB _
            · have d1 : decide (cmpI (cel T n 1) a < 0) = false := by rw [cmp_lt']; exact decide_eq_false ha
              have d2 : decide (cmpI (cel T n 2) z > 0) = false := by rw [cmp_gt]; exact decide_eq_false hz
              have eu : upW (some (a, z)) (rwT T n) = (a, z) := by
                unfold upW
                simp only
                rw [show (bLift (rwT T n)).lo = cel T n 1 from rfl, show (bLift (rwT T n)).hi = cel T n 2 from rfl, if_neg ha, if_neg hz]
              rw [eu]
              have L := rb1_1000000 T i k n a z rest
              rw [e1] at L
              refine round_go L (pickL_ok ?_ _) rfl rfl rfl rfl
              repeat' (first | exact cd_nil | refine cd_cons ?_ ?_)
              all_goals first | rfl | with_reducible assumption | exact eqB _
    · have c0 : decide (n ≤ k) = false := decide_eq_false hk
      rw [if_neg hk]
      cases w with
      | none =>
        have L := rb0_0 T i k n rest
        refine round_out L rfl (pickL_ok ?_ _) rfl rfl rfl
        repeat' (first | exact cd_nil | refine cd_cons ?_ ?_)
        all_goals first | rfl | with_reducible assumption | exact eqB _
      | some p =>
        obtain ⟨a, z⟩ := p
        have L := rb1_0 T i k n a z rest
        refine round_out L rfl (pickL_ok ?_ _) rfl rfl rfl
        repeat' (first | exact cd_nil | refine cd_cons ?_ ?_)
        all_goals first | rfl | with_reducible assumption | exact eqB _
  · exfalso
    have : rbStep ⟨T, i, k, n, w⟩ = .bad := if_neg ok
    rw [this] at hb; cases hb
theorem rb_runs {T : List (List Int)} {i k : Int} (h : cbE T = 0) (h0 : 0 ≤ i) (hk : k < lenT T) : ∀ (j n : Nat) (w : Option (Int × Int)), n + j = (k + 1).toNat → i ≤ n → 0 ≤ k + 1 → okW w i n = true → ∃ c, runs rbStep c ⟨T, i, k, n, w⟩ = (if (rbR w ((T.take (k + 1).toNat).drop n)).1 = true then some (.exit 2, rbTm T i k (k + 1) (rbR w ((T.take (k + 1).toNat).drop n)).2, [⟨28, zcA (rbR w ((T.take (k + 1).toNat).drop n)).2⟩, ⟨28, zcZ (rbR w ((T.take (k + 1).toNat).drop n)).2⟩, ⟨62, [.int .i64 0, .int .i64 0, .yes false]⟩, ⟨62, [.int .i64 0, .int .i64 0, .yes true]⟩]) else some (.ret, [], [⟨28, zcA (rbR w ((T.take (k + 1).toNat).drop n)).2⟩, ⟨28, zcZ (rbR w ((T.take (k + 1).toNat).drop n)).2⟩, ⟨62, [.int .i64 0, .int .i64 0, .yes true]⟩, ⟨62, [.int .i64 0, .int .i64 0, .yes true]⟩]))
  | 0, n, w, hn, hi, hk1, hw => by
    have tn : (T.length : Int) = lenT T := rfl
    refine ⟨1, ?_⟩
    rw [runs, rb_go ⟨h, h0, hi, hk, hw⟩]
    unfold rbNx
    rw [if_neg (by omega), List.drop_eq_nil_of_le (by rw [List.length_take]; omega), show (n : Int) = k + 1 by omega]
    rfl
  | j + 1, n, w, hn, hi, hk1, hw => by
    have tn : (T.length : Int) = lenT T := rfl
    obtain ⟨hl, hs⟩ := cb_len h
    rw [take_rw (m := (k + 1).toNat) (n := n) (by omega) (by omega)]
    have br := be_row hs n (by omega)
    by_cases hu : (bLift (rwT T n)).u = true
    · refine ⟨1, ?_⟩
      rw [runs, rb_go ⟨h, h0, hi, hk, hw⟩]
      unfold rbNx rbR
      rw [if_pos (by omega), if_pos hu, if_pos hu, if_neg (show ¬ (false = true) by decide)]
    · obtain ⟨c, hc⟩ := rb_runs h h0 hk j (n + 1) (some (upW w (rwT T n))) (by omega) (by omega) hk1 (up_in hw br.2 hi)
      refine ⟨c + 1, ?_⟩
      rw [runs, rb_go ⟨h, h0, hi, hk, hw⟩]
      unfold rbNx rbR
      rw [if_pos (by omega), if_neg hu, if_neg hu]
      exact hc
def rbD : LpDefR rbT Nm where
  ts := [0, 9, 10, 15]
  ps := [13, 14, 4, 5]
  rs := []
  W := [0, 4, 5, 9, 10, 13, 14, 15, 16, 17, 18, 66, 67, 68, 69, 70, 71, 72, 73, 74, 75, 76, 77, 78, 79, 80, 81, 82, 83, 84, 85, 86, 87, 88, 89, 90, 91, 92, 93, 94, 95, 96, 97, 98, 99, 100, 101, 102, 103]
  dec := fun vs tr ks => match vs, tr, ks with
    | [.w (.one (.fv (.tab [some .i64, some .i64, some .i64, none] T))), .w (.one (.int .i64 i)), .w (.one (.int .i64 k)), .w (.one (.int .i64 n))], [], [⟨28, [.yes false, .lit (.slice none 0 0)]⟩, ⟨28, [.yes false, .lit (.slice none 0 0)]⟩, ⟨62, [.int .i64 0, .int .i64 0, .yes false]⟩, ⟨62, [.int .i64 0, .int .i64 0, .yes true]⟩] => some ⟨T, i, k, n, none⟩
    | _, _, _ => none
  fk := fun t => some ((rbR none ((t.T.take (t.k + 1).toNat).drop t.n.toNat)).1)
  spec := fun t β => match β with
    | true => some (.exit 2, [(0, (.w (.one (.fv (.tab [some .i64, some .i64, some .i64, none] t.T))))), (9, (.w (.one (.int .i64 t.i)))), (10, (.w (.one (.int .i64 t.k)))), (15, (.w (.one (.int .i64 (t.k + 1)))))], [], [⟨28, [.bool (decide (((rbR none ((t.T.take (t.k + 1).toNat).drop t.n.toNat)).2.getD (0, 0)).1 < 0)), .fv (.num ((rbR none ((t.T.take (t.k + 1).toNat).drop t.n.toNat)).2.getD (0, 0)).1)]⟩, ⟨28, [.bool (decide (((rbR none ((t.T.take (t.k + 1).toNat).drop t.n.toNat)).2.getD (0, 0)).2 < 0)), .fv (.num ((rbR none ((t.T.take (t.k + 1).toNat).drop t.n.toNat)).2.getD (0, 0)).2)]⟩, ⟨62, [.int .i64 0, .int .i64 0, .yes false]⟩, ⟨62, [.int .i64 0, .int .i64 0, .yes true]⟩], [(decide (cbE t.T = 0) && decide (0 ≤ t.i) && decide (t.i ≤ t.k) && decide (t.k < lenT t.T) && decide (t.n = t.i) && decide (t.w = none) && !(bLift (rwT t.T t.n)).u, true)])
    | false => some (.ret, [], [], [⟨28, [.bool (decide (((rbR none ((t.T.take (t.k + 1).toNat).drop t.n.toNat)).2.getD (0, 0)).1 < 0)), .fv (.num ((rbR none ((t.T.take (t.k + 1).toNat).drop t.n.toNat)).2.getD (0, 0)).1)]⟩, ⟨28, [.bool (decide (((rbR none ((t.T.take (t.k + 1).toNat).drop t.n.toNat)).2.getD (0, 0)).2 < 0)), .fv (.num ((rbR none ((t.T.take (t.k + 1).toNat).drop t.n.toNat)).2.getD (0, 0)).2)]⟩, ⟨62, [.int .i64 0, .int .i64 0, .yes true]⟩, ⟨62, [.int .i64 0, .int .i64 0, .yes true]⟩], [(decide (cbE t.T = 0) && decide (0 ≤ t.i) && decide (t.i ≤ t.k) && decide (t.k < lenT t.T) && decide (t.n = t.i) && decide (t.w = none) && !(bLift (rwT t.T t.n)).u, true)])
theorem rbD_ok (x : Code) (hx : codeAt (bodyOf Try.f35) [false, true, false, true, true, true, true, true, true, true, true] = some (.loop x)) : LpOk Try.prog numI 111 x (rbD.sp nmSafe) := by
  obtain rfl := loopAt_eq hx
  refine lpR_ok (c := ctxIn Try.prog numI (fun _ => false) libU1 [(101, Try.f101)]) (ctxIn_ok libU1_ok (eq_none _) (fns_cons Try.func101 rfl Try.call101 (fns_nil _))) (by kernel_rfl) (fun _ _ _ h => h) hx lps_nil (S := rbS) (step := rbStep) (fun _ h => h) (by kernel_rfl) (by kernel_rfl) ?_ rfl (fun t e he => ?_) (fun t hb rest => rb_round t hb rest) ?_
  · intro vs tr ks s hv1 hv2 h hv3
    simp only [rbD] at h
    split at h
    · cases h
      exact ⟨rfl, fun e he => .inl he⟩
    · cases h
  · simp only [rbS, rbTm, List.mem_cons, List.not_mem_nil, or_false] at he
    rcases he with rfl | rfl | rfl | rfl <;> rfl
  · intro s β ex outs rts wb cd h hfk hc
    obtain ⟨T, i, k, n, w⟩ := s
    have hβ := hfk _ rfl
    cases β with
    | true =>
      simp only [rbD] at h hβ
      cases h
      have := c1' hc
      simp only [Bool.and_eq_true, decide_eq_true_eq, Bool.not_eq_true'] at this
      obtain ⟨⟨⟨⟨⟨⟨h0, h1⟩, h2⟩, h3⟩, rfl⟩, rfl⟩, hf⟩ := this
      have tn : (T.length : Int) = lenT T := rfl
      have hr : ∃ p, (rbR none ((T.take (k + 1).toNat).drop n.toNat)).2 = some p := by
        rw [take_rw (m := (k + 1).toNat) (n := n.toNat) (by omega) (by omega), show ((n.toNat : Nat) : Int) = n by omega]
        unfold rbR
        rw [if_neg (by rw [hf]; decide)]
        exact rb_some rfl
      obtain ⟨⟨A, Z⟩, hp⟩ := hr
      obtain ⟨c, hc⟩ := rb_runs h0 h1 h3 ((k + 1).toNat - n.toNat) n.toNat none (by omega) (by omega) (by omega) (by unfold okW; simp; omega)
      rw [show ((n.toNat : Nat) : Int) = n by omega] at hc
      refine ⟨c, ?_⟩
      rw [hp] at hc ⊢
      rw [if_pos hβ] at hc
      exact hc
    | false =>
      simp only [rbD] at h hβ
      cases h
      have := c1' hc
      simp only [Bool.and_eq_true, decide_eq_true_eq, Bool.not_eq_true'] at this
      obtain ⟨⟨⟨⟨⟨⟨h0, h1⟩, h2⟩, h3⟩, rfl⟩, rfl⟩, hf⟩ := this
      have tn : (T.length : Int) = lenT T := rfl
      have hr : ∃ p, (rbR none ((T.take (k + 1).toNat).drop n.toNat)).2 = some p := by
        rw [take_rw (m := (k + 1).toNat) (n := n.toNat) (by omega) (by omega), show ((n.toNat : Nat) : Int) = n by omega]
        unfold rbR
        rw [if_neg (by rw [hf]; decide)]
        exact rb_some rfl
      obtain ⟨⟨A, Z⟩, hp⟩ := hr
      obtain ⟨c, hc⟩ := rb_runs h0 h1 h3 ((k + 1).toNat - n.toNat) n.toNat none (by omega) (by omega) (by omega) (by unfold okW; simp; omega)
      rw [show ((n.toNat : Nat) : Int) = n by omega] at hc
      refine ⟨c, ?_⟩
      rw [hp] at hc ⊢
      rw [if_neg (by rw [hβ]; decide)] at hc
      exact hc
/-- The loop when its first entry is unknown. -/
def rcD : LpDef rbT Nm where
  ts := [0, 9, 10, 15]
  ps := [13, 14, 4, 5]
  W := [0, 4, 5, 9, 10, 13, 14, 15, 16, 17, 18, 66, 67, 68, 69, 70, 71, 72, 73, 74, 75, 76, 77, 78, 79, 80, 81, 82, 83, 84, 85, 86, 87, 88, 89, 90, 91, 92, 93, 94, 95, 96, 97, 98, 99, 100, 101, 102, 103]
  dec := fun vs ks => match vs, ks with
    | [.w (.one (.fv (.tab [some .i64, some .i64, some .i64, none] T))), .w (.one (.int .i64 i)), .w (.one (.int .i64 k)), .w (.one (.int .i64 n))], [⟨28, [.yes false, .lit (.slice none 0 0)]⟩, ⟨28, [.yes false, .lit (.slice none 0 0)]⟩, ⟨62, [.int .i64 0, .int .i64 0, .yes false]⟩, ⟨62, [.int .i64 0, .int .i64 0, .yes true]⟩] => some ⟨T, i, k, n, none⟩
    | _, _ => none
  spec := fun t => some (.ret, [], [⟨28, [.yes false, .lit (.slice none 0 0)]⟩, ⟨28, [.yes false, .lit (.slice none 0 0)]⟩, ⟨62, [.int .i64 0, .int .i64 0, .yes true]⟩, ⟨62, [.int .i64 0, .int .i64 0, .yes true]⟩], [(decide (cbE t.T = 0) && decide (0 ≤ t.i) && decide (t.i ≤ t.k) && decide (t.k < lenT t.T) && decide (t.n = t.i) && decide (t.w = none) && (bLift (rwT t.T t.n)).u, true)])
theorem rcD_ok (x : Code) (hx : codeAt (bodyOf Try.f35) [false, true, false, true, true, true, true, true, true, true, true] = some (.loop x)) : LpOk Try.prog numI 111 x (rcD.sp nmSafe) := by
  obtain rfl := loopAt_eq hx
  refine lp_ok (c := ctxIn Try.prog numI (fun _ => false) libU1 [(101, Try.f101)]) (ctxIn_ok libU1_ok (eq_none _) (fns_cons Try.func101 rfl Try.call101 (fns_nil _))) (by kernel_rfl) hx lps_nil (S := rbS) (step := rbStep) (fun _ h => h) (by kernel_rfl) (by kernel_rfl) ?_ rfl (fun t e he => ?_) (fun t hb rest => rb_round t hb rest) ?_
  · intro vs ks s hv1 h hv2
    simp only [rcD] at h
    split at h
    · cases h
      exact ⟨rfl, fun e he => he⟩
    · cases h
  · simp only [rbS, rbTm, List.mem_cons, List.not_mem_nil, or_false] at he
    rcases he with rfl | rfl | rfl | rfl <;> rfl
  · intro s ex outs wb cd h hc
    obtain ⟨T, i, k, n, w⟩ := s
    simp only [rcD] at h
    cases h
    have := c1' hc
    simp only [Bool.and_eq_true, decide_eq_true_eq] at this
    obtain ⟨⟨⟨⟨⟨⟨h0, h1⟩, h2⟩, h3⟩, rfl⟩, rfl⟩, hf⟩ := this
    refine ⟨1, ?_⟩
    rw [runs, rb_go ⟨h0, h1, Int.le_refl _, h3, by unfold okW; simp⟩]
    unfold rbNx
    rw [if_pos h2, if_pos hf]
    rfl
end
end Go.Proofs.Ytagbpehfieejcaa.AtHz

