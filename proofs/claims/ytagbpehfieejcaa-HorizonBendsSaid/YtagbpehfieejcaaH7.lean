/-
  Package horizon: the loops of CheckBends, of Refract and of its searches over tables of refraction.
  Conditions: those of each theorem.
-/
import Derived.Test.YtagbpehfieejcaaH1
import Derived.Test.YtagbpehfieejcaaTB
import Derived.Test.YtagbpehfieejcaaBA
import Derived.Test.YtagbpehfieejcaaLK
set_option linter.unusedVariables false
set_option linter.unusedSimpArgs false
namespace Go.Proofs.Ytagbpehfieejcaa.AtHz
open Go.RowKit Ev Wd
open Go.Proofs.Ytagbpehfieejcaa
noncomputable section

def rwT (T : List (List Int)) (i : Int) : List Int := T.getD i.toNat []
theorem cel_rw (T : List (List Int)) (i : Int) (o : Nat) : cel T i o = (rwT T i).getD o 0 := rfl
theorem drop_rw {T : List (List Int)} {i : Nat} (h : i < T.length) : T.drop i = rwT T i :: T.drop (i + 1) := by
  rw [List.drop_eq_getElem_cons h]
  have e : T.getD i [] = T[i] := by simp [List.getD_eq_getElem?_getD, h]
  unfold rwT
  rw [Int.toNat_natCast, e]
theorem rw_cons (r : List Int) (T : List (List Int)) (j : Nat) : rwT (r :: T) ((j + 1 : Nat) : Int) = rwT T j := by
  unfold rwT
  rw [Int.toNat_natCast, Int.toNat_natCast]; rfl
theorem lenT_nn' (T : List (List Int)) : 0 ≤ lenT T := by unfold lenT; omega
def bAlt (r : List Int) : Int := r.getD 0 0
def bLift (r : List Int) : Bd := ⟨r.getD 1 0, r.getD 2 0, decide (r.getD 3 0 = 1)⟩
def lowP : Option Int → Int → Bool
  | some q, x => decide (x ≤ q)
  | none, _ => false
/-- The first error of a table behind an entry at p. -/
def beL : Option Int → List (List Int) → Int
  | _, [] => 0
  | p, r :: T => if inQ (bAlt r) = true then (if chkB (bLift r) = 0 then (if lowP p (bAlt r) = true then 11 else beL (some (bAlt r)) T) else chkB (bLift r)) else 4
def cbE (T : List (List Int)) : Int := if 64 < lenT T then 2 else beL none T
def prT (T : List (List Int)) : Nat → Option Int
  | 0 => none
  | j + 1 => some (bAlt (rwT T j))
/-- How many entries stand below c. -/
def ggT (c : Int) : List (List Int) → Int
  | [] => 0
  | r :: T => if c ≤ bAlt r then 0 else 1 + ggT c T
def hlF (b : Bd) (T : List (List Int)) : Bd := T.foldl (fun b r => hullB b (bLift r)) b
theorem be_ok {p : Option Int} {r : List Int} {T : List (List Int)} (h : beL p (r :: T) = 0) : inQ (bAlt r) = true ∧ chkB (bLift r) = 0 ∧ (∀ q, p = some q → q < bAlt r) ∧ beL (some (bAlt r)) T = 0 := by
  unfold beL at h
  by_cases h1 : inQ (bAlt r) = true
  · rw [if_pos h1] at h
    by_cases h2 : chkB (bLift r) = 0
    · rw [if_pos h2] at h
      by_cases h3 : lowP p (bAlt r) = true
      · rw [if_pos h3] at h; cases h
      · rw [if_neg h3] at h
        refine ⟨h1, h2, fun q hq => ?_, h⟩
        subst hq
        have : ¬ bAlt r ≤ q := fun hh => h3 (decide_eq_true hh)
        omega
    · rw [if_neg h2] at h; exact absurd h h2
  · rw [if_neg h1] at h; cases h
theorem be_gt : ∀ {T : List (List Int)} {q : Int}, beL (some q) T = 0 → ∀ j : Nat, j < T.length → q < bAlt (rwT T j)
  | [], q, h, j, hj => by simp at hj
  | r :: T, q, h, j, hj => by
    obtain ⟨h1, h2, h3, h4⟩ := be_ok h
    have h5 := h3 q rfl
    cases j with
    | zero => exact h5
    | succ j =>
      rw [rw_cons]
      have := be_gt h4 j (by simpa using hj)
      omega
theorem be_row : ∀ {T : List (List Int)} {p : Option Int}, beL p T = 0 → ∀ j : Nat, j < T.length → inQ (bAlt (rwT T j)) = true ∧ chkB (bLift (rwT T j)) = 0
  | [], p, h, j, hj => by simp at hj
  | r :: T, p, h, j, hj => by
    obtain ⟨h1, h2, h3, h4⟩ := be_ok h
    cases j with
    | zero => exact ⟨h1, h2⟩
    | succ j =>
      rw [rw_cons]
      exact be_row h4 j (by simpa using hj)
theorem gg_in (c : Int) : ∀ T : List (List Int), 0 ≤ ggT c T ∧ ggT c T ≤ lenT T
  | [] => by unfold ggT lenT; simp
  | r :: T => by
    have := gg_in c T
    have e : lenT (r :: T) = lenT T + 1 := by unfold lenT; simp
    rw [ggT, e]
    split <;> omega
theorem gg_iff {c : Int} : ∀ {T : List (List Int)} {p : Option Int}, beL p T = 0 → ∀ j : Nat, j < T.length → (c ≤ bAlt (rwT T j) ↔ ggT c T ≤ j)
  | [], p, h, j, hj => by simp at hj
  | r :: T, p, h, j, hj => by
    obtain ⟨h1, h2, h3, h4⟩ := be_ok h
    have g := gg_in c T
    cases j with
    | zero =>
      have e : rwT (r :: T) ((0 : Nat) : Int) = r := rfl
      rw [e]
      unfold ggT
      by_cases hc : c ≤ bAlt r
      · rw [if_pos hc]; simp [hc]
      · rw [if_neg hc]; omega
    | succ j =>
      rw [rw_cons]
      have hj' : j < T.length := by simpa using hj
      have i := gg_iff (c := c) h4 j hj'
      have gt := be_gt h4 j hj'
      unfold ggT
      by_cases hc : c ≤ bAlt r
      · rw [if_pos hc]; omega
      · rw [if_neg hc]; omega
theorem cb_len {T : List (List Int)} (h : cbE T = 0) : lenT T ≤ 64 ∧ beL none T = 0 := by
  unfold cbE at h
  by_cases hl : 64 < lenT T
  · rw [if_pos hl] at h; cases h
  · rw [if_neg hl] at h; exact ⟨by omega, h⟩
theorem mid_h {i j : Int} (h1 : 0 ≤ i) (h2 : i ≤ j) (h3 : j ≤ 9999) : IntKind.i64.wrap ((IntKind.u64.wrap (IntKind.i64.wrap (i + j))).fdiv (2 ^ min (Int.toNat 1) IntKind.u64.bits)) = (i + j) / 2 := by
  have e2 : (2 : Int) ^ min (Int.toNat 1) IntKind.u64.bits = 2 := rfl
  rw [v64 (x := i + j) (by omega) (by omega), IntKind.wrap_u64, e2, Int.fdiv_eq_ediv_of_nonneg _ (by omega), Int.emod_eq_of_lt (by omega) (by omega), v64 (by omega) (by omega)]
noncomputable abbrev libJ0 : List (Nat × FnSp Tb) := [(92, sp1 (dInt .i64) (fun a => aBool (inQ a)) (fun _ => [])), (93, sp1 dBd (fun b => aInt .i64 (chkB b)) (fun _ => []))]
theorem libJ0_ok : LibOk Try.prog tbI (lib1 libJ0) := (lib1_cons (sp1_ok fun a _ => ⟨_, rfl, inq_pl a⟩) Try.call92 (lib1_cons (sp1_ok fun a _ => ⟨_, rfl, AtArc.check_pl a⟩) Try.call93 (lib1_nil _ _)))
noncomputable abbrev libJ1 : List (Nat × FnSp Tb) := [(100, sp2 dBd dBd (fun a b => bA (hullB a b)) (fun _ _ => []))]
theorem libJ1_ok : LibOk Try.prog tbI (lib1 libJ1) := (lib1_cons (sp2_ok fun a b _ => ⟨_, rfl, AtArc.hull_pl a b⟩) Try.call100 (lib1_nil _ _))
set_option maxRecDepth 100000 in
theorem cb_10010 (T : List (List Int)) (U : List (List Int)) (n : Int) (i : Int) (rest : List (Nat × AV Tb)) : evView (ctxOf Try.prog tbI (fun _ => false) libJ0) 40 (false :: [false, true, false, true, true]) (loopAt (bodyOf Try.f32) [false, true, false, true, true]) ([(0, (.w (.one (.fv (.tab [some .i64, some .i64, some .i64, none] T))))), (9, (.w (.one (.fv (.tab [some .i64, some .i64, some .i64, none] U))))), (10, (.w (.one (.int .i64 n)))), (11, (.w (.one (.int .i64 i))))] ++ (ptrN 0 [] ++ rest)) [] 0 [0, 9, 10, 11] [true, false, false, true, false] = some ((Ex.normal, [AV.w (AW.one (AC.fv (Tb.tab [some IntKind.i64, some IntKind.i64, some IntKind.i64, none] T))), AV.w (AW.one (AC.fv (Tb.tab [some IntKind.i64, some IntKind.i64, some IntKind.i64, none] U))), AV.w (AW.one (AC.int IntKind.i64 n)), AV.w (AW.one (AC.int IntKind.i64 (IntKind.i64.wrap (i + 1))))], []), (pickL [(decide (i < n), true), (decide (0 ≤ i), true), (decide (i < lenT U), true), (!inQ (cel U i 0), false), (chkB { lo := cel U i 1, hi := cel U i 2, u := decide (cel U i 3 = 1) } != 0, false), (decide (i > 0), true), (decide (0 ≤ IntKind.i64.wrap (i - 1)), true), (decide (IntKind.i64.wrap (i - 1) < lenT T), true), (decide (cel U i 0 ≤ cel T (IntKind.i64.wrap (i - 1)) 0), false)] [0, 1, 2, 1, 2, 3, 4, 5, 5, 5, 5, 5, 5, 6, 7, 5, 5, 6, 7, 5, 5, 8])) := by kernel_rfl
set_option maxRecDepth 100000 in
theorem cb_1000 (T : List (List Int)) (U : List (List Int)) (n : Int) (i : Int) (rest : List (Nat × AV Tb)) : evView (ctxOf Try.prog tbI (fun _ => false) libJ0) 40 (false :: [false, true, false, true, true]) (loopAt (bodyOf Try.f32) [false, true, false, true, true]) ([(0, (.w (.one (.fv (.tab [some .i64, some .i64, some .i64, none] T))))), (9, (.w (.one (.fv (.tab [some .i64, some .i64, some .i64, none] U))))), (10, (.w (.one (.int .i64 n)))), (11, (.w (.one (.int .i64 i))))] ++ (ptrN 0 [] ++ rest)) [] 0 [0, 9, 10, 11] [true, false, false, false] = some ((Ex.normal, [AV.w (AW.one (AC.fv (Tb.tab [some IntKind.i64, some IntKind.i64, some IntKind.i64, none] T))), AV.w (AW.one (AC.fv (Tb.tab [some IntKind.i64, some IntKind.i64, some IntKind.i64, none] U))), AV.w (AW.one (AC.int IntKind.i64 n)), AV.w (AW.one (AC.int IntKind.i64 (IntKind.i64.wrap (i + 1))))], []), (pickL [(decide (i < n), true), (decide (0 ≤ i), true), (decide (i < lenT U), true), (!inQ (cel U i 0), false), (chkB { lo := cel U i 1, hi := cel U i 2, u := decide (cel U i 3 = 1) } != 0, false), (decide (i > 0), false), (false, false)] [0, 1, 2, 1, 2, 3, 4, 5, 5, 5, 5, 5, 5, 5, 5, 5, 5, 6])) := by kernel_rfl
set_option maxRecDepth 100000 in
theorem cb_0 (T : List (List Int)) (U : List (List Int)) (n : Int) (i : Int) (rest : List (Nat × AV Tb)) : evView (ctxOf Try.prog tbI (fun _ => false) libJ0) 40 (false :: [false, true, false, true, true]) (loopAt (bodyOf Try.f32) [false, true, false, true, true]) ([(0, (.w (.one (.fv (.tab [some .i64, some .i64, some .i64, none] T))))), (9, (.w (.one (.fv (.tab [some .i64, some .i64, some .i64, none] U))))), (10, (.w (.one (.int .i64 n)))), (11, (.w (.one (.int .i64 i))))] ++ (ptrN 0 [] ++ rest)) [] 0 [0, 9, 10, 11] [false] = some ((Ex.exit 0, [AV.w (AW.one (AC.fv (Tb.tab [some IntKind.i64, some IntKind.i64, some IntKind.i64, none] T))), AV.w (AW.one (AC.fv (Tb.tab [some IntKind.i64, some IntKind.i64, some IntKind.i64, none] U))), AV.w (AW.one (AC.int IntKind.i64 n)), AV.w (AW.one (AC.int IntKind.i64 i))], []), (pickL [(decide (i < n), false)] [0])) := by kernel_rfl
set_option maxRecDepth 100000 in
theorem cbr_11 (T : List (List Int)) (U : List (List Int)) (n : Int) (i : Int) (rest : List (Nat × AV Tb)) : evView (ctxOf Try.prog tbI (fun _ => false) libJ0) 40 (false :: [false, true, false, true, true]) (loopAt (bodyOf Try.f32) [false, true, false, true, true]) ([(0, (.w (.one (.fv (.tab [some .i64, some .i64, some .i64, none] T))))), (9, (.w (.one (.fv (.tab [some .i64, some .i64, some .i64, none] U))))), (10, (.w (.one (.int .i64 n)))), (11, (.w (.one (.int .i64 i))))] ++ (ptrN 0 [] ++ rest)) [] 0 [2] [true, true] = some ((Ex.ret, [AV.w (AW.one (AC.int IntKind.i64 4))], []), (pickL [(decide (i < n), true), (decide (0 ≤ i), true), (decide (i < lenT U), true), (!inQ (cel U i 0), true)] [0, 1, 2, 1, 2, 3])) := by kernel_rfl
set_option maxRecDepth 100000 in
theorem cbr_101 (T : List (List Int)) (U : List (List Int)) (n : Int) (i : Int) (rest : List (Nat × AV Tb)) : evView (ctxOf Try.prog tbI (fun _ => false) libJ0) 40 (false :: [false, true, false, true, true]) (loopAt (bodyOf Try.f32) [false, true, false, true, true]) ([(0, (.w (.one (.fv (.tab [some .i64, some .i64, some .i64, none] T))))), (9, (.w (.one (.fv (.tab [some .i64, some .i64, some .i64, none] U))))), (10, (.w (.one (.int .i64 n)))), (11, (.w (.one (.int .i64 i))))] ++ (ptrN 0 [] ++ rest)) [] 0 [2] [true, false, true] = some ((Ex.ret, [AV.w (AW.one (AC.int IntKind.i64 (chkB { lo := cel U i 1, hi := cel U i 2, u := decide (cel U i 3 = 1) })))], []), (pickL [(decide (i < n), true), (decide (0 ≤ i), true), (decide (i < lenT U), true), (!inQ (cel U i 0), false), (chkB { lo := cel U i 1, hi := cel U i 2, u := decide (cel U i 3 = 1) } != 0, true)] [0, 1, 2, 1, 2, 3, 4])) := by kernel_rfl
set_option maxRecDepth 100000 in
theorem cbr_10011 (T : List (List Int)) (U : List (List Int)) (n : Int) (i : Int) (rest : List (Nat × AV Tb)) : evView (ctxOf Try.prog tbI (fun _ => false) libJ0) 40 (false :: [false, true, false, true, true]) (loopAt (bodyOf Try.f32) [false, true, false, true, true]) ([(0, (.w (.one (.fv (.tab [some .i64, some .i64, some .i64, none] T))))), (9, (.w (.one (.fv (.tab [some .i64, some .i64, some .i64, none] U))))), (10, (.w (.one (.int .i64 n)))), (11, (.w (.one (.int .i64 i))))] ++ (ptrN 0 [] ++ rest)) [] 0 [2] [true, false, false, true, true] = some ((Ex.ret, [AV.w (AW.one (AC.int IntKind.i64 11))], []), (pickL [(decide (i < n), true), (decide (0 ≤ i), true), (decide (i < lenT U), true), (!inQ (cel U i 0), false), (chkB { lo := cel U i 1, hi := cel U i 2, u := decide (cel U i 3 = 1) } != 0, false), (decide (i > 0), true), (decide (0 ≤ IntKind.i64.wrap (i - 1)), true), (decide (IntKind.i64.wrap (i - 1) < lenT T), true), (decide (cel U i 0 ≤ cel T (IntKind.i64.wrap (i - 1)) 0), true)] [0, 1, 2, 1, 2, 3, 4, 5, 5, 5, 5, 5, 5, 6, 7, 5, 5, 6, 7, 5, 5, 8])) := by kernel_rfl
structure cbT where
  T : List (List Int)
  U : List (List Int)
  n : Int
  i : Int
def cbP (T : List (List Int)) (U : List (List Int)) (n : Int) (i : Int) : Prop := 0 ≤ i ∧ i ≤ n ∧ n = lenT T ∧ n ≤ 64 ∧ U = T
instance (T : List (List Int)) (U : List (List Int)) (n : Int) (i : Int) : Decidable (cbP T U n i) := by unfold cbP; infer_instance
def cbTm (T : List (List Int)) (U : List (List Int)) (n : Int) (i : Int) : List (Nat × AV Tb) := [(0, (.w (.one (.fv (.tab [some .i64, some .i64, some .i64, none] T))))), (9, (.w (.one (.fv (.tab [some .i64, some .i64, some .i64, none] U))))), (10, (.w (.one (.int .i64 n)))), (11, (.w (.one (.int .i64 i))))]
def cbS : LpSt cbT Tb where
  ps := []
  tm := fun t => cbTm t.T t.U t.n t.i
  hp := fun t => []
def cbNx (T : List (List Int)) (U : List (List Int)) (n : Int) (i : Int) : Nxt cbT Tb := if i < n then (if inQ (bAlt (rwT T i)) = true then (if chkB (bLift (rwT T i)) = 0 then (if 0 < i ∧ bAlt (rwT T i) ≤ bAlt (rwT T (i - 1)) then .out .ret [(2, .w (.one (.int .i64 11)))] [] else .go ⟨T, U, n, i + 1⟩) else .out .ret [(2, .w (.one (.int .i64 (chkB (bLift (rwT T i))))))] []) else .out .ret [(2, .w (.one (.int .i64 4)))] []) else .out (.exit 0) (cbTm T U n i) []
def cbStep (t : cbT) : Nxt cbT Tb := if cbP t.T t.U t.n t.i then cbNx t.T t.U t.n t.i else .bad
theorem cb_go {T : List (List Int)} {U : List (List Int)} {n : Int} {i : Int} (h : cbP T U n i) : cbStep ⟨T, U, n, i⟩ = cbNx T U n i := if_pos h
set_option maxRecDepth 100000 in
set_option maxHeartbeats 4000000 in
theorem cb_round (t : cbT) (hb : (cbStep t).isBad = false) (rest : List (Nat × AV Tb)) : ∃ fuel path r, evC (ctxOf Try.prog tbI (fun _ => false) libJ0) fuel 40 (false :: [false, true, false, true, true]) (loopAt (bodyOf Try.f32) [false, true, false, true, true]) (cbS.tm t ++ (ptrN 0 cbS.ps ++ rest)) (numb 0 (cbS.hp t)) 0 path = some r ∧ (∀ p ∈ r.cd, p.1 = p.2) ∧ Gives cbS 0 r (cbStep t) := by
  obtain ⟨T, U, n, i⟩ := t
  by_cases ok : cbP T U n i
  · rw [cb_go ok]
    clear hb
    unfold cbNx
    obtain ⟨h1, h2, rfl, h4, rfl⟩ := ok
    have e0 : decide (0 ≤ i) = true := decide_eq_true h1
    by_cases hk : i < lenT U
    · have c0 : decide (i < lenT U) = true := decide_eq_true hk
      have e1 : IntKind.i64.wrap (i + 1) = i + 1 := v64 (by omega) (by omega)
      have em : IntKind.i64.wrap (i - 1) = i - 1 := v64 (by omega) (by omega)
      rw [if_pos hk]
      cases hq : inQ (bAlt (rwT U i)) with
      | false =>
        have c1 : (!inQ (cel U i 0)) = true := by rw [show cel U i 0 = bAlt (rwT U i) from rfl, hq]; rfl
        rw [if_neg (by simp)]
        have L := cbr_11 U U (lenT U) i rest
        refine round_out L rfl (pickL_ok ?_ _) rfl rfl rfl
        repeat' (first | exact cd_nil | refine cd_cons ?_ ?_)
        all_goals first | rfl | with_reducible assumption
      | true =>
        have c1 : (!inQ (cel U i 0)) = false := by rw [show cel U i 0 = bAlt (rwT U i) from rfl, hq]; rfl
        rw [if_pos rfl]
        by_cases hb : chkB (bLift (rwT U i)) = 0
        · have c2 : (chkB { lo := cel U i 1, hi := cel U i 2, u := decide (cel U i 3 = 1) } != 0) = false := by rw [show chkB { lo := cel U i 1, hi := cel U i 2, u := decide (cel U i 3 = 1) } = chkB (bLift (rwT U i)) from rfl, hb]; rfl
          rw [if_pos hb]
          by_cases hp : 0 < i
          · have c3 : decide (i > 0) = true := decide_eq_true hp
            have c4 : decide (0 ≤ i - 1) = true := decide_eq_true (by omega)
            have c5 : decide (i - 1 < lenT U) = true := decide_eq_true (by omega)
            by_cases ho : bAlt (rwT U i) ≤ bAlt (rwT U (i - 1))
            · have c6 : decide (cel U i 0 ≤ cel U (i - 1) 0) = true := decide_eq_true ho
              rw [if_pos ⟨hp, ho⟩]
              have L := cbr_10011 U U (lenT U) i rest
              rw [em] at L
              refine round_out L rfl (pickL_ok ?_ _) rfl rfl rfl
              repeat' (first | exact cd_nil | refine cd_cons ?_ ?_)
              all_goals first | rfl | with_reducible assumption
            · have c6 : decide (cel U i 0 ≤ cel U (i - 1) 0) = false := decide_eq_false ho
              rw [if_neg (fun h => ho h.2)]
              have L := cb_10010 U U (lenT U) i rest
              rw [em, e1] at L
              refine round_go L (pickL_ok ?_ _) rfl rfl rfl rfl
              repeat' (first | exact cd_nil | refine cd_cons ?_ ?_)
              all_goals first | rfl | with_reducible assumption
          · have c3 : decide (i > 0) = false := decide_eq_false hp
            rw [if_neg (fun h => hp h.1)]
            have L := cb_1000 U U (lenT U) i rest
            rw [e1] at L
            refine round_go L (pickL_ok ?_ _) rfl rfl rfl rfl
            repeat' (first | exact cd_nil | refine cd_cons ?_ ?_)
            all_goals first | rfl | with_reducible assumption
        · have c2 : (chkB { lo := cel U i 1, hi := cel U i 2, u := decide (cel U i 3 = 1) } != 0) = true := by rw [show chkB { lo := cel U i 1, hi := cel U i 2, u := decide (cel U i 3 = 1) } = chkB (bLift (rwT U i)) from rfl]; simpa using hb
          rw [if_neg hb]
          have L := cbr_101 U U (lenT U) i rest
          refine round_out L rfl (pickL_ok ?_ _) rfl rfl rfl
          repeat' (first | exact cd_nil | refine cd_cons ?_ ?_)
          all_goals first | rfl | with_reducible assumption
    · have c0 : decide (i < lenT U) = false := decide_eq_false hk
      rw [if_neg hk]
      have L := cb_0 U U (lenT U) i rest
      refine round_out L rfl (pickL_ok ?_ _) rfl rfl rfl
      repeat' (first | exact cd_nil | refine cd_cons ?_ ?_)
      all_goals first | rfl | with_reducible assumption
  · exfalso
    have : cbStep ⟨T, U, n, i⟩ = .bad := if_neg ok
    rw [this] at hb; cases hb
theorem cb_runs {T : List (List Int)} (h : lenT T ≤ 64) : ∀ (j i : Nat), i + j = T.length → ∃ c, runs cbStep c ⟨T, T, lenT T, i⟩ = (if beL (prT T i) (T.drop i) = 0 then some (.exit 0, cbTm T T (lenT T) (lenT T), []) else some (.ret, [(2, .w (.one (.int .i64 (beL (prT T i) (T.drop i)))))], []))
  | 0, i, hi => by
    have e : (i : Int) = lenT T := by unfold lenT; omega
    refine ⟨1, ?_⟩
    rw [runs, cb_go ⟨by omega, by omega, rfl, h, rfl⟩]
    unfold cbNx
    rw [if_neg (by omega), List.drop_eq_nil_of_le (by omega), e]
    rfl
  | j + 1, i, hi => by
    have hl : (i : Int) < lenT T := by unfold lenT; omega
    have d := drop_rw (T := T) (i := i) (by omega)
    have hgo : cbStep ⟨T, T, lenT T, i⟩ = cbNx T T (lenT T) i := cb_go ⟨by omega, by omega, rfl, h, rfl⟩
    rw [d]
    unfold beL
    by_cases hq : inQ (bAlt (rwT T i)) = true
    · by_cases hb : chkB (bLift (rwT T i)) = 0
      · rw [if_pos hq, if_pos hb]
        by_cases ho : 0 < (i : Int) ∧ bAlt (rwT T i) ≤ bAlt (rwT T ((i : Int) - 1))
        · refine ⟨1, ?_⟩
          have hm : lowP (prT T i) (bAlt (rwT T i)) = true := by
            cases i with
            | zero => exact absurd ho.1 (by omega)
            | succ i =>
              have : ((i + 1 : Nat) : Int) - 1 = (i : Int) := by omega
              rw [this] at ho
              exact decide_eq_true ho.2
          rw [runs, hgo]
          unfold cbNx
          rw [if_pos hl, if_pos hq, if_pos hb, if_pos ho, if_pos hm, if_neg (by decide)]
        · have hm : lowP (prT T i) (bAlt (rwT T i)) = false := by
            cases i with
            | zero => rfl
            | succ i =>
              have : ((i + 1 : Nat) : Int) - 1 = (i : Int) := by omega
              rw [this] at ho
              exact decide_eq_false (fun hh => ho ⟨by omega, hh⟩)
          obtain ⟨c, hc⟩ := cb_runs h j (i + 1) (by omega)
          refine ⟨c + 1, ?_⟩
          rw [runs, hgo]
          unfold cbNx
          rw [if_pos hl, if_pos hq, if_pos hb, if_neg ho, hm, if_neg (show ¬ (false = true) by decide)]
          exact hc
      · refine ⟨1, ?_⟩
        rw [runs, hgo]
        unfold cbNx
        rw [if_pos hl, if_pos hq, if_neg hb, if_pos hq, if_neg hb, if_neg hb]
    · refine ⟨1, ?_⟩
      rw [runs, hgo]
      unfold cbNx
      rw [if_pos hl, if_neg hq, if_neg hq, if_neg (by decide)]
def cbD : LpDefR cbT Tb where
  ts := [0, 9, 10, 11]
  ps := []
  rs := []
  W := [0, 2, 3, 4, 5, 9, 10, 11, 12, 13, 14, 15, 16, 17, 18, 19, 20, 21, 22, 23, 24, 25, 26, 27, 28, 29, 30, 31, 32, 33, 34, 35, 36, 37, 38, 39]
  dec := fun vs tr ks => match vs, tr, ks with
    | [.w (.one (.fv (.tab [some .i64, some .i64, some .i64, none] T))), .w (.one (.fv (.tab [some .i64, some .i64, some .i64, none] U))), .w (.one (.int .i64 n)), .w (.one (.int .i64 i))], [], [] => some ⟨T, U, n, i⟩
    | _, _, _ => none
  fk := fun t => some (beL none t.T == 0)
  spec := fun t β => match β with
    | true => some (.exit 0, cbTm t.T t.U t.n t.n, [], [], [(decide (t.i = 0) && decide (t.n = lenT t.T) && decide (t.n ≤ 64) && decide (t.U = t.T), true)])
    | false => some (.ret, [(2, .w (.one (.int .i64 (beL none t.T))))], [], [], [(decide (t.i = 0) && decide (t.n = lenT t.T) && decide (t.n ≤ 64) && decide (t.U = t.T), true)])
theorem cbD_ok (x : Code) (hx : codeAt (bodyOf Try.f32) [false, true, false, true, true] = some (.loop x)) : LpOk Try.prog tbI 40 x (cbD.sp (fun _ => true)) := by
  obtain rfl := loopAt_eq hx
  refine lpR_ok (c := ctxOf Try.prog tbI (fun _ => false) libJ0) (ctxOf_ok libJ0_ok (eq_none _)) (by kernel_rfl) (fun _ _ _ h => h) hx lps_nil (S := cbS) (step := cbStep) (fun _ _ => rfl) (by kernel_rfl) (by kernel_rfl) ?_ rfl (fun t e he => ?_) (fun t hb rest => cb_round t hb rest) ?_
  · intro vs tr ks s hv1 hv2 h hv3
    simp only [cbD] at h
    split at h
    · cases h
      exact ⟨rfl, fun e he => .inl he⟩
    · cases h
  · simp only [cbS, cbTm, List.mem_cons, List.not_mem_nil, or_false] at he
    rcases he with rfl | rfl | rfl | rfl <;> rfl
  · intro s β ex outs rts wb cd h hfk hc
    obtain ⟨T, U, n, i⟩ := s
    have hβ := hfk _ rfl
    cases β with
    | true =>
      simp only [cbD] at h hβ
      cases h
      have := c1' hc
      simp only [Bool.and_eq_true, decide_eq_true_eq] at this
      obtain ⟨⟨⟨rfl, rfl⟩, h3⟩, rfl⟩ := this
      obtain ⟨c, hc⟩ := cb_runs h3 U.length 0 (by omega)
      refine ⟨c, ?_⟩
      rw [List.drop_zero, show prT U 0 = none from rfl] at hc
      rw [if_pos (by simpa using hβ)] at hc
      exact hc
    | false =>
      simp only [cbD] at h hβ
      cases h
      have := c1' hc
      simp only [Bool.and_eq_true, decide_eq_true_eq] at this
      obtain ⟨⟨⟨rfl, rfl⟩, h3⟩, rfl⟩ := this
      obtain ⟨c, hc⟩ := cb_runs h3 U.length 0 (by omega)
      refine ⟨c, ?_⟩
      rw [List.drop_zero, show prT U 0 = none from rfl] at hc
      rw [if_neg (by simpa using hβ)] at hc
      exact hc
set_option maxRecDepth 100000 in
theorem sa_11 (T : List (List Int)) (a : Int) (b : Int) (u : Bool) (i : Int) (j : Int) (rest : List (Nat × AV Tb)) : evView (ctxIn Try.prog tbI (fun _ => false) [] [(98, Try.f98)]) 26 (false :: [false, false, true, true]) (loopAt (bodyOf Try.f97) [false, false, true, true]) ([(5, (.w (.one (.int .i64 i)))), (6, (.w (.one (.int .i64 j)))), (1, (.w (.one (.fnc 98 [(0, 0), (1, 0)]))))] ++ (ptrN 0 [] ++ rest)) [⟨60, [.fv (.tab [some .i64, some .i64, some .i64, none] T)]⟩, ⟨62, [.int .i64 a, .int .i64 b, .bool u]⟩] 2 [5, 6, 1] [true, true] = some ((Ex.normal, [AV.w (AW.one (AC.int IntKind.i64 (IntKind.i64.wrap (IntKind.i64.wrap ((IntKind.u64.wrap (IntKind.i64.wrap (i + j))).fdiv (2 ^ min (Int.toNat 1) IntKind.u64.bits)) + 1)))), AV.w (AW.one (AC.int IntKind.i64 j)), AV.w (AW.one (AC.fnc 98 [(0, 0), (1, 0)]))], [{ ty := 60, cs := [AC.fv (Tb.tab [some IntKind.i64, some IntKind.i64, some IntKind.i64, none] T)] }, { ty := 62, cs := [AC.int IntKind.i64 a, AC.int IntKind.i64 b, AC.bool u] }]), (pickL [(decide (i < j), true), (decide (1 < 0), false), (decide (0 ≤ IntKind.i64.wrap ((IntKind.u64.wrap (IntKind.i64.wrap (i + j))).fdiv (2 ^ min (Int.toNat 1) IntKind.u64.bits))), true), (decide (IntKind.i64.wrap ((IntKind.u64.wrap (IntKind.i64.wrap (i + j))).fdiv (2 ^ min (Int.toNat 1) IntKind.u64.bits)) < lenT T), true), (!decide (cel T (IntKind.i64.wrap ((IntKind.u64.wrap (IntKind.i64.wrap (i + j))).fdiv (2 ^ min (Int.toNat 1) IntKind.u64.bits))) 0 > a), true)] [0, 1, 2, 3, 2, 3, 4])) := by kernel_rfl
set_option maxRecDepth 100000 in
theorem sa_10 (T : List (List Int)) (a : Int) (b : Int) (u : Bool) (i : Int) (j : Int) (rest : List (Nat × AV Tb)) : evView (ctxIn Try.prog tbI (fun _ => false) [] [(98, Try.f98)]) 26 (false :: [false, false, true, true]) (loopAt (bodyOf Try.f97) [false, false, true, true]) ([(5, (.w (.one (.int .i64 i)))), (6, (.w (.one (.int .i64 j)))), (1, (.w (.one (.fnc 98 [(0, 0), (1, 0)]))))] ++ (ptrN 0 [] ++ rest)) [⟨60, [.fv (.tab [some .i64, some .i64, some .i64, none] T)]⟩, ⟨62, [.int .i64 a, .int .i64 b, .bool u]⟩] 2 [5, 6, 1] [true, false] = some ((Ex.normal, [AV.w (AW.one (AC.int IntKind.i64 i)), AV.w (AW.one (AC.int IntKind.i64 (IntKind.i64.wrap ((IntKind.u64.wrap (IntKind.i64.wrap (i + j))).fdiv (2 ^ min (Int.toNat 1) IntKind.u64.bits))))), AV.w (AW.one (AC.fnc 98 [(0, 0), (1, 0)]))], [{ ty := 60, cs := [AC.fv (Tb.tab [some IntKind.i64, some IntKind.i64, some IntKind.i64, none] T)] }, { ty := 62, cs := [AC.int IntKind.i64 a, AC.int IntKind.i64 b, AC.bool u] }]), (pickL [(decide (i < j), true), (decide (1 < 0), false), (decide (0 ≤ IntKind.i64.wrap ((IntKind.u64.wrap (IntKind.i64.wrap (i + j))).fdiv (2 ^ min (Int.toNat 1) IntKind.u64.bits))), true), (decide (IntKind.i64.wrap ((IntKind.u64.wrap (IntKind.i64.wrap (i + j))).fdiv (2 ^ min (Int.toNat 1) IntKind.u64.bits)) < lenT T), true), (!decide (cel T (IntKind.i64.wrap ((IntKind.u64.wrap (IntKind.i64.wrap (i + j))).fdiv (2 ^ min (Int.toNat 1) IntKind.u64.bits))) 0 > a), false)] [0, 1, 2, 3, 2, 3, 4])) := by kernel_rfl
set_option maxRecDepth 100000 in
theorem sax_0 (T : List (List Int)) (a : Int) (b : Int) (u : Bool) (i : Int) (j : Int) (rest : List (Nat × AV Tb)) : evView (ctxIn Try.prog tbI (fun _ => false) [] [(98, Try.f98)]) 26 (false :: [false, false, true, true]) (loopAt (bodyOf Try.f97) [false, false, true, true]) ([(5, (.w (.one (.int .i64 i)))), (6, (.w (.one (.int .i64 j)))), (1, (.w (.one (.fnc 98 [(0, 0), (1, 0)]))))] ++ (ptrN 0 [] ++ rest)) [⟨60, [.fv (.tab [some .i64, some .i64, some .i64, none] T)]⟩, ⟨62, [.int .i64 a, .int .i64 b, .bool u]⟩] 2 [5, 6] [false] = some ((Ex.exit 0, [AV.w (AW.one (AC.int IntKind.i64 i)), AV.w (AW.one (AC.int IntKind.i64 j))], [{ ty := 60, cs := [AC.fv (Tb.tab [some IntKind.i64, some IntKind.i64, some IntKind.i64, none] T)] }, { ty := 62, cs := [AC.int IntKind.i64 a, AC.int IntKind.i64 b, AC.bool u] }]), (pickL [(decide (i < j), false)] [0])) := by kernel_rfl
structure saT where
  T : List (List Int)
  a : Int
  b : Int
  u : Bool
  i : Int
  j : Int
def saP (T : List (List Int)) (a : Int) (b : Int) (u : Bool) (i : Int) (j : Int) : Prop := cbE T = 0 ∧ i64B a = true ∧ i64B b = true ∧ 0 ≤ i ∧ i ≤ ggT (a + 1) T ∧ ggT (a + 1) T ≤ j ∧ j ≤ lenT T
instance (T : List (List Int)) (a : Int) (b : Int) (u : Bool) (i : Int) (j : Int) : Decidable (saP T a b u i j) := by unfold saP; infer_instance
def saTm (T : List (List Int)) (a : Int) (b : Int) (u : Bool) (i : Int) (j : Int) : List (Nat × AV Tb) := [(5, (.w (.one (.int .i64 i)))), (6, (.w (.one (.int .i64 j)))), (1, (.w (.one (.fnc 98 [(0, 0), (1, 0)]))))]
def saS : LpSt saT Tb where
  ps := []
  tm := fun t => saTm t.T t.a t.b t.u t.i t.j
  hp := fun t => [⟨60, [.fv (.tab [some .i64, some .i64, some .i64, none] t.T)]⟩, ⟨62, [.int .i64 t.a, .int .i64 t.b, .bool t.u]⟩]
def saNx (T : List (List Int)) (a : Int) (b : Int) (u : Bool) (i : Int) (j : Int) : Nxt saT Tb := if i < j then (if ggT (a + 1) T ≤ (i + j) / 2 then .go ⟨T, a, b, u, i, (i + j) / 2⟩ else .go ⟨T, a, b, u, (i + j) / 2 + 1, j⟩) else .out (.exit 0) [(5, .w (.one (.int .i64 i))), (6, .w (.one (.int .i64 j)))] [⟨60, [.fv (.tab [some .i64, some .i64, some .i64, none] T)]⟩, ⟨62, [.int .i64 a, .int .i64 b, .bool u]⟩]
def saStep (t : saT) : Nxt saT Tb := if saP t.T t.a t.b t.u t.i t.j then saNx t.T t.a t.b t.u t.i t.j else .bad
theorem sa_go {T : List (List Int)} {a : Int} {b : Int} {u : Bool} {i : Int} {j : Int} (h : saP T a b u i j) : saStep ⟨T, a, b, u, i, j⟩ = saNx T a b u i j := if_pos h
set_option maxRecDepth 100000 in
set_option maxHeartbeats 4000000 in
theorem sa_round (t : saT) (hb : (saStep t).isBad = false) (rest : List (Nat × AV Tb)) : ∃ fuel path r, evC (ctxIn Try.prog tbI (fun _ => false) [] [(98, Try.f98)]) fuel 26 (false :: [false, false, true, true]) (loopAt (bodyOf Try.f97) [false, false, true, true]) (saS.tm t ++ (ptrN 0 saS.ps ++ rest)) (numb 0 (saS.hp t)) 2 path = some r ∧ (∀ p ∈ r.cd, p.1 = p.2) ∧ Gives saS 2 r (saStep t) := by
  obtain ⟨T, a, b, u, i, j⟩ := t
  by_cases ok : saP T a b u i j
  · rw [sa_go ok]
    clear hb
    unfold saNx
    obtain ⟨h0, ha, hb, h1, h2, h3, h4⟩ := ok
    obtain ⟨hl, hs⟩ := cb_len h0
    rw [i64B_iff] at ha hb
    have eh := mid_h (i := i) (j := j) h1 (by omega) (by omega)
    have e2 : IntKind.i64.wrap ((i + j) / 2 + 1) = (i + j) / 2 + 1 := v64 (by omega) (by omega)
    by_cases hk : i < j
    · have c1 : decide (i < j) = true := decide_eq_true hk
      have c2 : decide (0 ≤ (i + j) / 2) = true := decide_eq_true (by omega)
      have c3 : decide ((i + j) / 2 < lenT T) = true := decide_eq_true (by omega)
      have gi := gg_iff (c := (a + 1)) hs ((i + j) / 2).toNat (by unfold lenT at *; omega)
      rw [show (((i + j) / 2).toNat : Int) = (i + j) / 2 by omega] at gi
      rw [if_pos hk]
      by_cases hm : ggT (a + 1) T ≤ (i + j) / 2
      · rw [if_pos hm]
        have c4 : (!decide (cel T ((i + j) / 2) 0 > a)) = false := by rw [show cel T ((i + j) / 2) 0 = bAlt (rwT T ((i + j) / 2)) from rfl, decide_eq_true (by have := gi.2 hm; omega)]; rfl
        have L := sa_10 T a b u i j rest
        rw [eh] at L
        refine round_go L (pickL_ok ?_ _) rfl rfl rfl rfl
        repeat' (first | exact cd_nil | refine cd_cons ?_ ?_)
        all_goals first | rfl | with_reducible assumption
      · rw [if_neg hm]
        have c4 : (!decide (cel T ((i + j) / 2) 0 > a)) = true := by rw [show cel T ((i + j) / 2) 0 = bAlt (rwT T ((i + j) / 2)) from rfl, decide_eq_false (fun hh => hm (gi.1 (by omega)))]; rfl
        have L := sa_11 T a b u i j rest
        rw [eh, e2] at L
        refine round_go L (pickL_ok ?_ _) rfl rfl rfl rfl
        repeat' (first | exact cd_nil | refine cd_cons ?_ ?_)
        all_goals first | rfl | with_reducible assumption
    · have c1 : decide (i < j) = false := decide_eq_false hk
      rw [if_neg hk]
      have L := sax_0 T a b u i j rest
      refine round_out L rfl (pickL_ok ?_ _) rfl rfl rfl
      repeat' (first | exact cd_nil | refine cd_cons ?_ ?_)
      all_goals first | rfl | with_reducible assumption
  · exfalso
    have : saStep ⟨T, a, b, u, i, j⟩ = .bad := if_neg ok
    rw [this] at hb; cases hb
theorem sa_runs {T : List (List Int)} {a b : Int} {u : Bool} (h0 : cbE T = 0) (ha : i64B a = true) (hb : i64B b = true) : ∀ (n : Nat) (i j : Int), (j - i).toNat ≤ n → 0 ≤ i → i ≤ ggT (a + 1) T → ggT (a + 1) T ≤ j → j ≤ lenT T → ∃ m, runs saStep m ⟨T, a, b, u, i, j⟩ = some (.exit 0, [(5, .w (.one (.int .i64 (ggT (a + 1) T)))), (6, .w (.one (.int .i64 (ggT (a + 1) T))))], [⟨60, [.fv (.tab [some .i64, some .i64, some .i64, none] T)]⟩, ⟨62, [.int .i64 a, .int .i64 b, .bool u]⟩])
  | n, i, j, hn, h1, h2, h3, h4 => by
    by_cases hk : i < j
    · cases n with
      | zero => omega
      | succ n =>
        by_cases hm : ggT (a + 1) T ≤ (i + j) / 2
        · obtain ⟨m, hc⟩ := sa_runs h0 ha hb n i ((i + j) / 2) (by omega) h1 h2 hm (by omega)
          refine ⟨m + 1, ?_⟩
          rw [runs, sa_go ⟨h0, ha, hb, h1, h2, h3, h4⟩]
          unfold saNx
          rw [if_pos hk, if_pos hm]
          exact hc
        · obtain ⟨m, hc⟩ := sa_runs h0 ha hb n ((i + j) / 2 + 1) j (by omega) (by omega) (by omega) h3 h4
          refine ⟨m + 1, ?_⟩
          rw [runs, sa_go ⟨h0, ha, hb, h1, h2, h3, h4⟩]
          unfold saNx
          rw [if_pos hk, if_neg hm]
          exact hc
    · refine ⟨1, ?_⟩
      rw [runs, sa_go ⟨h0, ha, hb, h1, h2, h3, h4⟩]
      unfold saNx
      rw [if_neg hk, show i = ggT (a + 1) T by omega, show j = ggT (a + 1) T by omega]
  termination_by n => n
def saD : LpDefK saT Tb where
  ts := [5, 6]
  cl := 1
  fn := 98
  m := 2
  W := [1, 5, 6, 7, 9, 10, 11, 12, 13, 14, 15, 16, 17, 18, 19, 20, 21, 22, 23, 24, 25]
  dec := fun vs ks => match vs, ks with
    | [.w (.one (.int .i64 i)), .w (.one (.int .i64 j))], [⟨60, [.fv (.tab [some .i64, some .i64, some .i64, none] T)]⟩, ⟨62, [.int .i64 a, .int .i64 b, .bool u]⟩] => some ⟨T, a, b, u, i, j⟩
    | _, _ => none
  spec := fun t => some (.exit 0, [(5, .w (.one (.int .i64 (ggT (t.a + 1) t.T)))), (6, .w (.one (.int .i64 (ggT (t.a + 1) t.T))))], [⟨60, [.fv (.tab [some .i64, some .i64, some .i64, none] t.T)]⟩, ⟨62, [.int .i64 t.a, .int .i64 t.b, .bool t.u]⟩], [(decide (cbE t.T = 0) && i64B t.a && i64B t.b && decide (t.i = 0) && decide (t.j = lenT t.T), true)])
theorem saD_ok (x : Code) (hx : codeAt (bodyOf Try.f97) [false, false, true, true] = some (.loop x)) : LpOk Try.prog tbI 26 x (saD.sp (fun _ => true)) := by
  obtain rfl := loopAt_eq hx
  refine lpK_ok (c := ctxIn Try.prog tbI (fun _ => false) [] [(98, Try.f98)]) (ctxIn_ok (lib1_nil _ _) (eq_none _) (fns_cons Try.func98 rfl Try.call98 (fns_nil _))) (by kernel_rfl) hx lps_nil (S := saS) (step := saStep) (fun _ _ => rfl) (by kernel_rfl) (by kernel_rfl) ?_ rfl (fun t e he => ?_) (fun t hb rest => sa_round t hb rest) ?_
  · intro vs ks s hv1 h hv2
    simp only [saD] at h
    split at h
    · cases h
      refine ⟨rfl, fun e he => ?_⟩
      simp only [saS, saTm, List.mem_cons, List.not_mem_nil, or_false] at he
      rcases he with rfl | rfl | rfl
      · exact .inl (List.mem_of_getElem? (i := 0) rfl)
      · exact .inl (List.mem_of_getElem? (i := 1) rfl)
      · exact .inr rfl
    · cases h
  · simp only [saS, saTm, List.mem_cons, List.not_mem_nil, or_false] at he
    rcases he with rfl | rfl | rfl <;> rfl
  · intro s ex outs wb cd h hc
    obtain ⟨T, a, b, u, i, j⟩ := s
    simp only [saD] at h
    cases h
    have := c1' hc
    simp only [Bool.and_eq_true, decide_eq_true_eq] at this
    obtain ⟨⟨⟨⟨h0, h1⟩, h2⟩, rfl⟩, rfl⟩ := this
    have g := gg_in (a + 1) T
    exact sa_runs h0 h1 h2 _ 0 (lenT T) (Nat.le_refl _) (by omega) g.1 g.2 (Int.le_refl _)
set_option maxRecDepth 100000 in
theorem sb_11 (T : List (List Int)) (a : Int) (b : Int) (u : Bool) (i : Int) (j : Int) (rest : List (Nat × AV Tb)) : evView (ctxIn Try.prog tbI (fun _ => false) [] [(99, Try.f99)]) 26 (false :: [false, false, true, true]) (loopAt (bodyOf Try.f97) [false, false, true, true]) ([(5, (.w (.one (.int .i64 i)))), (6, (.w (.one (.int .i64 j)))), (1, (.w (.one (.fnc 99 [(0, 0), (1, 0)]))))] ++ (ptrN 0 [] ++ rest)) [⟨60, [.fv (.tab [some .i64, some .i64, some .i64, none] T)]⟩, ⟨62, [.int .i64 a, .int .i64 b, .bool u]⟩] 2 [5, 6, 1] [true, true] = some ((Ex.normal, [AV.w (AW.one (AC.int IntKind.i64 (IntKind.i64.wrap (IntKind.i64.wrap ((IntKind.u64.wrap (IntKind.i64.wrap (i + j))).fdiv (2 ^ min (Int.toNat 1) IntKind.u64.bits)) + 1)))), AV.w (AW.one (AC.int IntKind.i64 j)), AV.w (AW.one (AC.fnc 99 [(0, 0), (1, 0)]))], [{ ty := 60, cs := [AC.fv (Tb.tab [some IntKind.i64, some IntKind.i64, some IntKind.i64, none] T)] }, { ty := 62, cs := [AC.int IntKind.i64 a, AC.int IntKind.i64 b, AC.bool u] }]), (pickL [(decide (i < j), true), (decide (1 < 0), false), (decide (0 ≤ IntKind.i64.wrap ((IntKind.u64.wrap (IntKind.i64.wrap (i + j))).fdiv (2 ^ min (Int.toNat 1) IntKind.u64.bits))), true), (decide (IntKind.i64.wrap ((IntKind.u64.wrap (IntKind.i64.wrap (i + j))).fdiv (2 ^ min (Int.toNat 1) IntKind.u64.bits)) < lenT T), true), (!decide (cel T (IntKind.i64.wrap ((IntKind.u64.wrap (IntKind.i64.wrap (i + j))).fdiv (2 ^ min (Int.toNat 1) IntKind.u64.bits))) 0 ≥ b), true)] [0, 1, 2, 3, 2, 3, 4])) := by kernel_rfl
set_option maxRecDepth 100000 in
theorem sb_10 (T : List (List Int)) (a : Int) (b : Int) (u : Bool) (i : Int) (j : Int) (rest : List (Nat × AV Tb)) : evView (ctxIn Try.prog tbI (fun _ => false) [] [(99, Try.f99)]) 26 (false :: [false, false, true, true]) (loopAt (bodyOf Try.f97) [false, false, true, true]) ([(5, (.w (.one (.int .i64 i)))), (6, (.w (.one (.int .i64 j)))), (1, (.w (.one (.fnc 99 [(0, 0), (1, 0)]))))] ++ (ptrN 0 [] ++ rest)) [⟨60, [.fv (.tab [some .i64, some .i64, some .i64, none] T)]⟩, ⟨62, [.int .i64 a, .int .i64 b, .bool u]⟩] 2 [5, 6, 1] [true, false] = some ((Ex.normal, [AV.w (AW.one (AC.int IntKind.i64 i)), AV.w (AW.one (AC.int IntKind.i64 (IntKind.i64.wrap ((IntKind.u64.wrap (IntKind.i64.wrap (i + j))).fdiv (2 ^ min (Int.toNat 1) IntKind.u64.bits))))), AV.w (AW.one (AC.fnc 99 [(0, 0), (1, 0)]))], [{ ty := 60, cs := [AC.fv (Tb.tab [some IntKind.i64, some IntKind.i64, some IntKind.i64, none] T)] }, { ty := 62, cs := [AC.int IntKind.i64 a, AC.int IntKind.i64 b, AC.bool u] }]), (pickL [(decide (i < j), true), (decide (1 < 0), false), (decide (0 ≤ IntKind.i64.wrap ((IntKind.u64.wrap (IntKind.i64.wrap (i + j))).fdiv (2 ^ min (Int.toNat 1) IntKind.u64.bits))), true), (decide (IntKind.i64.wrap ((IntKind.u64.wrap (IntKind.i64.wrap (i + j))).fdiv (2 ^ min (Int.toNat 1) IntKind.u64.bits)) < lenT T), true), (!decide (cel T (IntKind.i64.wrap ((IntKind.u64.wrap (IntKind.i64.wrap (i + j))).fdiv (2 ^ min (Int.toNat 1) IntKind.u64.bits))) 0 ≥ b), false)] [0, 1, 2, 3, 2, 3, 4])) := by kernel_rfl
set_option maxRecDepth 100000 in
theorem sbx_0 (T : List (List Int)) (a : Int) (b : Int) (u : Bool) (i : Int) (j : Int) (rest : List (Nat × AV Tb)) : evView (ctxIn Try.prog tbI (fun _ => false) [] [(99, Try.f99)]) 26 (false :: [false, false, true, true]) (loopAt (bodyOf Try.f97) [false, false, true, true]) ([(5, (.w (.one (.int .i64 i)))), (6, (.w (.one (.int .i64 j)))), (1, (.w (.one (.fnc 99 [(0, 0), (1, 0)]))))] ++ (ptrN 0 [] ++ rest)) [⟨60, [.fv (.tab [some .i64, some .i64, some .i64, none] T)]⟩, ⟨62, [.int .i64 a, .int .i64 b, .bool u]⟩] 2 [5, 6] [false] = some ((Ex.exit 0, [AV.w (AW.one (AC.int IntKind.i64 i)), AV.w (AW.one (AC.int IntKind.i64 j))], [{ ty := 60, cs := [AC.fv (Tb.tab [some IntKind.i64, some IntKind.i64, some IntKind.i64, none] T)] }, { ty := 62, cs := [AC.int IntKind.i64 a, AC.int IntKind.i64 b, AC.bool u] }]), (pickL [(decide (i < j), false)] [0])) := by kernel_rfl
structure sbT where
  T : List (List Int)
  a : Int
  b : Int
  u : Bool
  i : Int
  j : Int
def sbP (T : List (List Int)) (a : Int) (b : Int) (u : Bool) (i : Int) (j : Int) : Prop := cbE T = 0 ∧ i64B a = true ∧ i64B b = true ∧ 0 ≤ i ∧ i ≤ ggT b T ∧ ggT b T ≤ j ∧ j ≤ lenT T
instance (T : List (List Int)) (a : Int) (b : Int) (u : Bool) (i : Int) (j : Int) : Decidable (sbP T a b u i j) := by unfold sbP; infer_instance
def sbTm (T : List (List Int)) (a : Int) (b : Int) (u : Bool) (i : Int) (j : Int) : List (Nat × AV Tb) := [(5, (.w (.one (.int .i64 i)))), (6, (.w (.one (.int .i64 j)))), (1, (.w (.one (.fnc 99 [(0, 0), (1, 0)]))))]
def sbS : LpSt sbT Tb where
  ps := []
  tm := fun t => sbTm t.T t.a t.b t.u t.i t.j
  hp := fun t => [⟨60, [.fv (.tab [some .i64, some .i64, some .i64, none] t.T)]⟩, ⟨62, [.int .i64 t.a, .int .i64 t.b, .bool t.u]⟩]
def sbNx (T : List (List Int)) (a : Int) (b : Int) (u : Bool) (i : Int) (j : Int) : Nxt sbT Tb := if i < j then (if ggT b T ≤ (i + j) / 2 then .go ⟨T, a, b, u, i, (i + j) / 2⟩ else .go ⟨T, a, b, u, (i + j) / 2 + 1, j⟩) else .out (.exit 0) [(5, .w (.one (.int .i64 i))), (6, .w (.one (.int .i64 j)))] [⟨60, [.fv (.tab [some .i64, some .i64, some .i64, none] T)]⟩, ⟨62, [.int .i64 a, .int .i64 b, .bool u]⟩]
def sbStep (t : sbT) : Nxt sbT Tb := if sbP t.T t.a t.b t.u t.i t.j then sbNx t.T t.a t.b t.u t.i t.j else .bad
theorem sb_go {T : List (List Int)} {a : Int} {b : Int} {u : Bool} {i : Int} {j : Int} (h : sbP T a b u i j) : sbStep ⟨T, a, b, u, i, j⟩ = sbNx T a b u i j := if_pos h
set_option maxRecDepth 100000 in
set_option maxHeartbeats 4000000 in
theorem sb_round (t : sbT) (hb : (sbStep t).isBad = false) (rest : List (Nat × AV Tb)) : ∃ fuel path r, evC (ctxIn Try.prog tbI (fun _ => false) [] [(99, Try.f99)]) fuel 26 (false :: [false, false, true, true]) (loopAt (bodyOf Try.f97) [false, false, true, true]) (sbS.tm t ++ (ptrN 0 sbS.ps ++ rest)) (numb 0 (sbS.hp t)) 2 path = some r ∧ (∀ p ∈ r.cd, p.1 = p.2) ∧ Gives sbS 2 r (sbStep t) := by
  obtain ⟨T, a, b, u, i, j⟩ := t
  by_cases ok : sbP T a b u i j
  · rw [sb_go ok]
    clear hb
    unfold sbNx
    obtain ⟨h0, ha, hb, h1, h2, h3, h4⟩ := ok
    obtain ⟨hl, hs⟩ := cb_len h0
    rw [i64B_iff] at ha hb
    have eh := mid_h (i := i) (j := j) h1 (by omega) (by omega)
    have e2 : IntKind.i64.wrap ((i + j) / 2 + 1) = (i + j) / 2 + 1 := v64 (by omega) (by omega)
    by_cases hk : i < j
    · have c1 : decide (i < j) = true := decide_eq_true hk
      have c2 : decide (0 ≤ (i + j) / 2) = true := decide_eq_true (by omega)
      have c3 : decide ((i + j) / 2 < lenT T) = true := decide_eq_true (by omega)
      have gi := gg_iff (c := b) hs ((i + j) / 2).toNat (by unfold lenT at *; omega)
      rw [show (((i + j) / 2).toNat : Int) = (i + j) / 2 by omega] at gi
      rw [if_pos hk]
      by_cases hm : ggT b T ≤ (i + j) / 2
      · rw [if_pos hm]
        have c4 : (!decide (cel T ((i + j) / 2) 0 ≥ b)) = false := by rw [show cel T ((i + j) / 2) 0 = bAlt (rwT T ((i + j) / 2)) from rfl, decide_eq_true (by have := gi.2 hm; omega)]; rfl
        have L := sb_10 T a b u i j rest
        rw [eh] at L
        refine round_go L (pickL_ok ?_ _) rfl rfl rfl rfl
        repeat' (first | exact cd_nil | refine cd_cons ?_ ?_)
        all_goals first | rfl | with_reducible assumption
      · rw [if_neg hm]
        have c4 : (!decide (cel T ((i + j) / 2) 0 ≥ b)) = true := by rw [show cel T ((i + j) / 2) 0 = bAlt (rwT T ((i + j) / 2)) from rfl, decide_eq_false (fun hh => hm (gi.1 (by omega)))]; rfl
        have L := sb_11 T a b u i j rest
        rw [eh, e2] at L
        refine round_go L (pickL_ok ?_ _) rfl rfl rfl rfl
        repeat' (first | exact cd_nil | refine cd_cons ?_ ?_)
        all_goals first | rfl | with_reducible assumption
    · have c1 : decide (i < j) = false := decide_eq_false hk
      rw [if_neg hk]
      have L := sbx_0 T a b u i j rest
      refine round_out L rfl (pickL_ok ?_ _) rfl rfl rfl
      repeat' (first | exact cd_nil | refine cd_cons ?_ ?_)
      all_goals first | rfl | with_reducible assumption
  · exfalso
    have : sbStep ⟨T, a, b, u, i, j⟩ = .bad := if_neg ok
    rw [this] at hb; cases hb
theorem sb_runs {T : List (List Int)} {a b : Int} {u : Bool} (h0 : cbE T = 0) (ha : i64B a = true) (hb : i64B b = true) : ∀ (n : Nat) (i j : Int), (j - i).toNat ≤ n → 0 ≤ i → i ≤ ggT b T → ggT b T ≤ j → j ≤ lenT T → ∃ m, runs sbStep m ⟨T, a, b, u, i, j⟩ = some (.exit 0, [(5, .w (.one (.int .i64 (ggT b T)))), (6, .w (.one (.int .i64 (ggT b T))))], [⟨60, [.fv (.tab [some .i64, some .i64, some .i64, none] T)]⟩, ⟨62, [.int .i64 a, .int .i64 b, .bool u]⟩])
  | n, i, j, hn, h1, h2, h3, h4 => by
    by_cases hk : i < j
    · cases n with
      | zero => omega
      | succ n =>
        by_cases hm : ggT b T ≤ (i + j) / 2
        · obtain ⟨m, hc⟩ := sb_runs h0 ha hb n i ((i + j) / 2) (by omega) h1 h2 hm (by omega)
          refine ⟨m + 1, ?_⟩
          rw [runs, sb_go ⟨h0, ha, hb, h1, h2, h3, h4⟩]
          unfold sbNx
          rw [if_pos hk, if_pos hm]
          exact hc
        · obtain ⟨m, hc⟩ := sb_runs h0 ha hb n ((i + j) / 2 + 1) j (by omega) (by omega) (by omega) h3 h4
          refine ⟨m + 1, ?_⟩
          rw [runs, sb_go ⟨h0, ha, hb, h1, h2, h3, h4⟩]
          unfold sbNx
          rw [if_pos hk, if_neg hm]
          exact hc
    · refine ⟨1, ?_⟩
      rw [runs, sb_go ⟨h0, ha, hb, h1, h2, h3, h4⟩]
      unfold sbNx
      rw [if_neg hk, show i = ggT b T by omega, show j = ggT b T by omega]
  termination_by n => n
def sbD : LpDefK sbT Tb where
  ts := [5, 6]
  cl := 1
  fn := 99
  m := 2
  W := [1, 5, 6, 7, 9, 10, 11, 12, 13, 14, 15, 16, 17, 18, 19, 20, 21, 22, 23, 24, 25]
  dec := fun vs ks => match vs, ks with
    | [.w (.one (.int .i64 i)), .w (.one (.int .i64 j))], [⟨60, [.fv (.tab [some .i64, some .i64, some .i64, none] T)]⟩, ⟨62, [.int .i64 a, .int .i64 b, .bool u]⟩] => some ⟨T, a, b, u, i, j⟩
    | _, _ => none
  spec := fun t => some (.exit 0, [(5, .w (.one (.int .i64 (ggT t.b t.T)))), (6, .w (.one (.int .i64 (ggT t.b t.T))))], [⟨60, [.fv (.tab [some .i64, some .i64, some .i64, none] t.T)]⟩, ⟨62, [.int .i64 t.a, .int .i64 t.b, .bool t.u]⟩], [(decide (cbE t.T = 0) && i64B t.a && i64B t.b && decide (t.i = 0) && decide (t.j = lenT t.T), true)])
theorem sbD_ok (x : Code) (hx : codeAt (bodyOf Try.f97) [false, false, true, true] = some (.loop x)) : LpOk Try.prog tbI 26 x (sbD.sp (fun _ => true)) := by
  obtain rfl := loopAt_eq hx
  refine lpK_ok (c := ctxIn Try.prog tbI (fun _ => false) [] [(99, Try.f99)]) (ctxIn_ok (lib1_nil _ _) (eq_none _) (fns_cons Try.func99 rfl Try.call99 (fns_nil _))) (by kernel_rfl) hx lps_nil (S := sbS) (step := sbStep) (fun _ _ => rfl) (by kernel_rfl) (by kernel_rfl) ?_ rfl (fun t e he => ?_) (fun t hb rest => sb_round t hb rest) ?_
  · intro vs ks s hv1 h hv2
    simp only [sbD] at h
    split at h
    · cases h
      refine ⟨rfl, fun e he => ?_⟩
      simp only [sbS, sbTm, List.mem_cons, List.not_mem_nil, or_false] at he
      rcases he with rfl | rfl | rfl
      · exact .inl (List.mem_of_getElem? (i := 0) rfl)
      · exact .inl (List.mem_of_getElem? (i := 1) rfl)
      · exact .inr rfl
    · cases h
  · simp only [sbS, sbTm, List.mem_cons, List.not_mem_nil, or_false] at he
    rcases he with rfl | rfl | rfl <;> rfl
  · intro s ex outs wb cd h hc
    obtain ⟨T, a, b, u, i, j⟩ := s
    simp only [sbD] at h
    cases h
    have := c1' hc
    simp only [Bool.and_eq_true, decide_eq_true_eq] at this
    obtain ⟨⟨⟨⟨h0, h1⟩, h2⟩, rfl⟩, rfl⟩ := this
    have g := gg_in b T
    exact sb_runs h0 h1 h2 _ 0 (lenT T) (Nat.le_refl _) (by omega) g.1 g.2 (Int.le_refl _)
set_option maxRecDepth 100000 in
theorem rl_1 (T : List (List Int)) (n : Int) (i : Int) (x : Int) (y : Int) (u : Bool) (rest : List (Nat × AV Tb)) : evView (ctxOf Try.prog tbI (fun _ => false) libJ1) 61 (false :: [false, true, false, true, true, true, true, true, true]) (loopAt (bodyOf Try.f34) [false, true, false, true, true, true, true, true, true]) ([(47, (.w (.one (.fv (.tab [some .i64, some .i64, some .i64, none] T))))), (48, (.w (.one (.int .i64 n)))), (49, (.w (.one (.int .i64 i))))] ++ (ptrN 0 [7] ++ rest)) [⟨62, [.int .i64 x, .int .i64 y, .bool u]⟩] 1 [47, 48, 49, 7] [true] = some ((Ex.normal, [AV.w (AW.one (AC.fv (Tb.tab [some IntKind.i64, some IntKind.i64, some IntKind.i64, none] T))), AV.w (AW.one (AC.int IntKind.i64 n)), AV.w (AW.one (AC.int IntKind.i64 (IntKind.i64.wrap (i + 1)))), AV.w (AW.one (AC.ptr 0 0))], [{ ty := 62, cs := [AC.int IntKind.i64 (hullB { lo := x, hi := y, u := u } { lo := cel T i 1, hi := cel T i 2, u := decide (cel T i 3 = 1) }).lo, AC.int IntKind.i64 (hullB { lo := x, hi := y, u := u } { lo := cel T i 1, hi := cel T i 2, u := decide (cel T i 3 = 1) }).hi, AC.bool (hullB { lo := x, hi := y, u := u } { lo := cel T i 1, hi := cel T i 2, u := decide (cel T i 3 = 1) }).u] }]), (pickL [(decide (i < n), true), (decide (0 ≤ i), true), (decide (i < lenT T), true)] [0, 1, 2, 1, 2])) := by kernel_rfl
set_option maxRecDepth 100000 in
theorem rl_0 (T : List (List Int)) (n : Int) (i : Int) (x : Int) (y : Int) (u : Bool) (rest : List (Nat × AV Tb)) : evView (ctxOf Try.prog tbI (fun _ => false) libJ1) 61 (false :: [false, true, false, true, true, true, true, true, true]) (loopAt (bodyOf Try.f34) [false, true, false, true, true, true, true, true, true]) ([(47, (.w (.one (.fv (.tab [some .i64, some .i64, some .i64, none] T))))), (48, (.w (.one (.int .i64 n)))), (49, (.w (.one (.int .i64 i))))] ++ (ptrN 0 [7] ++ rest)) [⟨62, [.int .i64 x, .int .i64 y, .bool u]⟩] 1 [47, 48, 49, 7] [false] = some ((Ex.exit 0, [AV.w (AW.one (AC.fv (Tb.tab [some IntKind.i64, some IntKind.i64, some IntKind.i64, none] T))), AV.w (AW.one (AC.int IntKind.i64 n)), AV.w (AW.one (AC.int IntKind.i64 i)), AV.w (AW.one (AC.ptr 0 0))], [{ ty := 62, cs := [AC.int IntKind.i64 x, AC.int IntKind.i64 y, AC.bool u] }]), (pickL [(decide (i < n), false)] [0])) := by kernel_rfl
structure rlT where
  T : List (List Int)
  n : Int
  i : Int
  x : Int
  y : Int
  u : Bool
def rlP (T : List (List Int)) (n : Int) (i : Int) (x : Int) (y : Int) (u : Bool) : Prop := 0 ≤ i ∧ i ≤ n ∧ n = lenT T ∧ n ≤ 64
instance (T : List (List Int)) (n : Int) (i : Int) (x : Int) (y : Int) (u : Bool) : Decidable (rlP T n i x y u) := by unfold rlP; infer_instance
def rlTm (T : List (List Int)) (n : Int) (i : Int) (x : Int) (y : Int) (u : Bool) : List (Nat × AV Tb) := [(47, (.w (.one (.fv (.tab [some .i64, some .i64, some .i64, none] T))))), (48, (.w (.one (.int .i64 n)))), (49, (.w (.one (.int .i64 i))))]
def rlS : LpSt rlT Tb where
  ps := [7]
  tm := fun t => rlTm t.T t.n t.i t.x t.y t.u
  hp := fun t => [⟨62, [.int .i64 t.x, .int .i64 t.y, .bool t.u]⟩]
def rlNx (T : List (List Int)) (n : Int) (i : Int) (x : Int) (y : Int) (u : Bool) : Nxt rlT Tb := if i < n then .go ⟨T, n, i + 1, (hullB ⟨x, y, u⟩ (bLift (rwT T i))).lo, (hullB ⟨x, y, u⟩ (bLift (rwT T i))).hi, (hullB ⟨x, y, u⟩ (bLift (rwT T i))).u⟩ else .out (.exit 0) (rlTm T n i x y u) [⟨62, [.int .i64 x, .int .i64 y, .bool u]⟩]
def rlStep (t : rlT) : Nxt rlT Tb := if rlP t.T t.n t.i t.x t.y t.u then rlNx t.T t.n t.i t.x t.y t.u else .bad
theorem rl_go {T : List (List Int)} {n : Int} {i : Int} {x : Int} {y : Int} {u : Bool} (h : rlP T n i x y u) : rlStep ⟨T, n, i, x, y, u⟩ = rlNx T n i x y u := if_pos h
set_option maxRecDepth 100000 in
set_option maxHeartbeats 4000000 in
theorem rl_round (t : rlT) (hb : (rlStep t).isBad = false) (rest : List (Nat × AV Tb)) : ∃ fuel path r, evC (ctxOf Try.prog tbI (fun _ => false) libJ1) fuel 61 (false :: [false, true, false, true, true, true, true, true, true]) (loopAt (bodyOf Try.f34) [false, true, false, true, true, true, true, true, true]) (rlS.tm t ++ (ptrN 0 rlS.ps ++ rest)) (numb 0 (rlS.hp t)) 1 path = some r ∧ (∀ p ∈ r.cd, p.1 = p.2) ∧ Gives rlS 1 r (rlStep t) := by
  obtain ⟨T, n, i, x, y, u⟩ := t
  by_cases ok : rlP T n i x y u
  · rw [rl_go ok]
    clear hb
    unfold rlNx
    obtain ⟨h1, h2, rfl, h4⟩ := ok
    have e0 : decide (0 ≤ i) = true := decide_eq_true h1
    by_cases hk : i < lenT T
    · have c0 : decide (i < lenT T) = true := decide_eq_true hk
      have e1 : IntKind.i64.wrap (i + 1) = i + 1 := v64 (by omega) (by omega)
      rw [if_pos hk]
      have L := rl_1 T (lenT T) i x y u rest
      rw [e1] at L
      refine round_go L (pickL_ok ?_ _) rfl rfl rfl rfl
      repeat' (first | exact cd_nil | refine cd_cons ?_ ?_)
      all_goals first | rfl | with_reducible assumption
    · have c0 : decide (i < lenT T) = false := decide_eq_false hk
      rw [if_neg hk]
      have L := rl_0 T (lenT T) i x y u rest
      refine round_out L rfl (pickL_ok ?_ _) rfl rfl rfl
      repeat' (first | exact cd_nil | refine cd_cons ?_ ?_)
      all_goals first | rfl | with_reducible assumption
  · exfalso
    have : rlStep ⟨T, n, i, x, y, u⟩ = .bad := if_neg ok
    rw [this] at hb; cases hb
theorem rl_runs {T : List (List Int)} (h : lenT T ≤ 64) : ∀ (j i : Nat) (b : Bd), i + j = T.length → ∃ c, runs rlStep c ⟨T, lenT T, i, b.lo, b.hi, b.u⟩ = some (.exit 0, rlTm T (lenT T) (lenT T) b.lo b.hi b.u, [⟨62, [.int .i64 (hlF b (T.drop i)).lo, .int .i64 (hlF b (T.drop i)).hi, .bool (hlF b (T.drop i)).u]⟩])
  | 0, i, b, hi => by
    have e : (i : Int) = lenT T := by unfold lenT; omega
    refine ⟨1, ?_⟩
    rw [runs, rl_go ⟨by omega, by omega, rfl, h⟩]
    unfold rlNx
    rw [if_neg (by omega), List.drop_eq_nil_of_le (by omega), e]
    rfl
  | j + 1, i, b, hi => by
    have hl : (i : Int) < lenT T := by unfold lenT; omega
    have d := drop_rw (T := T) (i := i) (by omega)
    obtain ⟨c, hc⟩ := rl_runs h j (i + 1) (hullB b (bLift (rwT T i))) (by omega)
    refine ⟨c + 1, ?_⟩
    rw [runs, rl_go ⟨by omega, by omega, rfl, h⟩]
    unfold rlNx
    rw [if_pos hl, d]
    exact hc
def rlD : LpDef rlT Tb where
  ts := [47, 48, 49]
  ps := [7]
  W := [7, 9, 47, 48, 49, 50, 51, 52, 53, 54, 55, 56, 57]
  dec := fun vs ks => match vs, ks with
    | [.w (.one (.fv (.tab [some .i64, some .i64, some .i64, none] T))), .w (.one (.int .i64 n)), .w (.one (.int .i64 i))], [⟨62, [.int .i64 x, .int .i64 y, .bool u]⟩] => some ⟨T, n, i, x, y, u⟩
    | _, _ => none
  spec := fun t => some (.exit 0, rlTm t.T t.n t.n t.x t.y t.u, [⟨62, [.int .i64 (hlF ⟨t.x, t.y, t.u⟩ t.T).lo, .int .i64 (hlF ⟨t.x, t.y, t.u⟩ t.T).hi, .bool (hlF ⟨t.x, t.y, t.u⟩ t.T).u]⟩], [(decide (t.i = 0) && decide (t.n = lenT t.T) && decide (t.n ≤ 64), true)])
theorem rlD_ok (x : Code) (hx : codeAt (bodyOf Try.f34) [false, true, false, true, true, true, true, true, true] = some (.loop x)) : LpOk Try.prog tbI 61 x (rlD.sp (fun _ => true)) := by
  obtain rfl := loopAt_eq hx
  refine lp_ok (c := ctxOf Try.prog tbI (fun _ => false) libJ1) (ctxOf_ok libJ1_ok (eq_none _)) (by kernel_rfl) hx lps_nil (S := rlS) (step := rlStep) (fun _ _ => rfl) (by kernel_rfl) (by kernel_rfl) ?_ rfl (fun t e he => ?_) (fun t hb rest => rl_round t hb rest) ?_
  · intro vs ks s hv1 h hv2
    simp only [rlD] at h
    split at h
    · cases h
      exact ⟨rfl, fun e he => he⟩
    · cases h
  · simp only [rlS, rlTm, List.mem_cons, List.not_mem_nil, or_false] at he
    rcases he with rfl | rfl | rfl <;> rfl
  · intro s ex outs wb cd h hc
    obtain ⟨T, n, i, x, y, u⟩ := s
    simp only [rlD] at h
    cases h
    have := c1' hc
    simp only [Bool.and_eq_true, decide_eq_true_eq] at this
    obtain ⟨⟨rfl, rfl⟩, h3⟩ := this
    obtain ⟨c, hc⟩ := rl_runs h3 T.length 0 ⟨x, y, u⟩ (by omega)
    exact ⟨c, hc⟩
end
end Go.Proofs.Ytagbpehfieejcaa.AtHz

