/-
  Package prop: what names, proposals and requests lack: definitions, and the loops over a name's bytes.
  Conditions: those of each theorem.
-/
import Derived.Test.YtbnlpcmnkcaemaaDoorPN
set_option linter.unusedVariables false
set_option linter.unusedSimpArgs false
namespace Go.Proofs.YtbnlpcmnkcaemaaDoor.AtPr
open Go.RowKit Ev Wd AtRt AtHz
open Go.Proofs.YtbnlpcmnkcaemaaDoor
variable {F : Type}
noncomputable section

def okc (c : Int) : Bool := inR c 97 122 || (inR c 48 57 || c == 45)
def okd (_ c : Int) : Bool := okc c
def okn (i c : Int) : Bool := inR c 97 122 || ((inR c 48 57 || c == 45) && decide (0 < i))
/-- A string's bytes from i on, j of them. -/
def strAll (q : Int → Int → Bool) (s : ByteArray) : Nat → Nat → Bool
  | 0, _ => true
  | j + 1, i => q i (sAt s i) && strAll q s j (i + 1)
/-- A name. -/
def nmB (s : ByteArray) : Bool := inR (sLen s) 1 12 && (inR (sAt s 0) 97 122 && strAll okd s s.size 0)
def prE (s : ByteArray) (h : Int) : Int := if nmB s = true then (if inR h 1 100 = true then 0 else 4) else 6
def rq (l : List Int) (o : Nat) : Int := l.getD o 0
/-- The error of a request. -/
def rqE (l : List Int) : Int :=
  if inR (rq l 0) 1 999999 = true then (if vE ⟨rq l 2, rq l 3, rq l 4⟩ = 0 then (if (inR (rq l 5) 1 8 && inR (rq l 6) 1 4) = true then (if rq l 6 = 1 ∧ (rq l 7 ≠ 0 ∨ rq l 8 ≠ 0) then 3 else
    if 1 < rq l 6 ∧ ¬ (inR (rq l 7) 1 64 && inR (rq l 8) (rq l 7) 64) = true then 4 else
    if (inR (rq l 9) (-1073741824) 1073741824 && (inR (rq l 10) (-1073741824) 1073741824 && (inR (rq l 11) 0 4 && inR (rq l 12) 1 100))) = true then 0 else 4) else 4) else 3) else 4
def dPr : Dec F (ByteArray × Int) where
  dec := fun x => match x with
    | .w (.agg [.lit (.string s), .int .i64 h]) => some (s, h)
    | _ => none
  enc := fun p => .agg #[.string p.1, .int .i64 p.2]
  ok := fun x a h => by
    split at h
    · cases h; rfl
    · cases h
def dRq : Dec F (List Int) where
  dec := fun x => match x with
    | .w (.agg [.int .i64 q0, .int .i64 q1, .int .i64 q2, .int .i64 q3, .int .i64 q4, .int .i64 q5, .int .i64 q6, .int .i64 q7, .int .i64 q8, .int .i64 q9, .int .i64 q10, .int .i64 q11, .int .i64 q12]) => some [q0, q1, q2, q3, q4, q5, q6, q7, q8, q9, q10, q11, q12]
    | _ => none
  enc := fun l => .agg #[.int .i64 (rq l 0), .int .i64 (rq l 1), .int .i64 (rq l 2), .int .i64 (rq l 3), .int .i64 (rq l 4), .int .i64 (rq l 5), .int .i64 (rq l 6), .int .i64 (rq l 7), .int .i64 (rq l 8), .int .i64 (rq l 9), .int .i64 (rq l 10), .int .i64 (rq l 11), .int .i64 (rq l 12)]
  ok := fun x a h => by
    split at h
    · cases h; rfl
    · cases h
abbrev letS : FnSp F := sp1 (dInt .u8) (fun c => aBool (inR c 97 122)) (fun _ => [])
abbrev digS : FnSp F := sp1 (dInt .u8) (fun c => aBool (inR c 48 57)) (fun _ => [])
abbrev wubS : FnSp F := sp3 (dInt .u8) (dInt .u8) (dInt .u8) (fun x lo hi => aBool (inR x lo hi)) (fun _ _ _ => [])
abbrev namS : FnSp F := sp1 dStr (fun s => aBool (nmB s)) (fun _ => [])
abbrev prS : FnSp F := sp1 dPr (fun p => aInt .i64 (prE p.1 p.2)) (fun _ => [])
abbrev rqS : FnSp F := sp1 dRq (fun l => aInt .i64 (rqE l)) (fun _ => [])
theorem ca1p {b : Bool} (h : ∀ p ∈ [(b, true)], p.1 = p.2) : b = true := h (b, true) (by simp)
set_option maxRecDepth 100000 in
theorem wub_1 (x : Int) (lo : Int) (hi : Int) : evR (ctxOf Tryd.prog noFacts (fun _ => false) []) Tryd.f69 [(.w (.one (.int .u8 x))), (.w (.one (.int .u8 lo))), (.w (.one (.int .u8 hi)))] [true] = some (AV.w (AW.one (AC.bool (decide (x ≤ hi)))), (pickL [(decide (lo ≤ x), true)] [0, 0, 0, 0])) := by kernel_rfl
set_option maxRecDepth 100000 in
theorem wub_0 (x : Int) (lo : Int) (hi : Int) : evR (ctxOf Tryd.prog noFacts (fun _ => false) []) Tryd.f69 [(.w (.one (.int .u8 x))), (.w (.one (.int .u8 lo))), (.w (.one (.int .u8 hi)))] [false] = some (AV.w (AW.one (AC.yes false)), (pickL [(decide (lo ≤ x), false)] [0, 0, 0, 0])) := by kernel_rfl
theorem wub_pl (x : Int) (lo : Int) (hi : Int)  : Pl Tryd.prog 69 [.int .u8 x, .int .u8 lo, .int .u8 hi] (.bool (inR x lo hi)) := fun w => by
  cases k0 : (decide (lo ≤ x)) with
  | true =>
    have V : (inR x lo hi) = ((decide (x ≤ hi))) := by
      unfold inR
      rw [k0]
      rfl
    rw [V]
    refine evR_calls (I := noFacts) (v := .bool ((decide (x ≤ hi)))) (ctxOf_ok (lib1_nil _ _) (eq_none _)) (by kernel_rfl) Tryd.func69 rfl lps_nil (wub_1 x lo hi) rfl (all2_R (.cons rfl (.cons rfl (.cons rfl .nil)))) rfl w (Nat.zero_le _) (pickL_ok ?_ _)
    repeat' (first | exact cd_nil | refine cd_cons ?_ ?_)
    all_goals first | rfl | with_reducible assumption

  | false =>
    have V : (inR x lo hi) = (false) := by
      unfold inR
      rw [k0]
      rfl
    rw [V]
    refine evR_calls (I := noFacts) (v := .bool (false)) (ctxOf_ok (lib1_nil _ _) (eq_none _)) (by kernel_rfl) Tryd.func69 rfl lps_nil (wub_0 x lo hi) rfl (all2_R (.cons rfl (.cons rfl (.cons rfl .nil)))) rfl w (Nat.zero_le _) (pickL_ok ?_ _)
    repeat' (first | exact cd_nil | refine cd_cons ?_ ?_)
    all_goals first | rfl | with_reducible assumption
noncomputable abbrev libC0 : List (Nat × FnSp Empty) := [(69, wubS)]
theorem libC0_ok : LibOk Tryd.prog noFacts (lib1 libC0) := (lib1_cons (sp3_ok fun x lo hi _ => ⟨_, rfl, wub_pl x lo hi⟩) Tryd.call69 (lib1_nil _ _))
set_option maxRecDepth 100000 in
theorem let_ (c : Int) : evR (ctxOf Tryd.prog noFacts (fun _ => false) libC0) Tryd.f38 [(.w (.one (.int .u8 c)))] [] = some (AV.w (AW.one (AC.bool (inR c 97 122))), (pickL [] [])) := by kernel_rfl
theorem let_pl (c : Int)  : Pl Tryd.prog 38 [.int .u8 c] (.bool (inR c 97 122)) := fun w => by
  have V : (inR c 97 122) = ((inR c 97 122)) := by
    rfl
  rw [V]
  refine evR_calls (I := noFacts) (v := .bool ((inR c 97 122))) (ctxOf_ok libC0_ok (eq_none _)) (by kernel_rfl) Tryd.func38 rfl lps_nil (let_ c) rfl (all2_R (.cons rfl .nil)) rfl w (Nat.zero_le _) (pickL_ok ?_ _)
  repeat' (first | exact cd_nil | refine cd_cons ?_ ?_)
  all_goals first | rfl | with_reducible assumption
set_option maxRecDepth 100000 in
theorem dig_ (c : Int) : evR (ctxOf Tryd.prog noFacts (fun _ => false) libC0) Tryd.f39 [(.w (.one (.int .u8 c)))] [] = some (AV.w (AW.one (AC.bool (inR c 48 57))), (pickL [] [])) := by kernel_rfl
theorem dig_pl (c : Int)  : Pl Tryd.prog 39 [.int .u8 c] (.bool (inR c 48 57)) := fun w => by
  have V : (inR c 48 57) = ((inR c 48 57)) := by
    rfl
  rw [V]
  refine evR_calls (I := noFacts) (v := .bool ((inR c 48 57))) (ctxOf_ok libC0_ok (eq_none _)) (by kernel_rfl) Tryd.func39 rfl lps_nil (dig_ c) rfl (all2_R (.cons rfl .nil)) rfl w (Nat.zero_le _) (pickL_ok ?_ _)
  repeat' (first | exact cd_nil | refine cd_cons ?_ ?_)
  all_goals first | rfl | with_reducible assumption
noncomputable abbrev libC1 : List (Nat × FnSp Empty) := [(38, letS), (39, digS), (37, inRS)]
theorem libC1_ok : LibOk Tryd.prog noFacts (lib1 libC1) := (lib1_cons (sp1_ok fun c _ => ⟨_, rfl, let_pl c⟩) Tryd.call38 (lib1_cons (sp1_ok fun c _ => ⟨_, rfl, dig_pl c⟩) Tryd.call39 (lib1_cons (sp3_ok fun x lo hi _ => ⟨_, rfl, wi1_pl x lo hi⟩) Tryd.call37 (lib1_nil _ _))))
set_option maxRecDepth 100000 in
theorem na_1110 (s : ByteArray) (n : Int) (i : Int) (rest : List (Nat × AV Empty)) : evView (ctxOf Tryd.prog noFacts (fun _ => false) libC1) 36 (false :: [false, true, false, true, true]) (loopAt (bodyOf Tryd.f9) [false, true, false, true, true]) ([(0, (.w (.one (.lit (.string s))))), (16, (.w (.one (.int .i64 n)))), (17, (.w (.one (.int .i64 i))))] ++ (ptrN 0 [] ++ rest)) [] 0 [0, 16, 17] [true, true, true, false] = some ((Ex.normal, [AV.w (AW.one (AC.lit (Value.string s))), AV.w (AW.one (AC.int IntKind.i64 n)), AV.w (AW.one (AC.int IntKind.i64 (IntKind.i64.wrap (i + 1))))], []), (pickL [(decide (i < n), true), (decide ((0 : Int) ≤ i), true), (decide (i < sLen s), true), (!inR (sAt s i) 97 122, true), (!inR (sAt s i) 48 57, true), (sAt s i != 45, false)] [0, 1, 2, 3, 3, 3, 3, 4, 4, 4, 5])) := by kernel_rfl
set_option maxRecDepth 100000 in
theorem na_110 (s : ByteArray) (n : Int) (i : Int) (rest : List (Nat × AV Empty)) : evView (ctxOf Tryd.prog noFacts (fun _ => false) libC1) 36 (false :: [false, true, false, true, true]) (loopAt (bodyOf Tryd.f9) [false, true, false, true, true]) ([(0, (.w (.one (.lit (.string s))))), (16, (.w (.one (.int .i64 n)))), (17, (.w (.one (.int .i64 i))))] ++ (ptrN 0 [] ++ rest)) [] 0 [0, 16, 17] [true, true, false] = some ((Ex.normal, [AV.w (AW.one (AC.lit (Value.string s))), AV.w (AW.one (AC.int IntKind.i64 n)), AV.w (AW.one (AC.int IntKind.i64 (IntKind.i64.wrap (i + 1))))], []), (pickL [(decide (i < n), true), (decide ((0 : Int) ≤ i), true), (decide (i < sLen s), true), (!inR (sAt s i) 97 122, true), (!inR (sAt s i) 48 57, false), (false, false)] [0, 1, 2, 3, 3, 3, 3, 4, 4, 4, 5])) := by kernel_rfl
set_option maxRecDepth 100000 in
theorem na_10 (s : ByteArray) (n : Int) (i : Int) (rest : List (Nat × AV Empty)) : evView (ctxOf Tryd.prog noFacts (fun _ => false) libC1) 36 (false :: [false, true, false, true, true]) (loopAt (bodyOf Tryd.f9) [false, true, false, true, true]) ([(0, (.w (.one (.lit (.string s))))), (16, (.w (.one (.int .i64 n)))), (17, (.w (.one (.int .i64 i))))] ++ (ptrN 0 [] ++ rest)) [] 0 [0, 16, 17] [true, false] = some ((Ex.normal, [AV.w (AW.one (AC.lit (Value.string s))), AV.w (AW.one (AC.int IntKind.i64 n)), AV.w (AW.one (AC.int IntKind.i64 (IntKind.i64.wrap (i + 1))))], []), (pickL [(decide (i < n), true), (decide ((0 : Int) ≤ i), true), (decide (i < sLen s), true), (!inR (sAt s i) 97 122, false), (false, false)] [0, 1, 2, 3, 3, 3, 3, 4, 4, 4, 4])) := by kernel_rfl
set_option maxRecDepth 100000 in
theorem na_0 (s : ByteArray) (n : Int) (i : Int) (rest : List (Nat × AV Empty)) : evView (ctxOf Tryd.prog noFacts (fun _ => false) libC1) 36 (false :: [false, true, false, true, true]) (loopAt (bodyOf Tryd.f9) [false, true, false, true, true]) ([(0, (.w (.one (.lit (.string s))))), (16, (.w (.one (.int .i64 n)))), (17, (.w (.one (.int .i64 i))))] ++ (ptrN 0 [] ++ rest)) [] 0 [0, 16, 17] [false] = some ((Ex.exit 0, [AV.w (AW.one (AC.lit (Value.string s))), AV.w (AW.one (AC.int IntKind.i64 n)), AV.w (AW.one (AC.int IntKind.i64 i))], []), (pickL [(decide (i < n), false)] [0])) := by kernel_rfl
set_option maxRecDepth 100000 in
theorem nar_1111 (s : ByteArray) (n : Int) (i : Int) (rest : List (Nat × AV Empty)) : evView (ctxOf Tryd.prog noFacts (fun _ => false) libC1) 36 (false :: [false, true, false, true, true]) (loopAt (bodyOf Tryd.f9) [false, true, false, true, true]) ([(0, (.w (.one (.lit (.string s))))), (16, (.w (.one (.int .i64 n)))), (17, (.w (.one (.int .i64 i))))] ++ (ptrN 0 [] ++ rest)) [] 0 [2] [true, true, true, true] = some ((Ex.ret, [AV.w (AW.one (AC.yes false))], []), (pickL [(decide (i < n), true), (decide ((0 : Int) ≤ i), true), (decide (i < sLen s), true), (!inR (sAt s i) 97 122, true), (!inR (sAt s i) 48 57, true), (sAt s i != 45, true)] [0, 1, 2, 3, 3, 3, 3, 4, 4, 4, 5])) := by kernel_rfl
structure naT where
  s : ByteArray
  n : Int
  i : Int
def naP (s : ByteArray) (n : Int) (i : Int) : Prop := 0 ≤ i ∧ i ≤ sLen s ∧ n = sLen s ∧ sLen s ≤ 9223372036854775807
instance (s : ByteArray) (n : Int) (i : Int) : Decidable (naP s n i) := by unfold naP; infer_instance
def naTm (s : ByteArray) (n : Int) (i : Int) : List (Nat × AV Empty) := [(0, (.w (.one (.lit (.string s))))), (16, (.w (.one (.int .i64 n)))), (17, (.w (.one (.int .i64 i))))]
def naS : LpSt naT Empty where
  ps := []
  tm := fun t => naTm t.s t.n t.i
  hp := fun t => []
def naNx (s : ByteArray) (n : Int) (i : Int) : Nxt naT Empty := if i < sLen s then (if (okd) i (sAt s i) = true then .go ⟨s, n, i + 1⟩ else .out .ret [(2, .w (.one (.yes false)))] []) else .out (.exit 0) (naTm s n i) []
def naStep (t : naT) : Nxt naT Empty := if naP t.s t.n t.i then naNx t.s t.n t.i else .bad
theorem na_go {s : ByteArray} {n : Int} {i : Int} (h : naP s n i) : naStep ⟨s, n, i⟩ = naNx s n i := if_pos h
set_option maxRecDepth 100000 in
set_option maxHeartbeats 4000000 in
theorem na_round (t : naT) (hb : (naStep t).isBad = false) (rest : List (Nat × AV Empty)) : ∃ fuel path r, evC (ctxOf Tryd.prog noFacts (fun _ => false) libC1) fuel 36 (false :: [false, true, false, true, true]) (loopAt (bodyOf Tryd.f9) [false, true, false, true, true]) (naS.tm t ++ (ptrN 0 naS.ps ++ rest)) (numb 0 (naS.hp t)) 0 path = some r ∧ (∀ p ∈ r.cd, p.1 = p.2) ∧ Gives naS 0 r (naStep t) := by
  obtain ⟨s, n, i⟩ := t
  by_cases ok : naP s n i
  · rw [na_go ok]
    clear hb
    unfold naNx
    obtain ⟨h1, h2, rfl, h4⟩ := ok
    have e0 : decide (0 ≤ i) = true := decide_eq_true h1
    have e1 : i < sLen s → IntKind.i64.wrap (i + 1) = i + 1 := fun _ => v64p (by omega) (by omega)
    cases k0 : (decide (i < sLen s)) with
    | true =>
      cases k1 : (!inR (sAt s i) 97 122) with
      | true =>
        cases k2 : (!inR (sAt s i) 48 57) with
        | true =>
          cases k3 : (sAt s i != 45) with
          | true =>
            have hE : ¬ (okd) i (sAt s i) = true := by
              clear e1
              unfold okd okc
              simp_all
            rw [if_pos (of_decide_eq_true k0), if_neg hE]
            have L := nar_1111 s (sLen s) i rest
            refine round_out L rfl (pickL_ok ?_ _) rfl rfl rfl
            repeat' (first | exact cd_nil | refine cd_cons ?_ ?_)
            all_goals first | rfl | with_reducible assumption
          | false =>
            have hE : (okd) i (sAt s i) = true := by
              clear e1
              unfold okd okc
              simp_all
            rw [if_pos (of_decide_eq_true k0), if_pos hE]
            have L := na_1110 s (sLen s) i rest
            rw [e1 (of_decide_eq_true k0)] at L
            refine round_go L (pickL_ok ?_ _) rfl rfl rfl rfl
            repeat' (first | exact cd_nil | refine cd_cons ?_ ?_)
            all_goals first | rfl | with_reducible assumption
        | false =>
          have hE : (okd) i (sAt s i) = true := by
            clear e1
            unfold okd okc
            simp_all
          rw [if_pos (of_decide_eq_true k0), if_pos hE]
          have L := na_110 s (sLen s) i rest
          rw [e1 (of_decide_eq_true k0)] at L
          refine round_go L (pickL_ok ?_ _) rfl rfl rfl rfl
          repeat' (first | exact cd_nil | refine cd_cons ?_ ?_)
          all_goals first | rfl | with_reducible assumption
      | false =>
        have hE : (okd) i (sAt s i) = true := by
          clear e1
          unfold okd okc
          simp_all
        rw [if_pos (of_decide_eq_true k0), if_pos hE]
        have L := na_10 s (sLen s) i rest
        rw [e1 (of_decide_eq_true k0)] at L
        refine round_go L (pickL_ok ?_ _) rfl rfl rfl rfl
        repeat' (first | exact cd_nil | refine cd_cons ?_ ?_)
        all_goals first | rfl | with_reducible assumption
    | false =>
      rw [if_neg (of_decide_eq_false k0)]
      have L := na_0 s (sLen s) i rest
      refine round_out L rfl (pickL_ok ?_ _) rfl rfl rfl
      repeat' (first | exact cd_nil | refine cd_cons ?_ ?_)
      all_goals first | rfl | with_reducible assumption
  · exfalso
    have : naStep ⟨s, n, i⟩ = .bad := if_neg ok
    rw [this] at hb; cases hb
theorem na_runs {s : ByteArray} (h : sLen s ≤ 9223372036854775807) : ∀ (j i : Nat), i + j = s.size → ∃ c, runs naStep c ⟨s, sLen s, i⟩ = (if strAll (okd) s j i = true then some (.exit 0, naTm s (sLen s) (sLen s), []) else some (.ret, [(2, .w (.one (.yes false)))], []))
  | 0, i, hi => by
    have e : (i : Int) = sLen s := by unfold sLen; omega
    refine ⟨1, ?_⟩
    rw [runs, na_go ⟨by omega, by omega, rfl, h⟩]
    unfold naNx
    rw [if_neg (by omega), e]
    rfl
  | j + 1, i, hi => by
    have hl : (i : Int) < sLen s := by unfold sLen; omega
    by_cases g : (okd) i (sAt s i) = true
    · obtain ⟨c, hc⟩ := na_runs h j (i + 1) (by omega)
      refine ⟨c + 1, ?_⟩
      rw [runs, na_go ⟨by omega, by omega, rfl, h⟩]
      unfold naNx
      rw [if_pos hl, if_pos g, strAll, g, Bool.true_and]
      exact hc
    · refine ⟨1, ?_⟩
      rw [runs, na_go ⟨by omega, by omega, rfl, h⟩]
      unfold naNx
      rw [if_pos hl, if_neg g, strAll]
      simp only [g, Bool.false_and, Bool.false_eq_true, if_false]
def naD : LpDefR naT Empty where
  ts := [0, 16, 17]
  ps := []
  rs := []
  W := [0, 2, 3, 4, 16, 17, 18, 19, 20, 21, 22, 23, 24, 25, 26, 27, 28, 29, 30, 31, 32, 33, 34, 35]
  dec := fun vs tr ks => match vs, tr, ks with
    | [.w (.one (.lit (.string s))), .w (.one (.int .i64 n)), .w (.one (.int .i64 i))], [], [] => some ⟨s, n, i⟩
    | _, _, _ => none
  fk := fun t => some (strAll (okd) t.s t.s.size 0)
  spec := fun t β => match β with
    | true => some (.exit 0, naTm t.s (sLen t.s) (sLen t.s), [], [], [(decide (t.i = 0) && decide (t.n = sLen t.s) && decide (sLen t.s ≤ 9223372036854775807), true)])
    | false => some (.ret, [(2, .w (.one (.yes false)))], [], [], [(decide (t.i = 0) && decide (t.n = sLen t.s) && decide (sLen t.s ≤ 9223372036854775807), true)])
theorem naD_ok (x : Code) (hx : codeAt (bodyOf Tryd.f9) [false, true, false, true, true] = some (.loop x)) : LpOk Tryd.prog noFacts 36 x (naD.sp (fun _ => false)) := by
  obtain rfl := loopAt_eq hx
  refine lpR_ok (c := ctxOf Tryd.prog noFacts (fun _ => false) libC1) (ctxOf_ok libC1_ok (eq_none _)) (by kernel_rfl) (fun f _ _ _ => nomatch f) hx lps_nil (S := naS) (step := naStep) (fun _ h => by cases h) (by kernel_rfl) (by kernel_rfl) ?_ rfl (fun t e he => ?_) (fun t hb rest => na_round t hb rest) ?_
  · intro vs tr ks s hv1 hv2 h hv3
    simp only [naD] at h
    split at h
    · cases h
      exact ⟨rfl, fun e he => .inl he⟩
    · cases h
  · simp only [naS, naTm, List.mem_cons, List.not_mem_nil, or_false] at he
    rcases he with rfl | rfl | rfl <;> rfl
  · intro s β ex outs rts wb cd h hfk hc
    obtain ⟨s, n, i⟩ := s
    have hβ := hfk _ rfl
    cases β with
    | true =>
      simp only [naD] at h hβ
      cases h
      have := c1x hc
      simp only [Bool.and_eq_true, decide_eq_true_eq] at this
      obtain ⟨⟨rfl, rfl⟩, h3⟩ := this
      obtain ⟨c, hc⟩ := na_runs h3 s.size 0 (by omega)
      refine ⟨c, ?_⟩
      rw [if_pos hβ] at hc
      exact hc
    | false =>
      simp only [naD] at h hβ
      cases h
      have := c1x hc
      simp only [Bool.and_eq_true, decide_eq_true_eq] at this
      obtain ⟨⟨rfl, rfl⟩, h3⟩ := this
      obtain ⟨c, hc⟩ := na_runs h3 s.size 0 (by omega)
      refine ⟨c, ?_⟩
      rw [if_neg (by rw [hβ]; simp)] at hc
      exact hc
set_option maxRecDepth 100000 in
theorem nb_111110 (s : ByteArray) (i : Int) (rest : List (Nat × AV Empty)) : evView (ctxOf Tryd.prog noFacts (fun _ => false) []) 56 (false :: [false, true, false, true, true]) (loopAt (bodyOf Tryd.f10) [false, true, false, true, true]) ([(0, (.w (.one (.lit (.string s))))), (3, (.w (.one (.int .i64 i))))] ++ (ptrN 0 [] ++ rest)) [] 0 [0, 3] [true, true, true, true, true, false] = some ((Ex.normal, [AV.w (AW.one (AC.lit (Value.string s))), AV.w (AW.one (AC.int IntKind.i64 (IntKind.i64.wrap (i + 1))))], []), (pickL [(decide (i < sLen s), true), (decide ((0 : Int) ≤ i), true), (decide (sAt s i ≥ 97), true), (decide (sAt s i ≥ 48), true), (decide (sAt s i ≤ 57), true), (!decide (sAt s i ≤ 122), true), (true, true), (!decide (i > 0), false)] [0, 1, 0, 2, 2, 2, 1, 0, 2, 2, 1, 0, 3, 3, 3, 1, 0, 3, 3, 4, 4, 4, 4, 4, 5, 5, 6, 6, 5, 6, 5, 5, 7])) := by kernel_rfl
set_option maxRecDepth 100000 in
theorem nb_11110 (s : ByteArray) (i : Int) (rest : List (Nat × AV Empty)) : evView (ctxOf Tryd.prog noFacts (fun _ => false) []) 56 (false :: [false, true, false, true, true]) (loopAt (bodyOf Tryd.f10) [false, true, false, true, true]) ([(0, (.w (.one (.lit (.string s))))), (3, (.w (.one (.int .i64 i))))] ++ (ptrN 0 [] ++ rest)) [] 0 [0, 3] [true, true, true, true, false] = some ((Ex.normal, [AV.w (AW.one (AC.lit (Value.string s))), AV.w (AW.one (AC.int IntKind.i64 (IntKind.i64.wrap (i + 1))))], []), (pickL [(decide (i < sLen s), true), (decide ((0 : Int) ≤ i), true), (decide (sAt s i ≥ 97), true), (decide (sAt s i ≥ 48), true), (decide (sAt s i ≤ 57), true), (!decide (sAt s i ≤ 122), false), (false, false)] [0, 1, 0, 2, 2, 2, 1, 0, 2, 2, 1, 0, 3, 3, 3, 1, 0, 3, 3, 4, 4, 4, 4, 4, 5, 5, 5, 5, 5, 6])) := by kernel_rfl
set_option maxRecDepth 100000 in
theorem nb_1110110 (s : ByteArray) (i : Int) (rest : List (Nat × AV Empty)) : evView (ctxOf Tryd.prog noFacts (fun _ => false) []) 56 (false :: [false, true, false, true, true]) (loopAt (bodyOf Tryd.f10) [false, true, false, true, true]) ([(0, (.w (.one (.lit (.string s))))), (3, (.w (.one (.int .i64 i))))] ++ (ptrN 0 [] ++ rest)) [] 0 [0, 3] [true, true, true, false, true, true, false] = some ((Ex.normal, [AV.w (AW.one (AC.lit (Value.string s))), AV.w (AW.one (AC.int IntKind.i64 (IntKind.i64.wrap (i + 1))))], []), (pickL [(decide (i < sLen s), true), (decide ((0 : Int) ≤ i), true), (decide (sAt s i ≥ 97), true), (decide (sAt s i ≥ 48), true), (decide (sAt s i ≤ 57), false), (!decide (sAt s i ≤ 122), true), (sAt s i == 45, true), (!decide (i > 0), false)] [0, 1, 0, 2, 2, 2, 1, 0, 2, 2, 1, 0, 3, 3, 3, 1, 0, 3, 3, 4, 4, 4, 1, 0, 4, 4, 5, 5, 6, 6, 5, 6, 5, 5, 7])) := by kernel_rfl
set_option maxRecDepth 100000 in
theorem nb_11100 (s : ByteArray) (i : Int) (rest : List (Nat × AV Empty)) : evView (ctxOf Tryd.prog noFacts (fun _ => false) []) 56 (false :: [false, true, false, true, true]) (loopAt (bodyOf Tryd.f10) [false, true, false, true, true]) ([(0, (.w (.one (.lit (.string s))))), (3, (.w (.one (.int .i64 i))))] ++ (ptrN 0 [] ++ rest)) [] 0 [0, 3] [true, true, true, false, false] = some ((Ex.normal, [AV.w (AW.one (AC.lit (Value.string s))), AV.w (AW.one (AC.int IntKind.i64 (IntKind.i64.wrap (i + 1))))], []), (pickL [(decide (i < sLen s), true), (decide ((0 : Int) ≤ i), true), (decide (sAt s i ≥ 97), true), (decide (sAt s i ≥ 48), true), (decide (sAt s i ≤ 57), false), (!decide (sAt s i ≤ 122), false), (false, false)] [0, 1, 0, 2, 2, 2, 1, 0, 2, 2, 1, 0, 3, 3, 3, 1, 0, 3, 3, 4, 4, 4, 1, 0, 4, 4, 5, 5, 5, 5, 5, 6])) := by kernel_rfl
set_option maxRecDepth 100000 in
theorem nb_110110 (s : ByteArray) (i : Int) (rest : List (Nat × AV Empty)) : evView (ctxOf Tryd.prog noFacts (fun _ => false) []) 56 (false :: [false, true, false, true, true]) (loopAt (bodyOf Tryd.f10) [false, true, false, true, true]) ([(0, (.w (.one (.lit (.string s))))), (3, (.w (.one (.int .i64 i))))] ++ (ptrN 0 [] ++ rest)) [] 0 [0, 3] [true, true, false, true, true, false] = some ((Ex.normal, [AV.w (AW.one (AC.lit (Value.string s))), AV.w (AW.one (AC.int IntKind.i64 (IntKind.i64.wrap (i + 1))))], []), (pickL [(decide (i < sLen s), true), (decide ((0 : Int) ≤ i), true), (decide (sAt s i ≥ 97), true), (decide (sAt s i ≥ 48), false), (false, false), (!decide (sAt s i ≤ 122), true), (sAt s i == 45, true), (!decide (i > 0), false)] [0, 1, 0, 2, 2, 2, 1, 0, 2, 2, 1, 0, 3, 3, 3, 3, 3, 4, 4, 4, 1, 0, 4, 4, 5, 5, 6, 6, 5, 6, 5, 5, 7])) := by kernel_rfl
set_option maxRecDepth 100000 in
theorem nb_1100 (s : ByteArray) (i : Int) (rest : List (Nat × AV Empty)) : evView (ctxOf Tryd.prog noFacts (fun _ => false) []) 56 (false :: [false, true, false, true, true]) (loopAt (bodyOf Tryd.f10) [false, true, false, true, true]) ([(0, (.w (.one (.lit (.string s))))), (3, (.w (.one (.int .i64 i))))] ++ (ptrN 0 [] ++ rest)) [] 0 [0, 3] [true, true, false, false] = some ((Ex.normal, [AV.w (AW.one (AC.lit (Value.string s))), AV.w (AW.one (AC.int IntKind.i64 (IntKind.i64.wrap (i + 1))))], []), (pickL [(decide (i < sLen s), true), (decide ((0 : Int) ≤ i), true), (decide (sAt s i ≥ 97), true), (decide (sAt s i ≥ 48), false), (false, false), (!decide (sAt s i ≤ 122), false)] [0, 1, 0, 2, 2, 2, 1, 0, 2, 2, 1, 0, 3, 3, 3, 3, 3, 4, 4, 4, 1, 0, 4, 4, 5, 5, 5, 5, 5, 4])) := by kernel_rfl
set_option maxRecDepth 100000 in
theorem nb_10110 (s : ByteArray) (i : Int) (rest : List (Nat × AV Empty)) : evView (ctxOf Tryd.prog noFacts (fun _ => false) []) 56 (false :: [false, true, false, true, true]) (loopAt (bodyOf Tryd.f10) [false, true, false, true, true]) ([(0, (.w (.one (.lit (.string s))))), (3, (.w (.one (.int .i64 i))))] ++ (ptrN 0 [] ++ rest)) [] 0 [0, 3] [true, false, true, true, false] = some ((Ex.normal, [AV.w (AW.one (AC.lit (Value.string s))), AV.w (AW.one (AC.int IntKind.i64 (IntKind.i64.wrap (i + 1))))], []), (pickL [(decide (i < sLen s), true), (decide ((0 : Int) ≤ i), true), (decide (sAt s i ≥ 97), false), (decide (sAt s i ≥ 48), true), (decide (sAt s i ≤ 57), true), (!false, true), (true, true), (!decide (i > 0), false)] [0, 1, 0, 2, 2, 2, 2, 2, 1, 0, 3, 3, 3, 1, 0, 3, 3, 4, 4, 4, 4, 4, 5, 5, 6, 6, 5, 6, 5, 5, 7])) := by kernel_rfl
set_option maxRecDepth 100000 in
theorem nb_101010 (s : ByteArray) (i : Int) (rest : List (Nat × AV Empty)) : evView (ctxOf Tryd.prog noFacts (fun _ => false) []) 56 (false :: [false, true, false, true, true]) (loopAt (bodyOf Tryd.f10) [false, true, false, true, true]) ([(0, (.w (.one (.lit (.string s))))), (3, (.w (.one (.int .i64 i))))] ++ (ptrN 0 [] ++ rest)) [] 0 [0, 3] [true, false, true, false, true, false] = some ((Ex.normal, [AV.w (AW.one (AC.lit (Value.string s))), AV.w (AW.one (AC.int IntKind.i64 (IntKind.i64.wrap (i + 1))))], []), (pickL [(decide (i < sLen s), true), (decide ((0 : Int) ≤ i), true), (decide (sAt s i ≥ 97), false), (decide (sAt s i ≥ 48), true), (decide (sAt s i ≤ 57), false), (!false, true), (sAt s i == 45, true), (!decide (i > 0), false)] [0, 1, 0, 2, 2, 2, 2, 2, 1, 0, 3, 3, 3, 1, 0, 3, 3, 4, 4, 4, 1, 0, 4, 4, 5, 5, 6, 6, 5, 6, 5, 5, 7])) := by kernel_rfl
set_option maxRecDepth 100000 in
theorem nb_10010 (s : ByteArray) (i : Int) (rest : List (Nat × AV Empty)) : evView (ctxOf Tryd.prog noFacts (fun _ => false) []) 56 (false :: [false, true, false, true, true]) (loopAt (bodyOf Tryd.f10) [false, true, false, true, true]) ([(0, (.w (.one (.lit (.string s))))), (3, (.w (.one (.int .i64 i))))] ++ (ptrN 0 [] ++ rest)) [] 0 [0, 3] [true, false, false, true, false] = some ((Ex.normal, [AV.w (AW.one (AC.lit (Value.string s))), AV.w (AW.one (AC.int IntKind.i64 (IntKind.i64.wrap (i + 1))))], []), (pickL [(decide (i < sLen s), true), (decide ((0 : Int) ≤ i), true), (decide (sAt s i ≥ 97), false), (decide (sAt s i ≥ 48), false), (false, false), (!false, true), (sAt s i == 45, true), (!decide (i > 0), false)] [0, 1, 0, 2, 2, 2, 2, 2, 1, 0, 3, 3, 3, 3, 3, 4, 4, 4, 1, 0, 4, 4, 5, 5, 6, 6, 5, 6, 5, 5, 7])) := by kernel_rfl
set_option maxRecDepth 100000 in
theorem nb_0 (s : ByteArray) (i : Int) (rest : List (Nat × AV Empty)) : evView (ctxOf Tryd.prog noFacts (fun _ => false) []) 56 (false :: [false, true, false, true, true]) (loopAt (bodyOf Tryd.f10) [false, true, false, true, true]) ([(0, (.w (.one (.lit (.string s))))), (3, (.w (.one (.int .i64 i))))] ++ (ptrN 0 [] ++ rest)) [] 0 [0, 3] [false] = some ((Ex.exit 0, [AV.w (AW.one (AC.lit (Value.string s))), AV.w (AW.one (AC.int IntKind.i64 i))], []), (pickL [(decide (i < sLen s), false)] [0])) := by kernel_rfl
set_option maxRecDepth 100000 in
theorem nbr_111111 (s : ByteArray) (i : Int) (rest : List (Nat × AV Empty)) : evView (ctxOf Tryd.prog noFacts (fun _ => false) []) 56 (false :: [false, true, false, true, true]) (loopAt (bodyOf Tryd.f10) [false, true, false, true, true]) ([(0, (.w (.one (.lit (.string s))))), (3, (.w (.one (.int .i64 i))))] ++ (ptrN 0 [] ++ rest)) [] 0 [2] [true, true, true, true, true, true] = some ((Ex.ret, [AV.w (AW.one (AC.yes false))], []), (pickL [(decide (i < sLen s), true), (decide ((0 : Int) ≤ i), true), (decide (sAt s i ≥ 97), true), (decide (sAt s i ≥ 48), true), (decide (sAt s i ≤ 57), true), (!decide (sAt s i ≤ 122), true), (true, true), (!decide (i > 0), true)] [0, 1, 0, 2, 2, 2, 1, 0, 2, 2, 1, 0, 3, 3, 3, 1, 0, 3, 3, 4, 4, 4, 4, 4, 5, 5, 6, 6, 5, 6, 5, 5, 7])) := by kernel_rfl
set_option maxRecDepth 100000 in
theorem nbr_1110111 (s : ByteArray) (i : Int) (rest : List (Nat × AV Empty)) : evView (ctxOf Tryd.prog noFacts (fun _ => false) []) 56 (false :: [false, true, false, true, true]) (loopAt (bodyOf Tryd.f10) [false, true, false, true, true]) ([(0, (.w (.one (.lit (.string s))))), (3, (.w (.one (.int .i64 i))))] ++ (ptrN 0 [] ++ rest)) [] 0 [2] [true, true, true, false, true, true, true] = some ((Ex.ret, [AV.w (AW.one (AC.yes false))], []), (pickL [(decide (i < sLen s), true), (decide ((0 : Int) ≤ i), true), (decide (sAt s i ≥ 97), true), (decide (sAt s i ≥ 48), true), (decide (sAt s i ≤ 57), false), (!decide (sAt s i ≤ 122), true), (sAt s i == 45, true), (!decide (i > 0), true)] [0, 1, 0, 2, 2, 2, 1, 0, 2, 2, 1, 0, 3, 3, 3, 1, 0, 3, 3, 4, 4, 4, 1, 0, 4, 4, 5, 5, 6, 6, 5, 6, 5, 5, 7])) := by kernel_rfl
set_option maxRecDepth 100000 in
theorem nbr_111010 (s : ByteArray) (i : Int) (rest : List (Nat × AV Empty)) : evView (ctxOf Tryd.prog noFacts (fun _ => false) []) 56 (false :: [false, true, false, true, true]) (loopAt (bodyOf Tryd.f10) [false, true, false, true, true]) ([(0, (.w (.one (.lit (.string s))))), (3, (.w (.one (.int .i64 i))))] ++ (ptrN 0 [] ++ rest)) [] 0 [2] [true, true, true, false, true, false] = some ((Ex.ret, [AV.w (AW.one (AC.yes false))], []), (pickL [(decide (i < sLen s), true), (decide ((0 : Int) ≤ i), true), (decide (sAt s i ≥ 97), true), (decide (sAt s i ≥ 48), true), (decide (sAt s i ≤ 57), false), (!decide (sAt s i ≤ 122), true), (sAt s i == 45, false), (!false, true)] [0, 1, 0, 2, 2, 2, 1, 0, 2, 2, 1, 0, 3, 3, 3, 1, 0, 3, 3, 4, 4, 4, 1, 0, 4, 4, 5, 5, 6, 6, 5, 6, 5, 5, 7])) := by kernel_rfl
set_option maxRecDepth 100000 in
theorem nbr_110111 (s : ByteArray) (i : Int) (rest : List (Nat × AV Empty)) : evView (ctxOf Tryd.prog noFacts (fun _ => false) []) 56 (false :: [false, true, false, true, true]) (loopAt (bodyOf Tryd.f10) [false, true, false, true, true]) ([(0, (.w (.one (.lit (.string s))))), (3, (.w (.one (.int .i64 i))))] ++ (ptrN 0 [] ++ rest)) [] 0 [2] [true, true, false, true, true, true] = some ((Ex.ret, [AV.w (AW.one (AC.yes false))], []), (pickL [(decide (i < sLen s), true), (decide ((0 : Int) ≤ i), true), (decide (sAt s i ≥ 97), true), (decide (sAt s i ≥ 48), false), (false, false), (!decide (sAt s i ≤ 122), true), (sAt s i == 45, true), (!decide (i > 0), true)] [0, 1, 0, 2, 2, 2, 1, 0, 2, 2, 1, 0, 3, 3, 3, 3, 3, 4, 4, 4, 1, 0, 4, 4, 5, 5, 6, 6, 5, 6, 5, 5, 7])) := by kernel_rfl
set_option maxRecDepth 100000 in
theorem nbr_11010 (s : ByteArray) (i : Int) (rest : List (Nat × AV Empty)) : evView (ctxOf Tryd.prog noFacts (fun _ => false) []) 56 (false :: [false, true, false, true, true]) (loopAt (bodyOf Tryd.f10) [false, true, false, true, true]) ([(0, (.w (.one (.lit (.string s))))), (3, (.w (.one (.int .i64 i))))] ++ (ptrN 0 [] ++ rest)) [] 0 [2] [true, true, false, true, false] = some ((Ex.ret, [AV.w (AW.one (AC.yes false))], []), (pickL [(decide (i < sLen s), true), (decide ((0 : Int) ≤ i), true), (decide (sAt s i ≥ 97), true), (decide (sAt s i ≥ 48), false), (false, false), (!decide (sAt s i ≤ 122), true), (sAt s i == 45, false), (!false, true)] [0, 1, 0, 2, 2, 2, 1, 0, 2, 2, 1, 0, 3, 3, 3, 3, 3, 4, 4, 4, 1, 0, 4, 4, 5, 5, 6, 6, 5, 6, 5, 5, 7])) := by kernel_rfl
set_option maxRecDepth 100000 in
theorem nbr_10111 (s : ByteArray) (i : Int) (rest : List (Nat × AV Empty)) : evView (ctxOf Tryd.prog noFacts (fun _ => false) []) 56 (false :: [false, true, false, true, true]) (loopAt (bodyOf Tryd.f10) [false, true, false, true, true]) ([(0, (.w (.one (.lit (.string s))))), (3, (.w (.one (.int .i64 i))))] ++ (ptrN 0 [] ++ rest)) [] 0 [2] [true, false, true, true, true] = some ((Ex.ret, [AV.w (AW.one (AC.yes false))], []), (pickL [(decide (i < sLen s), true), (decide ((0 : Int) ≤ i), true), (decide (sAt s i ≥ 97), false), (decide (sAt s i ≥ 48), true), (decide (sAt s i ≤ 57), true), (!false, true), (true, true), (!decide (i > 0), true)] [0, 1, 0, 2, 2, 2, 2, 2, 1, 0, 3, 3, 3, 1, 0, 3, 3, 4, 4, 4, 4, 4, 5, 5, 6, 6, 5, 6, 5, 5, 7])) := by kernel_rfl
set_option maxRecDepth 100000 in
theorem nbr_101011 (s : ByteArray) (i : Int) (rest : List (Nat × AV Empty)) : evView (ctxOf Tryd.prog noFacts (fun _ => false) []) 56 (false :: [false, true, false, true, true]) (loopAt (bodyOf Tryd.f10) [false, true, false, true, true]) ([(0, (.w (.one (.lit (.string s))))), (3, (.w (.one (.int .i64 i))))] ++ (ptrN 0 [] ++ rest)) [] 0 [2] [true, false, true, false, true, true] = some ((Ex.ret, [AV.w (AW.one (AC.yes false))], []), (pickL [(decide (i < sLen s), true), (decide ((0 : Int) ≤ i), true), (decide (sAt s i ≥ 97), false), (decide (sAt s i ≥ 48), true), (decide (sAt s i ≤ 57), false), (!false, true), (sAt s i == 45, true), (!decide (i > 0), true)] [0, 1, 0, 2, 2, 2, 2, 2, 1, 0, 3, 3, 3, 1, 0, 3, 3, 4, 4, 4, 1, 0, 4, 4, 5, 5, 6, 6, 5, 6, 5, 5, 7])) := by kernel_rfl
set_option maxRecDepth 100000 in
theorem nbr_10100 (s : ByteArray) (i : Int) (rest : List (Nat × AV Empty)) : evView (ctxOf Tryd.prog noFacts (fun _ => false) []) 56 (false :: [false, true, false, true, true]) (loopAt (bodyOf Tryd.f10) [false, true, false, true, true]) ([(0, (.w (.one (.lit (.string s))))), (3, (.w (.one (.int .i64 i))))] ++ (ptrN 0 [] ++ rest)) [] 0 [2] [true, false, true, false, false] = some ((Ex.ret, [AV.w (AW.one (AC.yes false))], []), (pickL [(decide (i < sLen s), true), (decide ((0 : Int) ≤ i), true), (decide (sAt s i ≥ 97), false), (decide (sAt s i ≥ 48), true), (decide (sAt s i ≤ 57), false), (!false, true), (sAt s i == 45, false)] [0, 1, 0, 2, 2, 2, 2, 2, 1, 0, 3, 3, 3, 1, 0, 3, 3, 4, 4, 4, 1, 0, 4, 4, 5, 5, 6, 6, 5, 6, 5, 5, 5])) := by kernel_rfl
set_option maxRecDepth 100000 in
theorem nbr_10011 (s : ByteArray) (i : Int) (rest : List (Nat × AV Empty)) : evView (ctxOf Tryd.prog noFacts (fun _ => false) []) 56 (false :: [false, true, false, true, true]) (loopAt (bodyOf Tryd.f10) [false, true, false, true, true]) ([(0, (.w (.one (.lit (.string s))))), (3, (.w (.one (.int .i64 i))))] ++ (ptrN 0 [] ++ rest)) [] 0 [2] [true, false, false, true, true] = some ((Ex.ret, [AV.w (AW.one (AC.yes false))], []), (pickL [(decide (i < sLen s), true), (decide ((0 : Int) ≤ i), true), (decide (sAt s i ≥ 97), false), (decide (sAt s i ≥ 48), false), (false, false), (!false, true), (sAt s i == 45, true), (!decide (i > 0), true)] [0, 1, 0, 2, 2, 2, 2, 2, 1, 0, 3, 3, 3, 3, 3, 4, 4, 4, 1, 0, 4, 4, 5, 5, 6, 6, 5, 6, 5, 5, 7])) := by kernel_rfl
set_option maxRecDepth 100000 in
theorem nbr_1000 (s : ByteArray) (i : Int) (rest : List (Nat × AV Empty)) : evView (ctxOf Tryd.prog noFacts (fun _ => false) []) 56 (false :: [false, true, false, true, true]) (loopAt (bodyOf Tryd.f10) [false, true, false, true, true]) ([(0, (.w (.one (.lit (.string s))))), (3, (.w (.one (.int .i64 i))))] ++ (ptrN 0 [] ++ rest)) [] 0 [2] [true, false, false, false] = some ((Ex.ret, [AV.w (AW.one (AC.yes false))], []), (pickL [(decide (i < sLen s), true), (decide ((0 : Int) ≤ i), true), (decide (sAt s i ≥ 97), false), (decide (sAt s i ≥ 48), false), (false, false), (!false, true), (sAt s i == 45, false)] [0, 1, 0, 2, 2, 2, 2, 2, 1, 0, 3, 3, 3, 3, 3, 4, 4, 4, 1, 0, 4, 4, 5, 5, 6, 6, 5, 6, 5, 5, 5])) := by kernel_rfl
structure nbT where
  s : ByteArray
  i : Int
def nbP (s : ByteArray) (i : Int) : Prop := 0 ≤ i ∧ i ≤ sLen s ∧ sLen s ≤ 9223372036854775807
instance (s : ByteArray) (i : Int) : Decidable (nbP s i) := by unfold nbP; infer_instance
def nbTm (s : ByteArray) (i : Int) : List (Nat × AV Empty) := [(0, (.w (.one (.lit (.string s))))), (3, (.w (.one (.int .i64 i))))]
def nbS : LpSt nbT Empty where
  ps := []
  tm := fun t => nbTm t.s t.i
  hp := fun t => []
def nbNx (s : ByteArray) (i : Int) : Nxt nbT Empty := if i < sLen s then (if (okn) i (sAt s i) = true then .go ⟨s, i + 1⟩ else .out .ret [(2, .w (.one (.yes false)))] []) else .out (.exit 0) (nbTm s i) []
def nbStep (t : nbT) : Nxt nbT Empty := if nbP t.s t.i then nbNx t.s t.i else .bad
theorem nb_go {s : ByteArray} {i : Int} (h : nbP s i) : nbStep ⟨s, i⟩ = nbNx s i := if_pos h
set_option maxRecDepth 100000 in
set_option maxHeartbeats 4000000 in
theorem nb_round (t : nbT) (hb : (nbStep t).isBad = false) (rest : List (Nat × AV Empty)) : ∃ fuel path r, evC (ctxOf Tryd.prog noFacts (fun _ => false) []) fuel 56 (false :: [false, true, false, true, true]) (loopAt (bodyOf Tryd.f10) [false, true, false, true, true]) (nbS.tm t ++ (ptrN 0 nbS.ps ++ rest)) (numb 0 (nbS.hp t)) 0 path = some r ∧ (∀ p ∈ r.cd, p.1 = p.2) ∧ Gives nbS 0 r (nbStep t) := by
  obtain ⟨s, i⟩ := t
  by_cases ok : nbP s i
  · rw [nb_go ok]
    clear hb
    unfold nbNx
    obtain ⟨h1, h2, h4⟩ := ok
    have e0 : decide (0 ≤ i) = true := decide_eq_true h1
    have e1 : i < sLen s → IntKind.i64.wrap (i + 1) = i + 1 := fun _ => v64p (by omega) (by omega)
    cases k0 : (decide (i < sLen s)) with
    | true =>
      cases k1 : (decide (sAt s i ≥ 97)) with
      | true =>
        cases k2 : (decide (sAt s i ≥ 48)) with
        | true =>
          cases k3 : (decide (sAt s i ≤ 57)) with
          | true =>
            cases k4 : (!decide (sAt s i ≤ 122)) with
            | true =>
              cases k5 : (!decide (i > 0)) with
              | true =>
                have hE : ¬ (okn) i (sAt s i) = true := by
                  clear e1
                  unfold okn inR
                  simp only [beq_iff_eq, beq_eq_false_iff_ne, ne_eq, bne_iff_ne, bne_eq_false_iff_eq, decide_eq_true_eq, decide_eq_false_iff_not, Bool.not_eq_true', Bool.not_eq_false', ge_iff_le, gt_iff_lt, Bool.or_eq_true, Bool.and_eq_true] at *
                  omega
                rw [if_pos (of_decide_eq_true k0), if_neg hE]
                have L := nbr_111111 s i rest
                refine round_out L rfl (pickL_ok ?_ _) rfl rfl rfl
                repeat' (first | exact cd_nil | refine cd_cons ?_ ?_)
                all_goals first | rfl | with_reducible assumption
              | false =>
                have hE : (okn) i (sAt s i) = true := by
                  clear e1
                  unfold okn inR
                  simp only [beq_iff_eq, beq_eq_false_iff_ne, ne_eq, bne_iff_ne, bne_eq_false_iff_eq, decide_eq_true_eq, decide_eq_false_iff_not, Bool.not_eq_true', Bool.not_eq_false', ge_iff_le, gt_iff_lt, Bool.or_eq_true, Bool.and_eq_true] at *
                  omega
                rw [if_pos (of_decide_eq_true k0), if_pos hE]
                have L := nb_111110 s i rest
                rw [e1 (of_decide_eq_true k0)] at L
                refine round_go L (pickL_ok ?_ _) rfl rfl rfl rfl
                repeat' (first | exact cd_nil | refine cd_cons ?_ ?_)
                all_goals first | rfl | with_reducible assumption
            | false =>
              have hE : (okn) i (sAt s i) = true := by
                clear e1
                unfold okn inR
                simp only [beq_iff_eq, beq_eq_false_iff_ne, ne_eq, bne_iff_ne, bne_eq_false_iff_eq, decide_eq_true_eq, decide_eq_false_iff_not, Bool.not_eq_true', Bool.not_eq_false', ge_iff_le, gt_iff_lt, Bool.or_eq_true, Bool.and_eq_true] at *
                omega
              rw [if_pos (of_decide_eq_true k0), if_pos hE]
              have L := nb_11110 s i rest
              rw [e1 (of_decide_eq_true k0)] at L
              refine round_go L (pickL_ok ?_ _) rfl rfl rfl rfl
              repeat' (first | exact cd_nil | refine cd_cons ?_ ?_)
              all_goals first | rfl | with_reducible assumption
          | false =>
            cases k6 : (!decide (sAt s i ≤ 122)) with
            | true =>
              cases k7 : (sAt s i == 45) with
              | true =>
                cases k8 : (!decide (i > 0)) with
                | true =>
                  have hE : ¬ (okn) i (sAt s i) = true := by
                    clear e1
                    unfold okn inR
                    simp only [beq_iff_eq, beq_eq_false_iff_ne, ne_eq, bne_iff_ne, bne_eq_false_iff_eq, decide_eq_true_eq, decide_eq_false_iff_not, Bool.not_eq_true', Bool.not_eq_false', ge_iff_le, gt_iff_lt, Bool.or_eq_true, Bool.and_eq_true] at *
                    omega
                  rw [if_pos (of_decide_eq_true k0), if_neg hE]
                  have L := nbr_1110111 s i rest
                  refine round_out L rfl (pickL_ok ?_ _) rfl rfl rfl
                  repeat' (first | exact cd_nil | refine cd_cons ?_ ?_)
                  all_goals first | rfl | with_reducible assumption
                | false =>
                  have hE : (okn) i (sAt s i) = true := by
                    clear e1
                    unfold okn inR
                    simp only [beq_iff_eq, beq_eq_false_iff_ne, ne_eq, bne_iff_ne, bne_eq_false_iff_eq, decide_eq_true_eq, decide_eq_false_iff_not, Bool.not_eq_true', Bool.not_eq_false', ge_iff_le, gt_iff_lt, Bool.or_eq_true, Bool.and_eq_true] at *
                    omega
                  rw [if_pos (of_decide_eq_true k0), if_pos hE]
                  have L := nb_1110110 s i rest
                  rw [e1 (of_decide_eq_true k0)] at L
                  refine round_go L (pickL_ok ?_ _) rfl rfl rfl rfl
                  repeat' (first | exact cd_nil | refine cd_cons ?_ ?_)
                  all_goals first | rfl | with_reducible assumption
              | false =>
                have hE : ¬ (okn) i (sAt s i) = true := by
                  clear e1
                  unfold okn inR
                  simp only [beq_iff_eq, beq_eq_false_iff_ne, ne_eq, bne_iff_ne, bne_eq_false_iff_eq, decide_eq_true_eq, decide_eq_false_iff_not, Bool.not_eq_true', Bool.not_eq_false', ge_iff_le, gt_iff_lt, Bool.or_eq_true, Bool.and_eq_true] at *
                  omega
                rw [if_pos (of_decide_eq_true k0), if_neg hE]
                have L := nbr_111010 s i rest
                refine round_out L rfl (pickL_ok ?_ _) rfl rfl rfl
                repeat' (first | exact cd_nil | refine cd_cons ?_ ?_)
                all_goals first | rfl | with_reducible assumption
            | false =>
              have hE : (okn) i (sAt s i) = true := by
                clear e1
                unfold okn inR
                simp only [beq_iff_eq, beq_eq_false_iff_ne, ne_eq, bne_iff_ne, bne_eq_false_iff_eq, decide_eq_true_eq, decide_eq_false_iff_not, Bool.not_eq_true', Bool.not_eq_false', ge_iff_le, gt_iff_lt, Bool.or_eq_true, Bool.and_eq_true] at *
                omega
              rw [if_pos (of_decide_eq_true k0), if_pos hE]
              have L := nb_11100 s i rest
              rw [e1 (of_decide_eq_true k0)] at L
              refine round_go L (pickL_ok ?_ _) rfl rfl rfl rfl
              repeat' (first | exact cd_nil | refine cd_cons ?_ ?_)
              all_goals first | rfl | with_reducible assumption
        | false =>
          cases k9 : (!decide (sAt s i ≤ 122)) with
          | true =>
            cases k10 : (sAt s i == 45) with
            | true =>
              cases k11 : (!decide (i > 0)) with
              | true =>
                have hE : ¬ (okn) i (sAt s i) = true := by
                  clear e1
                  unfold okn inR
                  simp only [beq_iff_eq, beq_eq_false_iff_ne, ne_eq, bne_iff_ne, bne_eq_false_iff_eq, decide_eq_true_eq, decide_eq_false_iff_not, Bool.not_eq_true', Bool.not_eq_false', ge_iff_le, gt_iff_lt, Bool.or_eq_true, Bool.and_eq_true] at *
                  omega
                rw [if_pos (of_decide_eq_true k0), if_neg hE]
                have L := nbr_110111 s i rest
                refine round_out L rfl (pickL_ok ?_ _) rfl rfl rfl
                repeat' (first | exact cd_nil | refine cd_cons ?_ ?_)
                all_goals first | rfl | with_reducible assumption
              | false =>
                have hE : (okn) i (sAt s i) = true := by
                  clear e1
                  unfold okn inR
                  simp only [beq_iff_eq, beq_eq_false_iff_ne, ne_eq, bne_iff_ne, bne_eq_false_iff_eq, decide_eq_true_eq, decide_eq_false_iff_not, Bool.not_eq_true', Bool.not_eq_false', ge_iff_le, gt_iff_lt, Bool.or_eq_true, Bool.and_eq_true] at *
                  omega
                rw [if_pos (of_decide_eq_true k0), if_pos hE]
                have L := nb_110110 s i rest
                rw [e1 (of_decide_eq_true k0)] at L
                refine round_go L (pickL_ok ?_ _) rfl rfl rfl rfl
                repeat' (first | exact cd_nil | refine cd_cons ?_ ?_)
                all_goals first | rfl | with_reducible assumption
            | false =>
              have hE : ¬ (okn) i (sAt s i) = true := by
                clear e1
                unfold okn inR
                simp only [beq_iff_eq, beq_eq_false_iff_ne, ne_eq, bne_iff_ne, bne_eq_false_iff_eq, decide_eq_true_eq, decide_eq_false_iff_not, Bool.not_eq_true', Bool.not_eq_false', ge_iff_le, gt_iff_lt, Bool.or_eq_true, Bool.and_eq_true] at *
                omega
              rw [if_pos (of_decide_eq_true k0), if_neg hE]
              have L := nbr_11010 s i rest
              refine round_out L rfl (pickL_ok ?_ _) rfl rfl rfl
              repeat' (first | exact cd_nil | refine cd_cons ?_ ?_)
              all_goals first | rfl | with_reducible assumption
          | false =>
            have hE : (okn) i (sAt s i) = true := by
              clear e1
              unfold okn inR
              simp only [beq_iff_eq, beq_eq_false_iff_ne, ne_eq, bne_iff_ne, bne_eq_false_iff_eq, decide_eq_true_eq, decide_eq_false_iff_not, Bool.not_eq_true', Bool.not_eq_false', ge_iff_le, gt_iff_lt, Bool.or_eq_true, Bool.and_eq_true] at *
              omega
            rw [if_pos (of_decide_eq_true k0), if_pos hE]
            have L := nb_1100 s i rest
            rw [e1 (of_decide_eq_true k0)] at L
            refine round_go L (pickL_ok ?_ _) rfl rfl rfl rfl
            repeat' (first | exact cd_nil | refine cd_cons ?_ ?_)
            all_goals first | rfl | with_reducible assumption
      | false =>
        cases k12 : (decide (sAt s i ≥ 48)) with
        | true =>
          cases k13 : (decide (sAt s i ≤ 57)) with
          | true =>
            cases k14 : (!decide (i > 0)) with
            | true =>
              have hE : ¬ (okn) i (sAt s i) = true := by
                clear e1
                unfold okn inR
                simp only [beq_iff_eq, beq_eq_false_iff_ne, ne_eq, bne_iff_ne, bne_eq_false_iff_eq, decide_eq_true_eq, decide_eq_false_iff_not, Bool.not_eq_true', Bool.not_eq_false', ge_iff_le, gt_iff_lt, Bool.or_eq_true, Bool.and_eq_true] at *
                omega
              rw [if_pos (of_decide_eq_true k0), if_neg hE]
              have L := nbr_10111 s i rest
              refine round_out L rfl (pickL_ok ?_ _) rfl rfl rfl
              repeat' (first | exact cd_nil | refine cd_cons ?_ ?_)
              all_goals first | rfl | with_reducible assumption
            | false =>
              have hE : (okn) i (sAt s i) = true := by
                clear e1
                unfold okn inR
                simp only [beq_iff_eq, beq_eq_false_iff_ne, ne_eq, bne_iff_ne, bne_eq_false_iff_eq, decide_eq_true_eq, decide_eq_false_iff_not, Bool.not_eq_true', Bool.not_eq_false', ge_iff_le, gt_iff_lt, Bool.or_eq_true, Bool.and_eq_true] at *
                omega
              rw [if_pos (of_decide_eq_true k0), if_pos hE]
              have L := nb_10110 s i rest
              rw [e1 (of_decide_eq_true k0)] at L
              refine round_go L (pickL_ok ?_ _) rfl rfl rfl rfl
              repeat' (first | exact cd_nil | refine cd_cons ?_ ?_)
              all_goals first | rfl | with_reducible assumption
          | false =>
            cases k15 : (sAt s i == 45) with
            | true =>
              cases k16 : (!decide (i > 0)) with
              | true =>
                have hE : ¬ (okn) i (sAt s i) = true := by
                  clear e1
                  unfold okn inR
                  simp only [beq_iff_eq, beq_eq_false_iff_ne, ne_eq, bne_iff_ne, bne_eq_false_iff_eq, decide_eq_true_eq, decide_eq_false_iff_not, Bool.not_eq_true', Bool.not_eq_false', ge_iff_le, gt_iff_lt, Bool.or_eq_true, Bool.and_eq_true] at *
                  omega
                rw [if_pos (of_decide_eq_true k0), if_neg hE]
                have L := nbr_101011 s i rest
                refine round_out L rfl (pickL_ok ?_ _) rfl rfl rfl
                repeat' (first | exact cd_nil | refine cd_cons ?_ ?_)
                all_goals first | rfl | with_reducible assumption
              | false =>
                have hE : (okn) i (sAt s i) = true := by
                  clear e1
                  unfold okn inR
                  simp only [beq_iff_eq, beq_eq_false_iff_ne, ne_eq, bne_iff_ne, bne_eq_false_iff_eq, decide_eq_true_eq, decide_eq_false_iff_not, Bool.not_eq_true', Bool.not_eq_false', ge_iff_le, gt_iff_lt, Bool.or_eq_true, Bool.and_eq_true] at *
                  omega
                rw [if_pos (of_decide_eq_true k0), if_pos hE]
                have L := nb_101010 s i rest
                rw [e1 (of_decide_eq_true k0)] at L
                refine round_go L (pickL_ok ?_ _) rfl rfl rfl rfl
                repeat' (first | exact cd_nil | refine cd_cons ?_ ?_)
                all_goals first | rfl | with_reducible assumption
            | false =>
              have hE : ¬ (okn) i (sAt s i) = true := by
                clear e1
                unfold okn inR
                simp only [beq_iff_eq, beq_eq_false_iff_ne, ne_eq, bne_iff_ne, bne_eq_false_iff_eq, decide_eq_true_eq, decide_eq_false_iff_not, Bool.not_eq_true', Bool.not_eq_false', ge_iff_le, gt_iff_lt, Bool.or_eq_true, Bool.and_eq_true] at *
                omega
              rw [if_pos (of_decide_eq_true k0), if_neg hE]
              have L := nbr_10100 s i rest
              refine round_out L rfl (pickL_ok ?_ _) rfl rfl rfl
              repeat' (first | exact cd_nil | refine cd_cons ?_ ?_)
              all_goals first | rfl | with_reducible assumption
        | false =>
          cases k17 : (sAt s i == 45) with
          | true =>
            cases k18 : (!decide (i > 0)) with
            | true =>
              have hE : ¬ (okn) i (sAt s i) = true := by
                clear e1
                unfold okn inR
                simp only [beq_iff_eq, beq_eq_false_iff_ne, ne_eq, bne_iff_ne, bne_eq_false_iff_eq, decide_eq_true_eq, decide_eq_false_iff_not, Bool.not_eq_true', Bool.not_eq_false', ge_iff_le, gt_iff_lt, Bool.or_eq_true, Bool.and_eq_true] at *
                omega
              rw [if_pos (of_decide_eq_true k0), if_neg hE]
              have L := nbr_10011 s i rest
              refine round_out L rfl (pickL_ok ?_ _) rfl rfl rfl
              repeat' (first | exact cd_nil | refine cd_cons ?_ ?_)
              all_goals first | rfl | with_reducible assumption
            | false =>
              have hE : (okn) i (sAt s i) = true := by
                clear e1
                unfold okn inR
                simp only [beq_iff_eq, beq_eq_false_iff_ne, ne_eq, bne_iff_ne, bne_eq_false_iff_eq, decide_eq_true_eq, decide_eq_false_iff_not, Bool.not_eq_true', Bool.not_eq_false', ge_iff_le, gt_iff_lt, Bool.or_eq_true, Bool.and_eq_true] at *
                omega
              rw [if_pos (of_decide_eq_true k0), if_pos hE]
              have L := nb_10010 s i rest
              rw [e1 (of_decide_eq_true k0)] at L
              refine round_go L (pickL_ok ?_ _) rfl rfl rfl rfl
              repeat' (first | exact cd_nil | refine cd_cons ?_ ?_)
              all_goals first | rfl | with_reducible assumption
          | false =>
            have hE : ¬ (okn) i (sAt s i) = true := by
              clear e1
              unfold okn inR
              simp only [beq_iff_eq, beq_eq_false_iff_ne, ne_eq, bne_iff_ne, bne_eq_false_iff_eq, decide_eq_true_eq, decide_eq_false_iff_not, Bool.not_eq_true', Bool.not_eq_false', ge_iff_le, gt_iff_lt, Bool.or_eq_true, Bool.and_eq_true] at *
              omega
            rw [if_pos (of_decide_eq_true k0), if_neg hE]
            have L := nbr_1000 s i rest
            refine round_out L rfl (pickL_ok ?_ _) rfl rfl rfl
            repeat' (first | exact cd_nil | refine cd_cons ?_ ?_)
            all_goals first | rfl | with_reducible assumption
    | false =>
      rw [if_neg (of_decide_eq_false k0)]
      have L := nb_0 s i rest
      refine round_out L rfl (pickL_ok ?_ _) rfl rfl rfl
      repeat' (first | exact cd_nil | refine cd_cons ?_ ?_)
      all_goals first | rfl | with_reducible assumption
  · exfalso
    have : nbStep ⟨s, i⟩ = .bad := if_neg ok
    rw [this] at hb; cases hb
theorem nb_runs {s : ByteArray} (h : sLen s ≤ 9223372036854775807) : ∀ (j i : Nat), i + j = s.size → ∃ c, runs nbStep c ⟨s, i⟩ = (if strAll (okn) s j i = true then some (.exit 0, nbTm s (sLen s), []) else some (.ret, [(2, .w (.one (.yes false)))], []))
  | 0, i, hi => by
    have e : (i : Int) = sLen s := by unfold sLen; omega
    refine ⟨1, ?_⟩
    rw [runs, nb_go ⟨by omega, by omega, h⟩]
    unfold nbNx
    rw [if_neg (by omega), e]
    rfl
  | j + 1, i, hi => by
    have hl : (i : Int) < sLen s := by unfold sLen; omega
    by_cases g : (okn) i (sAt s i) = true
    · obtain ⟨c, hc⟩ := nb_runs h j (i + 1) (by omega)
      refine ⟨c + 1, ?_⟩
      rw [runs, nb_go ⟨by omega, by omega, h⟩]
      unfold nbNx
      rw [if_pos hl, if_pos g, strAll, g, Bool.true_and]
      exact hc
    · refine ⟨1, ?_⟩
      rw [runs, nb_go ⟨by omega, by omega, h⟩]
      unfold nbNx
      rw [if_pos hl, if_neg g, strAll]
      simp only [g, Bool.false_and, Bool.false_eq_true, if_false]
def nbD : LpDefR nbT Empty where
  ts := [0, 3]
  ps := []
  rs := []
  W := [0, 2, 3, 4, 5, 14, 15, 16, 17, 18, 19, 20, 21, 22, 23, 24, 25, 26, 27, 28, 29, 30, 31, 32, 33, 34, 35, 36, 37, 38, 39, 40, 41, 42, 43, 44, 45, 46, 47, 48, 49, 50, 51, 52, 53, 54, 55]
  dec := fun vs tr ks => match vs, tr, ks with
    | [.w (.one (.lit (.string s))), .w (.one (.int .i64 i))], [], [] => some ⟨s, i⟩
    | _, _, _ => none
  fk := fun t => some (strAll (okn) t.s t.s.size 0)
  spec := fun t β => match β with
    | true => some (.exit 0, nbTm t.s (sLen t.s), [], [], [(decide (t.i = 0) && decide (sLen t.s ≤ 9223372036854775807), true)])
    | false => some (.ret, [(2, .w (.one (.yes false)))], [], [], [(decide (t.i = 0) && decide (sLen t.s ≤ 9223372036854775807), true)])
theorem nbD_ok (x : Code) (hx : codeAt (bodyOf Tryd.f10) [false, true, false, true, true] = some (.loop x)) : LpOk Tryd.prog noFacts 56 x (nbD.sp (fun _ => false)) := by
  obtain rfl := loopAt_eq hx
  refine lpR_ok (c := ctxOf Tryd.prog noFacts (fun _ => false) []) (ctxOf_ok (lib1_nil _ _) (eq_none _)) (by kernel_rfl) (fun f _ _ _ => nomatch f) hx lps_nil (S := nbS) (step := nbStep) (fun _ h => by cases h) (by kernel_rfl) (by kernel_rfl) ?_ rfl (fun t e he => ?_) (fun t hb rest => nb_round t hb rest) ?_
  · intro vs tr ks s hv1 hv2 h hv3
    simp only [nbD] at h
    split at h
    · cases h
      exact ⟨rfl, fun e he => .inl he⟩
    · cases h
  · simp only [nbS, nbTm, List.mem_cons, List.not_mem_nil, or_false] at he
    rcases he with rfl | rfl <;> rfl
  · intro s β ex outs rts wb cd h hfk hc
    obtain ⟨s, i⟩ := s
    have hβ := hfk _ rfl
    cases β with
    | true =>
      simp only [nbD] at h hβ
      cases h
      have := c1x hc
      simp only [Bool.and_eq_true, decide_eq_true_eq] at this
      obtain ⟨rfl, h3⟩ := this
      obtain ⟨c, hc⟩ := nb_runs h3 s.size 0 (by omega)
      refine ⟨c, ?_⟩
      rw [if_pos hβ] at hc
      exact hc
    | false =>
      simp only [nbD] at h hβ
      cases h
      have := c1x hc
      simp only [Bool.and_eq_true, decide_eq_true_eq] at this
      obtain ⟨rfl, h3⟩ := this
      obtain ⟨c, hc⟩ := nb_runs h3 s.size 0 (by omega)
      refine ⟨c, ?_⟩
      rw [if_neg (by rw [hβ]; simp)] at hc
      exact hc
end
end Go.Proofs.YtbnlpcmnkcaemaaDoor.AtPr

