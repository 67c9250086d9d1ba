/-
  Package scale: begin, stepAt, CheckLeaps, Check and ToUniform as functions of their arguments; the fact of the laws.
  Conditions: those of each theorem.
-/
import Derived.Test.YtokkaeaciigapaaDoorD4
set_option linter.unusedVariables false
set_option linter.unusedSimpArgs false
namespace Go.Proofs.YtokkaeaciigapaaDoor
open Go.RowKit Ev Sc
variable {F : Type}
noncomputable section

structure Cv where
  y : Int
  m : Int
  d : Int
  H : Int
  M : Int
  S : Int
  ms : Int
abbrev cvV (c : Cv) : Value := .agg #[.int .i64 c.y, .int .i64 c.m, .int .i64 c.d, .int .i64 c.H, .int .i64 c.M, .int .i64 c.S, .int .i64 c.ms]
abbrev cvA (c : Cv) : AV F := .w (.agg [.int .i64 c.y, .int .i64 c.m, .int .i64 c.d, .int .i64 c.H, .int .i64 c.M, .int .i64 c.S, .int .i64 c.ms])
def dCv : Dec F Cv where
  dec := fun x => match x with
    | .w (.agg [.int .i64 y, .int .i64 m, .int .i64 d, .int .i64 H, .int .i64 M, .int .i64 S, .int .i64 ms]) => some ⟨y, m, d, H, M, S, ms⟩
    | _ => none
  enc := cvV
  ok := fun x a h => by
    split at h
    · cases h; rfl
    · cases h
def upB (n last : Int) : Bool := decide (0 ≤ n) && decide (n ≤ last)
def tmB (t : Int) : Bool := decide (-17592186044416 ≤ t) && decide (t ≤ 17592186044416)
def cvB (c : Cv) : Bool := okD c.y c.m c.d && upB c.H 23 && upB c.M 59 && upB c.S (if c.H = 23 ∧ c.M = 59 then 60 else 59) && upB c.ms 999
def cvE (c : Cv) : Int := if cvB c = true then 0 else 4
/-- The day of a civil time, its second, its time. -/
def cvD (c : Cv) : Int := dnV c.y c.m c.d
def cvS (c : Cv) : Int := (c.H * 60 + c.M) * 60 + c.S
def cvT (c : Cv) (l : List (Int × Int)) : Int := 86400000 * cvD c + 1000 * sumL (cvD c) l + (cvS c * 1000 + c.ms)
def tuE (c : Cv) (l : List (Int × Int)) : Int := if cvE c ≠ 0 then cvE c else if ckL l ≠ 0 then ckL l else if 86400 + stL (cvD c) l ≤ cvS c then 8 else if tmB (cvT c l) = true then 0 else 2
def tuV (c : Cv) (l : List (Int × Int)) : Int := if tuE c l = 0 then cvT c l else 0
abbrev upS : FnSp F := sp2 (dInt .i64) (dInt .i64) (fun n k => aBool (upB n k)) (fun _ _ => [])
abbrev tmS : FnSp F := sp1 (dInt .i64) (fun t => aBool (tmB t)) (fun _ => [])
abbrev civS : FnSp F := sp1 dCv (fun c => aInt .i64 (cvE c)) (fun _ => [])
def dayB (d : Int) : Bool := decide (-10000000 ≤ d) && decide (d ≤ 10000000)
def gBegin : List (AV Lp) → Option (AV Lp × List (Bool × Bool))
  | [.w (.one (.int .i64 d)), .w (.one (.fv (.row l)))] => some (.w (.one (.int .i64 (86400000 * d + 1000 * sumL d l))), [(decide (okT l), true), (dayB d, true)])
  | _ => none
def gStepAt : List (AV Lp) → Option (AV Lp × List (Bool × Bool))
  | [.w (.one (.int .i64 d)), .w (.one (.fv (.row l)))] => some (.w (.one (.int .i64 (stL d l))), [(decide (okT l), true)])
  | _ => none
def gCheckL : List (AV Lp) → Option (AV Lp × List (Bool × Bool))
  | [.w (.one (.fv (.row l)))] => some (.w (.one (.int .i64 (ckL l))), [])
  | _ => none
def gToU : List (AV Lp) → Option (AV Lp × List (Bool × Bool))
  | [.w (.agg [.int .i64 y, .int .i64 m, .int .i64 d, .int .i64 H, .int .i64 M, .int .i64 S, .int .i64 ms]), .w (.one (.fv (.row l)))] => some (.tup [.one (.int .i64 (tuV ⟨y, m, d, H, M, S, ms⟩ l)), .one (.int .i64 (tuE ⟨y, m, d, H, M, S, ms⟩ l))], [])
  | _ => none
noncomputable abbrev bgLps : Lps Lp := [((27, [false, true, false, true, true]), bgD.sp (fun _ => false))]
noncomputable abbrev saLps : Lps Lp := [((20, [false, true, false, true]), saD.sp (fun _ => false))]
noncomputable abbrev clLps : Lps Lp := [((48, [false, true, false, true, true]), clD.sp (fun _ => false))]
noncomputable abbrev libCk : List (Nat × FnSp Empty) := [(19, daysS), (20, upS)]
theorem bgLps_ok : LpsOk Tryd.prog lpI bgLps Tryd.f32.ntmps (bodyOf Tryd.f32) := lps_cons (fun _ x hx => bgD_ok x hx) lps_nil
theorem saLps_ok : LpsOk Tryd.prog lpI saLps Tryd.f31.ntmps (bodyOf Tryd.f31) := lps_cons (fun _ x hx => saD_ok x hx) lps_nil
theorem clLps_ok : LpsOk Tryd.prog lpI clLps Tryd.f30.ntmps (bodyOf Tryd.f30) := lps_cons (fun _ x hx => clD_ok x hx) lps_nil
set_option maxRecDepth 100000 in
theorem bf_ (d : Int) (l : List (Int × Int)) : evR (ctxLp Tryd.prog lpI (fun _ => false) [] [] bgLps) Tryd.f32 [(.w (.one (.int .i64 d))), (.w (.one (.fv (.row l))))] [] = some (AV.w (AW.one (AC.int IntKind.i64 (86400000 * d + 1000 * sumL d l))), (pickL [(decide (okT l) && decide (-10000000 ≤ d) && decide (d ≤ 10000000) && decide (lenP l = lenP l) && decide ((0 : Int) = 0) && decide (IntKind.i64.wrap (d * 86400000) = 86400000 * d), true)] [0])) := by kernel_rfl
set_option maxRecDepth 100000 in
theorem sf_1 (d : Int) (l : List (Int × Int)) : evR (ctxLp Tryd.prog lpI (fun _ => false) [] [] saLps) Tryd.f31 [(.w (.one (.int .i64 d))), (.w (.one (.fv (.row l))))] [true] = some (AV.w (AW.one (AC.int IntKind.i64 (stL d l))), (pickL [(hasL d l, true), (decide ((0 : Int) = 0) && decide (lenP l = lenP l) && decide (lenP l ≤ 9223372036854775807), true)] [0, 1])) := by kernel_rfl
set_option maxRecDepth 100000 in
theorem sf_0 (d : Int) (l : List (Int × Int)) : evR (ctxLp Tryd.prog lpI (fun _ => false) [] [] saLps) Tryd.f31 [(.w (.one (.int .i64 d))), (.w (.one (.fv (.row l))))] [false] = some (AV.w (AW.one (AC.int IntKind.i64 0)), (pickL [(hasL d l, false), (decide ((0 : Int) = 0) && decide (lenP l = lenP l) && decide (lenP l ≤ 9223372036854775807), true)] [0, 1])) := by kernel_rfl
set_option maxRecDepth 100000 in
theorem clf_1 (l : List (Int × Int)) : evR (ctxLp Tryd.prog lpI (fun _ => false) [] [] clLps) Tryd.f30 [(.w (.one (.fv (.row l))))] [true] = some (AV.w (AW.one (AC.int IntKind.i64 2)), (pickL [(decide (lenP l > 64), true)] [0])) := by kernel_rfl
set_option maxRecDepth 100000 in
theorem clf_01 (l : List (Int × Int)) : evR (ctxLp Tryd.prog lpI (fun _ => false) [] [] clLps) Tryd.f30 [(.w (.one (.fv (.row l))))] [false, true] = some (AV.w (AW.one (AC.int IntKind.i64 0)), (pickL [(decide (lenP l > 64), false), (decide (chL none l = 0), true), (decide (l = l) && decide ((0 : Int) = 0) && decide (lenP l = lenP l) && decide (lenP l ≤ 9223372036854775807), true)] [0, 1, 2])) := by kernel_rfl
set_option maxRecDepth 100000 in
theorem clf_00 (l : List (Int × Int)) : evR (ctxLp Tryd.prog lpI (fun _ => false) [] [] clLps) Tryd.f30 [(.w (.one (.fv (.row l))))] [false, false] = some (AV.w (AW.one (AC.int IntKind.i64 (chL none l))), (pickL [(decide (lenP l > 64), false), (decide (chL none l = 0), false), (decide (l = l) && decide ((0 : Int) = 0) && decide (lenP l = lenP l) && decide (lenP l ≤ 9223372036854775807), true)] [0, 1, 2])) := by kernel_rfl
theorem gBegin_ok : (bothSp mkLp gBegin).ok Tryd.prog lpI 32 :=
  bothSp_ok (ctxLp_ok (lib1_nil _ _) (eq_none _) (fns_nil _) (fun f fn h => by cases h)) (by kernel_rfl) Tryd.func32 rfl bgLps_ok mkLp_ok fun args v cd hg hc => by
    unfold gBegin at hg
    split at hg
    · rename_i d l
      cases hg
      refine ⟨rfl, rfl, rfl, ?_⟩
      have h1 : okT l := of_decide_eq_true (hc (decide (okT l), true) (by simp))
      have h2 : dayB d = true := hc (dayB d, true) (by simp)
      simp only [dayB, Bool.and_eq_true, decide_eq_true_eq] at h2
      have e : IntKind.i64.wrap (d * 86400000) = 86400000 * d := by rw [w64 (by omega) (by omega)]; omega
      have c1 : (decide (okT l) && decide (-10000000 ≤ d) && decide (d ≤ 10000000) && decide (lenP l = lenP l) && decide ((0 : Int) = 0) && decide (IntKind.i64.wrap (d * 86400000) = 86400000 * d)) = true := by
        rw [decide_eq_true h1, decide_eq_true h2.1, decide_eq_true h2.2, decide_eq_true e, decide_eq_true (rfl : lenP l = lenP l)]; rfl
      refine ⟨[], _, _, bf_ d l, fun E u hu => ?_, pickL_ok ?_ _⟩
      · exact hu
      repeat' (first | exact cd_nil | refine cd_cons ?_ ?_)
      all_goals first | rfl | with_reducible assumption

    · cases hg
theorem gStepAt_ok : (bothSp mkLp gStepAt).ok Tryd.prog lpI 31 :=
  bothSp_ok (ctxLp_ok (lib1_nil _ _) (eq_none _) (fns_nil _) (fun f fn h => by cases h)) (by kernel_rfl) Tryd.func31 rfl saLps_ok mkLp_ok fun args v cd hg hc => by
    unfold gStepAt at hg
    split at hg
    · rename_i d l
      cases hg
      refine ⟨rfl, rfl, rfl, ?_⟩
      have h1 : okT l := of_decide_eq_true (hc (decide (okT l), true) (by simp))
      have h2 := h1.1
      have c1 : (decide ((0 : Int) = 0) && decide (lenP l = lenP l) && decide (lenP l ≤ 9223372036854775807)) = true := by
        rw [decide_eq_true (show lenP l ≤ 9223372036854775807 by omega), decide_eq_true (rfl : lenP l = lenP l)]; rfl
      cases hh : hasL d l with
      | true =>
        refine ⟨[true], _, _, sf_1 d l, fun E u hu => ?_, pickL_ok ?_ _⟩
        · exact hu
        repeat' (first | exact cd_nil | refine cd_cons ?_ ?_)
        all_goals first | rfl | with_reducible assumption

      | false =>
        refine ⟨[false], _, _, sf_0 d l, fun E u hu => ?_, pickL_ok ?_ _⟩
        · rw [hasL_no hh]; exact hu
        repeat' (first | exact cd_nil | refine cd_cons ?_ ?_)
        all_goals first | rfl | with_reducible assumption

    · cases hg
theorem gCheckL_ok : (bothSp mkLp gCheckL).ok Tryd.prog lpI 30 :=
  bothSp_ok (ctxLp_ok (lib1_nil _ _) (eq_none _) (fns_nil _) (fun f fn h => by cases h)) (by kernel_rfl) Tryd.func30 rfl clLps_ok mkLp_ok fun args v cd hg hc => by
    unfold gCheckL at hg
    split at hg
    · rename_i l
      cases hg
      refine ⟨rfl, rfl, rfl, ?_⟩
      by_cases h1 : 64 < lenP l
      · have c1 : decide (lenP l > 64) = true := decide_eq_true h1
        have e : ckL l = 2 := if_pos h1
        refine ⟨[true], _, _, clf_1 l, fun E u hu => ?_, pickL_ok ?_ _⟩
        · rw [e]; exact hu
        repeat' (first | exact cd_nil | refine cd_cons ?_ ?_)
        all_goals first | rfl | with_reducible assumption

      · have c1 : decide (lenP l > 64) = false := decide_eq_false h1
        have e : ckL l = chL none l := if_neg h1
        have c2 : (decide (l = l) && decide ((0 : Int) = 0) && decide (lenP l = lenP l) && decide (lenP l ≤ 9223372036854775807)) = true := by
          rw [decide_eq_true (show lenP l ≤ 9223372036854775807 by omega), decide_eq_true (rfl : lenP l = lenP l), decide_eq_true (rfl : l = l)]; rfl
        by_cases h2 : chL none l = 0
        · have c3 : decide (chL none l = 0) = true := decide_eq_true h2
          have e' : ckL l = 0 := e.trans h2
          refine ⟨[false, true], _, _, clf_01 l, fun E u hu => ?_, pickL_ok ?_ _⟩
          · rw [e']; exact hu
          repeat' (first | exact cd_nil | refine cd_cons ?_ ?_)
          all_goals first | rfl | with_reducible assumption

        · have c3 : decide (chL none l = 0) = false := decide_eq_false h2
          refine ⟨[false, false], _, _, clf_00 l, fun E u hu => ?_, pickL_ok ?_ _⟩
          · rw [e]; exact hu
          repeat' (first | exact cd_nil | refine cd_cons ?_ ?_)
          all_goals first | rfl | with_reducible assumption

    · cases hg
set_option maxRecDepth 100000 in
theorem upf_l0 (n : Int) (k : Int) : evR (ctxOf Tryd.prog noFacts (fun _ => false) []) Tryd.f20 [(.w (.one (.int .i64 n))), (.w (.one (.int .i64 k)))] [true] = some (AV.w (AW.one (AC.bool (decide (n ≤ k)))), [(decide (0 ≤ n), true), (decide (0 ≤ n), true), (decide (0 ≤ n), true), (decide (0 ≤ n), true)]) := by kernel_rfl
set_option maxRecDepth 100000 in
theorem upf_l1 (n : Int) (k : Int) : evR (ctxOf Tryd.prog noFacts (fun _ => false) []) Tryd.f20 [(.w (.one (.int .i64 n))), (.w (.one (.int .i64 k)))] [false] = some (AV.w (AW.one (AC.yes false)), [(decide (0 ≤ n), false), (decide (0 ≤ n), false), (decide (0 ≤ n), false), (decide (0 ≤ n), false)]) := by kernel_rfl
set_option maxRecDepth 100000 in
theorem upf_t (n : Int) (k : Int) : Pl Tryd.prog 20 [.int .i64 n, .int .i64 k] (AV.get ((bif decide (0 ≤ n) then (AV.w (AW.one (AC.bool (decide (n ≤ k))))) else (AV.w (AW.one (AC.yes false)))) : AV Empty)) :=
  (pl_node (fun h0 => (pl_leaf rfl (ctxOf_ok (lib1_nil _ _) (eq_none _)) (by kernel_rfl) Tryd.func20 rfl (upf_l0 n k) rfl (all2_R (.cons rfl (.cons rfl .nil))) rfl (cd_cons h0 (cd_cons h0 (cd_cons h0 (cd_cons h0 cd_nil)))))) (fun h0 => (pl_leaf rfl (ctxOf_ok (lib1_nil _ _) (eq_none _)) (by kernel_rfl) Tryd.func20 rfl (upf_l1 n k) rfl (all2_R (.cons rfl (.cons rfl .nil))) rfl (cd_cons h0 (cd_cons h0 (cd_cons h0 (cd_cons h0 cd_nil)))))))
theorem upf_pl (n : Int) (k : Int)  : Pl Tryd.prog 20 [.int .i64 n, .int .i64 k] (.bool (upB n k)) := by
  refine Eq.mp (congrArg (Pl _ _ _) ?_) (upf_t n k)
  unfold upB; cases decide (0 ≤ n) <;> rfl
set_option maxRecDepth 100000 in
theorem tmf_l0 (t : Int) : evR (ctxOf Tryd.prog noFacts (fun _ => false) []) Tryd.f33 [(.w (.one (.int .i64 t)))] [true] = some (AV.w (AW.one (AC.bool (decide (t ≤ 17592186044416)))), [(decide (-17592186044416 ≤ t), true), (decide (-17592186044416 ≤ t), true), (decide (-17592186044416 ≤ t), true)]) := by kernel_rfl
set_option maxRecDepth 100000 in
theorem tmf_l1 (t : Int) : evR (ctxOf Tryd.prog noFacts (fun _ => false) []) Tryd.f33 [(.w (.one (.int .i64 t)))] [false] = some (AV.w (AW.one (AC.yes false)), [(decide (-17592186044416 ≤ t), false), (decide (-17592186044416 ≤ t), false), (decide (-17592186044416 ≤ t), false)]) := by kernel_rfl
set_option maxRecDepth 100000 in
theorem tmf_t (t : Int) : Pl Tryd.prog 33 [.int .i64 t] (AV.get ((bif decide (-17592186044416 ≤ t) then (AV.w (AW.one (AC.bool (decide (t ≤ 17592186044416))))) else (AV.w (AW.one (AC.yes false)))) : AV Empty)) :=
  (pl_node (fun h0 => (pl_leaf rfl (ctxOf_ok (lib1_nil _ _) (eq_none _)) (by kernel_rfl) Tryd.func33 rfl (tmf_l0 t) rfl (all2_R (.cons rfl .nil)) rfl (cd_cons h0 (cd_cons h0 (cd_cons h0 cd_nil))))) (fun h0 => (pl_leaf rfl (ctxOf_ok (lib1_nil _ _) (eq_none _)) (by kernel_rfl) Tryd.func33 rfl (tmf_l1 t) rfl (all2_R (.cons rfl .nil)) rfl (cd_cons h0 (cd_cons h0 (cd_cons h0 cd_nil))))))
theorem tmf_pl (t : Int)  : Pl Tryd.prog 33 [.int .i64 t] (.bool (tmB t)) := by
  refine Eq.mp (congrArg (Pl _ _ _) ?_) (tmf_t t)
  unfold tmB; cases decide (-17592186044416 ≤ t) <;> rfl
theorem libCk_ok : LibOk Tryd.prog noFacts (lib1 libCk) := lib1_cons (daysS_ok _) Tryd.call19 (lib1_cons (sp2_ok fun n k _ => ⟨_, rfl, upf_pl n k⟩) Tryd.call20 (lib1_nil _ _))
set_option maxRecDepth 100000 in
theorem ckf_l0 (c : Cv) : evR (ctxOf Tryd.prog noFacts (fun _ => false) libCk) Tryd.f9 [(cvA c)] [true] = some (AV.w (AW.one (AC.int IntKind.i64 (dnE c.y c.m c.d))), [(dnE c.y c.m c.d != 0, true)]) := by kernel_rfl
set_option maxRecDepth 100000 in
theorem ckf_l1 (c : Cv) : evR (ctxOf Tryd.prog noFacts (fun _ => false) libCk) Tryd.f9 [(cvA c)] [false, true, true, true] = some (AV.w (AW.one (AC.int IntKind.i64 4)), [(dnE c.y c.m c.d != 0, false), (c.H == 23, true), (c.H == 23, true), (c.H == 23, true), (c.H == 23, true), (c.M == 59, true), (!upB c.H 23, true), (!upB c.H 23, true), (!upB c.H 23, true), (!upB c.H 23, true), (!upB c.H 23, true), (true, true), (true, true), (true, true), (true, true), (true, true), (true, true), (true, true), (true, true), (true, true), (true, true), (true, true), (true, true)]) := by kernel_rfl
set_option maxRecDepth 100000 in
theorem ckf_l2 (c : Cv) : evR (ctxOf Tryd.prog noFacts (fun _ => false) libCk) Tryd.f9 [(cvA c)] [false, true, true, false, true] = some (AV.w (AW.one (AC.int IntKind.i64 4)), [(dnE c.y c.m c.d != 0, false), (c.H == 23, true), (c.H == 23, true), (c.H == 23, true), (c.H == 23, true), (c.M == 59, true), (!upB c.H 23, false), (!upB c.H 23, false), (!upB c.H 23, false), (!upB c.H 23, false), (!upB c.H 23, false), (!upB c.M 59, true), (!upB c.M 59, true), (!upB c.M 59, true), (!upB c.M 59, true), (!upB c.M 59, true), (!upB c.M 59, true), (true, true), (true, true), (true, true), (true, true), (true, true), (true, true)]) := by kernel_rfl
set_option maxRecDepth 100000 in
theorem ckf_l3 (c : Cv) : evR (ctxOf Tryd.prog noFacts (fun _ => false) libCk) Tryd.f9 [(cvA c)] [false, true, true, false, false, true] = some (AV.w (AW.one (AC.int IntKind.i64 4)), [(dnE c.y c.m c.d != 0, false), (c.H == 23, true), (c.H == 23, true), (c.H == 23, true), (c.H == 23, true), (c.M == 59, true), (!upB c.H 23, false), (!upB c.H 23, false), (!upB c.H 23, false), (!upB c.H 23, false), (!upB c.H 23, false), (!upB c.M 59, false), (!upB c.M 59, false), (!upB c.M 59, false), (!upB c.M 59, false), (!upB c.M 59, false), (!upB c.M 59, false), (!upB c.S 60, true), (!upB c.S 60, true), (!upB c.S 60, true), (!upB c.S 60, true), (!upB c.S 60, true), (true, true)]) := by kernel_rfl
set_option maxRecDepth 100000 in
theorem ckf_l4 (c : Cv) : evR (ctxOf Tryd.prog noFacts (fun _ => false) libCk) Tryd.f9 [(cvA c)] [false, true, true, false, false, false, true] = some (AV.w (AW.one (AC.int IntKind.i64 4)), [(dnE c.y c.m c.d != 0, false), (c.H == 23, true), (c.H == 23, true), (c.H == 23, true), (c.H == 23, true), (c.M == 59, true), (!upB c.H 23, false), (!upB c.H 23, false), (!upB c.H 23, false), (!upB c.H 23, false), (!upB c.H 23, false), (!upB c.M 59, false), (!upB c.M 59, false), (!upB c.M 59, false), (!upB c.M 59, false), (!upB c.M 59, false), (!upB c.M 59, false), (!upB c.S 60, false), (!upB c.S 60, false), (!upB c.S 60, false), (!upB c.S 60, false), (!upB c.S 60, false), (!upB c.ms 999, true)]) := by kernel_rfl
set_option maxRecDepth 100000 in
theorem ckf_l5 (c : Cv) : evR (ctxOf Tryd.prog noFacts (fun _ => false) libCk) Tryd.f9 [(cvA c)] [false, true, true, false, false, false, false] = some (AV.w (AW.one (AC.int IntKind.i64 0)), [(dnE c.y c.m c.d != 0, false), (c.H == 23, true), (c.H == 23, true), (c.H == 23, true), (c.H == 23, true), (c.M == 59, true), (!upB c.H 23, false), (!upB c.H 23, false), (!upB c.H 23, false), (!upB c.H 23, false), (!upB c.H 23, false), (!upB c.M 59, false), (!upB c.M 59, false), (!upB c.M 59, false), (!upB c.M 59, false), (!upB c.M 59, false), (!upB c.M 59, false), (!upB c.S 60, false), (!upB c.S 60, false), (!upB c.S 60, false), (!upB c.S 60, false), (!upB c.S 60, false), (!upB c.ms 999, false)]) := by kernel_rfl
set_option maxRecDepth 100000 in
theorem ckf_l6 (c : Cv) : evR (ctxOf Tryd.prog noFacts (fun _ => false) libCk) Tryd.f9 [(cvA c)] [false, true, false, true] = some (AV.w (AW.one (AC.int IntKind.i64 4)), [(dnE c.y c.m c.d != 0, false), (c.H == 23, true), (c.H == 23, true), (c.H == 23, true), (c.H == 23, true), (c.M == 59, false), (!upB c.H 23, true), (!upB c.H 23, true), (!upB c.H 23, true), (!upB c.H 23, true), (!upB c.H 23, true), (true, true), (true, true), (true, true), (true, true), (true, true), (true, true), (true, true), (true, true), (true, true), (true, true), (true, true), (true, true)]) := by kernel_rfl
set_option maxRecDepth 100000 in
theorem ckf_l7 (c : Cv) : evR (ctxOf Tryd.prog noFacts (fun _ => false) libCk) Tryd.f9 [(cvA c)] [false, true, false, false, true] = some (AV.w (AW.one (AC.int IntKind.i64 4)), [(dnE c.y c.m c.d != 0, false), (c.H == 23, true), (c.H == 23, true), (c.H == 23, true), (c.H == 23, true), (c.M == 59, false), (!upB c.H 23, false), (!upB c.H 23, false), (!upB c.H 23, false), (!upB c.H 23, false), (!upB c.H 23, false), (!upB c.M 59, true), (!upB c.M 59, true), (!upB c.M 59, true), (!upB c.M 59, true), (!upB c.M 59, true), (!upB c.M 59, true), (true, true), (true, true), (true, true), (true, true), (true, true), (true, true)]) := by kernel_rfl
set_option maxRecDepth 100000 in
theorem ckf_l8 (c : Cv) : evR (ctxOf Tryd.prog noFacts (fun _ => false) libCk) Tryd.f9 [(cvA c)] [false, true, false, false, false, true] = some (AV.w (AW.one (AC.int IntKind.i64 4)), [(dnE c.y c.m c.d != 0, false), (c.H == 23, true), (c.H == 23, true), (c.H == 23, true), (c.H == 23, true), (c.M == 59, false), (!upB c.H 23, false), (!upB c.H 23, false), (!upB c.H 23, false), (!upB c.H 23, false), (!upB c.H 23, false), (!upB c.M 59, false), (!upB c.M 59, false), (!upB c.M 59, false), (!upB c.M 59, false), (!upB c.M 59, false), (!upB c.M 59, false), (!upB c.S 59, true), (!upB c.S 59, true), (!upB c.S 59, true), (!upB c.S 59, true), (!upB c.S 59, true), (true, true)]) := by kernel_rfl
set_option maxRecDepth 100000 in
theorem ckf_l9 (c : Cv) : evR (ctxOf Tryd.prog noFacts (fun _ => false) libCk) Tryd.f9 [(cvA c)] [false, true, false, false, false, false, true] = some (AV.w (AW.one (AC.int IntKind.i64 4)), [(dnE c.y c.m c.d != 0, false), (c.H == 23, true), (c.H == 23, true), (c.H == 23, true), (c.H == 23, true), (c.M == 59, false), (!upB c.H 23, false), (!upB c.H 23, false), (!upB c.H 23, false), (!upB c.H 23, false), (!upB c.H 23, false), (!upB c.M 59, false), (!upB c.M 59, false), (!upB c.M 59, false), (!upB c.M 59, false), (!upB c.M 59, false), (!upB c.M 59, false), (!upB c.S 59, false), (!upB c.S 59, false), (!upB c.S 59, false), (!upB c.S 59, false), (!upB c.S 59, false), (!upB c.ms 999, true)]) := by kernel_rfl
set_option maxRecDepth 100000 in
theorem ckf_l10 (c : Cv) : evR (ctxOf Tryd.prog noFacts (fun _ => false) libCk) Tryd.f9 [(cvA c)] [false, true, false, false, false, false, false] = some (AV.w (AW.one (AC.int IntKind.i64 0)), [(dnE c.y c.m c.d != 0, false), (c.H == 23, true), (c.H == 23, true), (c.H == 23, true), (c.H == 23, true), (c.M == 59, false), (!upB c.H 23, false), (!upB c.H 23, false), (!upB c.H 23, false), (!upB c.H 23, false), (!upB c.H 23, false), (!upB c.M 59, false), (!upB c.M 59, false), (!upB c.M 59, false), (!upB c.M 59, false), (!upB c.M 59, false), (!upB c.M 59, false), (!upB c.S 59, false), (!upB c.S 59, false), (!upB c.S 59, false), (!upB c.S 59, false), (!upB c.S 59, false), (!upB c.ms 999, false)]) := by kernel_rfl
set_option maxRecDepth 100000 in
theorem ckf_l11 (c : Cv) : evR (ctxOf Tryd.prog noFacts (fun _ => false) libCk) Tryd.f9 [(cvA c)] [false, false, true] = some (AV.w (AW.one (AC.int IntKind.i64 4)), [(dnE c.y c.m c.d != 0, false), (c.H == 23, false), (c.H == 23, false), (c.H == 23, false), (c.H == 23, false), (false, false), (!upB c.H 23, true), (!upB c.H 23, true), (!upB c.H 23, true), (!upB c.H 23, true), (!upB c.H 23, true), (true, true), (true, true), (true, true), (true, true), (true, true), (true, true), (true, true), (true, true), (true, true), (true, true), (true, true), (true, true)]) := by kernel_rfl
set_option maxRecDepth 100000 in
theorem ckf_l12 (c : Cv) : evR (ctxOf Tryd.prog noFacts (fun _ => false) libCk) Tryd.f9 [(cvA c)] [false, false, false, true] = some (AV.w (AW.one (AC.int IntKind.i64 4)), [(dnE c.y c.m c.d != 0, false), (c.H == 23, false), (c.H == 23, false), (c.H == 23, false), (c.H == 23, false), (false, false), (!upB c.H 23, false), (!upB c.H 23, false), (!upB c.H 23, false), (!upB c.H 23, false), (!upB c.H 23, false), (!upB c.M 59, true), (!upB c.M 59, true), (!upB c.M 59, true), (!upB c.M 59, true), (!upB c.M 59, true), (!upB c.M 59, true), (true, true), (true, true), (true, true), (true, true), (true, true), (true, true)]) := by kernel_rfl
set_option maxRecDepth 100000 in
theorem ckf_l13 (c : Cv) : evR (ctxOf Tryd.prog noFacts (fun _ => false) libCk) Tryd.f9 [(cvA c)] [false, false, false, false, true] = some (AV.w (AW.one (AC.int IntKind.i64 4)), [(dnE c.y c.m c.d != 0, false), (c.H == 23, false), (c.H == 23, false), (c.H == 23, false), (c.H == 23, false), (false, false), (!upB c.H 23, false), (!upB c.H 23, false), (!upB c.H 23, false), (!upB c.H 23, false), (!upB c.H 23, false), (!upB c.M 59, false), (!upB c.M 59, false), (!upB c.M 59, false), (!upB c.M 59, false), (!upB c.M 59, false), (!upB c.M 59, false), (!upB c.S 59, true), (!upB c.S 59, true), (!upB c.S 59, true), (!upB c.S 59, true), (!upB c.S 59, true), (true, true)]) := by kernel_rfl
set_option maxRecDepth 100000 in
theorem ckf_l14 (c : Cv) : evR (ctxOf Tryd.prog noFacts (fun _ => false) libCk) Tryd.f9 [(cvA c)] [false, false, false, false, false, true] = some (AV.w (AW.one (AC.int IntKind.i64 4)), [(dnE c.y c.m c.d != 0, false), (c.H == 23, false), (c.H == 23, false), (c.H == 23, false), (c.H == 23, false), (false, false), (!upB c.H 23, false), (!upB c.H 23, false), (!upB c.H 23, false), (!upB c.H 23, false), (!upB c.H 23, false), (!upB c.M 59, false), (!upB c.M 59, false), (!upB c.M 59, false), (!upB c.M 59, false), (!upB c.M 59, false), (!upB c.M 59, false), (!upB c.S 59, false), (!upB c.S 59, false), (!upB c.S 59, false), (!upB c.S 59, false), (!upB c.S 59, false), (!upB c.ms 999, true)]) := by kernel_rfl
set_option maxRecDepth 100000 in
theorem ckf_l15 (c : Cv) : evR (ctxOf Tryd.prog noFacts (fun _ => false) libCk) Tryd.f9 [(cvA c)] [false, false, false, false, false, false] = some (AV.w (AW.one (AC.int IntKind.i64 0)), [(dnE c.y c.m c.d != 0, false), (c.H == 23, false), (c.H == 23, false), (c.H == 23, false), (c.H == 23, false), (false, false), (!upB c.H 23, false), (!upB c.H 23, false), (!upB c.H 23, false), (!upB c.H 23, false), (!upB c.H 23, false), (!upB c.M 59, false), (!upB c.M 59, false), (!upB c.M 59, false), (!upB c.M 59, false), (!upB c.M 59, false), (!upB c.M 59, false), (!upB c.S 59, false), (!upB c.S 59, false), (!upB c.S 59, false), (!upB c.S 59, false), (!upB c.S 59, false), (!upB c.ms 999, false)]) := by kernel_rfl
set_option maxRecDepth 100000 in
theorem ckf_t (c : Cv) : Pl Tryd.prog 9 [cvV c] (AV.get ((bif dnE c.y c.m c.d != 0 then (AV.w (AW.one (AC.int IntKind.i64 (dnE c.y c.m c.d)))) else (bif c.H == 23 then (bif c.M == 59 then (bif !upB c.H 23 then (AV.w (AW.one (AC.int IntKind.i64 4))) else (bif !upB c.M 59 then (AV.w (AW.one (AC.int IntKind.i64 4))) else (bif !upB c.S 60 then (AV.w (AW.one (AC.int IntKind.i64 4))) else (bif !upB c.ms 999 then (AV.w (AW.one (AC.int IntKind.i64 4))) else (AV.w (AW.one (AC.int IntKind.i64 0))))))) else (bif !upB c.H 23 then (AV.w (AW.one (AC.int IntKind.i64 4))) else (bif !upB c.M 59 then (AV.w (AW.one (AC.int IntKind.i64 4))) else (bif !upB c.S 59 then (AV.w (AW.one (AC.int IntKind.i64 4))) else (bif !upB c.ms 999 then (AV.w (AW.one (AC.int IntKind.i64 4))) else (AV.w (AW.one (AC.int IntKind.i64 0)))))))) else (bif !upB c.H 23 then (AV.w (AW.one (AC.int IntKind.i64 4))) else (bif !upB c.M 59 then (AV.w (AW.one (AC.int IntKind.i64 4))) else (bif !upB c.S 59 then (AV.w (AW.one (AC.int IntKind.i64 4))) else (bif !upB c.ms 999 then (AV.w (AW.one (AC.int IntKind.i64 4))) else (AV.w (AW.one (AC.int IntKind.i64 0))))))))) : AV Empty)) :=
  (pl_node (fun h0 => (pl_leaf rfl (ctxOf_ok libCk_ok (eq_none _)) (by kernel_rfl) Tryd.func9 rfl (ckf_l0 c) rfl (all2_R (.cons rfl .nil)) rfl (cd_cons h0 cd_nil))) (fun h0 => (pl_node (fun h1 => (pl_node (fun h2 => (pl_node (fun h3 => (pl_leaf rfl (ctxOf_ok libCk_ok (eq_none _)) (by kernel_rfl) Tryd.func9 rfl (ckf_l1 c) rfl (all2_R (.cons rfl .nil)) rfl (cd_cons h0 (cd_cons h1 (cd_cons h1 (cd_cons h1 (cd_cons h1 (cd_cons h2 (cd_cons h3 (cd_cons h3 (cd_cons h3 (cd_cons h3 (cd_cons h3 (cd_cons rfl (cd_cons rfl (cd_cons rfl (cd_cons rfl (cd_cons rfl (cd_cons rfl (cd_cons rfl (cd_cons rfl (cd_cons rfl (cd_cons rfl (cd_cons rfl (cd_cons rfl cd_nil))))))))))))))))))))))))) (fun h3 => (pl_node (fun h4 => (pl_leaf rfl (ctxOf_ok libCk_ok (eq_none _)) (by kernel_rfl) Tryd.func9 rfl (ckf_l2 c) rfl (all2_R (.cons rfl .nil)) rfl (cd_cons h0 (cd_cons h1 (cd_cons h1 (cd_cons h1 (cd_cons h1 (cd_cons h2 (cd_cons h3 (cd_cons h3 (cd_cons h3 (cd_cons h3 (cd_cons h3 (cd_cons h4 (cd_cons h4 (cd_cons h4 (cd_cons h4 (cd_cons h4 (cd_cons h4 (cd_cons rfl (cd_cons rfl (cd_cons rfl (cd_cons rfl (cd_cons rfl (cd_cons rfl cd_nil))))))))))))))))))))))))) (fun h4 => (pl_node (fun h5 => (pl_leaf rfl (ctxOf_ok libCk_ok (eq_none _)) (by kernel_rfl) Tryd.func9 rfl (ckf_l3 c) rfl (all2_R (.cons rfl .nil)) rfl (cd_cons h0 (cd_cons h1 (cd_cons h1 (cd_cons h1 (cd_cons h1 (cd_cons h2 (cd_cons h3 (cd_cons h3 (cd_cons h3 (cd_cons h3 (cd_cons h3 (cd_cons h4 (cd_cons h4 (cd_cons h4 (cd_cons h4 (cd_cons h4 (cd_cons h4 (cd_cons h5 (cd_cons h5 (cd_cons h5 (cd_cons h5 (cd_cons h5 (cd_cons rfl cd_nil))))))))))))))))))))))))) (fun h5 => (pl_node (fun h6 => (pl_leaf rfl (ctxOf_ok libCk_ok (eq_none _)) (by kernel_rfl) Tryd.func9 rfl (ckf_l4 c) rfl (all2_R (.cons rfl .nil)) rfl (cd_cons h0 (cd_cons h1 (cd_cons h1 (cd_cons h1 (cd_cons h1 (cd_cons h2 (cd_cons h3 (cd_cons h3 (cd_cons h3 (cd_cons h3 (cd_cons h3 (cd_cons h4 (cd_cons h4 (cd_cons h4 (cd_cons h4 (cd_cons h4 (cd_cons h4 (cd_cons h5 (cd_cons h5 (cd_cons h5 (cd_cons h5 (cd_cons h5 (cd_cons h6 cd_nil))))))))))))))))))))))))) (fun h6 => (pl_leaf rfl (ctxOf_ok libCk_ok (eq_none _)) (by kernel_rfl) Tryd.func9 rfl (ckf_l5 c) rfl (all2_R (.cons rfl .nil)) rfl (cd_cons h0 (cd_cons h1 (cd_cons h1 (cd_cons h1 (cd_cons h1 (cd_cons h2 (cd_cons h3 (cd_cons h3 (cd_cons h3 (cd_cons h3 (cd_cons h3 (cd_cons h4 (cd_cons h4 (cd_cons h4 (cd_cons h4 (cd_cons h4 (cd_cons h4 (cd_cons h5 (cd_cons h5 (cd_cons h5 (cd_cons h5 (cd_cons h5 (cd_cons h6 cd_nil))))))))))))))))))))))))))))))))) (fun h2 => (pl_node (fun h3 => (pl_leaf rfl (ctxOf_ok libCk_ok (eq_none _)) (by kernel_rfl) Tryd.func9 rfl (ckf_l6 c) rfl (all2_R (.cons rfl .nil)) rfl (cd_cons h0 (cd_cons h1 (cd_cons h1 (cd_cons h1 (cd_cons h1 (cd_cons h2 (cd_cons h3 (cd_cons h3 (cd_cons h3 (cd_cons h3 (cd_cons h3 (cd_cons rfl (cd_cons rfl (cd_cons rfl (cd_cons rfl (cd_cons rfl (cd_cons rfl (cd_cons rfl (cd_cons rfl (cd_cons rfl (cd_cons rfl (cd_cons rfl (cd_cons rfl cd_nil))))))))))))))))))))))))) (fun h3 => (pl_node (fun h4 => (pl_leaf rfl (ctxOf_ok libCk_ok (eq_none _)) (by kernel_rfl) Tryd.func9 rfl (ckf_l7 c) rfl (all2_R (.cons rfl .nil)) rfl (cd_cons h0 (cd_cons h1 (cd_cons h1 (cd_cons h1 (cd_cons h1 (cd_cons h2 (cd_cons h3 (cd_cons h3 (cd_cons h3 (cd_cons h3 (cd_cons h3 (cd_cons h4 (cd_cons h4 (cd_cons h4 (cd_cons h4 (cd_cons h4 (cd_cons h4 (cd_cons rfl (cd_cons rfl (cd_cons rfl (cd_cons rfl (cd_cons rfl (cd_cons rfl cd_nil))))))))))))))))))))))))) (fun h4 => (pl_node (fun h5 => (pl_leaf rfl (ctxOf_ok libCk_ok (eq_none _)) (by kernel_rfl) Tryd.func9 rfl (ckf_l8 c) rfl (all2_R (.cons rfl .nil)) rfl (cd_cons h0 (cd_cons h1 (cd_cons h1 (cd_cons h1 (cd_cons h1 (cd_cons h2 (cd_cons h3 (cd_cons h3 (cd_cons h3 (cd_cons h3 (cd_cons h3 (cd_cons h4 (cd_cons h4 (cd_cons h4 (cd_cons h4 (cd_cons h4 (cd_cons h4 (cd_cons h5 (cd_cons h5 (cd_cons h5 (cd_cons h5 (cd_cons h5 (cd_cons rfl cd_nil))))))))))))))))))))))))) (fun h5 => (pl_node (fun h6 => (pl_leaf rfl (ctxOf_ok libCk_ok (eq_none _)) (by kernel_rfl) Tryd.func9 rfl (ckf_l9 c) rfl (all2_R (.cons rfl .nil)) rfl (cd_cons h0 (cd_cons h1 (cd_cons h1 (cd_cons h1 (cd_cons h1 (cd_cons h2 (cd_cons h3 (cd_cons h3 (cd_cons h3 (cd_cons h3 (cd_cons h3 (cd_cons h4 (cd_cons h4 (cd_cons h4 (cd_cons h4 (cd_cons h4 (cd_cons h4 (cd_cons h5 (cd_cons h5 (cd_cons h5 (cd_cons h5 (cd_cons h5 (cd_cons h6 cd_nil))))))))))))))))))))))))) (fun h6 => (pl_leaf rfl (ctxOf_ok libCk_ok (eq_none _)) (by kernel_rfl) Tryd.func9 rfl (ckf_l10 c) rfl (all2_R (.cons rfl .nil)) rfl (cd_cons h0 (cd_cons h1 (cd_cons h1 (cd_cons h1 (cd_cons h1 (cd_cons h2 (cd_cons h3 (cd_cons h3 (cd_cons h3 (cd_cons h3 (cd_cons h3 (cd_cons h4 (cd_cons h4 (cd_cons h4 (cd_cons h4 (cd_cons h4 (cd_cons h4 (cd_cons h5 (cd_cons h5 (cd_cons h5 (cd_cons h5 (cd_cons h5 (cd_cons h6 cd_nil))))))))))))))))))))))))))))))))))) (fun h1 => (pl_node (fun h2 => (pl_leaf rfl (ctxOf_ok libCk_ok (eq_none _)) (by kernel_rfl) Tryd.func9 rfl (ckf_l11 c) rfl (all2_R (.cons rfl .nil)) rfl (cd_cons h0 (cd_cons h1 (cd_cons h1 (cd_cons h1 (cd_cons h1 (cd_cons rfl (cd_cons h2 (cd_cons h2 (cd_cons h2 (cd_cons h2 (cd_cons h2 (cd_cons rfl (cd_cons rfl (cd_cons rfl (cd_cons rfl (cd_cons rfl (cd_cons rfl (cd_cons rfl (cd_cons rfl (cd_cons rfl (cd_cons rfl (cd_cons rfl (cd_cons rfl cd_nil))))))))))))))))))))))))) (fun h2 => (pl_node (fun h3 => (pl_leaf rfl (ctxOf_ok libCk_ok (eq_none _)) (by kernel_rfl) Tryd.func9 rfl (ckf_l12 c) rfl (all2_R (.cons rfl .nil)) rfl (cd_cons h0 (cd_cons h1 (cd_cons h1 (cd_cons h1 (cd_cons h1 (cd_cons rfl (cd_cons h2 (cd_cons h2 (cd_cons h2 (cd_cons h2 (cd_cons h2 (cd_cons h3 (cd_cons h3 (cd_cons h3 (cd_cons h3 (cd_cons h3 (cd_cons h3 (cd_cons rfl (cd_cons rfl (cd_cons rfl (cd_cons rfl (cd_cons rfl (cd_cons rfl cd_nil))))))))))))))))))))))))) (fun h3 => (pl_node (fun h4 => (pl_leaf rfl (ctxOf_ok libCk_ok (eq_none _)) (by kernel_rfl) Tryd.func9 rfl (ckf_l13 c) rfl (all2_R (.cons rfl .nil)) rfl (cd_cons h0 (cd_cons h1 (cd_cons h1 (cd_cons h1 (cd_cons h1 (cd_cons rfl (cd_cons h2 (cd_cons h2 (cd_cons h2 (cd_cons h2 (cd_cons h2 (cd_cons h3 (cd_cons h3 (cd_cons h3 (cd_cons h3 (cd_cons h3 (cd_cons h3 (cd_cons h4 (cd_cons h4 (cd_cons h4 (cd_cons h4 (cd_cons h4 (cd_cons rfl cd_nil))))))))))))))))))))))))) (fun h4 => (pl_node (fun h5 => (pl_leaf rfl (ctxOf_ok libCk_ok (eq_none _)) (by kernel_rfl) Tryd.func9 rfl (ckf_l14 c) rfl (all2_R (.cons rfl .nil)) rfl (cd_cons h0 (cd_cons h1 (cd_cons h1 (cd_cons h1 (cd_cons h1 (cd_cons rfl (cd_cons h2 (cd_cons h2 (cd_cons h2 (cd_cons h2 (cd_cons h2 (cd_cons h3 (cd_cons h3 (cd_cons h3 (cd_cons h3 (cd_cons h3 (cd_cons h3 (cd_cons h4 (cd_cons h4 (cd_cons h4 (cd_cons h4 (cd_cons h4 (cd_cons h5 cd_nil))))))))))))))))))))))))) (fun h5 => (pl_leaf rfl (ctxOf_ok libCk_ok (eq_none _)) (by kernel_rfl) Tryd.func9 rfl (ckf_l15 c) rfl (all2_R (.cons rfl .nil)) rfl (cd_cons h0 (cd_cons h1 (cd_cons h1 (cd_cons h1 (cd_cons h1 (cd_cons rfl (cd_cons h2 (cd_cons h2 (cd_cons h2 (cd_cons h2 (cd_cons h2 (cd_cons h3 (cd_cons h3 (cd_cons h3 (cd_cons h3 (cd_cons h3 (cd_cons h3 (cd_cons h4 (cd_cons h4 (cd_cons h4 (cd_cons h4 (cd_cons h4 (cd_cons h5 cd_nil))))))))))))))))))))))))))))))))))))
theorem ckf_pl (c : Cv)  : Pl Tryd.prog 9 [cvV c] (.int .i64 (cvE c)) := by
  refine Eq.mp (congrArg (Pl _ _ _) ?_) (ckf_t c)
  have hE : (dnE c.y c.m c.d != 0) = !okD c.y c.m c.d := by unfold dnE; cases okD c.y c.m c.d <;> rfl
  rw [hE]
  unfold cvE cvB
  have b1 : (c.H == 23) = decide (c.H = 23) := by by_cases g : c.H = 23 <;> simp [g]
  have b2 : (c.M == 59) = decide (c.M = 59) := by by_cases g : c.M = 59 <;> simp [g]
  rw [b1, b2]
  cases hk : okD c.y c.m c.d with
  | false =>
    have hD : dnE c.y c.m c.d = 4 := by unfold dnE; rw [hk]; rfl
    rw [hD]; rfl
  | true =>
    by_cases h1 : c.H = 23
    · by_cases h2 : c.M = 59
      · have eS : (if c.H = 23 ∧ c.M = 59 then (60 : Int) else 59) = 60 := if_pos ⟨h1, h2⟩
        rw [decide_eq_true h1, decide_eq_true h2, eS]
        cases upB c.H 23 <;> cases upB c.M 59 <;> cases upB c.S 60 <;> cases upB c.ms 999 <;> rfl
      · have eS : (if c.H = 23 ∧ c.M = 59 then (60 : Int) else 59) = 59 := if_neg (fun h => h2 h.2)
        rw [decide_eq_true h1, decide_eq_false h2, eS]
        cases upB c.H 23 <;> cases upB c.M 59 <;> cases upB c.S 59 <;> cases upB c.ms 999 <;> rfl
    · have eS : (if c.H = 23 ∧ c.M = 59 then (60 : Int) else 59) = 59 := if_neg (fun h => h1 h.1)
      rw [decide_eq_false h1, eS]
      cases decide (c.M = 59) <;> cases upB c.H 23 <;> cases upB c.M 59 <;> cases upB c.S 59 <;> cases upB c.ms 999 <;> rfl
noncomputable abbrev libTU : List (Nat × FnSp Lp) := [(9, civS), (30, bothSp mkLp gCheckL), (19, daysS), (31, bothSp mkLp gStepAt), (32, bothSp mkLp gBegin), (33, tmS)]
noncomputable abbrev libSF : List (Nat × FnSp Lp) := [(18, bothSp mkLp gToU)]
theorem libTU_ok : LibOk Tryd.prog lpI (lib1 libTU) := lib1_cons (sp1_ok fun c _ => ⟨_, rfl, ckf_pl c⟩) Tryd.call9 (lib1_cons gCheckL_ok Tryd.call30 (lib1_cons (daysS_ok _) Tryd.call19 (lib1_cons gStepAt_ok Tryd.call31 (lib1_cons gBegin_ok Tryd.call32 (lib1_cons (sp1_ok fun t _ => ⟨_, rfl, tmf_pl t⟩) Tryd.call33 (lib1_nil _ _))))))
set_option maxRecDepth 100000 in
theorem tuf_1 (c : Cv) (l : List (Int × Int)) : evR (ctxOf Tryd.prog lpI (fun _ => false) libTU) Tryd.f18 [(cvA c), (.w (.one (.fv (.row l))))] [true] = some (AV.tup [AW.one (AC.int IntKind.i64 0), AW.one (AC.int IntKind.i64 (cvE c))], (pickL [(cvE c != 0, true)] [0])) := by kernel_rfl
set_option maxRecDepth 100000 in
theorem tuf_01 (c : Cv) (l : List (Int × Int)) : evR (ctxOf Tryd.prog lpI (fun _ => false) libTU) Tryd.f18 [(cvA c), (.w (.one (.fv (.row l))))] [false, true] = some (AV.tup [AW.one (AC.int IntKind.i64 0), AW.one (AC.int IntKind.i64 (ckL l))], (pickL [(cvE c != 0, false), (ckL l != 0, true)] [0, 1])) := by kernel_rfl
set_option maxRecDepth 100000 in
theorem tuf_001 (c : Cv) (l : List (Int × Int)) : evR (ctxOf Tryd.prog lpI (fun _ => false) libTU) Tryd.f18 [(cvA c), (.w (.one (.fv (.row l))))] [false, false, true] = some (AV.tup [AW.one (AC.int IntKind.i64 0), AW.one (AC.int IntKind.i64 8)], (pickL [(cvE c != 0, false), (ckL l != 0, false), (decide (okT l), true), (decide (IntKind.i64.wrap (IntKind.i64.wrap (IntKind.i64.wrap (IntKind.i64.wrap (c.H * 60) + c.M) * 60) + c.S) ≥ IntKind.i64.wrap (86400 + stL (dnV c.y c.m c.d) l)), true)] [0, 1, 2, 3])) := by kernel_rfl
set_option maxRecDepth 100000 in
theorem tuf_0001 (c : Cv) (l : List (Int × Int)) : evR (ctxOf Tryd.prog lpI (fun _ => false) libTU) Tryd.f18 [(cvA c), (.w (.one (.fv (.row l))))] [false, false, false, true] = some (AV.tup [AW.one (AC.int IntKind.i64 0), AW.one (AC.int IntKind.i64 2)], (pickL [(cvE c != 0, false), (ckL l != 0, false), (decide (okT l), true), (decide (IntKind.i64.wrap (IntKind.i64.wrap (IntKind.i64.wrap (IntKind.i64.wrap (c.H * 60) + c.M) * 60) + c.S) ≥ IntKind.i64.wrap (86400 + stL (dnV c.y c.m c.d) l)), false), (dayB (dnV c.y c.m c.d), true), (!tmB (IntKind.i64.wrap (86400000 * dnV c.y c.m c.d + 1000 * sumL (dnV c.y c.m c.d) l + IntKind.i64.wrap (IntKind.i64.wrap (IntKind.i64.wrap (IntKind.i64.wrap (IntKind.i64.wrap (IntKind.i64.wrap (c.H * 60) + c.M) * 60) + c.S) * 1000) + c.ms))), true)] [0, 1, 2, 3, 2, 4, 5])) := by kernel_rfl
set_option maxRecDepth 100000 in
theorem tuf_0000 (c : Cv) (l : List (Int × Int)) : evR (ctxOf Tryd.prog lpI (fun _ => false) libTU) Tryd.f18 [(cvA c), (.w (.one (.fv (.row l))))] [false, false, false, false] = some (AV.tup [AW.one (AC.int IntKind.i64 (IntKind.i64.wrap (86400000 * dnV c.y c.m c.d + 1000 * sumL (dnV c.y c.m c.d) l + IntKind.i64.wrap (IntKind.i64.wrap (IntKind.i64.wrap (IntKind.i64.wrap (IntKind.i64.wrap (IntKind.i64.wrap (c.H * 60) + c.M) * 60) + c.S) * 1000) + c.ms)))), AW.one (AC.int IntKind.i64 0)], (pickL [(cvE c != 0, false), (ckL l != 0, false), (decide (okT l), true), (decide (IntKind.i64.wrap (IntKind.i64.wrap (IntKind.i64.wrap (IntKind.i64.wrap (c.H * 60) + c.M) * 60) + c.S) ≥ IntKind.i64.wrap (86400 + stL (dnV c.y c.m c.d) l)), false), (dayB (dnV c.y c.m c.d), true), (!tmB (IntKind.i64.wrap (86400000 * dnV c.y c.m c.d + 1000 * sumL (dnV c.y c.m c.d) l + IntKind.i64.wrap (IntKind.i64.wrap (IntKind.i64.wrap (IntKind.i64.wrap (IntKind.i64.wrap (IntKind.i64.wrap (c.H * 60) + c.M) * 60) + c.S) * 1000) + c.ms))), false)] [0, 1, 2, 3, 2, 4, 5])) := by kernel_rfl
theorem cv_in {c : Cv} (h : cvE c = 0) : okD c.y c.m c.d = true ∧ 0 ≤ c.H ∧ c.H ≤ 23 ∧ 0 ≤ c.M ∧ c.M ≤ 59 ∧ 0 ≤ c.S ∧ c.S ≤ 60 ∧ 0 ≤ c.ms ∧ c.ms ≤ 999 ∧ -730119 ≤ cvD c ∧ cvD c < 2921940 := by
  have hb : cvB c = true := by
    unfold cvE at h
    by_cases g : cvB c = true
    · exact g
    · rw [if_neg g] at h; omega
  unfold cvB upB at hb
  simp only [Bool.and_eq_true, decide_eq_true_eq] at hb
  obtain ⟨⟨⟨⟨h1, h2, h3⟩, h4, h5⟩, h6, h7⟩, h8, h9⟩ := hb
  have hd := inD_is (ok_isD h1)
  unfold inD at hd
  simp only [Bool.and_eq_true, decide_eq_true_eq] at hd
  refine ⟨h1, h2, h3, h4, h5, h6, ?_, h8, h9, hd.1, hd.2⟩
  split at h7 <;> omega
theorem stL_in {day : Int} : ∀ {l : List (Int × Int)}, (∀ e ∈ l, (e.2 = 1 ∨ e.2 = -1) ∧ -200000 ≤ e.1 ∧ e.1 ≤ 200000) → -1 ≤ stL day l ∧ stL day l ≤ 1
  | [], h => by simp [stL]
  | (d, s) :: r, h => by
    have ih := stL_in (day := day) (l := r) fun e he => h e (List.mem_cons_of_mem _ he)
    have := (h (d, s) List.mem_cons_self).1
    simp only at this
    simp only [stL]
    split <;> omega
theorem tu_in {c : Cv} {l : List (Int × Int)} (h : cvE c = 0) (hl : okT l) : IntKind.i64.wrap (IntKind.i64.wrap (IntKind.i64.wrap (IntKind.i64.wrap (c.H * 60) + c.M) * 60) + c.S) = cvS c ∧ IntKind.i64.wrap (86400 + stL (dnV c.y c.m c.d) l) = 86400 + stL (cvD c) l ∧ dayB (dnV c.y c.m c.d) = true ∧ IntKind.i64.wrap (86400000 * dnV c.y c.m c.d + 1000 * sumL (dnV c.y c.m c.d) l + IntKind.i64.wrap (IntKind.i64.wrap (IntKind.i64.wrap (IntKind.i64.wrap (IntKind.i64.wrap (IntKind.i64.wrap (c.H * 60) + c.M) * 60) + c.S) * 1000) + c.ms)) = cvT c l := by
  obtain ⟨h0, h1, h2, h3, h4, h5, h6, h7, h8, h9, h10⟩ := cv_in h
  have s := stL_in (day := cvD c) hl.2
  have u := sumL_in (day := cvD c) hl.2
  have g := hl.1
  have es : IntKind.i64.wrap (IntKind.i64.wrap (IntKind.i64.wrap (IntKind.i64.wrap (c.H * 60) + c.M) * 60) + c.S) = cvS c := by
    unfold cvS
    rw [w64 (x := c.H * 60) (by omega) (by omega), w64 (x := c.H * 60 + c.M) (by omega) (by omega), w64 (x := (c.H * 60 + c.M) * 60) (by omega) (by omega), w64 (by omega) (by omega)]
  have hs : 0 ≤ cvS c ∧ cvS c ≤ 90000 := by unfold cvS; omega
  refine ⟨es, w64 (by show -9223372036854775808 ≤ 86400 + stL (cvD c) l; omega) (by show 86400 + stL (cvD c) l ≤ _; omega), ?_, ?_⟩
  · show dayB (cvD c) = true
    unfold dayB
    rw [decide_eq_true (show -10000000 ≤ cvD c by omega), decide_eq_true (show cvD c ≤ 10000000 by omega)]; rfl
  · rw [es, w64 (x := cvS c * 1000) (by omega) (by omega), w64 (x := cvS c * 1000 + c.ms) (by omega) (by omega)]
    show IntKind.i64.wrap (86400000 * cvD c + 1000 * sumL (cvD c) l + (cvS c * 1000 + c.ms)) = cvT c l
    rw [w64 (by omega) (by omega)]; rfl
theorem gToU_ok : (bothSp mkLp gToU).ok Tryd.prog lpI 18 :=
  bothSp_ok (ctxOf_ok libTU_ok (eq_none _)) (by kernel_rfl) Tryd.func18 rfl lps_nil mkLp_ok fun args v cd hg hc => by
    unfold gToU at hg
    split at hg
    · rename_i y m d H M S ms l
      cases hg
      refine ⟨rfl, rfl, rfl, ?_⟩
      generalize hcc : (⟨y, m, d, H, M, S, ms⟩ : Cv) = c
      have hA : ([.w (.agg [.int .i64 y, .int .i64 m, .int .i64 d, .int .i64 H, .int .i64 M, .int .i64 S, .int .i64 ms]), .w (.one (.fv (.row l)))] : List (AV Lp)) = [cvA c, .w (.one (.fv (.row l)))] := by subst hcc; rfl
      rw [hA]
      by_cases h1 : cvE c = 0
      · have c1 : (cvE c != 0) = false := by rw [h1]; rfl
        by_cases h2 : ckL l = 0
        · have c2 : (ckL l != 0) = false := by rw [h2]; rfl
          have hl := ckL_ok h2
          have c3 : decide (okT l) = true := decide_eq_true hl
          obtain ⟨q1, q2, q3, q4⟩ := tu_in h1 hl
          by_cases h3 : 86400 + stL (cvD c) l ≤ cvS c
          · have c4 : decide (cvS c ≥ 86400 + stL (cvD c) l) = true := decide_eq_true h3
            have e2 : tuE c l = 8 := by unfold tuE; rw [if_neg (by omega), if_neg (by omega), if_pos h3]
            have e1 : tuV c l = 0 := if_neg (by omega)
            have L := tuf_001 c l
            rw [q1, q2] at L
            refine ⟨[false, false, true], _, _, L, fun E u hu => ?_, pickL_ok ?_ _⟩
            · rw [e1, e2]; exact hu
            repeat' (first | exact cd_nil | refine cd_cons ?_ ?_)
            all_goals first | rfl | with_reducible assumption

          · have c4 : decide (cvS c ≥ 86400 + stL (cvD c) l) = false := decide_eq_false h3
            cases h4 : tmB (cvT c l) with
            | false =>
              have c5 : (!tmB (cvT c l)) = true := by rw [h4]; rfl
              have e2 : tuE c l = 2 := by unfold tuE; rw [if_neg (by omega), if_neg (by omega), if_neg h3, h4]; rfl
              have e1 : tuV c l = 0 := if_neg (by omega)
              have L := tuf_0001 c l
              rw [q4, q1, q2] at L
              refine ⟨[false, false, false, true], _, _, L, fun E u hu => ?_, pickL_ok ?_ _⟩
              · rw [e1, e2]; exact hu
              repeat' (first | exact cd_nil | refine cd_cons ?_ ?_)
              all_goals first | rfl | with_reducible assumption

            | true =>
              have c5 : (!tmB (cvT c l)) = false := by rw [h4]; rfl
              have e2 : tuE c l = 0 := by unfold tuE; rw [if_neg (by omega), if_neg (by omega), if_neg h3, if_pos h4]
              have e1 : tuV c l = cvT c l := if_pos e2
              have L := tuf_0000 c l
              rw [q4, q1, q2] at L
              refine ⟨[false, false, false, false], _, _, L, fun E u hu => ?_, pickL_ok ?_ _⟩
              · rw [e1, e2]; exact hu
              repeat' (first | exact cd_nil | refine cd_cons ?_ ?_)
              all_goals first | rfl | with_reducible assumption

        · have c2 : (ckL l != 0) = true := by simpa using h2
          have e2 : tuE c l = ckL l := by unfold tuE; rw [if_neg (by omega), if_pos h2]
          have e1 : tuV c l = 0 := if_neg (by omega)
          refine ⟨[false, true], _, _, tuf_01 c l, fun E u hu => ?_, pickL_ok ?_ _⟩
          · rw [e1, e2]; exact hu
          repeat' (first | exact cd_nil | refine cd_cons ?_ ?_)
          all_goals first | rfl | with_reducible assumption

      · have c1 : (cvE c != 0) = true := by simpa using h1
        have e2 : tuE c l = cvE c := by unfold tuE; rw [if_pos h1]
        have e1 : tuV c l = 0 := if_neg (by omega)
        refine ⟨[true], _, _, tuf_1 c l, fun E u hu => ?_, pickL_ok ?_ _⟩
        · rw [e1, e2]; exact hu
        repeat' (first | exact cd_nil | refine cd_cons ?_ ?_)
        all_goals first | rfl | with_reducible assumption

    · cases hg
theorem libSF_ok : LibOk Tryd.prog lpI (lib1 libSF) := lib1_cons gToU_ok Tryd.call18 (lib1_nil _ _)
set_option maxRecDepth 100000 in
theorem sfact_1  : evR (ctxOf Tryd.prog lpI (fun _ => false) libSF) Tryd.f8 [] [true] = some (AV.w (AW.one (AC.bool (tuV { y := 2000, m := 12, d := 31, H := 23, M := 59, S := 60, ms := 500 } [(365, 1)] == 31622400500))), (pickL [(tuE { y := 2000, m := 12, d := 31, H := 23, M := 59, S := 60, ms := 500 } [(365, 1)] == 0, true)] [0, 0, 0])) := by kernel_rfl
theorem sfact_pl : Pl Tryd.prog 8 [] (.bool true) := fun w => by
  have e : tuE ⟨2000, 12, 31, 23, 59, 60, 500⟩ [(365, 1)] = 0 ∧ cvT ⟨2000, 12, 31, 23, 59, 60, 500⟩ [(365, 1)] = 31622400500 := by decide +kernel
  have c1 : (tuE ⟨2000, 12, 31, 23, 59, 60, 500⟩ [(365, 1)] == 0) = true := by rw [e.1]; rfl
  have V : (tuV ⟨2000, 12, 31, 23, 59, 60, 500⟩ [(365, 1)] == 31622400500) = true := by unfold tuV; rw [if_pos e.1, e.2]; rfl
  refine evR_calls (I := lpI) (v := .bool true) (ctxOf_ok libSF_ok (eq_none _)) (by kernel_rfl) Tryd.func8 rfl lps_nil sfact_1 rfl (all2_R .nil) (congrArg (fun b => some (Value.bool b)) V) w (Nat.zero_le _) (pickL_ok ?_ _)
  repeat' (first | exact cd_nil | refine cd_cons ?_ ?_)
  all_goals first | with_reducible assumption | rfl
end
end Go.Proofs.YtokkaeaciigapaaDoor

