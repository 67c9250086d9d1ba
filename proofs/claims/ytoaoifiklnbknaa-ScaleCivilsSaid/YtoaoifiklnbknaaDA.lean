/-
  The reference's LeapsErr, Begin, CivilErr and UniformOf as functions of their arguments; the walk of spylaw1.ScaleUniforms.
  Conditions: those of each theorem.
-/
import Derived.Test.YtoaoifiklnbknaaD9
set_option linter.unusedVariables false
set_option linter.unusedSimpArgs false
namespace Go.Proofs.Ytoaoifiklnbknaa.RL
open Go.RowKit Ev Sc
open Go.Proofs.Ytoaoifiklnbknaa
variable {F : Type}
noncomputable section

noncomputable abbrev leLps : Lps Lp := [((38, [false, true, false, true, true, true]), leD.sp (fun _ => false))]
noncomputable abbrev rgLps : Lps Lp := [((27, [false, true, false, true, true]), rgD.sp (fun _ => false))]
theorem leLps_ok : LpsOk Try.prog lpI leLps Try.f65.ntmps (bodyOf Try.f65) := lps_cons (fun _ x hx => leD_ok x hx) lps_nil
theorem rgLps_ok : LpsOk Try.prog lpI rgLps Try.f108.ntmps (bodyOf Try.f108) := lps_cons (fun _ x hx => rgD_ok x hx) lps_nil
set_option maxRecDepth 100000 in
theorem rbf_ (d : Int) (l : List (Int × Int)) : evR (ctxLp Try.prog lpI (fun _ => false) [] [] rgLps) Try.f108 [(.w (.one (.int .i64 d))), (.w (.one (.fv (.row l))))] [] = some (AV.w (AW.one (AC.int IntKind.i64 (86400000 * d + 1000 * sumL d l))), (pickL [(decide (okT l) && decide (-10000000 ≤ d) && decide (d ≤ 10000000) && decide (lenP l = lenP l) && decide ((0 : Int) = 0) && decide (IntKind.i64.wrap (86400000 * d) = 86400000 * d), true)] [0])) := by kernel_rfl
set_option maxRecDepth 100000 in
theorem rlf_1 (l : List (Int × Int)) : evR (ctxLp Try.prog lpI (fun _ => false) [] [] leLps) Try.f65 [(.w (.one (.fv (.row l))))] [true] = some (AV.w (AW.one (AC.int IntKind.i64 2)), (pickL [(decide (lenP l > 64), true)] [0])) := by kernel_rfl
set_option maxRecDepth 100000 in
theorem rlf_01 (l : List (Int × Int)) : evR (ctxLp Try.prog lpI (fun _ => false) [] [] leLps) Try.f65 [(.w (.one (.fv (.row l))))] [false, true] = some (AV.w (AW.one (AC.int IntKind.i64 0)), (pickL [(decide (lenP l > 64), false), (decide (chL none l = 0), true), (decide (-4611686018427387904 = -4611686018427387904) && decide ((0 : Int) = 0) && decide (lenP l = lenP l) && decide (lenP l ≤ 9223372036854775807), true)] [0, 1, 2])) := by kernel_rfl
set_option maxRecDepth 100000 in
theorem rlf_00 (l : List (Int × Int)) : evR (ctxLp Try.prog lpI (fun _ => false) [] [] leLps) Try.f65 [(.w (.one (.fv (.row l))))] [false, false] = some (AV.w (AW.one (AC.int IntKind.i64 (chL none l))), (pickL [(decide (lenP l > 64), false), (decide (chL none l = 0), false), (decide (-4611686018427387904 = -4611686018427387904) && decide ((0 : Int) = 0) && decide (lenP l = lenP l) && decide (lenP l ≤ 9223372036854775807), true)] [0, 1, 2])) := by kernel_rfl
theorem rBegin_ok : (bothSp mkLp gBegin).ok Try.prog lpI 108 :=
  bothSp_ok (ctxLp_ok (lib1_nil _ _) (eq_none _) (fns_nil _) (fun f fn h => by cases h)) (by kernel_rfl) Try.func108 rfl rgLps_ok mkLp_ok fun args v cd hg hc => by
    unfold gBegin at hg
    split at hg
    · rename_i d l
      cases hg
      refine ⟨rfl, rfl, rfl, ?_⟩
      have h1 : okT l := of_decide_eq_true (hc (decide (okT l), true) (by simp))
      have h2 : dayB d = true := hc (dayB d, true) (by simp)
      simp only [dayB, Bool.and_eq_true, decide_eq_true_eq] at h2
      have e : IntKind.i64.wrap (86400000 * d) = 86400000 * d := by rw [w64 (by omega) (by omega)]
      have c1 : (decide (okT l) && decide (-10000000 ≤ d) && decide (d ≤ 10000000) && decide (lenP l = lenP l) && decide ((0 : Int) = 0) && decide (IntKind.i64.wrap (86400000 * d) = 86400000 * d)) = true := by
        rw [decide_eq_true h1, decide_eq_true h2.1, decide_eq_true h2.2, decide_eq_true e, decide_eq_true (rfl : lenP l = lenP l)]; rfl
      refine ⟨[], _, _, rbf_ d l, fun E u hu => ?_, pickL_ok ?_ _⟩
      · exact hu
      repeat' (first | exact cd_nil | refine cd_cons ?_ ?_)
      all_goals first | rfl | with_reducible assumption

    · cases hg
theorem rLeaps_ok : (bothSp mkLp gCheckL).ok Try.prog lpI 65 :=
  bothSp_ok (ctxLp_ok (lib1_nil _ _) (eq_none _) (fns_nil _) (fun f fn h => by cases h)) (by kernel_rfl) Try.func65 rfl leLps_ok mkLp_ok fun args v cd hg hc => by
    unfold gCheckL at hg
    split at hg
    · rename_i l
      cases hg
      refine ⟨rfl, rfl, rfl, ?_⟩
      by_cases h1 : 64 < lenP l
      · have c1 : decide (lenP l > 64) = true := decide_eq_true h1
        have e : ckL l = 2 := if_pos h1
        refine ⟨[true], _, _, rlf_1 l, fun E u hu => ?_, pickL_ok ?_ _⟩
        · rw [e]; exact hu
        repeat' (first | exact cd_nil | refine cd_cons ?_ ?_)
        all_goals first | rfl | with_reducible assumption

      · have c1 : decide (lenP l > 64) = false := decide_eq_false h1
        have e : ckL l = chL none l := if_neg h1
        have c2 : (decide (-4611686018427387904 = -4611686018427387904) && decide ((0 : Int) = 0) && decide (lenP l = lenP l) && decide (lenP l ≤ 9223372036854775807)) = true := by
          rw [decide_eq_true (show lenP l ≤ 9223372036854775807 by omega), decide_eq_true (rfl : lenP l = lenP l)]; rfl
        by_cases h2 : chL none l = 0
        · have c3 : decide (chL none l = 0) = true := decide_eq_true h2
          have e' : ckL l = 0 := e.trans h2
          refine ⟨[false, true], _, _, rlf_01 l, fun E u hu => ?_, pickL_ok ?_ _⟩
          · rw [e']; exact hu
          repeat' (first | exact cd_nil | refine cd_cons ?_ ?_)
          all_goals first | rfl | with_reducible assumption

        · have c3 : decide (chL none l = 0) = false := decide_eq_false h2
          refine ⟨[false, false], _, _, rlf_00 l, fun E u hu => ?_, pickL_ok ?_ _⟩
          · rw [e]; exact hu
          repeat' (first | exact cd_nil | refine cd_cons ?_ ?_)
          all_goals first | rfl | with_reducible assumption

    · cases hg
noncomputable abbrev fnsCE : List (Nat × Func) := [(110, Try.f110)]
noncomputable abbrev libCE : List (Nat × FnSp Empty) := [(58, dayNS)]
theorem cv_iff {c : Cv} : cvB c = true ↔ dnE c.y c.m c.d = 0 ∧ 0 ≤ c.H ∧ c.H ≤ 23 ∧ 0 ≤ c.M ∧ c.M ≤ 59 ∧ 0 ≤ c.S ∧ (c.S ≤ 59 ∨ c.S ≤ 60 ∧ c.H = 23 ∧ c.M = 59) ∧ 0 ≤ c.ms ∧ c.ms ≤ 999 := by
  have hE : dnE c.y c.m c.d = 0 ↔ okD c.y c.m c.d = true := by unfold dnE; cases okD c.y c.m c.d <;> simp
  unfold cvB upB
  simp only [Bool.and_eq_true, decide_eq_true_eq]
  rw [hE]
  by_cases g : c.H = 23 ∧ c.M = 59
  · rw [if_pos g]
    constructor
    · rintro ⟨⟨⟨⟨h1, h2, h3⟩, h4, h5⟩, h6, h7⟩, h8, h9⟩
      exact ⟨h1, h2, h3, h4, h5, h6, by omega, h8, h9⟩
    · rintro ⟨h1, h2, h3, h4, h5, h6, h7, h8, h9⟩
      exact ⟨⟨⟨⟨h1, h2, h3⟩, h4, h5⟩, h6, by omega⟩, h8, h9⟩
  · rw [if_neg g]
    constructor
    · rintro ⟨⟨⟨⟨h1, h2, h3⟩, h4, h5⟩, h6, h7⟩, h8, h9⟩
      exact ⟨h1, h2, h3, h4, h5, h6, by omega, h8, h9⟩
    · rintro ⟨h1, h2, h3, h4, h5, h6, h7, h8, h9⟩
      exact ⟨⟨⟨⟨h1, h2, h3⟩, h4, h5⟩, h6, by omega⟩, h8, h9⟩
theorem fnsCE_ok : FnsOk Try.prog fnsCE := fns_cons Try.func110 rfl Try.call110 (fns_nil _)
theorem libCE_ok : LibOk Try.prog noFacts (lib1 libCE) := lib1_cons (sp3_ok fun y m d _ => ⟨_, rfl, rnf_pl y m d⟩) Try.call58 (lib1_nil _ _)
set_option maxRecDepth 100000 in
theorem cef_111 (c : Cv) : evR (ctxIn Try.prog noFacts (fun _ => false) libCE fnsCE) Try.f67 [(cvA c)] [true, true, true] = some (AV.w (AW.one (AC.int IntKind.i64 4)), (pickL [(c.S == 60, true), (c.H == 23, true), (dnE c.y c.m c.d != 0, true), (true, true)] [0, 0, 0, 0, 1, 1, 1, 1, 2, 2, 2, 2, 2, 2, 3, 3, 3, 3, 3, 3, 3, 3, 3, 3, 3, 3, 3, 3, 3, 3, 3, 3, 3, 3, 3])) := by kernel_rfl
set_option maxRecDepth 100000 in
theorem cef_11011 (c : Cv) : evR (ctxIn Try.prog noFacts (fun _ => false) libCE fnsCE) Try.f67 [(cvA c)] [true, true, false, true, true] = some (AV.w (AW.one (AC.int IntKind.i64 4)), (pickL [(c.S == 60, true), (c.H == 23, true), (dnE c.y c.m c.d != 0, false), (decide (c.H ≥ 0), true), (!decide (c.H ≤ 23), true), (true, true)] [0, 0, 0, 0, 1, 1, 1, 1, 2, 2, 2, 2, 3, 3, 3, 3, 2, 2, 4, 4, 4, 4, 4, 4, 5, 5, 5, 5, 5, 5, 5, 5, 5, 5, 5, 5, 5, 5, 5])) := by kernel_rfl
set_option maxRecDepth 100000 in
theorem cef_1101011 (c : Cv) : evR (ctxIn Try.prog noFacts (fun _ => false) libCE fnsCE) Try.f67 [(cvA c)] [true, true, false, true, false, true, true] = some (AV.w (AW.one (AC.int IntKind.i64 4)), (pickL [(c.S == 60, true), (c.H == 23, true), (dnE c.y c.m c.d != 0, false), (decide (c.H ≥ 0), true), (!decide (c.H ≤ 23), false), (decide (c.M ≥ 0), true), (!decide (c.M ≤ 59), true), (true, true)] [0, 0, 0, 0, 1, 1, 1, 1, 2, 2, 2, 2, 3, 3, 3, 3, 2, 2, 4, 4, 4, 4, 5, 5, 5, 5, 4, 4, 6, 6, 6, 6, 6, 6, 6, 6, 7, 7, 7, 7, 7, 7, 7])) := by kernel_rfl
set_option maxRecDepth 100000 in
theorem cef_1101010111 (c : Cv) : evR (ctxIn Try.prog noFacts (fun _ => false) libCE fnsCE) Try.f67 [(cvA c)] [true, true, false, true, false, true, false, true, true, true] = some (AV.w (AW.one (AC.int IntKind.i64 4)), (pickL [(c.S == 60, true), (c.H == 23, true), (dnE c.y c.m c.d != 0, false), (decide (c.H ≥ 0), true), (!decide (c.H ≤ 23), false), (decide (c.M ≥ 0), true), (!decide (c.M ≤ 59), false), (decide (c.S ≥ 0), true), (!decide (c.S ≤ 59), true), (!c.M == 59, true), (true, true)] [0, 0, 0, 0, 1, 1, 1, 1, 2, 2, 2, 2, 3, 3, 3, 3, 2, 2, 4, 4, 4, 4, 5, 5, 5, 5, 4, 4, 6, 6, 6, 6, 7, 7, 7, 7, 6, 6, 8, 8, 6, 8, 6, 9, 9, 9, 9, 9, 9, 10])) := by kernel_rfl
set_option maxRecDepth 100000 in
theorem cef_110101011011 (c : Cv) : evR (ctxIn Try.prog noFacts (fun _ => false) libCE fnsCE) Try.f67 [(cvA c)] [true, true, false, true, false, true, false, true, true, false, true, true] = some (AV.w (AW.one (AC.int IntKind.i64 4)), (pickL [(c.S == 60, true), (c.H == 23, true), (dnE c.y c.m c.d != 0, false), (decide (c.H ≥ 0), true), (!decide (c.H ≤ 23), false), (decide (c.M ≥ 0), true), (!decide (c.M ≤ 59), false), (decide (c.S ≥ 0), true), (!decide (c.S ≤ 59), true), (!c.M == 59, false), (decide (c.ms ≥ 0), true), (!decide (c.ms ≤ 999), true)] [0, 0, 0, 0, 1, 1, 1, 1, 2, 2, 2, 2, 3, 3, 3, 3, 2, 2, 4, 4, 4, 4, 5, 5, 5, 5, 4, 4, 6, 6, 6, 6, 7, 7, 7, 7, 6, 6, 8, 8, 6, 8, 6, 9, 9, 9, 9, 10, 10, 10, 10, 9, 9, 11])) := by kernel_rfl
set_option maxRecDepth 100000 in
theorem cef_110101011010 (c : Cv) : evR (ctxIn Try.prog noFacts (fun _ => false) libCE fnsCE) Try.f67 [(cvA c)] [true, true, false, true, false, true, false, true, true, false, true, false] = some (AV.w (AW.one (AC.int IntKind.i64 0)), (pickL [(c.S == 60, true), (c.H == 23, true), (dnE c.y c.m c.d != 0, false), (decide (c.H ≥ 0), true), (!decide (c.H ≤ 23), false), (decide (c.M ≥ 0), true), (!decide (c.M ≤ 59), false), (decide (c.S ≥ 0), true), (!decide (c.S ≤ 59), true), (!c.M == 59, false), (decide (c.ms ≥ 0), true), (!decide (c.ms ≤ 999), false)] [0, 0, 0, 0, 1, 1, 1, 1, 2, 2, 2, 2, 3, 3, 3, 3, 2, 2, 4, 4, 4, 4, 5, 5, 5, 5, 4, 4, 6, 6, 6, 6, 7, 7, 7, 7, 6, 6, 8, 8, 6, 8, 6, 9, 9, 9, 9, 10, 10, 10, 10, 9, 9, 11])) := by kernel_rfl
set_option maxRecDepth 100000 in
theorem cef_11010101100 (c : Cv) : evR (ctxIn Try.prog noFacts (fun _ => false) libCE fnsCE) Try.f67 [(cvA c)] [true, true, false, true, false, true, false, true, true, false, false] = some (AV.w (AW.one (AC.int IntKind.i64 4)), (pickL [(c.S == 60, true), (c.H == 23, true), (dnE c.y c.m c.d != 0, false), (decide (c.H ≥ 0), true), (!decide (c.H ≤ 23), false), (decide (c.M ≥ 0), true), (!decide (c.M ≤ 59), false), (decide (c.S ≥ 0), true), (!decide (c.S ≤ 59), true), (!c.M == 59, false), (decide (c.ms ≥ 0), false), (!false, true)] [0, 0, 0, 0, 1, 1, 1, 1, 2, 2, 2, 2, 3, 3, 3, 3, 2, 2, 4, 4, 4, 4, 5, 5, 5, 5, 4, 4, 6, 6, 6, 6, 7, 7, 7, 7, 6, 6, 8, 8, 6, 8, 6, 9, 9, 9, 9, 10, 10, 10, 10, 9, 9, 11])) := by kernel_rfl
set_option maxRecDepth 100000 in
theorem cef_11010101011 (c : Cv) : evR (ctxIn Try.prog noFacts (fun _ => false) libCE fnsCE) Try.f67 [(cvA c)] [true, true, false, true, false, true, false, true, false, true, true] = some (AV.w (AW.one (AC.int IntKind.i64 4)), (pickL [(c.S == 60, true), (c.H == 23, true), (dnE c.y c.m c.d != 0, false), (decide (c.H ≥ 0), true), (!decide (c.H ≤ 23), false), (decide (c.M ≥ 0), true), (!decide (c.M ≤ 59), false), (decide (c.S ≥ 0), true), (!decide (c.S ≤ 59), false), (false, false), (decide (c.ms ≥ 0), true), (!decide (c.ms ≤ 999), true)] [0, 0, 0, 0, 1, 1, 1, 1, 2, 2, 2, 2, 3, 3, 3, 3, 2, 2, 4, 4, 4, 4, 5, 5, 5, 5, 4, 4, 6, 6, 6, 6, 7, 7, 7, 7, 6, 6, 8, 8, 6, 8, 6, 9, 9, 9, 9, 10, 10, 10, 10, 9, 9, 11])) := by kernel_rfl
set_option maxRecDepth 100000 in
theorem cef_11010101010 (c : Cv) : evR (ctxIn Try.prog noFacts (fun _ => false) libCE fnsCE) Try.f67 [(cvA c)] [true, true, false, true, false, true, false, true, false, true, false] = some (AV.w (AW.one (AC.int IntKind.i64 0)), (pickL [(c.S == 60, true), (c.H == 23, true), (dnE c.y c.m c.d != 0, false), (decide (c.H ≥ 0), true), (!decide (c.H ≤ 23), false), (decide (c.M ≥ 0), true), (!decide (c.M ≤ 59), false), (decide (c.S ≥ 0), true), (!decide (c.S ≤ 59), false), (false, false), (decide (c.ms ≥ 0), true), (!decide (c.ms ≤ 999), false)] [0, 0, 0, 0, 1, 1, 1, 1, 2, 2, 2, 2, 3, 3, 3, 3, 2, 2, 4, 4, 4, 4, 5, 5, 5, 5, 4, 4, 6, 6, 6, 6, 7, 7, 7, 7, 6, 6, 8, 8, 6, 8, 6, 9, 9, 9, 9, 10, 10, 10, 10, 9, 9, 11])) := by kernel_rfl
set_option maxRecDepth 100000 in
theorem cef_1101010100 (c : Cv) : evR (ctxIn Try.prog noFacts (fun _ => false) libCE fnsCE) Try.f67 [(cvA c)] [true, true, false, true, false, true, false, true, false, false] = some (AV.w (AW.one (AC.int IntKind.i64 4)), (pickL [(c.S == 60, true), (c.H == 23, true), (dnE c.y c.m c.d != 0, false), (decide (c.H ≥ 0), true), (!decide (c.H ≤ 23), false), (decide (c.M ≥ 0), true), (!decide (c.M ≤ 59), false), (decide (c.S ≥ 0), true), (!decide (c.S ≤ 59), false), (false, false), (decide (c.ms ≥ 0), false), (!false, true)] [0, 0, 0, 0, 1, 1, 1, 1, 2, 2, 2, 2, 3, 3, 3, 3, 2, 2, 4, 4, 4, 4, 5, 5, 5, 5, 4, 4, 6, 6, 6, 6, 7, 7, 7, 7, 6, 6, 8, 8, 6, 8, 6, 9, 9, 9, 9, 10, 10, 10, 10, 9, 9, 11])) := by kernel_rfl
set_option maxRecDepth 100000 in
theorem cef_110101001 (c : Cv) : evR (ctxIn Try.prog noFacts (fun _ => false) libCE fnsCE) Try.f67 [(cvA c)] [true, true, false, true, false, true, false, false, true] = some (AV.w (AW.one (AC.int IntKind.i64 4)), (pickL [(c.S == 60, true), (c.H == 23, true), (dnE c.y c.m c.d != 0, false), (decide (c.H ≥ 0), true), (!decide (c.H ≤ 23), false), (decide (c.M ≥ 0), true), (!decide (c.M ≤ 59), false), (decide (c.S ≥ 0), false), (!false, true), (!c.M == 59, true), (true, true)] [0, 0, 0, 0, 1, 1, 1, 1, 2, 2, 2, 2, 3, 3, 3, 3, 2, 2, 4, 4, 4, 4, 5, 5, 5, 5, 4, 4, 6, 6, 6, 6, 7, 7, 7, 7, 6, 6, 8, 8, 6, 8, 6, 9, 9, 9, 9, 9, 9, 10])) := by kernel_rfl
set_option maxRecDepth 100000 in
theorem cef_11010100011 (c : Cv) : evR (ctxIn Try.prog noFacts (fun _ => false) libCE fnsCE) Try.f67 [(cvA c)] [true, true, false, true, false, true, false, false, false, true, true] = some (AV.w (AW.one (AC.int IntKind.i64 4)), (pickL [(c.S == 60, true), (c.H == 23, true), (dnE c.y c.m c.d != 0, false), (decide (c.H ≥ 0), true), (!decide (c.H ≤ 23), false), (decide (c.M ≥ 0), true), (!decide (c.M ≤ 59), false), (decide (c.S ≥ 0), false), (!false, true), (!c.M == 59, false), (decide (c.ms ≥ 0), true), (!decide (c.ms ≤ 999), true)] [0, 0, 0, 0, 1, 1, 1, 1, 2, 2, 2, 2, 3, 3, 3, 3, 2, 2, 4, 4, 4, 4, 5, 5, 5, 5, 4, 4, 6, 6, 6, 6, 7, 7, 7, 7, 6, 6, 8, 8, 6, 8, 6, 9, 9, 9, 9, 10, 10, 10, 10, 9, 9, 11])) := by kernel_rfl
set_option maxRecDepth 100000 in
theorem cef_11010100010 (c : Cv) : evR (ctxIn Try.prog noFacts (fun _ => false) libCE fnsCE) Try.f67 [(cvA c)] [true, true, false, true, false, true, false, false, false, true, false] = some (AV.w (AW.one (AC.int IntKind.i64 0)), (pickL [(c.S == 60, true), (c.H == 23, true), (dnE c.y c.m c.d != 0, false), (decide (c.H ≥ 0), true), (!decide (c.H ≤ 23), false), (decide (c.M ≥ 0), true), (!decide (c.M ≤ 59), false), (decide (c.S ≥ 0), false), (!false, true), (!c.M == 59, false), (decide (c.ms ≥ 0), true), (!decide (c.ms ≤ 999), false)] [0, 0, 0, 0, 1, 1, 1, 1, 2, 2, 2, 2, 3, 3, 3, 3, 2, 2, 4, 4, 4, 4, 5, 5, 5, 5, 4, 4, 6, 6, 6, 6, 7, 7, 7, 7, 6, 6, 8, 8, 6, 8, 6, 9, 9, 9, 9, 10, 10, 10, 10, 9, 9, 11])) := by kernel_rfl
set_option maxRecDepth 100000 in
theorem cef_1101010000 (c : Cv) : evR (ctxIn Try.prog noFacts (fun _ => false) libCE fnsCE) Try.f67 [(cvA c)] [true, true, false, true, false, true, false, false, false, false] = some (AV.w (AW.one (AC.int IntKind.i64 4)), (pickL [(c.S == 60, true), (c.H == 23, true), (dnE c.y c.m c.d != 0, false), (decide (c.H ≥ 0), true), (!decide (c.H ≤ 23), false), (decide (c.M ≥ 0), true), (!decide (c.M ≤ 59), false), (decide (c.S ≥ 0), false), (!false, true), (!c.M == 59, false), (decide (c.ms ≥ 0), false)] [0, 0, 0, 0, 1, 1, 1, 1, 2, 2, 2, 2, 3, 3, 3, 3, 2, 2, 4, 4, 4, 4, 5, 5, 5, 5, 4, 4, 6, 6, 6, 6, 7, 7, 7, 7, 6, 6, 8, 8, 6, 8, 6, 9, 9, 9, 9, 10, 10, 10, 10, 9, 9, 8])) := by kernel_rfl
set_option maxRecDepth 100000 in
theorem cef_110100 (c : Cv) : evR (ctxIn Try.prog noFacts (fun _ => false) libCE fnsCE) Try.f67 [(cvA c)] [true, true, false, true, false, false] = some (AV.w (AW.one (AC.int IntKind.i64 4)), (pickL [(c.S == 60, true), (c.H == 23, true), (dnE c.y c.m c.d != 0, false), (decide (c.H ≥ 0), true), (!decide (c.H ≤ 23), false), (decide (c.M ≥ 0), false), (!false, true), (true, true)] [0, 0, 0, 0, 1, 1, 1, 1, 2, 2, 2, 2, 3, 3, 3, 3, 2, 2, 4, 4, 4, 4, 5, 5, 5, 5, 4, 4, 6, 6, 6, 6, 6, 6, 6, 6, 7, 7, 7, 7, 7, 7, 7])) := by kernel_rfl
set_option maxRecDepth 100000 in
theorem cef_1100 (c : Cv) : evR (ctxIn Try.prog noFacts (fun _ => false) libCE fnsCE) Try.f67 [(cvA c)] [true, true, false, false] = some (AV.w (AW.one (AC.int IntKind.i64 4)), (pickL [(c.S == 60, true), (c.H == 23, true), (dnE c.y c.m c.d != 0, false), (decide (c.H ≥ 0), false), (!false, true), (true, true)] [0, 0, 0, 0, 1, 1, 1, 1, 2, 2, 2, 2, 3, 3, 3, 3, 2, 2, 4, 4, 4, 4, 4, 4, 5, 5, 5, 5, 5, 5, 5, 5, 5, 5, 5, 5, 5, 5, 5])) := by kernel_rfl
set_option maxRecDepth 100000 in
theorem cef_101 (c : Cv) : evR (ctxIn Try.prog noFacts (fun _ => false) libCE fnsCE) Try.f67 [(cvA c)] [true, false, true] = some (AV.w (AW.one (AC.int IntKind.i64 4)), (pickL [(c.S == 60, true), (c.H == 23, false), (dnE c.y c.m c.d != 0, true), (true, true)] [0, 0, 0, 0, 1, 1, 1, 1, 2, 2, 2, 2, 2, 2, 3, 3, 3, 3, 3, 3, 3, 3, 3, 3, 3, 3, 3, 3, 3, 3, 3, 3, 3, 3, 3])) := by kernel_rfl
set_option maxRecDepth 100000 in
theorem cef_10011 (c : Cv) : evR (ctxIn Try.prog noFacts (fun _ => false) libCE fnsCE) Try.f67 [(cvA c)] [true, false, false, true, true] = some (AV.w (AW.one (AC.int IntKind.i64 4)), (pickL [(c.S == 60, true), (c.H == 23, false), (dnE c.y c.m c.d != 0, false), (decide (c.H ≥ 0), true), (!decide (c.H ≤ 23), true), (true, true)] [0, 0, 0, 0, 1, 1, 1, 1, 2, 2, 2, 2, 3, 3, 3, 3, 2, 2, 4, 4, 4, 4, 4, 4, 5, 5, 5, 5, 5, 5, 5, 5, 5, 5, 5, 5, 5, 5, 5])) := by kernel_rfl
set_option maxRecDepth 100000 in
theorem cef_1001011 (c : Cv) : evR (ctxIn Try.prog noFacts (fun _ => false) libCE fnsCE) Try.f67 [(cvA c)] [true, false, false, true, false, true, true] = some (AV.w (AW.one (AC.int IntKind.i64 4)), (pickL [(c.S == 60, true), (c.H == 23, false), (dnE c.y c.m c.d != 0, false), (decide (c.H ≥ 0), true), (!decide (c.H ≤ 23), false), (decide (c.M ≥ 0), true), (!decide (c.M ≤ 59), true), (true, true)] [0, 0, 0, 0, 1, 1, 1, 1, 2, 2, 2, 2, 3, 3, 3, 3, 2, 2, 4, 4, 4, 4, 5, 5, 5, 5, 4, 4, 6, 6, 6, 6, 6, 6, 6, 6, 7, 7, 7, 7, 7, 7, 7])) := by kernel_rfl
set_option maxRecDepth 100000 in
theorem cef_100101011 (c : Cv) : evR (ctxIn Try.prog noFacts (fun _ => false) libCE fnsCE) Try.f67 [(cvA c)] [true, false, false, true, false, true, false, true, true] = some (AV.w (AW.one (AC.int IntKind.i64 4)), (pickL [(c.S == 60, true), (c.H == 23, false), (dnE c.y c.m c.d != 0, false), (decide (c.H ≥ 0), true), (!decide (c.H ≤ 23), false), (decide (c.M ≥ 0), true), (!decide (c.M ≤ 59), false), (decide (c.S ≥ 0), true), (!decide (c.S ≤ 59), true), (!false, true), (true, true)] [0, 0, 0, 0, 1, 1, 1, 1, 2, 2, 2, 2, 3, 3, 3, 3, 2, 2, 4, 4, 4, 4, 5, 5, 5, 5, 4, 4, 6, 6, 6, 6, 7, 7, 7, 7, 6, 6, 8, 8, 6, 8, 6, 9, 9, 9, 9, 9, 9, 10])) := by kernel_rfl
set_option maxRecDepth 100000 in
theorem cef_10010101011 (c : Cv) : evR (ctxIn Try.prog noFacts (fun _ => false) libCE fnsCE) Try.f67 [(cvA c)] [true, false, false, true, false, true, false, true, false, true, true] = some (AV.w (AW.one (AC.int IntKind.i64 4)), (pickL [(c.S == 60, true), (c.H == 23, false), (dnE c.y c.m c.d != 0, false), (decide (c.H ≥ 0), true), (!decide (c.H ≤ 23), false), (decide (c.M ≥ 0), true), (!decide (c.M ≤ 59), false), (decide (c.S ≥ 0), true), (!decide (c.S ≤ 59), false), (false, false), (decide (c.ms ≥ 0), true), (!decide (c.ms ≤ 999), true)] [0, 0, 0, 0, 1, 1, 1, 1, 2, 2, 2, 2, 3, 3, 3, 3, 2, 2, 4, 4, 4, 4, 5, 5, 5, 5, 4, 4, 6, 6, 6, 6, 7, 7, 7, 7, 6, 6, 8, 8, 6, 8, 6, 9, 9, 9, 9, 10, 10, 10, 10, 9, 9, 11])) := by kernel_rfl
set_option maxRecDepth 100000 in
theorem cef_10010101010 (c : Cv) : evR (ctxIn Try.prog noFacts (fun _ => false) libCE fnsCE) Try.f67 [(cvA c)] [true, false, false, true, false, true, false, true, false, true, false] = some (AV.w (AW.one (AC.int IntKind.i64 0)), (pickL [(c.S == 60, true), (c.H == 23, false), (dnE c.y c.m c.d != 0, false), (decide (c.H ≥ 0), true), (!decide (c.H ≤ 23), false), (decide (c.M ≥ 0), true), (!decide (c.M ≤ 59), false), (decide (c.S ≥ 0), true), (!decide (c.S ≤ 59), false), (false, false), (decide (c.ms ≥ 0), true), (!decide (c.ms ≤ 999), false)] [0, 0, 0, 0, 1, 1, 1, 1, 2, 2, 2, 2, 3, 3, 3, 3, 2, 2, 4, 4, 4, 4, 5, 5, 5, 5, 4, 4, 6, 6, 6, 6, 7, 7, 7, 7, 6, 6, 8, 8, 6, 8, 6, 9, 9, 9, 9, 10, 10, 10, 10, 9, 9, 11])) := by kernel_rfl
set_option maxRecDepth 100000 in
theorem cef_1001010100 (c : Cv) : evR (ctxIn Try.prog noFacts (fun _ => false) libCE fnsCE) Try.f67 [(cvA c)] [true, false, false, true, false, true, false, true, false, false] = some (AV.w (AW.one (AC.int IntKind.i64 4)), (pickL [(c.S == 60, true), (c.H == 23, false), (dnE c.y c.m c.d != 0, false), (decide (c.H ≥ 0), true), (!decide (c.H ≤ 23), false), (decide (c.M ≥ 0), true), (!decide (c.M ≤ 59), false), (decide (c.S ≥ 0), true), (!decide (c.S ≤ 59), false), (false, false), (decide (c.ms ≥ 0), false), (!false, true)] [0, 0, 0, 0, 1, 1, 1, 1, 2, 2, 2, 2, 3, 3, 3, 3, 2, 2, 4, 4, 4, 4, 5, 5, 5, 5, 4, 4, 6, 6, 6, 6, 7, 7, 7, 7, 6, 6, 8, 8, 6, 8, 6, 9, 9, 9, 9, 10, 10, 10, 10, 9, 9, 11])) := by kernel_rfl
set_option maxRecDepth 100000 in
theorem cef_10010100 (c : Cv) : evR (ctxIn Try.prog noFacts (fun _ => false) libCE fnsCE) Try.f67 [(cvA c)] [true, false, false, true, false, true, false, false] = some (AV.w (AW.one (AC.int IntKind.i64 4)), (pickL [(c.S == 60, true), (c.H == 23, false), (dnE c.y c.m c.d != 0, false), (decide (c.H ≥ 0), true), (!decide (c.H ≤ 23), false), (decide (c.M ≥ 0), true), (!decide (c.M ≤ 59), false), (decide (c.S ≥ 0), false), (!false, true), (true, true)] [0, 0, 0, 0, 1, 1, 1, 1, 2, 2, 2, 2, 3, 3, 3, 3, 2, 2, 4, 4, 4, 4, 5, 5, 5, 5, 4, 4, 6, 6, 6, 6, 7, 7, 7, 7, 6, 6, 8, 8, 6, 8, 6, 8, 8, 8, 8, 8, 8, 9])) := by kernel_rfl
set_option maxRecDepth 100000 in
theorem cef_100100 (c : Cv) : evR (ctxIn Try.prog noFacts (fun _ => false) libCE fnsCE) Try.f67 [(cvA c)] [true, false, false, true, false, false] = some (AV.w (AW.one (AC.int IntKind.i64 4)), (pickL [(c.S == 60, true), (c.H == 23, false), (dnE c.y c.m c.d != 0, false), (decide (c.H ≥ 0), true), (!decide (c.H ≤ 23), false), (decide (c.M ≥ 0), false), (!false, true), (true, true)] [0, 0, 0, 0, 1, 1, 1, 1, 2, 2, 2, 2, 3, 3, 3, 3, 2, 2, 4, 4, 4, 4, 5, 5, 5, 5, 4, 4, 6, 6, 6, 6, 6, 6, 6, 6, 7, 7, 7, 7, 7, 7, 7])) := by kernel_rfl
set_option maxRecDepth 100000 in
theorem cef_1000 (c : Cv) : evR (ctxIn Try.prog noFacts (fun _ => false) libCE fnsCE) Try.f67 [(cvA c)] [true, false, false, false] = some (AV.w (AW.one (AC.int IntKind.i64 4)), (pickL [(c.S == 60, true), (c.H == 23, false), (dnE c.y c.m c.d != 0, false), (decide (c.H ≥ 0), false), (!false, true), (true, true)] [0, 0, 0, 0, 1, 1, 1, 1, 2, 2, 2, 2, 3, 3, 3, 3, 2, 2, 4, 4, 4, 4, 4, 4, 5, 5, 5, 5, 5, 5, 5, 5, 5, 5, 5, 5, 5, 5, 5])) := by kernel_rfl
set_option maxRecDepth 100000 in
theorem cef_01 (c : Cv) : evR (ctxIn Try.prog noFacts (fun _ => false) libCE fnsCE) Try.f67 [(cvA c)] [false, true] = some (AV.w (AW.one (AC.int IntKind.i64 4)), (pickL [(c.S == 60, false), (false, false), (dnE c.y c.m c.d != 0, true), (true, true)] [0, 0, 0, 0, 1, 1, 1, 1, 2, 2, 2, 2, 2, 2, 3, 3, 3, 3, 3, 3, 3, 3, 3, 3, 3, 3, 3, 3, 3, 3, 3, 3, 3, 3, 3])) := by kernel_rfl
set_option maxRecDepth 100000 in
theorem cef_0011 (c : Cv) : evR (ctxIn Try.prog noFacts (fun _ => false) libCE fnsCE) Try.f67 [(cvA c)] [false, false, true, true] = some (AV.w (AW.one (AC.int IntKind.i64 4)), (pickL [(c.S == 60, false), (false, false), (dnE c.y c.m c.d != 0, false), (decide (c.H ≥ 0), true), (!decide (c.H ≤ 23), true), (true, true)] [0, 0, 0, 0, 1, 1, 1, 1, 2, 2, 2, 2, 3, 3, 3, 3, 2, 2, 4, 4, 4, 4, 4, 4, 5, 5, 5, 5, 5, 5, 5, 5, 5, 5, 5, 5, 5, 5, 5])) := by kernel_rfl
set_option maxRecDepth 100000 in
theorem cef_001011 (c : Cv) : evR (ctxIn Try.prog noFacts (fun _ => false) libCE fnsCE) Try.f67 [(cvA c)] [false, false, true, false, true, true] = some (AV.w (AW.one (AC.int IntKind.i64 4)), (pickL [(c.S == 60, false), (false, false), (dnE c.y c.m c.d != 0, false), (decide (c.H ≥ 0), true), (!decide (c.H ≤ 23), false), (decide (c.M ≥ 0), true), (!decide (c.M ≤ 59), true), (true, true)] [0, 0, 0, 0, 1, 1, 1, 1, 2, 2, 2, 2, 3, 3, 3, 3, 2, 2, 4, 4, 4, 4, 5, 5, 5, 5, 4, 4, 6, 6, 6, 6, 6, 6, 6, 6, 7, 7, 7, 7, 7, 7, 7])) := by kernel_rfl
set_option maxRecDepth 100000 in
theorem cef_00101011 (c : Cv) : evR (ctxIn Try.prog noFacts (fun _ => false) libCE fnsCE) Try.f67 [(cvA c)] [false, false, true, false, true, false, true, true] = some (AV.w (AW.one (AC.int IntKind.i64 4)), (pickL [(c.S == 60, false), (false, false), (dnE c.y c.m c.d != 0, false), (decide (c.H ≥ 0), true), (!decide (c.H ≤ 23), false), (decide (c.M ≥ 0), true), (!decide (c.M ≤ 59), false), (decide (c.S ≥ 0), true), (!decide (c.S ≤ 59), true), (!false, true), (true, true)] [0, 0, 0, 0, 1, 1, 1, 1, 2, 2, 2, 2, 3, 3, 3, 3, 2, 2, 4, 4, 4, 4, 5, 5, 5, 5, 4, 4, 6, 6, 6, 6, 7, 7, 7, 7, 6, 6, 8, 8, 6, 8, 6, 9, 9, 9, 9, 9, 9, 10])) := by kernel_rfl
set_option maxRecDepth 100000 in
theorem cef_0010101011 (c : Cv) : evR (ctxIn Try.prog noFacts (fun _ => false) libCE fnsCE) Try.f67 [(cvA c)] [false, false, true, false, true, false, true, false, true, true] = some (AV.w (AW.one (AC.int IntKind.i64 4)), (pickL [(c.S == 60, false), (false, false), (dnE c.y c.m c.d != 0, false), (decide (c.H ≥ 0), true), (!decide (c.H ≤ 23), false), (decide (c.M ≥ 0), true), (!decide (c.M ≤ 59), false), (decide (c.S ≥ 0), true), (!decide (c.S ≤ 59), false), (decide (c.ms ≥ 0), true), (!decide (c.ms ≤ 999), true)] [0, 0, 0, 0, 1, 1, 1, 1, 2, 2, 2, 2, 3, 3, 3, 3, 2, 2, 4, 4, 4, 4, 5, 5, 5, 5, 4, 4, 6, 6, 6, 6, 7, 7, 7, 7, 6, 6, 8, 8, 6, 8, 6, 1, 1, 1, 1, 9, 9, 9, 9, 1, 1, 10])) := by kernel_rfl
set_option maxRecDepth 100000 in
theorem cef_0010101010 (c : Cv) : evR (ctxIn Try.prog noFacts (fun _ => false) libCE fnsCE) Try.f67 [(cvA c)] [false, false, true, false, true, false, true, false, true, false] = some (AV.w (AW.one (AC.int IntKind.i64 0)), (pickL [(c.S == 60, false), (false, false), (dnE c.y c.m c.d != 0, false), (decide (c.H ≥ 0), true), (!decide (c.H ≤ 23), false), (decide (c.M ≥ 0), true), (!decide (c.M ≤ 59), false), (decide (c.S ≥ 0), true), (!decide (c.S ≤ 59), false), (decide (c.ms ≥ 0), true), (!decide (c.ms ≤ 999), false)] [0, 0, 0, 0, 1, 1, 1, 1, 2, 2, 2, 2, 3, 3, 3, 3, 2, 2, 4, 4, 4, 4, 5, 5, 5, 5, 4, 4, 6, 6, 6, 6, 7, 7, 7, 7, 6, 6, 8, 8, 6, 8, 6, 1, 1, 1, 1, 9, 9, 9, 9, 1, 1, 10])) := by kernel_rfl
set_option maxRecDepth 100000 in
theorem cef_001010100 (c : Cv) : evR (ctxIn Try.prog noFacts (fun _ => false) libCE fnsCE) Try.f67 [(cvA c)] [false, false, true, false, true, false, true, false, false] = some (AV.w (AW.one (AC.int IntKind.i64 4)), (pickL [(c.S == 60, false), (false, false), (dnE c.y c.m c.d != 0, false), (decide (c.H ≥ 0), true), (!decide (c.H ≤ 23), false), (decide (c.M ≥ 0), true), (!decide (c.M ≤ 59), false), (decide (c.S ≥ 0), true), (!decide (c.S ≤ 59), false), (decide (c.ms ≥ 0), false), (!false, true)] [0, 0, 0, 0, 1, 1, 1, 1, 2, 2, 2, 2, 3, 3, 3, 3, 2, 2, 4, 4, 4, 4, 5, 5, 5, 5, 4, 4, 6, 6, 6, 6, 7, 7, 7, 7, 6, 6, 8, 8, 6, 8, 6, 1, 1, 1, 1, 9, 9, 9, 9, 1, 1, 10])) := by kernel_rfl
set_option maxRecDepth 100000 in
theorem cef_0010100 (c : Cv) : evR (ctxIn Try.prog noFacts (fun _ => false) libCE fnsCE) Try.f67 [(cvA c)] [false, false, true, false, true, false, false] = some (AV.w (AW.one (AC.int IntKind.i64 4)), (pickL [(c.S == 60, false), (false, false), (dnE c.y c.m c.d != 0, false), (decide (c.H ≥ 0), true), (!decide (c.H ≤ 23), false), (decide (c.M ≥ 0), true), (!decide (c.M ≤ 59), false), (decide (c.S ≥ 0), false), (!false, true), (true, true)] [0, 0, 0, 0, 1, 1, 1, 1, 2, 2, 2, 2, 3, 3, 3, 3, 2, 2, 4, 4, 4, 4, 5, 5, 5, 5, 4, 4, 6, 6, 6, 6, 7, 7, 7, 7, 6, 6, 8, 8, 6, 8, 6, 8, 8, 8, 8, 8, 8, 9])) := by kernel_rfl
set_option maxRecDepth 100000 in
theorem cef_00100 (c : Cv) : evR (ctxIn Try.prog noFacts (fun _ => false) libCE fnsCE) Try.f67 [(cvA c)] [false, false, true, false, false] = some (AV.w (AW.one (AC.int IntKind.i64 4)), (pickL [(c.S == 60, false), (false, false), (dnE c.y c.m c.d != 0, false), (decide (c.H ≥ 0), true), (!decide (c.H ≤ 23), false), (decide (c.M ≥ 0), false), (!false, true), (true, true)] [0, 0, 0, 0, 1, 1, 1, 1, 2, 2, 2, 2, 3, 3, 3, 3, 2, 2, 4, 4, 4, 4, 5, 5, 5, 5, 4, 4, 6, 6, 6, 6, 6, 6, 6, 6, 7, 7, 7, 7, 7, 7, 7])) := by kernel_rfl
set_option maxRecDepth 100000 in
theorem cef_000 (c : Cv) : evR (ctxIn Try.prog noFacts (fun _ => false) libCE fnsCE) Try.f67 [(cvA c)] [false, false, false] = some (AV.w (AW.one (AC.int IntKind.i64 4)), (pickL [(c.S == 60, false), (false, false), (dnE c.y c.m c.d != 0, false), (decide (c.H ≥ 0), false), (!false, true), (true, true)] [0, 0, 0, 0, 1, 1, 1, 1, 2, 2, 2, 2, 3, 3, 3, 3, 2, 2, 4, 4, 4, 4, 4, 4, 5, 5, 5, 5, 5, 5, 5, 5, 5, 5, 5, 5, 5, 5, 5])) := by kernel_rfl
set_option maxHeartbeats 4000000 in
theorem cef_pl (c : Cv) : Pl Try.prog 67 [cvV c] (.int .i64 (cvE c)) := fun w => by
  cases k0 : (c.S == 60) with
  | true =>
    cases k1 : (c.H == 23) with
    | true =>
      cases k2 : (dnE c.y c.m c.d != 0) with
      | true =>
        have hv : cvE c = 4 := by
          refine if_neg fun h => ?_
          have g := cv_iff.1 h
          simp only [beq_iff_eq, beq_eq_false_iff_ne, ne_eq, bne_iff_ne, bne_eq_false_iff_eq, decide_eq_true_eq, decide_eq_false_iff_not, Bool.not_eq_true', Bool.not_eq_false'] at *
          omega
        rw [hv]
        refine evR_calls (I := noFacts) (v := .int .i64 4) (ctxIn_ok libCE_ok (eq_none _) fnsCE_ok) (by kernel_rfl) Try.func67 rfl lps_nil (cef_111 c) rfl (all2_R (.cons rfl .nil)) rfl w (Nat.zero_le _) (pickL_ok ?_ _)
        repeat' (first | exact cd_nil | refine cd_cons ?_ ?_)
        all_goals first | rfl | with_reducible assumption
      | false =>
        cases k3 : (decide (c.H ≥ 0)) with
        | true =>
          cases k4 : (!decide (c.H ≤ 23)) with
          | true =>
            have hv : cvE c = 4 := by
              refine if_neg fun h => ?_
              have g := cv_iff.1 h
              simp only [beq_iff_eq, beq_eq_false_iff_ne, ne_eq, bne_iff_ne, bne_eq_false_iff_eq, decide_eq_true_eq, decide_eq_false_iff_not, Bool.not_eq_true', Bool.not_eq_false'] at *
              omega
            rw [hv]
            refine evR_calls (I := noFacts) (v := .int .i64 4) (ctxIn_ok libCE_ok (eq_none _) fnsCE_ok) (by kernel_rfl) Try.func67 rfl lps_nil (cef_11011 c) rfl (all2_R (.cons rfl .nil)) rfl w (Nat.zero_le _) (pickL_ok ?_ _)
            repeat' (first | exact cd_nil | refine cd_cons ?_ ?_)
            all_goals first | rfl | with_reducible assumption
          | false =>
            cases k5 : (decide (c.M ≥ 0)) with
            | true =>
              cases k6 : (!decide (c.M ≤ 59)) with
              | true =>
                have hv : cvE c = 4 := by
                  refine if_neg fun h => ?_
                  have g := cv_iff.1 h
                  simp only [beq_iff_eq, beq_eq_false_iff_ne, ne_eq, bne_iff_ne, bne_eq_false_iff_eq, decide_eq_true_eq, decide_eq_false_iff_not, Bool.not_eq_true', Bool.not_eq_false'] at *
                  omega
                rw [hv]
                refine evR_calls (I := noFacts) (v := .int .i64 4) (ctxIn_ok libCE_ok (eq_none _) fnsCE_ok) (by kernel_rfl) Try.func67 rfl lps_nil (cef_1101011 c) rfl (all2_R (.cons rfl .nil)) rfl w (Nat.zero_le _) (pickL_ok ?_ _)
                repeat' (first | exact cd_nil | refine cd_cons ?_ ?_)
                all_goals first | rfl | with_reducible assumption
              | false =>
                cases k7 : (decide (c.S ≥ 0)) with
                | true =>
                  cases k8 : (!decide (c.S ≤ 59)) with
                  | true =>
                    cases k9 : (!c.M == 59) with
                    | true =>
                      have hv : cvE c = 4 := by
                        refine if_neg fun h => ?_
                        have g := cv_iff.1 h
                        simp only [beq_iff_eq, beq_eq_false_iff_ne, ne_eq, bne_iff_ne, bne_eq_false_iff_eq, decide_eq_true_eq, decide_eq_false_iff_not, Bool.not_eq_true', Bool.not_eq_false'] at *
                        omega
                      rw [hv]
                      refine evR_calls (I := noFacts) (v := .int .i64 4) (ctxIn_ok libCE_ok (eq_none _) fnsCE_ok) (by kernel_rfl) Try.func67 rfl lps_nil (cef_1101010111 c) rfl (all2_R (.cons rfl .nil)) rfl w (Nat.zero_le _) (pickL_ok ?_ _)
                      repeat' (first | exact cd_nil | refine cd_cons ?_ ?_)
                      all_goals first | rfl | with_reducible assumption
                    | false =>
                      cases k10 : (decide (c.ms ≥ 0)) with
                      | true =>
                        cases k11 : (!decide (c.ms ≤ 999)) with
                        | true =>
                          have hv : cvE c = 4 := by
                            refine if_neg fun h => ?_
                            have g := cv_iff.1 h
                            simp only [beq_iff_eq, beq_eq_false_iff_ne, ne_eq, bne_iff_ne, bne_eq_false_iff_eq, decide_eq_true_eq, decide_eq_false_iff_not, Bool.not_eq_true', Bool.not_eq_false'] at *
                            omega
                          rw [hv]
                          refine evR_calls (I := noFacts) (v := .int .i64 4) (ctxIn_ok libCE_ok (eq_none _) fnsCE_ok) (by kernel_rfl) Try.func67 rfl lps_nil (cef_110101011011 c) rfl (all2_R (.cons rfl .nil)) rfl w (Nat.zero_le _) (pickL_ok ?_ _)
                          repeat' (first | exact cd_nil | refine cd_cons ?_ ?_)
                          all_goals first | rfl | with_reducible assumption
                        | false =>
                          have hv : cvE c = 0 := by
                            refine if_pos (cv_iff.2 ?_)
                            simp only [beq_iff_eq, beq_eq_false_iff_ne, ne_eq, bne_iff_ne, bne_eq_false_iff_eq, decide_eq_true_eq, decide_eq_false_iff_not, Bool.not_eq_true', Bool.not_eq_false'] at *
                            omega
                          rw [hv]
                          refine evR_calls (I := noFacts) (v := .int .i64 0) (ctxIn_ok libCE_ok (eq_none _) fnsCE_ok) (by kernel_rfl) Try.func67 rfl lps_nil (cef_110101011010 c) rfl (all2_R (.cons rfl .nil)) rfl w (Nat.zero_le _) (pickL_ok ?_ _)
                          repeat' (first | exact cd_nil | refine cd_cons ?_ ?_)
                          all_goals first | rfl | with_reducible assumption
                      | false =>
                        have hv : cvE c = 4 := by
                          refine if_neg fun h => ?_
                          have g := cv_iff.1 h
                          simp only [beq_iff_eq, beq_eq_false_iff_ne, ne_eq, bne_iff_ne, bne_eq_false_iff_eq, decide_eq_true_eq, decide_eq_false_iff_not, Bool.not_eq_true', Bool.not_eq_false'] at *
                          omega
                        rw [hv]
                        refine evR_calls (I := noFacts) (v := .int .i64 4) (ctxIn_ok libCE_ok (eq_none _) fnsCE_ok) (by kernel_rfl) Try.func67 rfl lps_nil (cef_11010101100 c) rfl (all2_R (.cons rfl .nil)) rfl w (Nat.zero_le _) (pickL_ok ?_ _)
                        repeat' (first | exact cd_nil | refine cd_cons ?_ ?_)
                        all_goals first | rfl | with_reducible assumption
                  | false =>
                    cases k12 : (decide (c.ms ≥ 0)) with
                    | true =>
                      cases k13 : (!decide (c.ms ≤ 999)) with
                      | true =>
                        have hv : cvE c = 4 := by
                          refine if_neg fun h => ?_
                          have g := cv_iff.1 h
                          simp only [beq_iff_eq, beq_eq_false_iff_ne, ne_eq, bne_iff_ne, bne_eq_false_iff_eq, decide_eq_true_eq, decide_eq_false_iff_not, Bool.not_eq_true', Bool.not_eq_false'] at *
                          omega
                        rw [hv]
                        refine evR_calls (I := noFacts) (v := .int .i64 4) (ctxIn_ok libCE_ok (eq_none _) fnsCE_ok) (by kernel_rfl) Try.func67 rfl lps_nil (cef_11010101011 c) rfl (all2_R (.cons rfl .nil)) rfl w (Nat.zero_le _) (pickL_ok ?_ _)
                        repeat' (first | exact cd_nil | refine cd_cons ?_ ?_)
                        all_goals first | rfl | with_reducible assumption
                      | false =>
                        have hv : cvE c = 0 := by
                          refine if_pos (cv_iff.2 ?_)
                          simp only [beq_iff_eq, beq_eq_false_iff_ne, ne_eq, bne_iff_ne, bne_eq_false_iff_eq, decide_eq_true_eq, decide_eq_false_iff_not, Bool.not_eq_true', Bool.not_eq_false'] at *
                          omega
                        rw [hv]
                        refine evR_calls (I := noFacts) (v := .int .i64 0) (ctxIn_ok libCE_ok (eq_none _) fnsCE_ok) (by kernel_rfl) Try.func67 rfl lps_nil (cef_11010101010 c) rfl (all2_R (.cons rfl .nil)) rfl w (Nat.zero_le _) (pickL_ok ?_ _)
                        repeat' (first | exact cd_nil | refine cd_cons ?_ ?_)
                        all_goals first | rfl | with_reducible assumption
                    | false =>
                      have hv : cvE c = 4 := by
                        refine if_neg fun h => ?_
                        have g := cv_iff.1 h
                        simp only [beq_iff_eq, beq_eq_false_iff_ne, ne_eq, bne_iff_ne, bne_eq_false_iff_eq, decide_eq_true_eq, decide_eq_false_iff_not, Bool.not_eq_true', Bool.not_eq_false'] at *
                        omega
                      rw [hv]
                      refine evR_calls (I := noFacts) (v := .int .i64 4) (ctxIn_ok libCE_ok (eq_none _) fnsCE_ok) (by kernel_rfl) Try.func67 rfl lps_nil (cef_1101010100 c) rfl (all2_R (.cons rfl .nil)) rfl w (Nat.zero_le _) (pickL_ok ?_ _)
                      repeat' (first | exact cd_nil | refine cd_cons ?_ ?_)
                      all_goals first | rfl | with_reducible assumption
                | false =>
                  cases k14 : (!c.M == 59) with
                  | true =>
                    have hv : cvE c = 4 := by
                      refine if_neg fun h => ?_
                      have g := cv_iff.1 h
                      simp only [beq_iff_eq, beq_eq_false_iff_ne, ne_eq, bne_iff_ne, bne_eq_false_iff_eq, decide_eq_true_eq, decide_eq_false_iff_not, Bool.not_eq_true', Bool.not_eq_false'] at *
                      omega
                    rw [hv]
                    refine evR_calls (I := noFacts) (v := .int .i64 4) (ctxIn_ok libCE_ok (eq_none _) fnsCE_ok) (by kernel_rfl) Try.func67 rfl lps_nil (cef_110101001 c) rfl (all2_R (.cons rfl .nil)) rfl w (Nat.zero_le _) (pickL_ok ?_ _)
                    repeat' (first | exact cd_nil | refine cd_cons ?_ ?_)
                    all_goals first | rfl | with_reducible assumption
                  | false =>
                    cases k15 : (decide (c.ms ≥ 0)) with
                    | true =>
                      cases k16 : (!decide (c.ms ≤ 999)) with
                      | true =>
                        have hv : cvE c = 4 := by
                          refine if_neg fun h => ?_
                          have g := cv_iff.1 h
                          simp only [beq_iff_eq, beq_eq_false_iff_ne, ne_eq, bne_iff_ne, bne_eq_false_iff_eq, decide_eq_true_eq, decide_eq_false_iff_not, Bool.not_eq_true', Bool.not_eq_false'] at *
                          omega
                        rw [hv]
                        refine evR_calls (I := noFacts) (v := .int .i64 4) (ctxIn_ok libCE_ok (eq_none _) fnsCE_ok) (by kernel_rfl) Try.func67 rfl lps_nil (cef_11010100011 c) rfl (all2_R (.cons rfl .nil)) rfl w (Nat.zero_le _) (pickL_ok ?_ _)
                        repeat' (first | exact cd_nil | refine cd_cons ?_ ?_)
                        all_goals first | rfl | with_reducible assumption
                      | false =>
                        have hv : cvE c = 0 := by
                          refine if_pos (cv_iff.2 ?_)
                          simp only [beq_iff_eq, beq_eq_false_iff_ne, ne_eq, bne_iff_ne, bne_eq_false_iff_eq, decide_eq_true_eq, decide_eq_false_iff_not, Bool.not_eq_true', Bool.not_eq_false'] at *
                          omega
                        rw [hv]
                        refine evR_calls (I := noFacts) (v := .int .i64 0) (ctxIn_ok libCE_ok (eq_none _) fnsCE_ok) (by kernel_rfl) Try.func67 rfl lps_nil (cef_11010100010 c) rfl (all2_R (.cons rfl .nil)) rfl w (Nat.zero_le _) (pickL_ok ?_ _)
                        repeat' (first | exact cd_nil | refine cd_cons ?_ ?_)
                        all_goals first | rfl | with_reducible assumption
                    | false =>
                      have hv : cvE c = 4 := by
                        refine if_neg fun h => ?_
                        have g := cv_iff.1 h
                        simp only [beq_iff_eq, beq_eq_false_iff_ne, ne_eq, bne_iff_ne, bne_eq_false_iff_eq, decide_eq_true_eq, decide_eq_false_iff_not, Bool.not_eq_true', Bool.not_eq_false'] at *
                        omega
                      rw [hv]
                      refine evR_calls (I := noFacts) (v := .int .i64 4) (ctxIn_ok libCE_ok (eq_none _) fnsCE_ok) (by kernel_rfl) Try.func67 rfl lps_nil (cef_1101010000 c) rfl (all2_R (.cons rfl .nil)) rfl w (Nat.zero_le _) (pickL_ok ?_ _)
                      repeat' (first | exact cd_nil | refine cd_cons ?_ ?_)
                      all_goals first | rfl | with_reducible assumption
            | false =>
              have hv : cvE c = 4 := by
                refine if_neg fun h => ?_
                have g := cv_iff.1 h
                simp only [beq_iff_eq, beq_eq_false_iff_ne, ne_eq, bne_iff_ne, bne_eq_false_iff_eq, decide_eq_true_eq, decide_eq_false_iff_not, Bool.not_eq_true', Bool.not_eq_false'] at *
                omega
              rw [hv]
              refine evR_calls (I := noFacts) (v := .int .i64 4) (ctxIn_ok libCE_ok (eq_none _) fnsCE_ok) (by kernel_rfl) Try.func67 rfl lps_nil (cef_110100 c) rfl (all2_R (.cons rfl .nil)) rfl w (Nat.zero_le _) (pickL_ok ?_ _)
              repeat' (first | exact cd_nil | refine cd_cons ?_ ?_)
              all_goals first | rfl | with_reducible assumption
        | false =>
          have hv : cvE c = 4 := by
            refine if_neg fun h => ?_
            have g := cv_iff.1 h
            simp only [beq_iff_eq, beq_eq_false_iff_ne, ne_eq, bne_iff_ne, bne_eq_false_iff_eq, decide_eq_true_eq, decide_eq_false_iff_not, Bool.not_eq_true', Bool.not_eq_false'] at *
            omega
          rw [hv]
          refine evR_calls (I := noFacts) (v := .int .i64 4) (ctxIn_ok libCE_ok (eq_none _) fnsCE_ok) (by kernel_rfl) Try.func67 rfl lps_nil (cef_1100 c) rfl (all2_R (.cons rfl .nil)) rfl w (Nat.zero_le _) (pickL_ok ?_ _)
          repeat' (first | exact cd_nil | refine cd_cons ?_ ?_)
          all_goals first | rfl | with_reducible assumption
    | false =>
      cases k17 : (dnE c.y c.m c.d != 0) with
      | true =>
        have hv : cvE c = 4 := by
          refine if_neg fun h => ?_
          have g := cv_iff.1 h
          simp only [beq_iff_eq, beq_eq_false_iff_ne, ne_eq, bne_iff_ne, bne_eq_false_iff_eq, decide_eq_true_eq, decide_eq_false_iff_not, Bool.not_eq_true', Bool.not_eq_false'] at *
          omega
        rw [hv]
        refine evR_calls (I := noFacts) (v := .int .i64 4) (ctxIn_ok libCE_ok (eq_none _) fnsCE_ok) (by kernel_rfl) Try.func67 rfl lps_nil (cef_101 c) rfl (all2_R (.cons rfl .nil)) rfl w (Nat.zero_le _) (pickL_ok ?_ _)
        repeat' (first | exact cd_nil | refine cd_cons ?_ ?_)
        all_goals first | rfl | with_reducible assumption
      | false =>
        cases k18 : (decide (c.H ≥ 0)) with
        | true =>
          cases k19 : (!decide (c.H ≤ 23)) with
          | true =>
            have hv : cvE c = 4 := by
              refine if_neg fun h => ?_
              have g := cv_iff.1 h
              simp only [beq_iff_eq, beq_eq_false_iff_ne, ne_eq, bne_iff_ne, bne_eq_false_iff_eq, decide_eq_true_eq, decide_eq_false_iff_not, Bool.not_eq_true', Bool.not_eq_false'] at *
              omega
            rw [hv]
            refine evR_calls (I := noFacts) (v := .int .i64 4) (ctxIn_ok libCE_ok (eq_none _) fnsCE_ok) (by kernel_rfl) Try.func67 rfl lps_nil (cef_10011 c) rfl (all2_R (.cons rfl .nil)) rfl w (Nat.zero_le _) (pickL_ok ?_ _)
            repeat' (first | exact cd_nil | refine cd_cons ?_ ?_)
            all_goals first | rfl | with_reducible assumption
          | false =>
            cases k20 : (decide (c.M ≥ 0)) with
            | true =>
              cases k21 : (!decide (c.M ≤ 59)) with
              | true =>
                have hv : cvE c = 4 := by
                  refine if_neg fun h => ?_
                  have g := cv_iff.1 h
                  simp only [beq_iff_eq, beq_eq_false_iff_ne, ne_eq, bne_iff_ne, bne_eq_false_iff_eq, decide_eq_true_eq, decide_eq_false_iff_not, Bool.not_eq_true', Bool.not_eq_false'] at *
                  omega
                rw [hv]
                refine evR_calls (I := noFacts) (v := .int .i64 4) (ctxIn_ok libCE_ok (eq_none _) fnsCE_ok) (by kernel_rfl) Try.func67 rfl lps_nil (cef_1001011 c) rfl (all2_R (.cons rfl .nil)) rfl w (Nat.zero_le _) (pickL_ok ?_ _)
                repeat' (first | exact cd_nil | refine cd_cons ?_ ?_)
                all_goals first | rfl | with_reducible assumption
              | false =>
                cases k22 : (decide (c.S ≥ 0)) with
                | true =>
                  cases k23 : (!decide (c.S ≤ 59)) with
                  | true =>
                    have hv : cvE c = 4 := by
                      refine if_neg fun h => ?_
                      have g := cv_iff.1 h
                      simp only [beq_iff_eq, beq_eq_false_iff_ne, ne_eq, bne_iff_ne, bne_eq_false_iff_eq, decide_eq_true_eq, decide_eq_false_iff_not, Bool.not_eq_true', Bool.not_eq_false'] at *
                      omega
                    rw [hv]
                    refine evR_calls (I := noFacts) (v := .int .i64 4) (ctxIn_ok libCE_ok (eq_none _) fnsCE_ok) (by kernel_rfl) Try.func67 rfl lps_nil (cef_100101011 c) rfl (all2_R (.cons rfl .nil)) rfl w (Nat.zero_le _) (pickL_ok ?_ _)
                    repeat' (first | exact cd_nil | refine cd_cons ?_ ?_)
                    all_goals first | rfl | with_reducible assumption
                  | false =>
                    cases k24 : (decide (c.ms ≥ 0)) with
                    | true =>
                      cases k25 : (!decide (c.ms ≤ 999)) with
                      | true =>
                        have hv : cvE c = 4 := by
                          refine if_neg fun h => ?_
                          have g := cv_iff.1 h
                          simp only [beq_iff_eq, beq_eq_false_iff_ne, ne_eq, bne_iff_ne, bne_eq_false_iff_eq, decide_eq_true_eq, decide_eq_false_iff_not, Bool.not_eq_true', Bool.not_eq_false'] at *
                          omega
                        rw [hv]
                        refine evR_calls (I := noFacts) (v := .int .i64 4) (ctxIn_ok libCE_ok (eq_none _) fnsCE_ok) (by kernel_rfl) Try.func67 rfl lps_nil (cef_10010101011 c) rfl (all2_R (.cons rfl .nil)) rfl w (Nat.zero_le _) (pickL_ok ?_ _)
                        repeat' (first | exact cd_nil | refine cd_cons ?_ ?_)
                        all_goals first | rfl | with_reducible assumption
                      | false =>
                        have hv : cvE c = 0 := by
                          refine if_pos (cv_iff.2 ?_)
                          simp only [beq_iff_eq, beq_eq_false_iff_ne, ne_eq, bne_iff_ne, bne_eq_false_iff_eq, decide_eq_true_eq, decide_eq_false_iff_not, Bool.not_eq_true', Bool.not_eq_false'] at *
                          omega
                        rw [hv]
                        refine evR_calls (I := noFacts) (v := .int .i64 0) (ctxIn_ok libCE_ok (eq_none _) fnsCE_ok) (by kernel_rfl) Try.func67 rfl lps_nil (cef_10010101010 c) rfl (all2_R (.cons rfl .nil)) rfl w (Nat.zero_le _) (pickL_ok ?_ _)
                        repeat' (first | exact cd_nil | refine cd_cons ?_ ?_)
                        all_goals first | rfl | with_reducible assumption
                    | false =>
                      have hv : cvE c = 4 := by
                        refine if_neg fun h => ?_
                        have g := cv_iff.1 h
                        simp only [beq_iff_eq, beq_eq_false_iff_ne, ne_eq, bne_iff_ne, bne_eq_false_iff_eq, decide_eq_true_eq, decide_eq_false_iff_not, Bool.not_eq_true', Bool.not_eq_false'] at *
                        omega
                      rw [hv]
                      refine evR_calls (I := noFacts) (v := .int .i64 4) (ctxIn_ok libCE_ok (eq_none _) fnsCE_ok) (by kernel_rfl) Try.func67 rfl lps_nil (cef_1001010100 c) rfl (all2_R (.cons rfl .nil)) rfl w (Nat.zero_le _) (pickL_ok ?_ _)
                      repeat' (first | exact cd_nil | refine cd_cons ?_ ?_)
                      all_goals first | rfl | with_reducible assumption
                | false =>
                  have hv : cvE c = 4 := by
                    refine if_neg fun h => ?_
                    have g := cv_iff.1 h
                    simp only [beq_iff_eq, beq_eq_false_iff_ne, ne_eq, bne_iff_ne, bne_eq_false_iff_eq, decide_eq_true_eq, decide_eq_false_iff_not, Bool.not_eq_true', Bool.not_eq_false'] at *
                    omega
                  rw [hv]
                  refine evR_calls (I := noFacts) (v := .int .i64 4) (ctxIn_ok libCE_ok (eq_none _) fnsCE_ok) (by kernel_rfl) Try.func67 rfl lps_nil (cef_10010100 c) rfl (all2_R (.cons rfl .nil)) rfl w (Nat.zero_le _) (pickL_ok ?_ _)
                  repeat' (first | exact cd_nil | refine cd_cons ?_ ?_)
                  all_goals first | rfl | with_reducible assumption
            | false =>
              have hv : cvE c = 4 := by
                refine if_neg fun h => ?_
                have g := cv_iff.1 h
                simp only [beq_iff_eq, beq_eq_false_iff_ne, ne_eq, bne_iff_ne, bne_eq_false_iff_eq, decide_eq_true_eq, decide_eq_false_iff_not, Bool.not_eq_true', Bool.not_eq_false'] at *
                omega
              rw [hv]
              refine evR_calls (I := noFacts) (v := .int .i64 4) (ctxIn_ok libCE_ok (eq_none _) fnsCE_ok) (by kernel_rfl) Try.func67 rfl lps_nil (cef_100100 c) rfl (all2_R (.cons rfl .nil)) rfl w (Nat.zero_le _) (pickL_ok ?_ _)
              repeat' (first | exact cd_nil | refine cd_cons ?_ ?_)
              all_goals first | rfl | with_reducible assumption
        | false =>
          have hv : cvE c = 4 := by
            refine if_neg fun h => ?_
            have g := cv_iff.1 h
            simp only [beq_iff_eq, beq_eq_false_iff_ne, ne_eq, bne_iff_ne, bne_eq_false_iff_eq, decide_eq_true_eq, decide_eq_false_iff_not, Bool.not_eq_true', Bool.not_eq_false'] at *
            omega
          rw [hv]
          refine evR_calls (I := noFacts) (v := .int .i64 4) (ctxIn_ok libCE_ok (eq_none _) fnsCE_ok) (by kernel_rfl) Try.func67 rfl lps_nil (cef_1000 c) rfl (all2_R (.cons rfl .nil)) rfl w (Nat.zero_le _) (pickL_ok ?_ _)
          repeat' (first | exact cd_nil | refine cd_cons ?_ ?_)
          all_goals first | rfl | with_reducible assumption
  | false =>
    cases k26 : (dnE c.y c.m c.d != 0) with
    | true =>
      have hv : cvE c = 4 := by
        refine if_neg fun h => ?_
        have g := cv_iff.1 h
        simp only [beq_iff_eq, beq_eq_false_iff_ne, ne_eq, bne_iff_ne, bne_eq_false_iff_eq, decide_eq_true_eq, decide_eq_false_iff_not, Bool.not_eq_true', Bool.not_eq_false'] at *
        omega
      rw [hv]
      refine evR_calls (I := noFacts) (v := .int .i64 4) (ctxIn_ok libCE_ok (eq_none _) fnsCE_ok) (by kernel_rfl) Try.func67 rfl lps_nil (cef_01 c) rfl (all2_R (.cons rfl .nil)) rfl w (Nat.zero_le _) (pickL_ok ?_ _)
      repeat' (first | exact cd_nil | refine cd_cons ?_ ?_)
      all_goals first | rfl | with_reducible assumption
    | false =>
      cases k27 : (decide (c.H ≥ 0)) with
      | true =>
        cases k28 : (!decide (c.H ≤ 23)) with
        | true =>
          have hv : cvE c = 4 := by
            refine if_neg fun h => ?_
            have g := cv_iff.1 h
            simp only [beq_iff_eq, beq_eq_false_iff_ne, ne_eq, bne_iff_ne, bne_eq_false_iff_eq, decide_eq_true_eq, decide_eq_false_iff_not, Bool.not_eq_true', Bool.not_eq_false'] at *
            omega
          rw [hv]
          refine evR_calls (I := noFacts) (v := .int .i64 4) (ctxIn_ok libCE_ok (eq_none _) fnsCE_ok) (by kernel_rfl) Try.func67 rfl lps_nil (cef_0011 c) rfl (all2_R (.cons rfl .nil)) rfl w (Nat.zero_le _) (pickL_ok ?_ _)
          repeat' (first | exact cd_nil | refine cd_cons ?_ ?_)
          all_goals first | rfl | with_reducible assumption
        | false =>
          cases k29 : (decide (c.M ≥ 0)) with
          | true =>
            cases k30 : (!decide (c.M ≤ 59)) with
            | true =>
              have hv : cvE c = 4 := by
                refine if_neg fun h => ?_
                have g := cv_iff.1 h
                simp only [beq_iff_eq, beq_eq_false_iff_ne, ne_eq, bne_iff_ne, bne_eq_false_iff_eq, decide_eq_true_eq, decide_eq_false_iff_not, Bool.not_eq_true', Bool.not_eq_false'] at *
                omega
              rw [hv]
              refine evR_calls (I := noFacts) (v := .int .i64 4) (ctxIn_ok libCE_ok (eq_none _) fnsCE_ok) (by kernel_rfl) Try.func67 rfl lps_nil (cef_001011 c) rfl (all2_R (.cons rfl .nil)) rfl w (Nat.zero_le _) (pickL_ok ?_ _)
              repeat' (first | exact cd_nil | refine cd_cons ?_ ?_)
              all_goals first | rfl | with_reducible assumption
            | false =>
              cases k31 : (decide (c.S ≥ 0)) with
              | true =>
                cases k32 : (!decide (c.S ≤ 59)) with
                | true =>
                  have hv : cvE c = 4 := by
                    refine if_neg fun h => ?_
                    have g := cv_iff.1 h
                    simp only [beq_iff_eq, beq_eq_false_iff_ne, ne_eq, bne_iff_ne, bne_eq_false_iff_eq, decide_eq_true_eq, decide_eq_false_iff_not, Bool.not_eq_true', Bool.not_eq_false'] at *
                    omega
                  rw [hv]
                  refine evR_calls (I := noFacts) (v := .int .i64 4) (ctxIn_ok libCE_ok (eq_none _) fnsCE_ok) (by kernel_rfl) Try.func67 rfl lps_nil (cef_00101011 c) rfl (all2_R (.cons rfl .nil)) rfl w (Nat.zero_le _) (pickL_ok ?_ _)
                  repeat' (first | exact cd_nil | refine cd_cons ?_ ?_)
                  all_goals first | rfl | with_reducible assumption
                | false =>
                  cases k33 : (decide (c.ms ≥ 0)) with
                  | true =>
                    cases k34 : (!decide (c.ms ≤ 999)) with
                    | true =>
                      have hv : cvE c = 4 := by
                        refine if_neg fun h => ?_
                        have g := cv_iff.1 h
                        simp only [beq_iff_eq, beq_eq_false_iff_ne, ne_eq, bne_iff_ne, bne_eq_false_iff_eq, decide_eq_true_eq, decide_eq_false_iff_not, Bool.not_eq_true', Bool.not_eq_false'] at *
                        omega
                      rw [hv]
                      refine evR_calls (I := noFacts) (v := .int .i64 4) (ctxIn_ok libCE_ok (eq_none _) fnsCE_ok) (by kernel_rfl) Try.func67 rfl lps_nil (cef_0010101011 c) rfl (all2_R (.cons rfl .nil)) rfl w (Nat.zero_le _) (pickL_ok ?_ _)
                      repeat' (first | exact cd_nil | refine cd_cons ?_ ?_)
                      all_goals first | rfl | with_reducible assumption
                    | false =>
                      have hv : cvE c = 0 := by
                        refine if_pos (cv_iff.2 ?_)
                        simp only [beq_iff_eq, beq_eq_false_iff_ne, ne_eq, bne_iff_ne, bne_eq_false_iff_eq, decide_eq_true_eq, decide_eq_false_iff_not, Bool.not_eq_true', Bool.not_eq_false'] at *
                        omega
                      rw [hv]
                      refine evR_calls (I := noFacts) (v := .int .i64 0) (ctxIn_ok libCE_ok (eq_none _) fnsCE_ok) (by kernel_rfl) Try.func67 rfl lps_nil (cef_0010101010 c) rfl (all2_R (.cons rfl .nil)) rfl w (Nat.zero_le _) (pickL_ok ?_ _)
                      repeat' (first | exact cd_nil | refine cd_cons ?_ ?_)
                      all_goals first | rfl | with_reducible assumption
                  | false =>
                    have hv : cvE c = 4 := by
                      refine if_neg fun h => ?_
                      have g := cv_iff.1 h
                      simp only [beq_iff_eq, beq_eq_false_iff_ne, ne_eq, bne_iff_ne, bne_eq_false_iff_eq, decide_eq_true_eq, decide_eq_false_iff_not, Bool.not_eq_true', Bool.not_eq_false'] at *
                      omega
                    rw [hv]
                    refine evR_calls (I := noFacts) (v := .int .i64 4) (ctxIn_ok libCE_ok (eq_none _) fnsCE_ok) (by kernel_rfl) Try.func67 rfl lps_nil (cef_001010100 c) rfl (all2_R (.cons rfl .nil)) rfl w (Nat.zero_le _) (pickL_ok ?_ _)
                    repeat' (first | exact cd_nil | refine cd_cons ?_ ?_)
                    all_goals first | rfl | with_reducible assumption
              | false =>
                have hv : cvE c = 4 := by
                  refine if_neg fun h => ?_
                  have g := cv_iff.1 h
                  simp only [beq_iff_eq, beq_eq_false_iff_ne, ne_eq, bne_iff_ne, bne_eq_false_iff_eq, decide_eq_true_eq, decide_eq_false_iff_not, Bool.not_eq_true', Bool.not_eq_false'] at *
                  omega
                rw [hv]
                refine evR_calls (I := noFacts) (v := .int .i64 4) (ctxIn_ok libCE_ok (eq_none _) fnsCE_ok) (by kernel_rfl) Try.func67 rfl lps_nil (cef_0010100 c) rfl (all2_R (.cons rfl .nil)) rfl w (Nat.zero_le _) (pickL_ok ?_ _)
                repeat' (first | exact cd_nil | refine cd_cons ?_ ?_)
                all_goals first | rfl | with_reducible assumption
          | false =>
            have hv : cvE c = 4 := by
              refine if_neg fun h => ?_
              have g := cv_iff.1 h
              simp only [beq_iff_eq, beq_eq_false_iff_ne, ne_eq, bne_iff_ne, bne_eq_false_iff_eq, decide_eq_true_eq, decide_eq_false_iff_not, Bool.not_eq_true', Bool.not_eq_false'] at *
              omega
            rw [hv]
            refine evR_calls (I := noFacts) (v := .int .i64 4) (ctxIn_ok libCE_ok (eq_none _) fnsCE_ok) (by kernel_rfl) Try.func67 rfl lps_nil (cef_00100 c) rfl (all2_R (.cons rfl .nil)) rfl w (Nat.zero_le _) (pickL_ok ?_ _)
            repeat' (first | exact cd_nil | refine cd_cons ?_ ?_)
            all_goals first | rfl | with_reducible assumption
      | false =>
        have hv : cvE c = 4 := by
          refine if_neg fun h => ?_
          have g := cv_iff.1 h
          simp only [beq_iff_eq, beq_eq_false_iff_ne, ne_eq, bne_iff_ne, bne_eq_false_iff_eq, decide_eq_true_eq, decide_eq_false_iff_not, Bool.not_eq_true', Bool.not_eq_false'] at *
          omega
        rw [hv]
        refine evR_calls (I := noFacts) (v := .int .i64 4) (ctxIn_ok libCE_ok (eq_none _) fnsCE_ok) (by kernel_rfl) Try.func67 rfl lps_nil (cef_000 c) rfl (all2_R (.cons rfl .nil)) rfl w (Nat.zero_le _) (pickL_ok ?_ _)
        repeat' (first | exact cd_nil | refine cd_cons ?_ ?_)
        all_goals first | rfl | with_reducible assumption
noncomputable abbrev libUO : List (Nat × FnSp Lp) := [(67, civS), (65, bothSp mkLp gCheckL), (58, dayNS), (108, bothSp mkLp gBegin)]
theorem libUO_ok : LibOk Try.prog lpI (lib1 libUO) := lib1_cons (sp1_ok fun c _ => ⟨_, rfl, cef_pl c⟩) Try.call67 (lib1_cons rLeaps_ok Try.call65 (lib1_cons (sp3_ok fun y m d _ => ⟨_, rfl, rnf_pl y m d⟩) Try.call58 (lib1_cons rBegin_ok Try.call108 (lib1_nil _ _))))
set_option maxRecDepth 100000 in
theorem uof_1 (c : Cv) (l : List (Int × Int)) : evR (ctxOf Try.prog lpI (fun _ => false) libUO) Try.f63 [(cvA c), (.w (.one (.fv (.row l))))] [true] = some (AV.tup [AW.one (AC.int IntKind.i64 0), AW.one (AC.int IntKind.i64 (cvE c))], (pickL [(cvE c != 0, true)] [0])) := by kernel_rfl
set_option maxRecDepth 100000 in
theorem uof_01 (c : Cv) (l : List (Int × Int)) : evR (ctxOf Try.prog lpI (fun _ => false) libUO) Try.f63 [(cvA c), (.w (.one (.fv (.row l))))] [false, true] = some (AV.tup [AW.one (AC.int IntKind.i64 0), AW.one (AC.int IntKind.i64 (ckL l))], (pickL [(cvE c != 0, false), (ckL l != 0, true)] [0, 1])) := by kernel_rfl
set_option maxRecDepth 100000 in
theorem uof_001 (c : Cv) (l : List (Int × Int)) : evR (ctxOf Try.prog lpI (fun _ => false) libUO) Try.f63 [(cvA c), (.w (.one (.fv (.row l))))] [false, false, true] = some (AV.tup [AW.one (AC.int IntKind.i64 0), AW.one (AC.int IntKind.i64 8)], (pickL [(cvE c != 0, false), (ckL l != 0, false), (decide (okT l), true), (dayB (dnV c.y c.m c.d), true), (dayB (IntKind.i64.wrap (dnV c.y c.m c.d + 1)), true), (decide (IntKind.i64.wrap (IntKind.i64.wrap (86400000 * dnV c.y c.m c.d + 1000 * sumL (dnV c.y c.m c.d) l + IntKind.i64.wrap (IntKind.i64.wrap (IntKind.i64.wrap (IntKind.i64.wrap (IntKind.i64.wrap (c.H * 60) + c.M) * 60) + c.S) * 1000)) + c.ms) ≥ 86400000 * IntKind.i64.wrap (dnV c.y c.m c.d + 1) + 1000 * sumL (IntKind.i64.wrap (dnV c.y c.m c.d + 1)) l), true)] [0, 1, 2, 3, 2, 4, 5])) := by kernel_rfl
set_option maxRecDepth 100000 in
theorem uof_0001 (c : Cv) (l : List (Int × Int)) : evR (ctxOf Try.prog lpI (fun _ => false) libUO) Try.f63 [(cvA c), (.w (.one (.fv (.row l))))] [false, false, false, true] = some (AV.tup [AW.one (AC.int IntKind.i64 0), AW.one (AC.int IntKind.i64 2)], (pickL [(cvE c != 0, false), (ckL l != 0, false), (decide (okT l), true), (dayB (dnV c.y c.m c.d), true), (dayB (IntKind.i64.wrap (dnV c.y c.m c.d + 1)), true), (decide (IntKind.i64.wrap (IntKind.i64.wrap (86400000 * dnV c.y c.m c.d + 1000 * sumL (dnV c.y c.m c.d) l + IntKind.i64.wrap (IntKind.i64.wrap (IntKind.i64.wrap (IntKind.i64.wrap (IntKind.i64.wrap (c.H * 60) + c.M) * 60) + c.S) * 1000)) + c.ms) ≥ 86400000 * IntKind.i64.wrap (dnV c.y c.m c.d + 1) + 1000 * sumL (IntKind.i64.wrap (dnV c.y c.m c.d + 1)) l), false), (decide (IntKind.i64.wrap (IntKind.i64.wrap (86400000 * dnV c.y c.m c.d + 1000 * sumL (dnV c.y c.m c.d) l + IntKind.i64.wrap (IntKind.i64.wrap (IntKind.i64.wrap (IntKind.i64.wrap (IntKind.i64.wrap (c.H * 60) + c.M) * 60) + c.S) * 1000)) + c.ms) > 17592186044416), true), (true, true)] [0, 1, 2, 3, 2, 4, 5, 6, 6, 6, 7])) := by kernel_rfl
set_option maxRecDepth 100000 in
theorem uof_00001 (c : Cv) (l : List (Int × Int)) : evR (ctxOf Try.prog lpI (fun _ => false) libUO) Try.f63 [(cvA c), (.w (.one (.fv (.row l))))] [false, false, false, false, true] = some (AV.tup [AW.one (AC.int IntKind.i64 0), AW.one (AC.int IntKind.i64 2)], (pickL [(cvE c != 0, false), (ckL l != 0, false), (decide (okT l), true), (dayB (dnV c.y c.m c.d), true), (dayB (IntKind.i64.wrap (dnV c.y c.m c.d + 1)), true), (decide (IntKind.i64.wrap (IntKind.i64.wrap (86400000 * dnV c.y c.m c.d + 1000 * sumL (dnV c.y c.m c.d) l + IntKind.i64.wrap (IntKind.i64.wrap (IntKind.i64.wrap (IntKind.i64.wrap (IntKind.i64.wrap (c.H * 60) + c.M) * 60) + c.S) * 1000)) + c.ms) ≥ 86400000 * IntKind.i64.wrap (dnV c.y c.m c.d + 1) + 1000 * sumL (IntKind.i64.wrap (dnV c.y c.m c.d + 1)) l), false), (decide (IntKind.i64.wrap (IntKind.i64.wrap (86400000 * dnV c.y c.m c.d + 1000 * sumL (dnV c.y c.m c.d) l + IntKind.i64.wrap (IntKind.i64.wrap (IntKind.i64.wrap (IntKind.i64.wrap (IntKind.i64.wrap (c.H * 60) + c.M) * 60) + c.S) * 1000)) + c.ms) > 17592186044416), false), (decide (IntKind.i64.wrap (IntKind.i64.wrap (86400000 * dnV c.y c.m c.d + 1000 * sumL (dnV c.y c.m c.d) l + IntKind.i64.wrap (IntKind.i64.wrap (IntKind.i64.wrap (IntKind.i64.wrap (IntKind.i64.wrap (c.H * 60) + c.M) * 60) + c.S) * 1000)) + c.ms) < -17592186044416), true)] [0, 1, 2, 3, 2, 4, 5, 6, 6, 6, 7])) := by kernel_rfl
set_option maxRecDepth 100000 in
theorem uof_00000 (c : Cv) (l : List (Int × Int)) : evR (ctxOf Try.prog lpI (fun _ => false) libUO) Try.f63 [(cvA c), (.w (.one (.fv (.row l))))] [false, false, false, false, false] = some (AV.tup [AW.one (AC.int IntKind.i64 (IntKind.i64.wrap (IntKind.i64.wrap (86400000 * dnV c.y c.m c.d + 1000 * sumL (dnV c.y c.m c.d) l + IntKind.i64.wrap (IntKind.i64.wrap (IntKind.i64.wrap (IntKind.i64.wrap (IntKind.i64.wrap (c.H * 60) + c.M) * 60) + c.S) * 1000)) + c.ms))), AW.one (AC.int IntKind.i64 0)], (pickL [(cvE c != 0, false), (ckL l != 0, false), (decide (okT l), true), (dayB (dnV c.y c.m c.d), true), (dayB (IntKind.i64.wrap (dnV c.y c.m c.d + 1)), true), (decide (IntKind.i64.wrap (IntKind.i64.wrap (86400000 * dnV c.y c.m c.d + 1000 * sumL (dnV c.y c.m c.d) l + IntKind.i64.wrap (IntKind.i64.wrap (IntKind.i64.wrap (IntKind.i64.wrap (IntKind.i64.wrap (c.H * 60) + c.M) * 60) + c.S) * 1000)) + c.ms) ≥ 86400000 * IntKind.i64.wrap (dnV c.y c.m c.d + 1) + 1000 * sumL (IntKind.i64.wrap (dnV c.y c.m c.d + 1)) l), false), (decide (IntKind.i64.wrap (IntKind.i64.wrap (86400000 * dnV c.y c.m c.d + 1000 * sumL (dnV c.y c.m c.d) l + IntKind.i64.wrap (IntKind.i64.wrap (IntKind.i64.wrap (IntKind.i64.wrap (IntKind.i64.wrap (c.H * 60) + c.M) * 60) + c.S) * 1000)) + c.ms) > 17592186044416), false), (decide (IntKind.i64.wrap (IntKind.i64.wrap (86400000 * dnV c.y c.m c.d + 1000 * sumL (dnV c.y c.m c.d) l + IntKind.i64.wrap (IntKind.i64.wrap (IntKind.i64.wrap (IntKind.i64.wrap (IntKind.i64.wrap (c.H * 60) + c.M) * 60) + c.S) * 1000)) + c.ms) < -17592186044416), false)] [0, 1, 2, 3, 2, 4, 5, 6, 6, 6, 7])) := by kernel_rfl
theorem uo_in {c : Cv} {l : List (Int × Int)} (h : cvE c = 0) (hl : okT l) : dayB (dnV c.y c.m c.d) = true ∧ IntKind.i64.wrap (dnV c.y c.m c.d + 1) = cvD c + 1 ∧ dayB (cvD c + 1) = true ∧ IntKind.i64.wrap (IntKind.i64.wrap (86400000 * dnV c.y c.m c.d + 1000 * sumL (dnV c.y c.m c.d) l + IntKind.i64.wrap (IntKind.i64.wrap (IntKind.i64.wrap (IntKind.i64.wrap (IntKind.i64.wrap (c.H * 60) + c.M) * 60) + c.S) * 1000)) + c.ms) = cvT c l := by
  obtain ⟨h0, h1, h2, h3, h4, h5, h6, h7, h8, h9, h10⟩ := cv_in h
  have u := sumL_in (day := cvD c) hl.2
  have g := hl.1
  have hD : dnV c.y c.m c.d = cvD c := rfl
  have es : IntKind.i64.wrap (IntKind.i64.wrap (IntKind.i64.wrap (IntKind.i64.wrap (c.H * 60) + c.M) * 60) + c.S) = cvS c := by
    unfold cvS
    rw [w64 (x := c.H * 60) (by omega) (by omega), w64 (x := c.H * 60 + c.M) (by omega) (by omega), w64 (x := (c.H * 60 + c.M) * 60) (by omega) (by omega), w64 (by omega) (by omega)]
  have hs : 0 ≤ cvS c ∧ cvS c ≤ 90000 := by unfold cvS; omega
  rw [hD, es]
  refine ⟨?_, w64 (by omega) (by omega), ?_, ?_⟩
  · unfold dayB; rw [decide_eq_true (show -10000000 ≤ cvD c by omega), decide_eq_true (show cvD c ≤ 10000000 by omega)]; rfl
  · unfold dayB; rw [decide_eq_true (show -10000000 ≤ cvD c + 1 by omega), decide_eq_true (show cvD c + 1 ≤ 10000000 by omega)]; rfl
  · rw [w64 (x := cvS c * 1000) (by omega) (by omega), w64 (x := 86400000 * cvD c + 1000 * sumL (cvD c) l + cvS c * 1000) (by omega) (by omega), w64 (by omega) (by omega)]
    unfold cvT; omega
theorem rToU_ok : (bothSp mkLp gToU).ok Try.prog lpI 63 :=
  bothSp_ok (ctxOf_ok libUO_ok (eq_none _)) (by kernel_rfl) Try.func63 rfl lps_nil mkLp_ok fun args v cd hg hc => by
    unfold gToU at hg
    split at hg
    · rename_i y m d H M S ms l
      cases hg
      refine ⟨rfl, rfl, rfl, ?_⟩
      generalize hcc : (⟨y, m, d, H, M, S, ms⟩ : Cv) = c
      have hA : ([.w (.agg [.int .i64 y, .int .i64 m, .int .i64 d, .int .i64 H, .int .i64 M, .int .i64 S, .int .i64 ms]), .w (.one (.fv (.row l)))] : List (AV Lp)) = [cvA c, .w (.one (.fv (.row l)))] := by subst hcc; rfl
      rw [hA]
      by_cases h1 : cvE c = 0
      · have c1 : (cvE c != 0) = false := by rw [h1]; rfl
        by_cases h2 : ckL l = 0
        · have c2 : (ckL l != 0) = false := by rw [h2]; rfl
          have hl := ckL_ok h2
          have c3 : decide (okT l) = true := decide_eq_true hl
          obtain ⟨q1, q2, q3, q4⟩ := uo_in h1 hl
          have st := ck_step h2 (cvD c)
          have ht : cvT c l = 86400000 * cvD c + 1000 * sumL (cvD c) l + (cvS c * 1000 + c.ms) := rfl
          obtain ⟨_, _, _, _, _, _, _, h7, h8, _⟩ := cv_in h1
          by_cases h3 : 86400 + stL (cvD c) l ≤ cvS c
          · have c4 : decide (cvT c l ≥ 86400000 * (cvD c + 1) + 1000 * sumL (cvD c + 1) l) = true := decide_eq_true (by omega)
            have e2 : tuE c l = 8 := by unfold tuE; rw [if_neg (by omega), if_neg (by omega), if_pos h3]
            have e1 : tuV c l = 0 := if_neg (by omega)
            have L := uof_001 c l
            rw [q4, q2] at L
            refine ⟨[false, false, true], _, _, L, fun E u hu => ?_, pickL_ok ?_ _⟩
            · rw [e1, e2]; exact hu
            repeat' (first | exact cd_nil | refine cd_cons ?_ ?_)
            all_goals first | rfl | with_reducible assumption

          · have c4 : decide (cvT c l ≥ 86400000 * (cvD c + 1) + 1000 * sumL (cvD c + 1) l) = false := decide_eq_false (by omega)
            by_cases h4 : cvT c l > 17592186044416
            · have c5 : decide (cvT c l > 17592186044416) = true := decide_eq_true h4
              have hb : tmB (cvT c l) = false := by unfold tmB; rw [decide_eq_false (show ¬ cvT c l ≤ 17592186044416 by omega)]; exact Bool.and_false _
              have e2 : tuE c l = 2 := by unfold tuE; rw [if_neg (by omega), if_neg (by omega), if_neg h3, hb]; rfl
              have e1 : tuV c l = 0 := if_neg (by omega)
              have L := uof_0001 c l
              rw [q4, q2] at L
              refine ⟨[false, false, false, true], _, _, L, fun E u hu => ?_, pickL_ok ?_ _⟩
              · rw [e1, e2]; exact hu
              repeat' (first | exact cd_nil | refine cd_cons ?_ ?_)
              all_goals first | rfl | with_reducible assumption

            · have c5 : decide (cvT c l > 17592186044416) = false := decide_eq_false h4
              by_cases h5 : cvT c l < -17592186044416
              · have c6 : decide (cvT c l < -17592186044416) = true := decide_eq_true h5
                have hb : tmB (cvT c l) = false := by unfold tmB; rw [decide_eq_false (show ¬ -17592186044416 ≤ cvT c l by omega)]; rfl
                have e2 : tuE c l = 2 := by unfold tuE; rw [if_neg (by omega), if_neg (by omega), if_neg h3, hb]; rfl
                have e1 : tuV c l = 0 := if_neg (by omega)
                have L := uof_00001 c l
                rw [q4, q2] at L
                refine ⟨[false, false, false, false, true], _, _, L, fun E u hu => ?_, pickL_ok ?_ _⟩
                · rw [e1, e2]; exact hu
                repeat' (first | exact cd_nil | refine cd_cons ?_ ?_)
                all_goals first | rfl | with_reducible assumption

              · have c6 : decide (cvT c l < -17592186044416) = false := decide_eq_false h5
                have hb : tmB (cvT c l) = true := by unfold tmB; rw [decide_eq_true (show -17592186044416 ≤ cvT c l by omega), decide_eq_true (show cvT c l ≤ 17592186044416 by omega)]; rfl
                have e2 : tuE c l = 0 := by unfold tuE; rw [if_neg (by omega), if_neg (by omega), if_neg h3, if_pos hb]
                have e1 : tuV c l = cvT c l := if_pos e2
                have L := uof_00000 c l
                rw [q4, q2] at L
                refine ⟨[false, false, false, false, false], _, _, L, fun E u hu => ?_, pickL_ok ?_ _⟩
                · rw [e1, e2]; exact hu
                repeat' (first | exact cd_nil | refine cd_cons ?_ ?_)
                all_goals first | rfl | with_reducible assumption

        · have c2 : (ckL l != 0) = true := by simpa using h2
          have e2 : tuE c l = ckL l := by unfold tuE; rw [if_neg (by omega), if_pos h2]
          have e1 : tuV c l = 0 := if_neg (by omega)
          refine ⟨[false, true], _, _, uof_01 c l, fun E u hu => ?_, pickL_ok ?_ _⟩
          · rw [e1, e2]; exact hu
          repeat' (first | exact cd_nil | refine cd_cons ?_ ?_)
          all_goals first | rfl | with_reducible assumption

      · have c1 : (cvE c != 0) = true := by simpa using h1
        have e2 : tuE c l = cvE c := by unfold tuE; rw [if_pos h1]
        have e1 : tuV c l = 0 := if_neg (by omega)
        refine ⟨[true], _, _, uof_1 c l, fun E u hu => ?_, pickL_ok ?_ _⟩
        · rw [e1, e2]; exact hu
        repeat' (first | exact cd_nil | refine cd_cons ?_ ?_)
        all_goals first | rfl | with_reducible assumption

    · cases hg
noncomputable abbrev libLU : List (Nat × FnSp Lp) := [(61, sp0 (.w (.one (.yes true)))), (62, bothSp mkLp gToU), (63, bothSp mkLp gToU), (64, bothSp mkLp gCheckL), (65, bothSp mkLp gCheckL), (66, civS), (67, civS)]
theorem libLU_ok : LibOk Try.prog lpI (lib1 libLU) := lib1_cons (sp0_ok rfl sfact_pl) Try.call61 (lib1_cons gToU_ok Try.call62 (lib1_cons rToU_ok Try.call63 (lib1_cons gCheckL_ok Try.call64 (lib1_cons rLeaps_ok Try.call65 (lib1_cons (sp1_ok fun c _ => ⟨_, rfl, ckf_pl c⟩) Try.call66 (lib1_cons (sp1_ok fun c _ => ⟨_, rfl, cef_pl c⟩) Try.call67 (lib1_nil _ _)))))))
set_option maxRecDepth 100000 in
theorem lu_111 (c : Cv) (l : List (Int × Int)) : evR (ctxOf Try.prog lpI (fun _ => false) libLU) Try.f10 [(cvA c), (.w (.one (.fv (.row l))))] [true, true, true] = some (AV.w (AW.one (AC.bool (tuE c l == tuE c l))), (pickL [(true, true), (ckL l == ckL l, true), (cvE c == cvE c, true), (tuV c l == tuV c l, true)] [0, 0, 0, 0, 0, 0, 1, 1, 1, 1, 1, 1, 2, 2, 2, 2, 3, 3, 3, 3])) := by kernel_rfl
/-- A law whose last argument is a table: its facts. -/
theorem lp_fact {l : List (Int × Int)} {u : Value} {W : World} (hu : prHv (fun _ _ => False) W u l) : Mem lpI ⟨W, (Env.facts (fun (f : Lp) v => f = .row l ∧ v = u) : Env Lp).ran, fun _ _ => False⟩ (Env.facts (fun (f : Lp) v => f = .row l ∧ v = u)) [] W := by
  refine ⟨fun b blk h => by simp [Ev.look] at h, fun b blk n sz h => by simp [Ev.look] at h, fun _ _ _ _ => rfl, fun b b' k h => (own_facts h).elim, fun b k h => (own_facts h).elim, fun k j f arr h => by (cases h), ⟨rfl, rfl, rfl, Nat.le_refl _, fun _ _ _ => rfl⟩, fun b k h => (own_facts h).elim, fun b k h => (own_facts h).elim, Nat.zero_le _,
    fun q v hq => ?_, fun _ _ _ _ _ h => by cases h⟩
  obtain ⟨rfl, rfl⟩ := hq
  refine lpI.hv_mono (.row l) (fun _ _ => False) _ W W _ hu (fun k o _ hd => ?_) (fun _ _ => .inl rfl)
  rcases hd with hd | ⟨_, hd⟩ | ⟨_, _, _, _, _, hd, _⟩
  · exact hd.1
  · cases hd
  · simp [Ev.look] at hd
theorem law_lp {c : Ctx Lp} (hC : CtxOk Try.prog lpI c) {f : FuncId} {fn : Func} (hf : Try.prog.funcs[f]? = some fn) (hb : fn.body.isSome = true) (hL : LpsOk Try.prog lpI c.lps fn.ntmps (bodyOf fn))
    {xs : List (AV Lp)} {us : List Value} {l : List (Int × Int)} {u : Value} {W : World} (hu : prHv (fun _ _ => False) W u l) {path : List Bool} {x : AV Lp} {cd : List (Bool × Bool)} {v : Value} (h : evR c fn (xs ++ [.w (.one (.fv (.row l)))]) path = some (x, cd))
    (hn : Nat.ble (xs ++ [.w (.one (.fv (.row l)))] : List (AV Lp)).length fn.ntmps = true) (ha : All2 (fun (x : AV Lp) u => x.val = some u) xs us) (hx : x.val = some v) (hc : ∀ p ∈ cd, p.1 = p.2) :
    Calls Try.prog f (us ++ [u]).toArray W fun e w' => e = .returned v ∧ Below W.heap.size W w' := by
  have hb' : fn.body = some (bodyOf fn) := by
    unfold bodyOf
    cases hfb : fn.body with
    | none => rw [hfb] at hb; cases hb
    | some c => rfl
  have hA : All2 (AV.R (Env.facts (fun (f : Lp) v => f = .row l ∧ v = u) : Env Lp)) (xs ++ [.w (.one (.fv (.row l)))]) (us ++ [u]) :=
    all2_snoc_mk (R := AV.R (Env.facts (fun (f : Lp) v => f = .row l ∧ v = u) : Env Lp)) (x := .w (.one (.fv (.row l)))) (u := u) (⟨rfl, rfl⟩ : Lp.row l = .row l ∧ u = u) (ha.mono fun _ _ h => AV.R_val h)
  unfold evR at h
  split at h
  · rename_i r hr
    split at h
    · cases h
      refine (evF_calls hC (by kernel_rfl) hf hb' hL hr hc (Nat.le_of_ble_eq_true hn) hA (lp_fact hu) (fun _ _ => ⟨rfl, fun _ => rfl, fun _ => rfl⟩)).mono ?_
      rintro e w' ⟨E', u1, _, rfl, q2, q3⟩
      have := AV.val_R hx q2
      subst this
      exact ⟨rfl, q3.kept.os, q3.kept.tape, q3.kept.output, q3.kept.size, fun i hi => q3.kept.block i hi fun ⟨b, hb⟩ => own_facts hb⟩
    · cases h
  · cases h
theorem scaleUniforms_law (c : Cv) (l : List (Int × Int)) (u : Value) (W : World) (hu : prHv (fun _ _ => False) W u l) : Calls Try.prog 10 #[cvV c, u] W fun e w' => e = .returned (.bool true) ∧ Below W.heap.size W w' := by
  have k1 : (ckL l == ckL l) = true := beq_self_eq_true _
  have k2 : (cvE c == cvE c) = true := beq_self_eq_true _
  have k3 : (tuV c l == tuV c l) = true := beq_self_eq_true _
  have V : (tuE c l == tuE c l) = true := beq_self_eq_true _
  refine law_lp (v := .bool true) (xs := [cvA c]) (us := [cvV c]) (ctxOf_ok libLU_ok (eq_none _)) Try.func10 rfl lps_nil hu (lu_111 c l) rfl (.cons rfl .nil) (congrArg (fun b => some (Value.bool b)) V) (pickL_ok ?_ _)
  repeat' (first | exact cd_nil | refine cd_cons ?_ ?_)
  all_goals first | rfl | with_reducible assumption
end
end Go.Proofs.Ytoaoifiklnbknaa.RL

