/-
  The reference's LeapsErr, Begin, CivilErr and UniformOf as functions of their arguments; the walk of spylaw1.ScaleUniforms.
  Conditions: those of each theorem.
-/
import Derived.Test.YtokkaeaciigapaaDoorD9
set_option linter.unusedVariables false
set_option linter.unusedSimpArgs false
namespace Go.Proofs.YtokkaeaciigapaaDoor.RL
open Go.RowKit Ev Sc
open Go.Proofs.YtokkaeaciigapaaDoor
variable {F : Type}
noncomputable section

noncomputable abbrev leLps : Lps Lp := [((38, [false, true, false, true, true, true]), leD.sp (fun _ => false))]
noncomputable abbrev rgLps : Lps Lp := [((27, [false, true, false, true, true]), rgD.sp (fun _ => false))]
noncomputable abbrev fnsCE : List (Nat × Func) := [(24, Tryd.f24)]
noncomputable abbrev libCE : List (Nat × FnSp Empty) := [(23, dayNS)]
theorem cv_iff {c : Cv} : cvB c = true ↔ dnE c.y c.m c.d = 0 ∧ 0 ≤ c.H ∧ c.H ≤ 23 ∧ 0 ≤ c.M ∧ c.M ≤ 59 ∧ 0 ≤ c.S ∧ (c.S ≤ 59 ∨ c.S ≤ 60 ∧ c.H = 23 ∧ c.M = 59) ∧ 0 ≤ c.ms ∧ c.ms ≤ 999 := by
  have hE : dnE c.y c.m c.d = 0 ↔ okD c.y c.m c.d = true := by unfold dnE; cases okD c.y c.m c.d <;> simp
  unfold cvB upB
  simp only [Bool.and_eq_true, decide_eq_true_eq]
  rw [hE]
  by_cases g : c.H = 23 ∧ c.M = 59
  · rw [if_pos g]
    constructor
    · rintro ⟨⟨⟨⟨h1, h2, h3⟩, h4, h5⟩, h6, h7⟩, h8, h9⟩
      exact ⟨h1, h2, h3, h4, h5, h6, by omega, h8, h9⟩
    · rintro ⟨h1, h2, h3, h4, h5, h6, h7, h8, h9⟩
      exact ⟨⟨⟨⟨h1, h2, h3⟩, h4, h5⟩, h6, by omega⟩, h8, h9⟩
  · rw [if_neg g]
    constructor
    · rintro ⟨⟨⟨⟨h1, h2, h3⟩, h4, h5⟩, h6, h7⟩, h8, h9⟩
      exact ⟨h1, h2, h3, h4, h5, h6, by omega, h8, h9⟩
    · rintro ⟨h1, h2, h3, h4, h5, h6, h7, h8, h9⟩
      exact ⟨⟨⟨⟨h1, h2, h3⟩, h4, h5⟩, h6, by omega⟩, h8, h9⟩
theorem fnsCE_ok : FnsOk Tryd.prog fnsCE := fns_cons Tryd.func24 rfl Tryd.call24 (fns_nil _)
theorem libCE_ok : LibOk Tryd.prog noFacts (lib1 libCE) := lib1_cons (sp3_ok fun y m d _ => ⟨_, rfl, rnf_pl y m d⟩) Tryd.call23 (lib1_nil _ _)
set_option maxRecDepth 100000 in
theorem cef_111 (c : Cv) : evR (ctxIn Tryd.prog noFacts (fun _ => false) libCE fnsCE) Tryd.f11 [(cvA c)] [true, true, true] = some (AV.w (AW.one (AC.int IntKind.i64 4)), (pickL [(c.S == 60, true), (c.H == 23, true), (dnE c.y c.m c.d != 0, true), (true, true)] [0, 0, 0, 0, 1, 1, 1, 1, 2, 2, 2, 2, 2, 2, 3, 3, 3, 3, 3, 3, 3, 3, 3, 3, 3, 3, 3, 3, 3, 3, 3, 3, 3, 3, 3])) := by kernel_rfl
set_option maxRecDepth 100000 in
theorem cef_11011 (c : Cv) : evR (ctxIn Tryd.prog noFacts (fun _ => false) libCE fnsCE) Tryd.f11 [(cvA c)] [true, true, false, true, true] = some (AV.w (AW.one (AC.int IntKind.i64 4)), (pickL [(c.S == 60, true), (c.H == 23, true), (dnE c.y c.m c.d != 0, false), (decide (c.H ≥ 0), true), (!decide (c.H ≤ 23), true), (true, true)] [0, 0, 0, 0, 1, 1, 1, 1, 2, 2, 2, 2, 3, 3, 3, 3, 2, 2, 4, 4, 4, 4, 4, 4, 5, 5, 5, 5, 5, 5, 5, 5, 5, 5, 5, 5, 5, 5, 5])) := by kernel_rfl
set_option maxRecDepth 100000 in
theorem cef_1101011 (c : Cv) : evR (ctxIn Tryd.prog noFacts (fun _ => false) libCE fnsCE) Tryd.f11 [(cvA c)] [true, true, false, true, false, true, true] = some (AV.w (AW.one (AC.int IntKind.i64 4)), (pickL [(c.S == 60, true), (c.H == 23, true), (dnE c.y c.m c.d != 0, false), (decide (c.H ≥ 0), true), (!decide (c.H ≤ 23), false), (decide (c.M ≥ 0), true), (!decide (c.M ≤ 59), true), (true, true)] [0, 0, 0, 0, 1, 1, 1, 1, 2, 2, 2, 2, 3, 3, 3, 3, 2, 2, 4, 4, 4, 4, 5, 5, 5, 5, 4, 4, 6, 6, 6, 6, 6, 6, 6, 6, 7, 7, 7, 7, 7, 7, 7])) := by kernel_rfl
set_option maxRecDepth 100000 in
theorem cef_1101010111 (c : Cv) : evR (ctxIn Tryd.prog noFacts (fun _ => false) libCE fnsCE) Tryd.f11 [(cvA c)] [true, true, false, true, false, true, false, true, true, true] = some (AV.w (AW.one (AC.int IntKind.i64 4)), (pickL [(c.S == 60, true), (c.H == 23, true), (dnE c.y c.m c.d != 0, false), (decide (c.H ≥ 0), true), (!decide (c.H ≤ 23), false), (decide (c.M ≥ 0), true), (!decide (c.M ≤ 59), false), (decide (c.S ≥ 0), true), (!decide (c.S ≤ 59), true), (!c.M == 59, true), (true, true)] [0, 0, 0, 0, 1, 1, 1, 1, 2, 2, 2, 2, 3, 3, 3, 3, 2, 2, 4, 4, 4, 4, 5, 5, 5, 5, 4, 4, 6, 6, 6, 6, 7, 7, 7, 7, 6, 6, 8, 8, 6, 8, 6, 9, 9, 9, 9, 9, 9, 10])) := by kernel_rfl
set_option maxRecDepth 100000 in
theorem cef_110101011011 (c : Cv) : evR (ctxIn Tryd.prog noFacts (fun _ => false) libCE fnsCE) Tryd.f11 [(cvA c)] [true, true, false, true, false, true, false, true, true, false, true, true] = some (AV.w (AW.one (AC.int IntKind.i64 4)), (pickL [(c.S == 60, true), (c.H == 23, true), (dnE c.y c.m c.d != 0, false), (decide (c.H ≥ 0), true), (!decide (c.H ≤ 23), false), (decide (c.M ≥ 0), true), (!decide (c.M ≤ 59), false), (decide (c.S ≥ 0), true), (!decide (c.S ≤ 59), true), (!c.M == 59, false), (decide (c.ms ≥ 0), true), (!decide (c.ms ≤ 999), true)] [0, 0, 0, 0, 1, 1, 1, 1, 2, 2, 2, 2, 3, 3, 3, 3, 2, 2, 4, 4, 4, 4, 5, 5, 5, 5, 4, 4, 6, 6, 6, 6, 7, 7, 7, 7, 6, 6, 8, 8, 6, 8, 6, 9, 9, 9, 9, 10, 10, 10, 10, 9, 9, 11])) := by kernel_rfl
set_option maxRecDepth 100000 in
theorem cef_110101011010 (c : Cv) : evR (ctxIn Tryd.prog noFacts (fun _ => false) libCE fnsCE) Tryd.f11 [(cvA c)] [true, true, false, true, false, true, false, true, true, false, true, false] = some (AV.w (AW.one (AC.int IntKind.i64 0)), (pickL [(c.S == 60, true), (c.H == 23, true), (dnE c.y c.m c.d != 0, false), (decide (c.H ≥ 0), true), (!decide (c.H ≤ 23), false), (decide (c.M ≥ 0), true), (!decide (c.M ≤ 59), false), (decide (c.S ≥ 0), true), (!decide (c.S ≤ 59), true), (!c.M == 59, false), (decide (c.ms ≥ 0), true), (!decide (c.ms ≤ 999), false)] [0, 0, 0, 0, 1, 1, 1, 1, 2, 2, 2, 2, 3, 3, 3, 3, 2, 2, 4, 4, 4, 4, 5, 5, 5, 5, 4, 4, 6, 6, 6, 6, 7, 7, 7, 7, 6, 6, 8, 8, 6, 8, 6, 9, 9, 9, 9, 10, 10, 10, 10, 9, 9, 11])) := by kernel_rfl
set_option maxRecDepth 100000 in
theorem cef_11010101100 (c : Cv) : evR (ctxIn Tryd.prog noFacts (fun _ => false) libCE fnsCE) Tryd.f11 [(cvA c)] [true, true, false, true, false, true, false, true, true, false, false] = some (AV.w (AW.one (AC.int IntKind.i64 4)), (pickL [(c.S == 60, true), (c.H == 23, true), (dnE c.y c.m c.d != 0, false), (decide (c.H ≥ 0), true), (!decide (c.H ≤ 23), false), (decide (c.M ≥ 0), true), (!decide (c.M ≤ 59), false), (decide (c.S ≥ 0), true), (!decide (c.S ≤ 59), true), (!c.M == 59, false), (decide (c.ms ≥ 0), false), (!false, true)] [0, 0, 0, 0, 1, 1, 1, 1, 2, 2, 2, 2, 3, 3, 3, 3, 2, 2, 4, 4, 4, 4, 5, 5, 5, 5, 4, 4, 6, 6, 6, 6, 7, 7, 7, 7, 6, 6, 8, 8, 6, 8, 6, 9, 9, 9, 9, 10, 10, 10, 10, 9, 9, 11])) := by kernel_rfl
set_option maxRecDepth 100000 in
theorem cef_11010101011 (c : Cv) : evR (ctxIn Tryd.prog noFacts (fun _ => false) libCE fnsCE) Tryd.f11 [(cvA c)] [true, true, false, true, false, true, false, true, false, true, true] = some (AV.w (AW.one (AC.int IntKind.i64 4)), (pickL [(c.S == 60, true), (c.H == 23, true), (dnE c.y c.m c.d != 0, false), (decide (c.H ≥ 0), true), (!decide (c.H ≤ 23), false), (decide (c.M ≥ 0), true), (!decide (c.M ≤ 59), false), (decide (c.S ≥ 0), true), (!decide (c.S ≤ 59), false), (false, false), (decide (c.ms ≥ 0), true), (!decide (c.ms ≤ 999), true)] [0, 0, 0, 0, 1, 1, 1, 1, 2, 2, 2, 2, 3, 3, 3, 3, 2, 2, 4, 4, 4, 4, 5, 5, 5, 5, 4, 4, 6, 6, 6, 6, 7, 7, 7, 7, 6, 6, 8, 8, 6, 8, 6, 9, 9, 9, 9, 10, 10, 10, 10, 9, 9, 11])) := by kernel_rfl
set_option maxRecDepth 100000 in
theorem cef_11010101010 (c : Cv) : evR (ctxIn Tryd.prog noFacts (fun _ => false) libCE fnsCE) Tryd.f11 [(cvA c)] [true, true, false, true, false, true, false, true, false, true, false] = some (AV.w (AW.one (AC.int IntKind.i64 0)), (pickL [(c.S == 60, true), (c.H == 23, true), (dnE c.y c.m c.d != 0, false), (decide (c.H ≥ 0), true), (!decide (c.H ≤ 23), false), (decide (c.M ≥ 0), true), (!decide (c.M ≤ 59), false), (decide (c.S ≥ 0), true), (!decide (c.S ≤ 59), false), (false, false), (decide (c.ms ≥ 0), true), (!decide (c.ms ≤ 999), false)] [0, 0, 0, 0, 1, 1, 1, 1, 2, 2, 2, 2, 3, 3, 3, 3, 2, 2, 4, 4, 4, 4, 5, 5, 5, 5, 4, 4, 6, 6, 6, 6, 7, 7, 7, 7, 6, 6, 8, 8, 6, 8, 6, 9, 9, 9, 9, 10, 10, 10, 10, 9, 9, 11])) := by kernel_rfl
set_option maxRecDepth 100000 in
theorem cef_1101010100 (c : Cv) : evR (ctxIn Tryd.prog noFacts (fun _ => false) libCE fnsCE) Tryd.f11 [(cvA c)] [true, true, false, true, false, true, false, true, false, false] = some (AV.w (AW.one (AC.int IntKind.i64 4)), (pickL [(c.S == 60, true), (c.H == 23, true), (dnE c.y c.m c.d != 0, false), (decide (c.H ≥ 0), true), (!decide (c.H ≤ 23), false), (decide (c.M ≥ 0), true), (!decide (c.M ≤ 59), false), (decide (c.S ≥ 0), true), (!decide (c.S ≤ 59), false), (false, false), (decide (c.ms ≥ 0), false), (!false, true)] [0, 0, 0, 0, 1, 1, 1, 1, 2, 2, 2, 2, 3, 3, 3, 3, 2, 2, 4, 4, 4, 4, 5, 5, 5, 5, 4, 4, 6, 6, 6, 6, 7, 7, 7, 7, 6, 6, 8, 8, 6, 8, 6, 9, 9, 9, 9, 10, 10, 10, 10, 9, 9, 11])) := by kernel_rfl
set_option maxRecDepth 100000 in
theorem cef_110101001 (c : Cv) : evR (ctxIn Tryd.prog noFacts (fun _ => false) libCE fnsCE) Tryd.f11 [(cvA c)] [true, true, false, true, false, true, false, false, true] = some (AV.w (AW.one (AC.int IntKind.i64 4)), (pickL [(c.S == 60, true), (c.H == 23, true), (dnE c.y c.m c.d != 0, false), (decide (c.H ≥ 0), true), (!decide (c.H ≤ 23), false), (decide (c.M ≥ 0), true), (!decide (c.M ≤ 59), false), (decide (c.S ≥ 0), false), (!false, true), (!c.M == 59, true), (true, true)] [0, 0, 0, 0, 1, 1, 1, 1, 2, 2, 2, 2, 3, 3, 3, 3, 2, 2, 4, 4, 4, 4, 5, 5, 5, 5, 4, 4, 6, 6, 6, 6, 7, 7, 7, 7, 6, 6, 8, 8, 6, 8, 6, 9, 9, 9, 9, 9, 9, 10])) := by kernel_rfl
set_option maxRecDepth 100000 in
theorem cef_11010100011 (c : Cv) : evR (ctxIn Tryd.prog noFacts (fun _ => false) libCE fnsCE) Tryd.f11 [(cvA c)] [true, true, false, true, false, true, false, false, false, true, true] = some (AV.w (AW.one (AC.int IntKind.i64 4)), (pickL [(c.S == 60, true), (c.H == 23, true), (dnE c.y c.m c.d != 0, false), (decide (c.H ≥ 0), true), (!decide (c.H ≤ 23), false), (decide (c.M ≥ 0), true), (!decide (c.M ≤ 59), false), (decide (c.S ≥ 0), false), (!false, true), (!c.M == 59, false), (decide (c.ms ≥ 0), true), (!decide (c.ms ≤ 999), true)] [0, 0, 0, 0, 1, 1, 1, 1, 2, 2, 2, 2, 3, 3, 3, 3, 2, 2, 4, 4, 4, 4, 5, 5, 5, 5, 4, 4, 6, 6, 6, 6, 7, 7, 7, 7, 6, 6, 8, 8, 6, 8, 6, 9, 9, 9, 9, 10, 10, 10, 10, 9, 9, 11])) := by kernel_rfl
set_option maxRecDepth 100000 in
theorem cef_11010100010 (c : Cv) : evR (ctxIn Tryd.prog noFacts (fun _ => false) libCE fnsCE) Tryd.f11 [(cvA c)] [true, true, false, true, false, true, false, false, false, true, false] = some (AV.w (AW.one (AC.int IntKind.i64 0)), (pickL [(c.S == 60, true), (c.H == 23, true), (dnE c.y c.m c.d != 0, false), (decide (c.H ≥ 0), true), (!decide (c.H ≤ 23), false), (decide (c.M ≥ 0), true), (!decide (c.M ≤ 59), false), (decide (c.S ≥ 0), false), (!false, true), (!c.M == 59, false), (decide (c.ms ≥ 0), true), (!decide (c.ms ≤ 999), false)] [0, 0, 0, 0, 1, 1, 1, 1, 2, 2, 2, 2, 3, 3, 3, 3, 2, 2, 4, 4, 4, 4, 5, 5, 5, 5, 4, 4, 6, 6, 6, 6, 7, 7, 7, 7, 6, 6, 8, 8, 6, 8, 6, 9, 9, 9, 9, 10, 10, 10, 10, 9, 9, 11])) := by kernel_rfl
set_option maxRecDepth 100000 in
theorem cef_1101010000 (c : Cv) : evR (ctxIn Tryd.prog noFacts (fun _ => false) libCE fnsCE) Tryd.f11 [(cvA c)] [true, true, false, true, false, true, false, false, false, false] = some (AV.w (AW.one (AC.int IntKind.i64 4)), (pickL [(c.S == 60, true), (c.H == 23, true), (dnE c.y c.m c.d != 0, false), (decide (c.H ≥ 0), true), (!decide (c.H ≤ 23), false), (decide (c.M ≥ 0), true), (!decide (c.M ≤ 59), false), (decide (c.S ≥ 0), false), (!false, true), (!c.M == 59, false), (decide (c.ms ≥ 0), false)] [0, 0, 0, 0, 1, 1, 1, 1, 2, 2, 2, 2, 3, 3, 3, 3, 2, 2, 4, 4, 4, 4, 5, 5, 5, 5, 4, 4, 6, 6, 6, 6, 7, 7, 7, 7, 6, 6, 8, 8, 6, 8, 6, 9, 9, 9, 9, 10, 10, 10, 10, 9, 9, 8])) := by kernel_rfl
set_option maxRecDepth 100000 in
theorem cef_110100 (c : Cv) : evR (ctxIn Tryd.prog noFacts (fun _ => false) libCE fnsCE) Tryd.f11 [(cvA c)] [true, true, false, true, false, false] = some (AV.w (AW.one (AC.int IntKind.i64 4)), (pickL [(c.S == 60, true), (c.H == 23, true), (dnE c.y c.m c.d != 0, false), (decide (c.H ≥ 0), true), (!decide (c.H ≤ 23), false), (decide (c.M ≥ 0), false), (!false, true), (true, true)] [0, 0, 0, 0, 1, 1, 1, 1, 2, 2, 2, 2, 3, 3, 3, 3, 2, 2, 4, 4, 4, 4, 5, 5, 5, 5, 4, 4, 6, 6, 6, 6, 6, 6, 6, 6, 7, 7, 7, 7, 7, 7, 7])) := by kernel_rfl
set_option maxRecDepth 100000 in
theorem cef_1100 (c : Cv) : evR (ctxIn Tryd.prog noFacts (fun _ => false) libCE fnsCE) Tryd.f11 [(cvA c)] [true, true, false, false] = some (AV.w (AW.one (AC.int IntKind.i64 4)), (pickL [(c.S == 60, true), (c.H == 23, true), (dnE c.y c.m c.d != 0, false), (decide (c.H ≥ 0), false), (!false, true), (true, true)] [0, 0, 0, 0, 1, 1, 1, 1, 2, 2, 2, 2, 3, 3, 3, 3, 2, 2, 4, 4, 4, 4, 4, 4, 5, 5, 5, 5, 5, 5, 5, 5, 5, 5, 5, 5, 5, 5, 5])) := by kernel_rfl
set_option maxRecDepth 100000 in
theorem cef_101 (c : Cv) : evR (ctxIn Tryd.prog noFacts (fun _ => false) libCE fnsCE) Tryd.f11 [(cvA c)] [true, false, true] = some (AV.w (AW.one (AC.int IntKind.i64 4)), (pickL [(c.S == 60, true), (c.H == 23, false), (dnE c.y c.m c.d != 0, true), (true, true)] [0, 0, 0, 0, 1, 1, 1, 1, 2, 2, 2, 2, 2, 2, 3, 3, 3, 3, 3, 3, 3, 3, 3, 3, 3, 3, 3, 3, 3, 3, 3, 3, 3, 3, 3])) := by kernel_rfl
set_option maxRecDepth 100000 in
theorem cef_10011 (c : Cv) : evR (ctxIn Tryd.prog noFacts (fun _ => false) libCE fnsCE) Tryd.f11 [(cvA c)] [true, false, false, true, true] = some (AV.w (AW.one (AC.int IntKind.i64 4)), (pickL [(c.S == 60, true), (c.H == 23, false), (dnE c.y c.m c.d != 0, false), (decide (c.H ≥ 0), true), (!decide (c.H ≤ 23), true), (true, true)] [0, 0, 0, 0, 1, 1, 1, 1, 2, 2, 2, 2, 3, 3, 3, 3, 2, 2, 4, 4, 4, 4, 4, 4, 5, 5, 5, 5, 5, 5, 5, 5, 5, 5, 5, 5, 5, 5, 5])) := by kernel_rfl
set_option maxRecDepth 100000 in
theorem cef_1001011 (c : Cv) : evR (ctxIn Tryd.prog noFacts (fun _ => false) libCE fnsCE) Tryd.f11 [(cvA c)] [true, false, false, true, false, true, true] = some (AV.w (AW.one (AC.int IntKind.i64 4)), (pickL [(c.S == 60, true), (c.H == 23, false), (dnE c.y c.m c.d != 0, false), (decide (c.H ≥ 0), true), (!decide (c.H ≤ 23), false), (decide (c.M ≥ 0), true), (!decide (c.M ≤ 59), true), (true, true)] [0, 0, 0, 0, 1, 1, 1, 1, 2, 2, 2, 2, 3, 3, 3, 3, 2, 2, 4, 4, 4, 4, 5, 5, 5, 5, 4, 4, 6, 6, 6, 6, 6, 6, 6, 6, 7, 7, 7, 7, 7, 7, 7])) := by kernel_rfl
set_option maxRecDepth 100000 in
theorem cef_100101011 (c : Cv) : evR (ctxIn Tryd.prog noFacts (fun _ => false) libCE fnsCE) Tryd.f11 [(cvA c)] [true, false, false, true, false, true, false, true, true] = some (AV.w (AW.one (AC.int IntKind.i64 4)), (pickL [(c.S == 60, true), (c.H == 23, false), (dnE c.y c.m c.d != 0, false), (decide (c.H ≥ 0), true), (!decide (c.H ≤ 23), false), (decide (c.M ≥ 0), true), (!decide (c.M ≤ 59), false), (decide (c.S ≥ 0), true), (!decide (c.S ≤ 59), true), (!false, true), (true, true)] [0, 0, 0, 0, 1, 1, 1, 1, 2, 2, 2, 2, 3, 3, 3, 3, 2, 2, 4, 4, 4, 4, 5, 5, 5, 5, 4, 4, 6, 6, 6, 6, 7, 7, 7, 7, 6, 6, 8, 8, 6, 8, 6, 9, 9, 9, 9, 9, 9, 10])) := by kernel_rfl
set_option maxRecDepth 100000 in
theorem cef_10010101011 (c : Cv) : evR (ctxIn Tryd.prog noFacts (fun _ => false) libCE fnsCE) Tryd.f11 [(cvA c)] [true, false, false, true, false, true, false, true, false, true, true] = some (AV.w (AW.one (AC.int IntKind.i64 4)), (pickL [(c.S == 60, true), (c.H == 23, false), (dnE c.y c.m c.d != 0, false), (decide (c.H ≥ 0), true), (!decide (c.H ≤ 23), false), (decide (c.M ≥ 0), true), (!decide (c.M ≤ 59), false), (decide (c.S ≥ 0), true), (!decide (c.S ≤ 59), false), (false, false), (decide (c.ms ≥ 0), true), (!decide (c.ms ≤ 999), true)] [0, 0, 0, 0, 1, 1, 1, 1, 2, 2, 2, 2, 3, 3, 3, 3, 2, 2, 4, 4, 4, 4, 5, 5, 5, 5, 4, 4, 6, 6, 6, 6, 7, 7, 7, 7, 6, 6, 8, 8, 6, 8, 6, 9, 9, 9, 9, 10, 10, 10, 10, 9, 9, 11])) := by kernel_rfl
set_option maxRecDepth 100000 in
theorem cef_10010101010 (c : Cv) : evR (ctxIn Tryd.prog noFacts (fun _ => false) libCE fnsCE) Tryd.f11 [(cvA c)] [true, false, false, true, false, true, false, true, false, true, false] = some (AV.w (AW.one (AC.int IntKind.i64 0)), (pickL [(c.S == 60, true), (c.H == 23, false), (dnE c.y c.m c.d != 0, false), (decide (c.H ≥ 0), true), (!decide (c.H ≤ 23), false), (decide (c.M ≥ 0), true), (!decide (c.M ≤ 59), false), (decide (c.S ≥ 0), true), (!decide (c.S ≤ 59), false), (false, false), (decide (c.ms ≥ 0), true), (!decide (c.ms ≤ 999), false)] [0, 0, 0, 0, 1, 1, 1, 1, 2, 2, 2, 2, 3, 3, 3, 3, 2, 2, 4, 4, 4, 4, 5, 5, 5, 5, 4, 4, 6, 6, 6, 6, 7, 7, 7, 7, 6, 6, 8, 8, 6, 8, 6, 9, 9, 9, 9, 10, 10, 10, 10, 9, 9, 11])) := by kernel_rfl
set_option maxRecDepth 100000 in
theorem cef_1001010100 (c : Cv) : evR (ctxIn Tryd.prog noFacts (fun _ => false) libCE fnsCE) Tryd.f11 [(cvA c)] [true, false, false, true, false, true, false, true, false, false] = some (AV.w (AW.one (AC.int IntKind.i64 4)), (pickL [(c.S == 60, true), (c.H == 23, false), (dnE c.y c.m c.d != 0, false), (decide (c.H ≥ 0), true), (!decide (c.H ≤ 23), false), (decide (c.M ≥ 0), true), (!decide (c.M ≤ 59), false), (decide (c.S ≥ 0), true), (!decide (c.S ≤ 59), false), (false, false), (decide (c.ms ≥ 0), false), (!false, true)] [0, 0, 0, 0, 1, 1, 1, 1, 2, 2, 2, 2, 3, 3, 3, 3, 2, 2, 4, 4, 4, 4, 5, 5, 5, 5, 4, 4, 6, 6, 6, 6, 7, 7, 7, 7, 6, 6, 8, 8, 6, 8, 6, 9, 9, 9, 9, 10, 10, 10, 10, 9, 9, 11])) := by kernel_rfl
set_option maxRecDepth 100000 in
theorem cef_10010100 (c : Cv) : evR (ctxIn Tryd.prog noFacts (fun _ => false) libCE fnsCE) Tryd.f11 [(cvA c)] [true, false, false, true, false, true, false, false] = some (AV.w (AW.one (AC.int IntKind.i64 4)), (pickL [(c.S == 60, true), (c.H == 23, false), (dnE c.y c.m c.d != 0, false), (decide (c.H ≥ 0), true), (!decide (c.H ≤ 23), false), (decide (c.M ≥ 0), true), (!decide (c.M ≤ 59), false), (decide (c.S ≥ 0), false), (!false, true), (true, true)] [0, 0, 0, 0, 1, 1, 1, 1, 2, 2, 2, 2, 3, 3, 3, 3, 2, 2, 4, 4, 4, 4, 5, 5, 5, 5, 4, 4, 6, 6, 6, 6, 7, 7, 7, 7, 6, 6, 8, 8, 6, 8, 6, 8, 8, 8, 8, 8, 8, 9])) := by kernel_rfl
set_option maxRecDepth 100000 in
theorem cef_100100 (c : Cv) : evR (ctxIn Tryd.prog noFacts (fun _ => false) libCE fnsCE) Tryd.f11 [(cvA c)] [true, false, false, true, false, false] = some (AV.w (AW.one (AC.int IntKind.i64 4)), (pickL [(c.S == 60, true), (c.H == 23, false), (dnE c.y c.m c.d != 0, false), (decide (c.H ≥ 0), true), (!decide (c.H ≤ 23), false), (decide (c.M ≥ 0), false), (!false, true), (true, true)] [0, 0, 0, 0, 1, 1, 1, 1, 2, 2, 2, 2, 3, 3, 3, 3, 2, 2, 4, 4, 4, 4, 5, 5, 5, 5, 4, 4, 6, 6, 6, 6, 6, 6, 6, 6, 7, 7, 7, 7, 7, 7, 7])) := by kernel_rfl
set_option maxRecDepth 100000 in
theorem cef_1000 (c : Cv) : evR (ctxIn Tryd.prog noFacts (fun _ => false) libCE fnsCE) Tryd.f11 [(cvA c)] [true, false, false, false] = some (AV.w (AW.one (AC.int IntKind.i64 4)), (pickL [(c.S == 60, true), (c.H == 23, false), (dnE c.y c.m c.d != 0, false), (decide (c.H ≥ 0), false), (!false, true), (true, true)] [0, 0, 0, 0, 1, 1, 1, 1, 2, 2, 2, 2, 3, 3, 3, 3, 2, 2, 4, 4, 4, 4, 4, 4, 5, 5, 5, 5, 5, 5, 5, 5, 5, 5, 5, 5, 5, 5, 5])) := by kernel_rfl
set_option maxRecDepth 100000 in
theorem cef_01 (c : Cv) : evR (ctxIn Tryd.prog noFacts (fun _ => false) libCE fnsCE) Tryd.f11 [(cvA c)] [false, true] = some (AV.w (AW.one (AC.int IntKind.i64 4)), (pickL [(c.S == 60, false), (false, false), (dnE c.y c.m c.d != 0, true), (true, true)] [0, 0, 0, 0, 1, 1, 1, 1, 2, 2, 2, 2, 2, 2, 3, 3, 3, 3, 3, 3, 3, 3, 3, 3, 3, 3, 3, 3, 3, 3, 3, 3, 3, 3, 3])) := by kernel_rfl
set_option maxRecDepth 100000 in
theorem cef_0011 (c : Cv) : evR (ctxIn Tryd.prog noFacts (fun _ => false) libCE fnsCE) Tryd.f11 [(cvA c)] [false, false, true, true] = some (AV.w (AW.one (AC.int IntKind.i64 4)), (pickL [(c.S == 60, false), (false, false), (dnE c.y c.m c.d != 0, false), (decide (c.H ≥ 0), true), (!decide (c.H ≤ 23), true), (true, true)] [0, 0, 0, 0, 1, 1, 1, 1, 2, 2, 2, 2, 3, 3, 3, 3, 2, 2, 4, 4, 4, 4, 4, 4, 5, 5, 5, 5, 5, 5, 5, 5, 5, 5, 5, 5, 5, 5, 5])) := by kernel_rfl
set_option maxRecDepth 100000 in
theorem cef_001011 (c : Cv) : evR (ctxIn Tryd.prog noFacts (fun _ => false) libCE fnsCE) Tryd.f11 [(cvA c)] [false, false, true, false, true, true] = some (AV.w (AW.one (AC.int IntKind.i64 4)), (pickL [(c.S == 60, false), (false, false), (dnE c.y c.m c.d != 0, false), (decide (c.H ≥ 0), true), (!decide (c.H ≤ 23), false), (decide (c.M ≥ 0), true), (!decide (c.M ≤ 59), true), (true, true)] [0, 0, 0, 0, 1, 1, 1, 1, 2, 2, 2, 2, 3, 3, 3, 3, 2, 2, 4, 4, 4, 4, 5, 5, 5, 5, 4, 4, 6, 6, 6, 6, 6, 6, 6, 6, 7, 7, 7, 7, 7, 7, 7])) := by kernel_rfl
set_option maxRecDepth 100000 in
theorem cef_00101011 (c : Cv) : evR (ctxIn Tryd.prog noFacts (fun _ => false) libCE fnsCE) Tryd.f11 [(cvA c)] [false, false, true, false, true, false, true, true] = some (AV.w (AW.one (AC.int IntKind.i64 4)), (pickL [(c.S == 60, false), (false, false), (dnE c.y c.m c.d != 0, false), (decide (c.H ≥ 0), true), (!decide (c.H ≤ 23), false), (decide (c.M ≥ 0), true), (!decide (c.M ≤ 59), false), (decide (c.S ≥ 0), true), (!decide (c.S ≤ 59), true), (!false, true), (true, true)] [0, 0, 0, 0, 1, 1, 1, 1, 2, 2, 2, 2, 3, 3, 3, 3, 2, 2, 4, 4, 4, 4, 5, 5, 5, 5, 4, 4, 6, 6, 6, 6, 7, 7, 7, 7, 6, 6, 8, 8, 6, 8, 6, 9, 9, 9, 9, 9, 9, 10])) := by kernel_rfl
set_option maxRecDepth 100000 in
theorem cef_0010101011 (c : Cv) : evR (ctxIn Tryd.prog noFacts (fun _ => false) libCE fnsCE) Tryd.f11 [(cvA c)] [false, false, true, false, true, false, true, false, true, true] = some (AV.w (AW.one (AC.int IntKind.i64 4)), (pickL [(c.S == 60, false), (false, false), (dnE c.y c.m c.d != 0, false), (decide (c.H ≥ 0), true), (!decide (c.H ≤ 23), false), (decide (c.M ≥ 0), true), (!decide (c.M ≤ 59), false), (decide (c.S ≥ 0), true), (!decide (c.S ≤ 59), false), (decide (c.ms ≥ 0), true), (!decide (c.ms ≤ 999), true)] [0, 0, 0, 0, 1, 1, 1, 1, 2, 2, 2, 2, 3, 3, 3, 3, 2, 2, 4, 4, 4, 4, 5, 5, 5, 5, 4, 4, 6, 6, 6, 6, 7, 7, 7, 7, 6, 6, 8, 8, 6, 8, 6, 1, 1, 1, 1, 9, 9, 9, 9, 1, 1, 10])) := by kernel_rfl
set_option maxRecDepth 100000 in
theorem cef_0010101010 (c : Cv) : evR (ctxIn Tryd.prog noFacts (fun _ => false) libCE fnsCE) Tryd.f11 [(cvA c)] [false, false, true, false, true, false, true, false, true, false] = some (AV.w (AW.one (AC.int IntKind.i64 0)), (pickL [(c.S == 60, false), (false, false), (dnE c.y c.m c.d != 0, false), (decide (c.H ≥ 0), true), (!decide (c.H ≤ 23), false), (decide (c.M ≥ 0), true), (!decide (c.M ≤ 59), false), (decide (c.S ≥ 0), true), (!decide (c.S ≤ 59), false), (decide (c.ms ≥ 0), true), (!decide (c.ms ≤ 999), false)] [0, 0, 0, 0, 1, 1, 1, 1, 2, 2, 2, 2, 3, 3, 3, 3, 2, 2, 4, 4, 4, 4, 5, 5, 5, 5, 4, 4, 6, 6, 6, 6, 7, 7, 7, 7, 6, 6, 8, 8, 6, 8, 6, 1, 1, 1, 1, 9, 9, 9, 9, 1, 1, 10])) := by kernel_rfl
set_option maxRecDepth 100000 in
theorem cef_001010100 (c : Cv) : evR (ctxIn Tryd.prog noFacts (fun _ => false) libCE fnsCE) Tryd.f11 [(cvA c)] [false, false, true, false, true, false, true, false, false] = some (AV.w (AW.one (AC.int IntKind.i64 4)), (pickL [(c.S == 60, false), (false, false), (dnE c.y c.m c.d != 0, false), (decide (c.H ≥ 0), true), (!decide (c.H ≤ 23), false), (decide (c.M ≥ 0), true), (!decide (c.M ≤ 59), false), (decide (c.S ≥ 0), true), (!decide (c.S ≤ 59), false), (decide (c.ms ≥ 0), false), (!false, true)] [0, 0, 0, 0, 1, 1, 1, 1, 2, 2, 2, 2, 3, 3, 3, 3, 2, 2, 4, 4, 4, 4, 5, 5, 5, 5, 4, 4, 6, 6, 6, 6, 7, 7, 7, 7, 6, 6, 8, 8, 6, 8, 6, 1, 1, 1, 1, 9, 9, 9, 9, 1, 1, 10])) := by kernel_rfl
set_option maxRecDepth 100000 in
theorem cef_0010100 (c : Cv) : evR (ctxIn Tryd.prog noFacts (fun _ => false) libCE fnsCE) Tryd.f11 [(cvA c)] [false, false, true, false, true, false, false] = some (AV.w (AW.one (AC.int IntKind.i64 4)), (pickL [(c.S == 60, false), (false, false), (dnE c.y c.m c.d != 0, false), (decide (c.H ≥ 0), true), (!decide (c.H ≤ 23), false), (decide (c.M ≥ 0), true), (!decide (c.M ≤ 59), false), (decide (c.S ≥ 0), false), (!false, true), (true, true)] [0, 0, 0, 0, 1, 1, 1, 1, 2, 2, 2, 2, 3, 3, 3, 3, 2, 2, 4, 4, 4, 4, 5, 5, 5, 5, 4, 4, 6, 6, 6, 6, 7, 7, 7, 7, 6, 6, 8, 8, 6, 8, 6, 8, 8, 8, 8, 8, 8, 9])) := by kernel_rfl
set_option maxRecDepth 100000 in
theorem cef_00100 (c : Cv) : evR (ctxIn Tryd.prog noFacts (fun _ => false) libCE fnsCE) Tryd.f11 [(cvA c)] [false, false, true, false, false] = some (AV.w (AW.one (AC.int IntKind.i64 4)), (pickL [(c.S == 60, false), (false, false), (dnE c.y c.m c.d != 0, false), (decide (c.H ≥ 0), true), (!decide (c.H ≤ 23), false), (decide (c.M ≥ 0), false), (!false, true), (true, true)] [0, 0, 0, 0, 1, 1, 1, 1, 2, 2, 2, 2, 3, 3, 3, 3, 2, 2, 4, 4, 4, 4, 5, 5, 5, 5, 4, 4, 6, 6, 6, 6, 6, 6, 6, 6, 7, 7, 7, 7, 7, 7, 7])) := by kernel_rfl
set_option maxRecDepth 100000 in
theorem cef_000 (c : Cv) : evR (ctxIn Tryd.prog noFacts (fun _ => false) libCE fnsCE) Tryd.f11 [(cvA c)] [false, false, false] = some (AV.w (AW.one (AC.int IntKind.i64 4)), (pickL [(c.S == 60, false), (false, false), (dnE c.y c.m c.d != 0, false), (decide (c.H ≥ 0), false), (!false, true), (true, true)] [0, 0, 0, 0, 1, 1, 1, 1, 2, 2, 2, 2, 3, 3, 3, 3, 2, 2, 4, 4, 4, 4, 4, 4, 5, 5, 5, 5, 5, 5, 5, 5, 5, 5, 5, 5, 5, 5, 5])) := by kernel_rfl
set_option maxHeartbeats 4000000 in
theorem cef_pl (c : Cv) : Pl Tryd.prog 11 [cvV c] (.int .i64 (cvE c)) := fun w => by
  cases k0 : (c.S == 60) with
  | true =>
    cases k1 : (c.H == 23) with
    | true =>
      cases k2 : (dnE c.y c.m c.d != 0) with
      | true =>
        have hv : cvE c = 4 := by
          refine if_neg fun h => ?_
          have g := cv_iff.1 h
          simp only [beq_iff_eq, beq_eq_false_iff_ne, ne_eq, bne_iff_ne, bne_eq_false_iff_eq, decide_eq_true_eq, decide_eq_false_iff_not, Bool.not_eq_true', Bool.not_eq_false'] at *
          omega
        rw [hv]
        refine evR_calls (I := noFacts) (v := .int .i64 4) (ctxIn_ok libCE_ok (eq_none _) fnsCE_ok) (by kernel_rfl) Tryd.func11 rfl lps_nil (cef_111 c) rfl (all2_R (.cons rfl .nil)) rfl w (Nat.zero_le _) (pickL_ok ?_ _)
        repeat' (first | exact cd_nil | refine cd_cons ?_ ?_)
        all_goals first | rfl | with_reducible assumption
      | false =>
        cases k3 : (decide (c.H ≥ 0)) with
        | true =>
          cases k4 : (!decide (c.H ≤ 23)) with
          | true =>
            have hv : cvE c = 4 := by
              refine if_neg fun h => ?_
              have g := cv_iff.1 h
              simp only [beq_iff_eq, beq_eq_false_iff_ne, ne_eq, bne_iff_ne, bne_eq_false_iff_eq, decide_eq_true_eq, decide_eq_false_iff_not, Bool.not_eq_true', Bool.not_eq_false'] at *
              omega
            rw [hv]
            refine evR_calls (I := noFacts) (v := .int .i64 4) (ctxIn_ok libCE_ok (eq_none _) fnsCE_ok) (by kernel_rfl) Tryd.func11 rfl lps_nil (cef_11011 c) rfl (all2_R (.cons rfl .nil)) rfl w (Nat.zero_le _) (pickL_ok ?_ _)
            repeat' (first | exact cd_nil | refine cd_cons ?_ ?_)
            all_goals first | rfl | with_reducible assumption
          | false =>
            cases k5 : (decide (c.M ≥ 0)) with
            | true =>
              cases k6 : (!decide (c.M ≤ 59)) with
              | true =>
                have hv : cvE c = 4 := by
                  refine if_neg fun h => ?_
                  have g := cv_iff.1 h
                  simp only [beq_iff_eq, beq_eq_false_iff_ne, ne_eq, bne_iff_ne, bne_eq_false_iff_eq, decide_eq_true_eq, decide_eq_false_iff_not, Bool.not_eq_true', Bool.not_eq_false'] at *
                  omega
                rw [hv]
                refine evR_calls (I := noFacts) (v := .int .i64 4) (ctxIn_ok libCE_ok (eq_none _) fnsCE_ok) (by kernel_rfl) Tryd.func11 rfl lps_nil (cef_1101011 c) rfl (all2_R (.cons rfl .nil)) rfl w (Nat.zero_le _) (pickL_ok ?_ _)
                repeat' (first | exact cd_nil | refine cd_cons ?_ ?_)
                all_goals first | rfl | with_reducible assumption
              | false =>
                cases k7 : (decide (c.S ≥ 0)) with
                | true =>
                  cases k8 : (!decide (c.S ≤ 59)) with
                  | true =>
                    cases k9 : (!c.M == 59) with
                    | true =>
                      have hv : cvE c = 4 := by
                        refine if_neg fun h => ?_
                        have g := cv_iff.1 h
                        simp only [beq_iff_eq, beq_eq_false_iff_ne, ne_eq, bne_iff_ne, bne_eq_false_iff_eq, decide_eq_true_eq, decide_eq_false_iff_not, Bool.not_eq_true', Bool.not_eq_false'] at *
                        omega
                      rw [hv]
                      refine evR_calls (I := noFacts) (v := .int .i64 4) (ctxIn_ok libCE_ok (eq_none _) fnsCE_ok) (by kernel_rfl) Tryd.func11 rfl lps_nil (cef_1101010111 c) rfl (all2_R (.cons rfl .nil)) rfl w (Nat.zero_le _) (pickL_ok ?_ _)
                      repeat' (first | exact cd_nil | refine cd_cons ?_ ?_)
                      all_goals first | rfl | with_reducible assumption
                    | false =>
                      cases k10 : (decide (c.ms ≥ 0)) with
                      | true =>
                        cases k11 : (!decide (c.ms ≤ 999)) with
                        | true =>
                          have hv : cvE c = 4 := by
                            refine if_neg fun h => ?_
                            have g := cv_iff.1 h
                            simp only [beq_iff_eq, beq_eq_false_iff_ne, ne_eq, bne_iff_ne, bne_eq_false_iff_eq, decide_eq_true_eq, decide_eq_false_iff_not, Bool.not_eq_true', Bool.not_eq_false'] at *
                            omega
                          rw [hv]
                          refine evR_calls (I := noFacts) (v := .int .i64 4) (ctxIn_ok libCE_ok (eq_none _) fnsCE_ok) (by kernel_rfl) Tryd.func11 rfl lps_nil (cef_110101011011 c) rfl (all2_R (.cons rfl .nil)) rfl w (Nat.zero_le _) (pickL_ok ?_ _)
                          repeat' (first | exact cd_nil | refine cd_cons ?_ ?_)
                          all_goals first | rfl | with_reducible assumption
                        | false =>
                          have hv : cvE c = 0 := by
                            refine if_pos (cv_iff.2 ?_)
                            simp only [beq_iff_eq, beq_eq_false_iff_ne, ne_eq, bne_iff_ne, bne_eq_false_iff_eq, decide_eq_true_eq, decide_eq_false_iff_not, Bool.not_eq_true', Bool.not_eq_false'] at *
                            omega
                          rw [hv]
                          refine evR_calls (I := noFacts) (v := .int .i64 0) (ctxIn_ok libCE_ok (eq_none _) fnsCE_ok) (by kernel_rfl) Tryd.func11 rfl lps_nil (cef_110101011010 c) rfl (all2_R (.cons rfl .nil)) rfl w (Nat.zero_le _) (pickL_ok ?_ _)
                          repeat' (first | exact cd_nil | refine cd_cons ?_ ?_)
                          all_goals first | rfl | with_reducible assumption
                      | false =>
                        have hv : cvE c = 4 := by
                          refine if_neg fun h => ?_
                          have g := cv_iff.1 h
                          simp only [beq_iff_eq, beq_eq_false_iff_ne, ne_eq, bne_iff_ne, bne_eq_false_iff_eq, decide_eq_true_eq, decide_eq_false_iff_not, Bool.not_eq_true', Bool.not_eq_false'] at *
                          omega
                        rw [hv]
                        refine evR_calls (I := noFacts) (v := .int .i64 4) (ctxIn_ok libCE_ok (eq_none _) fnsCE_ok) (by kernel_rfl) Tryd.func11 rfl lps_nil (cef_11010101100 c) rfl (all2_R (.cons rfl .nil)) rfl w (Nat.zero_le _) (pickL_ok ?_ _)
                        repeat' (first | exact cd_nil | refine cd_cons ?_ ?_)
                        all_goals first | rfl | with_reducible assumption
                  | false =>
                    cases k12 : (decide (c.ms ≥ 0)) with
                    | true =>
                      cases k13 : (!decide (c.ms ≤ 999)) with
                      | true =>
                        have hv : cvE c = 4 := by
                          refine if_neg fun h => ?_
                          have g := cv_iff.1 h
                          simp only [beq_iff_eq, beq_eq_false_iff_ne, ne_eq, bne_iff_ne, bne_eq_false_iff_eq, decide_eq_true_eq, decide_eq_false_iff_not, Bool.not_eq_true', Bool.not_eq_false'] at *
                          omega
                        rw [hv]
                        refine evR_calls (I := noFacts) (v := .int .i64 4) (ctxIn_ok libCE_ok (eq_none _) fnsCE_ok) (by kernel_rfl) Tryd.func11 rfl lps_nil (cef_11010101011 c) rfl (all2_R (.cons rfl .nil)) rfl w (Nat.zero_le _) (pickL_ok ?_ _)
                        repeat' (first | exact cd_nil | refine cd_cons ?_ ?_)
                        all_goals first | rfl | with_reducible assumption
                      | false =>
                        have hv : cvE c = 0 := by
                          refine if_pos (cv_iff.2 ?_)
                          simp only [beq_iff_eq, beq_eq_false_iff_ne, ne_eq, bne_iff_ne, bne_eq_false_iff_eq, decide_eq_true_eq, decide_eq_false_iff_not, Bool.not_eq_true', Bool.not_eq_false'] at *
                          omega
                        rw [hv]
                        refine evR_calls (I := noFacts) (v := .int .i64 0) (ctxIn_ok libCE_ok (eq_none _) fnsCE_ok) (by kernel_rfl) Tryd.func11 rfl lps_nil (cef_11010101010 c) rfl (all2_R (.cons rfl .nil)) rfl w (Nat.zero_le _) (pickL_ok ?_ _)
                        repeat' (first | exact cd_nil | refine cd_cons ?_ ?_)
                        all_goals first | rfl | with_reducible assumption
                    | false =>
                      have hv : cvE c = 4 := by
                        refine if_neg fun h => ?_
                        have g := cv_iff.1 h
                        simp only [beq_iff_eq, beq_eq_false_iff_ne, ne_eq, bne_iff_ne, bne_eq_false_iff_eq, decide_eq_true_eq, decide_eq_false_iff_not, Bool.not_eq_true', Bool.not_eq_false'] at *
                        omega
                      rw [hv]
                      refine evR_calls (I := noFacts) (v := .int .i64 4) (ctxIn_ok libCE_ok (eq_none _) fnsCE_ok) (by kernel_rfl) Tryd.func11 rfl lps_nil (cef_1101010100 c) rfl (all2_R (.cons rfl .nil)) rfl w (Nat.zero_le _) (pickL_ok ?_ _)
                      repeat' (first | exact cd_nil | refine cd_cons ?_ ?_)
                      all_goals first | rfl | with_reducible assumption
                | false =>
                  cases k14 : (!c.M == 59) with
                  | true =>
                    have hv : cvE c = 4 := by
                      refine if_neg fun h => ?_
                      have g := cv_iff.1 h
                      simp only [beq_iff_eq, beq_eq_false_iff_ne, ne_eq, bne_iff_ne, bne_eq_false_iff_eq, decide_eq_true_eq, decide_eq_false_iff_not, Bool.not_eq_true', Bool.not_eq_false'] at *
                      omega
                    rw [hv]
                    refine evR_calls (I := noFacts) (v := .int .i64 4) (ctxIn_ok libCE_ok (eq_none _) fnsCE_ok) (by kernel_rfl) Tryd.func11 rfl lps_nil (cef_110101001 c) rfl (all2_R (.cons rfl .nil)) rfl w (Nat.zero_le _) (pickL_ok ?_ _)
                    repeat' (first | exact cd_nil | refine cd_cons ?_ ?_)
                    all_goals first | rfl | with_reducible assumption
                  | false =>
                    cases k15 : (decide (c.ms ≥ 0)) with
                    | true =>
                      cases k16 : (!decide (c.ms ≤ 999)) with
                      | true =>
                        have hv : cvE c = 4 := by
                          refine if_neg fun h => ?_
                          have g := cv_iff.1 h
                          simp only [beq_iff_eq, beq_eq_false_iff_ne, ne_eq, bne_iff_ne, bne_eq_false_iff_eq, decide_eq_true_eq, decide_eq_false_iff_not, Bool.not_eq_true', Bool.not_eq_false'] at *
                          omega
                        rw [hv]
                        refine evR_calls (I := noFacts) (v := .int .i64 4) (ctxIn_ok libCE_ok (eq_none _) fnsCE_ok) (by kernel_rfl) Tryd.func11 rfl lps_nil (cef_11010100011 c) rfl (all2_R (.cons rfl .nil)) rfl w (Nat.zero_le _) (pickL_ok ?_ _)
                        repeat' (first | exact cd_nil | refine cd_cons ?_ ?_)
                        all_goals first | rfl | with_reducible assumption
                      | false =>
                        have hv : cvE c = 0 := by
                          refine if_pos (cv_iff.2 ?_)
                          simp only [beq_iff_eq, beq_eq_false_iff_ne, ne_eq, bne_iff_ne, bne_eq_false_iff_eq, decide_eq_true_eq, decide_eq_false_iff_not, Bool.not_eq_true', Bool.not_eq_false'] at *
                          omega
                        rw [hv]
                        refine evR_calls (I := noFacts) (v := .int .i64 0) (ctxIn_ok libCE_ok (eq_none _) fnsCE_ok) (by kernel_rfl) Tryd.func11 rfl lps_nil (cef_11010100010 c) rfl (all2_R (.cons rfl .nil)) rfl w (Nat.zero_le _) (pickL_ok ?_ _)
                        repeat' (first | exact cd_nil | refine cd_cons ?_ ?_)
                        all_goals first | rfl | with_reducible assumption
                    | false =>
                      have hv : cvE c = 4 := by
                        refine if_neg fun h => ?_
                        have g := cv_iff.1 h
                        simp only [beq_iff_eq, beq_eq_false_iff_ne, ne_eq, bne_iff_ne, bne_eq_false_iff_eq, decide_eq_true_eq, decide_eq_false_iff_not, Bool.not_eq_true', Bool.not_eq_false'] at *
                        omega
                      rw [hv]
                      refine evR_calls (I := noFacts) (v := .int .i64 4) (ctxIn_ok libCE_ok (eq_none _) fnsCE_ok) (by kernel_rfl) Tryd.func11 rfl lps_nil (cef_1101010000 c) rfl (all2_R (.cons rfl .nil)) rfl w (Nat.zero_le _) (pickL_ok ?_ _)
                      repeat' (first | exact cd_nil | refine cd_cons ?_ ?_)
                      all_goals first | rfl | with_reducible assumption
            | false =>
              have hv : cvE c = 4 := by
                refine if_neg fun h => ?_
                have g := cv_iff.1 h
                simp only [beq_iff_eq, beq_eq_false_iff_ne, ne_eq, bne_iff_ne, bne_eq_false_iff_eq, decide_eq_true_eq, decide_eq_false_iff_not, Bool.not_eq_true', Bool.not_eq_false'] at *
                omega
              rw [hv]
              refine evR_calls (I := noFacts) (v := .int .i64 4) (ctxIn_ok libCE_ok (eq_none _) fnsCE_ok) (by kernel_rfl) Tryd.func11 rfl lps_nil (cef_110100 c) rfl (all2_R (.cons rfl .nil)) rfl w (Nat.zero_le _) (pickL_ok ?_ _)
              repeat' (first | exact cd_nil | refine cd_cons ?_ ?_)
              all_goals first | rfl | with_reducible assumption
        | false =>
          have hv : cvE c = 4 := by
            refine if_neg fun h => ?_
            have g := cv_iff.1 h
            simp only [beq_iff_eq, beq_eq_false_iff_ne, ne_eq, bne_iff_ne, bne_eq_false_iff_eq, decide_eq_true_eq, decide_eq_false_iff_not, Bool.not_eq_true', Bool.not_eq_false'] at *
            omega
          rw [hv]
          refine evR_calls (I := noFacts) (v := .int .i64 4) (ctxIn_ok libCE_ok (eq_none _) fnsCE_ok) (by kernel_rfl) Tryd.func11 rfl lps_nil (cef_1100 c) rfl (all2_R (.cons rfl .nil)) rfl w (Nat.zero_le _) (pickL_ok ?_ _)
          repeat' (first | exact cd_nil | refine cd_cons ?_ ?_)
          all_goals first | rfl | with_reducible assumption
    | false =>
      cases k17 : (dnE c.y c.m c.d != 0) with
      | true =>
        have hv : cvE c = 4 := by
          refine if_neg fun h => ?_
          have g := cv_iff.1 h
          simp only [beq_iff_eq, beq_eq_false_iff_ne, ne_eq, bne_iff_ne, bne_eq_false_iff_eq, decide_eq_true_eq, decide_eq_false_iff_not, Bool.not_eq_true', Bool.not_eq_false'] at *
          omega
        rw [hv]
        refine evR_calls (I := noFacts) (v := .int .i64 4) (ctxIn_ok libCE_ok (eq_none _) fnsCE_ok) (by kernel_rfl) Tryd.func11 rfl lps_nil (cef_101 c) rfl (all2_R (.cons rfl .nil)) rfl w (Nat.zero_le _) (pickL_ok ?_ _)
        repeat' (first | exact cd_nil | refine cd_cons ?_ ?_)
        all_goals first | rfl | with_reducible assumption
      | false =>
        cases k18 : (decide (c.H ≥ 0)) with
        | true =>
          cases k19 : (!decide (c.H ≤ 23)) with
          | true =>
            have hv : cvE c = 4 := by
              refine if_neg fun h => ?_
              have g := cv_iff.1 h
              simp only [beq_iff_eq, beq_eq_false_iff_ne, ne_eq, bne_iff_ne, bne_eq_false_iff_eq, decide_eq_true_eq, decide_eq_false_iff_not, Bool.not_eq_true', Bool.not_eq_false'] at *
              omega
            rw [hv]
            refine evR_calls (I := noFacts) (v := .int .i64 4) (ctxIn_ok libCE_ok (eq_none _) fnsCE_ok) (by kernel_rfl) Tryd.func11 rfl lps_nil (cef_10011 c) rfl (all2_R (.cons rfl .nil)) rfl w (Nat.zero_le _) (pickL_ok ?_ _)
            repeat' (first | exact cd_nil | refine cd_cons ?_ ?_)
            all_goals first | rfl | with_reducible assumption
          | false =>
            cases k20 : (decide (c.M ≥ 0)) with
            | true =>
              cases k21 : (!decide (c.M ≤ 59)) with
              | true =>
                have hv : cvE c = 4 := by
                  refine if_neg fun h => ?_
                  have g := cv_iff.1 h
                  simp only [beq_iff_eq, beq_eq_false_iff_ne, ne_eq, bne_iff_ne, bne_eq_false_iff_eq, decide_eq_true_eq, decide_eq_false_iff_not, Bool.not_eq_true', Bool.not_eq_false'] at *
                  omega
                rw [hv]
                refine evR_calls (I := noFacts) (v := .int .i64 4) (ctxIn_ok libCE_ok (eq_none _) fnsCE_ok) (by kernel_rfl) Tryd.func11 rfl lps_nil (cef_1001011 c) rfl (all2_R (.cons rfl .nil)) rfl w (Nat.zero_le _) (pickL_ok ?_ _)
                repeat' (first | exact cd_nil | refine cd_cons ?_ ?_)
                all_goals first | rfl | with_reducible assumption
              | false =>
                cases k22 : (decide (c.S ≥ 0)) with
                | true =>
                  cases k23 : (!decide (c.S ≤ 59)) with
                  | true =>
                    have hv : cvE c = 4 := by
                      refine if_neg fun h => ?_
                      have g := cv_iff.1 h
                      simp only [beq_iff_eq, beq_eq_false_iff_ne, ne_eq, bne_iff_ne, bne_eq_false_iff_eq, decide_eq_true_eq, decide_eq_false_iff_not, Bool.not_eq_true', Bool.not_eq_false'] at *
                      omega
                    rw [hv]
                    refine evR_calls (I := noFacts) (v := .int .i64 4) (ctxIn_ok libCE_ok (eq_none _) fnsCE_ok) (by kernel_rfl) Tryd.func11 rfl lps_nil (cef_100101011 c) rfl (all2_R (.cons rfl .nil)) rfl w (Nat.zero_le _) (pickL_ok ?_ _)
                    repeat' (first | exact cd_nil | refine cd_cons ?_ ?_)
                    all_goals first | rfl | with_reducible assumption
                  | false =>
                    cases k24 : (decide (c.ms ≥ 0)) with
                    | true =>
                      cases k25 : (!decide (c.ms ≤ 999)) with
                      | true =>
                        have hv : cvE c = 4 := by
                          refine if_neg fun h => ?_
                          have g := cv_iff.1 h
                          simp only [beq_iff_eq, beq_eq_false_iff_ne, ne_eq, bne_iff_ne, bne_eq_false_iff_eq, decide_eq_true_eq, decide_eq_false_iff_not, Bool.not_eq_true', Bool.not_eq_false'] at *
                          omega
                        rw [hv]
                        refine evR_calls (I := noFacts) (v := .int .i64 4) (ctxIn_ok libCE_ok (eq_none _) fnsCE_ok) (by kernel_rfl) Tryd.func11 rfl lps_nil (cef_10010101011 c) rfl (all2_R (.cons rfl .nil)) rfl w (Nat.zero_le _) (pickL_ok ?_ _)
                        repeat' (first | exact cd_nil | refine cd_cons ?_ ?_)
                        all_goals first | rfl | with_reducible assumption
                      | false =>
                        have hv : cvE c = 0 := by
                          refine if_pos (cv_iff.2 ?_)
                          simp only [beq_iff_eq, beq_eq_false_iff_ne, ne_eq, bne_iff_ne, bne_eq_false_iff_eq, decide_eq_true_eq, decide_eq_false_iff_not, Bool.not_eq_true', Bool.not_eq_false'] at *
                          omega
                        rw [hv]
                        refine evR_calls (I := noFacts) (v := .int .i64 0) (ctxIn_ok libCE_ok (eq_none _) fnsCE_ok) (by kernel_rfl) Tryd.func11 rfl lps_nil (cef_10010101010 c) rfl (all2_R (.cons rfl .nil)) rfl w (Nat.zero_le _) (pickL_ok ?_ _)
                        repeat' (first | exact cd_nil | refine cd_cons ?_ ?_)
                        all_goals first | rfl | with_reducible assumption
                    | false =>
                      have hv : cvE c = 4 := by
                        refine if_neg fun h => ?_
                        have g := cv_iff.1 h
                        simp only [beq_iff_eq, beq_eq_false_iff_ne, ne_eq, bne_iff_ne, bne_eq_false_iff_eq, decide_eq_true_eq, decide_eq_false_iff_not, Bool.not_eq_true', Bool.not_eq_false'] at *
                        omega
                      rw [hv]
                      refine evR_calls (I := noFacts) (v := .int .i64 4) (ctxIn_ok libCE_ok (eq_none _) fnsCE_ok) (by kernel_rfl) Tryd.func11 rfl lps_nil (cef_1001010100 c) rfl (all2_R (.cons rfl .nil)) rfl w (Nat.zero_le _) (pickL_ok ?_ _)
                      repeat' (first | exact cd_nil | refine cd_cons ?_ ?_)
                      all_goals first | rfl | with_reducible assumption
                | false =>
                  have hv : cvE c = 4 := by
                    refine if_neg fun h => ?_
                    have g := cv_iff.1 h
                    simp only [beq_iff_eq, beq_eq_false_iff_ne, ne_eq, bne_iff_ne, bne_eq_false_iff_eq, decide_eq_true_eq, decide_eq_false_iff_not, Bool.not_eq_true', Bool.not_eq_false'] at *
                    omega
                  rw [hv]
                  refine evR_calls (I := noFacts) (v := .int .i64 4) (ctxIn_ok libCE_ok (eq_none _) fnsCE_ok) (by kernel_rfl) Tryd.func11 rfl lps_nil (cef_10010100 c) rfl (all2_R (.cons rfl .nil)) rfl w (Nat.zero_le _) (pickL_ok ?_ _)
                  repeat' (first | exact cd_nil | refine cd_cons ?_ ?_)
                  all_goals first | rfl | with_reducible assumption
            | false =>
              have hv : cvE c = 4 := by
                refine if_neg fun h => ?_
                have g := cv_iff.1 h
                simp only [beq_iff_eq, beq_eq_false_iff_ne, ne_eq, bne_iff_ne, bne_eq_false_iff_eq, decide_eq_true_eq, decide_eq_false_iff_not, Bool.not_eq_true', Bool.not_eq_false'] at *
                omega
              rw [hv]
              refine evR_calls (I := noFacts) (v := .int .i64 4) (ctxIn_ok libCE_ok (eq_none _) fnsCE_ok) (by kernel_rfl) Tryd.func11 rfl lps_nil (cef_100100 c) rfl (all2_R (.cons rfl .nil)) rfl w (Nat.zero_le _) (pickL_ok ?_ _)
              repeat' (first | exact cd_nil | refine cd_cons ?_ ?_)
              all_goals first | rfl | with_reducible assumption
        | false =>
          have hv : cvE c = 4 := by
            refine if_neg fun h => ?_
            have g := cv_iff.1 h
            simp only [beq_iff_eq, beq_eq_false_iff_ne, ne_eq, bne_iff_ne, bne_eq_false_iff_eq, decide_eq_true_eq, decide_eq_false_iff_not, Bool.not_eq_true', Bool.not_eq_false'] at *
            omega
          rw [hv]
          refine evR_calls (I := noFacts) (v := .int .i64 4) (ctxIn_ok libCE_ok (eq_none _) fnsCE_ok) (by kernel_rfl) Tryd.func11 rfl lps_nil (cef_1000 c) rfl (all2_R (.cons rfl .nil)) rfl w (Nat.zero_le _) (pickL_ok ?_ _)
          repeat' (first | exact cd_nil | refine cd_cons ?_ ?_)
          all_goals first | rfl | with_reducible assumption
  | false =>
    cases k26 : (dnE c.y c.m c.d != 0) with
    | true =>
      have hv : cvE c = 4 := by
        refine if_neg fun h => ?_
        have g := cv_iff.1 h
        simp only [beq_iff_eq, beq_eq_false_iff_ne, ne_eq, bne_iff_ne, bne_eq_false_iff_eq, decide_eq_true_eq, decide_eq_false_iff_not, Bool.not_eq_true', Bool.not_eq_false'] at *
        omega
      rw [hv]
      refine evR_calls (I := noFacts) (v := .int .i64 4) (ctxIn_ok libCE_ok (eq_none _) fnsCE_ok) (by kernel_rfl) Tryd.func11 rfl lps_nil (cef_01 c) rfl (all2_R (.cons rfl .nil)) rfl w (Nat.zero_le _) (pickL_ok ?_ _)
      repeat' (first | exact cd_nil | refine cd_cons ?_ ?_)
      all_goals first | rfl | with_reducible assumption
    | false =>
      cases k27 : (decide (c.H ≥ 0)) with
      | true =>
        cases k28 : (!decide (c.H ≤ 23)) with
        | true =>
          have hv : cvE c = 4 := by
            refine if_neg fun h => ?_
            have g := cv_iff.1 h
            simp only [beq_iff_eq, beq_eq_false_iff_ne, ne_eq, bne_iff_ne, bne_eq_false_iff_eq, decide_eq_true_eq, decide_eq_false_iff_not, Bool.not_eq_true', Bool.not_eq_false'] at *
            omega
          rw [hv]
          refine evR_calls (I := noFacts) (v := .int .i64 4) (ctxIn_ok libCE_ok (eq_none _) fnsCE_ok) (by kernel_rfl) Tryd.func11 rfl lps_nil (cef_0011 c) rfl (all2_R (.cons rfl .nil)) rfl w (Nat.zero_le _) (pickL_ok ?_ _)
          repeat' (first | exact cd_nil | refine cd_cons ?_ ?_)
          all_goals first | rfl | with_reducible assumption
        | false =>
          cases k29 : (decide (c.M ≥ 0)) with
          | true =>
            cases k30 : (!decide (c.M ≤ 59)) with
            | true =>
              have hv : cvE c = 4 := by
                refine if_neg fun h => ?_
                have g := cv_iff.1 h
                simp only [beq_iff_eq, beq_eq_false_iff_ne, ne_eq, bne_iff_ne, bne_eq_false_iff_eq, decide_eq_true_eq, decide_eq_false_iff_not, Bool.not_eq_true', Bool.not_eq_false'] at *
                omega
              rw [hv]
              refine evR_calls (I := noFacts) (v := .int .i64 4) (ctxIn_ok libCE_ok (eq_none _) fnsCE_ok) (by kernel_rfl) Tryd.func11 rfl lps_nil (cef_001011 c) rfl (all2_R (.cons rfl .nil)) rfl w (Nat.zero_le _) (pickL_ok ?_ _)
              repeat' (first | exact cd_nil | refine cd_cons ?_ ?_)
              all_goals first | rfl | with_reducible assumption
            | false =>
              cases k31 : (decide (c.S ≥ 0)) with
              | true =>
                cases k32 : (!decide (c.S ≤ 59)) with
                | true =>
                  have hv : cvE c = 4 := by
                    refine if_neg fun h => ?_
                    have g := cv_iff.1 h
                    simp only [beq_iff_eq, beq_eq_false_iff_ne, ne_eq, bne_iff_ne, bne_eq_false_iff_eq, decide_eq_true_eq, decide_eq_false_iff_not, Bool.not_eq_true', Bool.not_eq_false'] at *
                    omega
                  rw [hv]
                  refine evR_calls (I := noFacts) (v := .int .i64 4) (ctxIn_ok libCE_ok (eq_none _) fnsCE_ok) (by kernel_rfl) Tryd.func11 rfl lps_nil (cef_00101011 c) rfl (all2_R (.cons rfl .nil)) rfl w (Nat.zero_le _) (pickL_ok ?_ _)
                  repeat' (first | exact cd_nil | refine cd_cons ?_ ?_)
                  all_goals first | rfl | with_reducible assumption
                | false =>
                  cases k33 : (decide (c.ms ≥ 0)) with
                  | true =>
                    cases k34 : (!decide (c.ms ≤ 999)) with
                    | true =>
                      have hv : cvE c = 4 := by
                        refine if_neg fun h => ?_
                        have g := cv_iff.1 h
                        simp only [beq_iff_eq, beq_eq_false_iff_ne, ne_eq, bne_iff_ne, bne_eq_false_iff_eq, decide_eq_true_eq, decide_eq_false_iff_not, Bool.not_eq_true', Bool.not_eq_false'] at *
                        omega
                      rw [hv]
                      refine evR_calls (I := noFacts) (v := .int .i64 4) (ctxIn_ok libCE_ok (eq_none _) fnsCE_ok) (by kernel_rfl) Tryd.func11 rfl lps_nil (cef_0010101011 c) rfl (all2_R (.cons rfl .nil)) rfl w (Nat.zero_le _) (pickL_ok ?_ _)
                      repeat' (first | exact cd_nil | refine cd_cons ?_ ?_)
                      all_goals first | rfl | with_reducible assumption
                    | false =>
                      have hv : cvE c = 0 := by
                        refine if_pos (cv_iff.2 ?_)
                        simp only [beq_iff_eq, beq_eq_false_iff_ne, ne_eq, bne_iff_ne, bne_eq_false_iff_eq, decide_eq_true_eq, decide_eq_false_iff_not, Bool.not_eq_true', Bool.not_eq_false'] at *
                        omega
                      rw [hv]
                      refine evR_calls (I := noFacts) (v := .int .i64 0) (ctxIn_ok libCE_ok (eq_none _) fnsCE_ok) (by kernel_rfl) Tryd.func11 rfl lps_nil (cef_0010101010 c) rfl (all2_R (.cons rfl .nil)) rfl w (Nat.zero_le _) (pickL_ok ?_ _)
                      repeat' (first | exact cd_nil | refine cd_cons ?_ ?_)
                      all_goals first | rfl | with_reducible assumption
                  | false =>
                    have hv : cvE c = 4 := by
                      refine if_neg fun h => ?_
                      have g := cv_iff.1 h
                      simp only [beq_iff_eq, beq_eq_false_iff_ne, ne_eq, bne_iff_ne, bne_eq_false_iff_eq, decide_eq_true_eq, decide_eq_false_iff_not, Bool.not_eq_true', Bool.not_eq_false'] at *
                      omega
                    rw [hv]
                    refine evR_calls (I := noFacts) (v := .int .i64 4) (ctxIn_ok libCE_ok (eq_none _) fnsCE_ok) (by kernel_rfl) Tryd.func11 rfl lps_nil (cef_001010100 c) rfl (all2_R (.cons rfl .nil)) rfl w (Nat.zero_le _) (pickL_ok ?_ _)
                    repeat' (first | exact cd_nil | refine cd_cons ?_ ?_)
                    all_goals first | rfl | with_reducible assumption
              | false =>
                have hv : cvE c = 4 := by
                  refine if_neg fun h => ?_
                  have g := cv_iff.1 h
                  simp only [beq_iff_eq, beq_eq_false_iff_ne, ne_eq, bne_iff_ne, bne_eq_false_iff_eq, decide_eq_true_eq, decide_eq_false_iff_not, Bool.not_eq_true', Bool.not_eq_false'] at *
                  omega
                rw [hv]
                refine evR_calls (I := noFacts) (v := .int .i64 4) (ctxIn_ok libCE_ok (eq_none _) fnsCE_ok) (by kernel_rfl) Tryd.func11 rfl lps_nil (cef_0010100 c) rfl (all2_R (.cons rfl .nil)) rfl w (Nat.zero_le _) (pickL_ok ?_ _)
                repeat' (first | exact cd_nil | refine cd_cons ?_ ?_)
                all_goals first | rfl | with_reducible assumption
          | false =>
            have hv : cvE c = 4 := by
              refine if_neg fun h => ?_
              have g := cv_iff.1 h
              simp only [beq_iff_eq, beq_eq_false_iff_ne, ne_eq, bne_iff_ne, bne_eq_false_iff_eq, decide_eq_true_eq, decide_eq_false_iff_not, Bool.not_eq_true', Bool.not_eq_false'] at *
              omega
            rw [hv]
            refine evR_calls (I := noFacts) (v := .int .i64 4) (ctxIn_ok libCE_ok (eq_none _) fnsCE_ok) (by kernel_rfl) Tryd.func11 rfl lps_nil (cef_00100 c) rfl (all2_R (.cons rfl .nil)) rfl w (Nat.zero_le _) (pickL_ok ?_ _)
            repeat' (first | exact cd_nil | refine cd_cons ?_ ?_)
            all_goals first | rfl | with_reducible assumption
      | false =>
        have hv : cvE c = 4 := by
          refine if_neg fun h => ?_
          have g := cv_iff.1 h
          simp only [beq_iff_eq, beq_eq_false_iff_ne, ne_eq, bne_iff_ne, bne_eq_false_iff_eq, decide_eq_true_eq, decide_eq_false_iff_not, Bool.not_eq_true', Bool.not_eq_false'] at *
          omega
        rw [hv]
        refine evR_calls (I := noFacts) (v := .int .i64 4) (ctxIn_ok libCE_ok (eq_none _) fnsCE_ok) (by kernel_rfl) Tryd.func11 rfl lps_nil (cef_000 c) rfl (all2_R (.cons rfl .nil)) rfl w (Nat.zero_le _) (pickL_ok ?_ _)
        repeat' (first | exact cd_nil | refine cd_cons ?_ ?_)
        all_goals first | rfl | with_reducible assumption
noncomputable abbrev libUO : List (Nat × FnSp Lp) := [(11, civS), (23, dayNS)]

theorem uo_in {c : Cv} {l : List (Int × Int)} (h : cvE c = 0) (hl : okT l) : dayB (dnV c.y c.m c.d) = true ∧ IntKind.i64.wrap (dnV c.y c.m c.d + 1) = cvD c + 1 ∧ dayB (cvD c + 1) = true ∧ IntKind.i64.wrap (IntKind.i64.wrap (86400000 * dnV c.y c.m c.d + 1000 * sumL (dnV c.y c.m c.d) l + IntKind.i64.wrap (IntKind.i64.wrap (IntKind.i64.wrap (IntKind.i64.wrap (IntKind.i64.wrap (c.H * 60) + c.M) * 60) + c.S) * 1000)) + c.ms) = cvT c l := by
  obtain ⟨h0, h1, h2, h3, h4, h5, h6, h7, h8, h9, h10⟩ := cv_in h
  have u := sumL_in (day := cvD c) hl.2
  have g := hl.1
  have hD : dnV c.y c.m c.d = cvD c := rfl
  have es : IntKind.i64.wrap (IntKind.i64.wrap (IntKind.i64.wrap (IntKind.i64.wrap (c.H * 60) + c.M) * 60) + c.S) = cvS c := by
    unfold cvS
    rw [w64 (x := c.H * 60) (by omega) (by omega), w64 (x := c.H * 60 + c.M) (by omega) (by omega), w64 (x := (c.H * 60 + c.M) * 60) (by omega) (by omega), w64 (by omega) (by omega)]
  have hs : 0 ≤ cvS c ∧ cvS c ≤ 90000 := by unfold cvS; omega
  rw [hD, es]
  refine ⟨?_, w64 (by omega) (by omega), ?_, ?_⟩
  · unfold dayB; rw [decide_eq_true (show -10000000 ≤ cvD c by omega), decide_eq_true (show cvD c ≤ 10000000 by omega)]; rfl
  · unfold dayB; rw [decide_eq_true (show -10000000 ≤ cvD c + 1 by omega), decide_eq_true (show cvD c + 1 ≤ 10000000 by omega)]; rfl
  · rw [w64 (x := cvS c * 1000) (by omega) (by omega), w64 (x := 86400000 * cvD c + 1000 * sumL (cvD c) l + cvS c * 1000) (by omega) (by omega), w64 (by omega) (by omega)]
    unfold cvT; omega
noncomputable abbrev libLU : List (Nat × FnSp Lp) := [(8, sp0 (.w (.one (.yes true)))), (18, bothSp mkLp gToU), (30, bothSp mkLp gCheckL), (9, civS), (11, civS)]

/-- A law whose last argument is a table: its facts. -/
theorem lp_fact {l : List (Int × Int)} {u : Value} {W : World} (hu : prHv (fun _ _ => False) W u l) : Mem lpI ⟨W, (Env.facts (fun (f : Lp) v => f = .row l ∧ v = u) : Env Lp).ran, fun _ _ => False⟩ (Env.facts (fun (f : Lp) v => f = .row l ∧ v = u)) [] W := by
  refine ⟨fun b blk h => by simp [Ev.look] at h, fun b blk n sz h => by simp [Ev.look] at h, fun _ _ _ _ => rfl, fun b b' k h => (own_facts h).elim, fun b k h => (own_facts h).elim, fun k j f arr h => by (cases h), ⟨rfl, rfl, rfl, Nat.le_refl _, fun _ _ _ => rfl⟩, fun b k h => (own_facts h).elim, fun b k h => (own_facts h).elim, ⟨Nat.zero_le _, trivial⟩,
    fun q v hq => ?_, fun _ _ _ _ _ h => by cases h⟩
  obtain ⟨rfl, rfl⟩ := hq
  refine lpI.hv_mono (.row l) (fun _ _ => False) _ W W _ hu (fun k o _ hd => ?_) (fun _ _ => .inl rfl)
  rcases hd with hd | ⟨_, hd⟩ | ⟨_, _, _, _, _, hd, _⟩
  · exact hd.1
  · cases hd
  · simp [Ev.look] at hd
theorem law_lp {c : Ctx Lp} (hC : CtxOk Tryd.prog lpI c) {f : FuncId} {fn : Func} (hf : Tryd.prog.funcs[f]? = some fn) (hb : fn.body.isSome = true) (hL : LpsOk Tryd.prog lpI c.lps fn.ntmps (bodyOf fn))
    {xs : List (AV Lp)} {us : List Value} {l : List (Int × Int)} {u : Value} {W : World} (hu : prHv (fun _ _ => False) W u l) {path : List Bool} {x : AV Lp} {cd : List (Bool × Bool)} {v : Value} (h : evR c fn (xs ++ [.w (.one (.fv (.row l)))]) path = some (x, cd))
    (hn : Nat.ble (xs ++ [.w (.one (.fv (.row l)))] : List (AV Lp)).length fn.ntmps = true) (ha : All2 (fun (x : AV Lp) u => x.val = some u) xs us) (hx : x.val = some v) (hc : ∀ p ∈ cd, p.1 = p.2) :
    Calls Tryd.prog f (us ++ [u]).toArray W fun e w' => e = .returned v ∧ Below W.heap.size W w' := by
  have hb' : fn.body = some (bodyOf fn) := by
    unfold bodyOf
    cases hfb : fn.body with
    | none => rw [hfb] at hb; cases hb
    | some c => rfl
  have hA : All2 (AV.R (Env.facts (fun (f : Lp) v => f = .row l ∧ v = u) : Env Lp)) (xs ++ [.w (.one (.fv (.row l)))]) (us ++ [u]) :=
    all2_snoc_mk (R := AV.R (Env.facts (fun (f : Lp) v => f = .row l ∧ v = u) : Env Lp)) (x := .w (.one (.fv (.row l)))) (u := u) (⟨rfl, rfl⟩ : Lp.row l = .row l ∧ u = u) (ha.mono fun _ _ h => AV.R_val h)
  unfold evR at h
  split at h
  · rename_i r hr
    split at h
    · cases h
      refine (evF_calls hC (by kernel_rfl) hf hb' hL hr hc (Nat.le_of_ble_eq_true hn) hA (lp_fact hu) (fun _ _ => ⟨rfl, fun _ => rfl, fun _ => rfl⟩)).mono ?_
      rintro e w' ⟨E', u1, _, rfl, q2, q3⟩
      have := AV.val_R hx q2
      subst this
      exact ⟨rfl, q3.kept.os, q3.kept.tape, q3.kept.output, q3.kept.size, fun i hi => q3.kept.block i hi fun ⟨b, hb⟩ => own_facts hb⟩
    · cases h
  · cases h
end
end Go.Proofs.YtokkaeaciigapaaDoor.RL

