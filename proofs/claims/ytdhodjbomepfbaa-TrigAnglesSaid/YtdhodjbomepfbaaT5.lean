/-
  The walks of spylaw1.TrigRules and spylaw1.TrigBounds: each returns true.
  Conditions: the numbers are int64.
-/
import Derived.Test.YtdhodjbomepfbaaT2
import Derived.Test.YtdhodjbomepfbaaT3
import Derived.Test.YtdhodjbomepfbaaT4
set_option linter.unusedVariables false
set_option linter.unusedSimpArgs false
namespace Go.Proofs.Ytdhodjbomepfbaa
open Go.RowKit Go.Shelf Ev Zd Wd Tg

abbrev libX0 : List (Nat × FnSp Empty) := [(67, sp1 (dInt .i64) (fun a => aInt .i64 (sinV a)) (fun a => [(i64B a, true)])), (69, sp1 (dInt .i64) (fun a => aInt .i64 (cosV a)) (fun _ => [])), (77, sp2 (dInt .i64) (dInt .i64) (fun y x => num2 (atanV y x) (atanE y x)) (fun _ _ => []))]
theorem libX0_ok : LibOk Try.prog noFacts (lib1 libX0) := (lib1_cons (sp1_ok fun a hc => ⟨_, rfl, sinf_pl a (cd1 hc)⟩) Try.call67 (lib1_cons (sp1_ok fun a _ => ⟨_, rfl, cosf_pl a⟩) Try.call69 (lib1_cons (sp2_ok fun y x _ => ⟨_, rfl, atan_pl y x⟩) Try.call77 (lib1_nil _ _))))
abbrev eqsB : TypeId → Bool := fun t => Nat.beq t 24
set_option maxRecDepth 100000 in
theorem trigsf_111  : evR (ctxOf Try.prog noFacts (fun _ => false) libX0) Try.f66 [] [true, true, true] = some (AV.w (AW.one (AC.bool (atanV (-5) 5 == 3758096384))), (pickL [(i64B 536870912, true), (sinV 536870912 == 759250125, true), (cosV 2147483648 == -1073741824, true), (atanE (-5) 5 == 0, true)] [0, 1, 1, 1, 2, 2, 2, 3, 3, 3])) := by kernel_rfl
theorem trigs_pl : Pl Try.prog 66 [] (.bool true) := fun w => by
  have e1 : (sinV 536870912 == 759250125) = true := by decide +kernel
  have e2 : (cosV 2147483648 == -1073741824) = true := by decide +kernel
  have e3 : (atanE (-5) 5 == 0) = true := by decide +kernel
  have V : (atanV (-5) 5 == 3758096384) = true := by decide +kernel
  refine evR_calls (I := noFacts) (v := .bool true) (ctxOf_ok libX0_ok (eq_none _)) (by kernel_rfl) Try.func66 rfl lps_nil trigsf_111 rfl (all2_R .nil) (congrArg (fun b => some (Value.bool b)) V) w (Nat.zero_le _) (pickL_ok ?_ _)
  repeat' (first | exact cd_nil | refine cd_cons ?_ ?_)
  all_goals first | with_reducible assumption | rfl
abbrev libX1 : List (Nat × FnSp Nm) := [(66, sp0 (.w (.one (.yes true)))), (67, sp1 (dInt .i64) (fun a => aInt .i64 (sinV a)) (fun a => [(i64B a, true)])), (69, sp1 (dInt .i64) (fun a => aInt .i64 (cosV a)) (fun _ => [])), (68, sp1 (dInt .i64) (fun a => aInt .i64 (sinV a)) (fun a => [(i64B a, true)])), (70, sp1 (dInt .i64) (fun a => aInt .i64 (cosV a)) (fun a => [(i64B a, true)]))]
theorem libX1_ok : LibOk Try.prog numI (lib1 libX1) := (lib1_cons (sp0_ok rfl trigs_pl) Try.call66 (lib1_cons (sp1_ok fun a hc => ⟨_, rfl, sinf_pl a (cd1 hc)⟩) Try.call67 (lib1_cons (sp1_ok fun a _ => ⟨_, rfl, cosf_pl a⟩) Try.call69 (lib1_cons (sp1_ok fun a hc => ⟨_, rfl, sine_pl a (cd1 hc)⟩) Try.call68 (lib1_cons (sp1_ok fun a hc => ⟨_, rfl, cosine_pl a (cd1 hc)⟩) Try.call70 (lib1_nil _ _))))))
set_option maxRecDepth 100000 in
theorem trules_1 (a : Int) : evR (ctxOf Try.prog numI (fun _ => false) libX1) Try.f10 [(.w (.one (.int .i64 a)))] [true] = some (AV.w (AW.one (AC.bool (cosV a == cosV a))), (pickL [(true, true), (i64B a, true), (sinV a == sinV a, true)] [0, 0, 1, 0, 0, 1, 0, 0, 2, 2, 2, 2, 1, 2, 2])) := by kernel_rfl
theorem trigRules_law (a : Int) (a1 : -9223372036854775808 ≤ a) (a2 : a ≤ 9223372036854775807) (w : World) : Calls Try.prog 10 #[.int .i64 a] w fun e w' => e = .returned (.bool true) ∧ Below w.heap.size w w' := by
  have i_a : i64B a = true := i64B_iff.2 ⟨a1, a2⟩
  refine evR_calls (I := numI) (v := .bool true) (ctxOf_ok libX1_ok (eq_none _)) (by kernel_rfl) Try.func10 rfl lps_nil (trules_1 a) rfl (all2_R (.cons rfl .nil)) (congrArg (fun b => some (Value.bool b)) (beq_self_eq_true (cosV a))) w (Nat.zero_le _) (pickL_ok ?_ _)
  repeat' (first | exact cd_nil | refine cd_cons ?_ ?_)
  all_goals first | with_reducible assumption | rfl | exact beq_self_eq_true _
abbrev libX2 : List (Nat × FnSp Nm) := [(66, sp0 (.w (.one (.yes true)))), (67, sp1 (dInt .i64) (fun a => aInt .i64 (sinV a)) (fun a => [(i64B a, true)])), (69, sp1 (dInt .i64) (fun a => aInt .i64 (cosV a)) (fun _ => [])), (68, sp1 (dInt .i64) (fun a => aInt .i64 (sinV a)) (fun a => [(i64B a, true)])), (70, sp1 (dInt .i64) (fun a => aInt .i64 (cosV a)) (fun a => [(i64B a, true)])), (74, sp1 dBd (fun a => bA (waveV sinV 1073741824 a)) (fun _ => [])), (76, sp1 dBd (fun a => bA (waveV cosV 0 a)) (fun _ => [])), (111, sp1 dBd (fun a => aInt .i64 (chkB a)) (fun _ => [])), (72, factSp gTwo), (18, nfn nI), (32, nfn nLess), (31, nfn nPlus), (59, nfn nSplit), (16, nfn nCmp)]
theorem libX2_ok : LibOk Try.prog numI (lib1 libX2) := (lib1_cons (sp0_ok rfl trigs_pl) Try.call66 (lib1_cons (sp1_ok fun a hc => ⟨_, rfl, sinf_pl a (cd1 hc)⟩) Try.call67 (lib1_cons (sp1_ok fun a _ => ⟨_, rfl, cosf_pl a⟩) Try.call69 (lib1_cons (sp1_ok fun a hc => ⟨_, rfl, sine_pl a (cd1 hc)⟩) Try.call68 (lib1_cons (sp1_ok fun a hc => ⟨_, rfl, cosine_pl a (cd1 hc)⟩) Try.call70 (lib1_cons (sp1_ok fun a _ => ⟨_, rfl, sinb_pl a⟩) Try.call74 (lib1_cons (sp1_ok fun a _ => ⟨_, rfl, cosb_pl a⟩) Try.call76 (lib1_cons (sp1_ok fun a _ => ⟨_, rfl, berr_pl a⟩) Try.call111 (lib1_cons (gTwo_ok) Try.call72 (lib1_cons (nI_ok) Try.call18 (lib1_cons (nLess_ok) Try.call32 (lib1_cons (nPlus_ok) Try.call31 (lib1_cons (nSplit_ok) Try.call59 (lib1_cons (nCmp_ok) Try.call16 (lib1_nil _ _)))))))))))))))
theorem eqsB_ok : EqOk Try.prog (tabOf Try.prog) eqsB := eq_of fun t ht => by
  have := Nat.eq_of_beq_eq_true ht
  subst this
  exact ⟨by kernel_rfl, by kernel_rfl, by kernel_rfl⟩
theorem bnd_R {F : Type} {x y : Int} {b : Bool} {E : Env F} {u : Value} (h : (AV.w (.agg [.int .i64 x, .int .i64 y, .yes b]) : AV F).R E u) : (bA ⟨x, y, b⟩ : AV F).R E u := by
  obtain ⟨vs, rfl, h⟩ := h
  cases h with
  | cons r h =>
    cases h with
    | cons s h =>
      cases h with
      | cons q h =>
        cases h
        exact ⟨_, rfl, .cons r (.cons s (.cons q .nil))⟩
theorem chk_kn {a : Bd} (h : a.u = false) : knB a = (chkB a == 0) := by
  obtain ⟨x, y, u⟩ := a
  cases (h : u = false)
  unfold knB chkB
  have e : decide (x > y) = !decide (x ≤ y) := by (by_cases h : x ≤ y <;> simp [h] <;> omega)
  simp only [e]
  cases inB x <;> cases inB y <;> cases decide (x ≤ y) <;> rfl
theorem cmp_adm (a : Bd) (c : Int) : decide (cmpI (a.lo + (c - a.lo) % twoV 32) a.hi ≤ 0) = admV a c := by
  rw [two_32]
  unfold admV cmpI
  by_cases h1 : a.lo + (c - a.lo) % 4294967296 < a.hi
  · rw [if_pos h1, decide_eq_true (show a.lo + (c - a.lo) % 4294967296 ≤ a.hi by omega)]; rfl
  · rw [if_neg h1]
    by_cases h2 : a.hi < a.lo + (c - a.lo) % 4294967296
    · rw [if_pos h2, decide_eq_false (show ¬ a.lo + (c - a.lo) % 4294967296 ≤ a.hi by omega)]; rfl
    · rw [if_neg h2, decide_eq_true (show a.lo + (c - a.lo) % 4294967296 ≤ a.hi by omega)]; rfl
theorem w_hi' (x y : Int) (hx : -1073741824 ≤ x ∧ x ≤ 1073741824) (hy : -1073741824 ≤ y ∧ y ≤ 1073741824) : minI (IntKind.i64.wrap (maxI x y + 1)) 1073741824 = minI 1073741824 (maxI x y + 1) := by
  have := maxI_eq x y
  rw [i64w (by omega) (by omega)]
  unfold minI
  split <;> split <;> omega
theorem w_lo' (x y : Int) (hx : -1073741824 ≤ x ∧ x ≤ 1073741824) (hy : -1073741824 ≤ y ∧ y ≤ 1073741824) : maxI (IntKind.i64.wrap (minI x y - 1)) (-1073741824) = maxI (-1073741824) (minI x y - 1) := by
  have := minI_eq x y
  rw [i64w (by omega) (by omega)]
  unfold maxI
  split <;> split <;> omega
theorem fnsX_ok : FnsOk Try.prog [(112, Try.f112)] := fns_cons Try.func112 rfl Try.call112 (fns_nil _)
set_option maxRecDepth 100000 in
theorem wavs_1 (a : Bd) : evR (ctxIn Try.prog numI eqsB libX2 [(112, Try.f112)]) Try.f75 [(bA a), (.w (.one (.fnc 68 []))), (.w (.one (.int .i64 1073741824)))] [true] = some (AV.w (AW.agg [AC.int IntKind.i64 0, AC.int IntKind.i64 0, AC.yes true]), (pickL [(chkB a != 0, true), (true, true)] [0, 0, 0, 1])) := by kernel_rfl
set_option maxRecDepth 100000 in
theorem wavs_01 (a : Bd) : evR (ctxIn Try.prog numI eqsB libX2 [(112, Try.f112)]) Try.f75 [(bA a), (.w (.one (.fnc 68 []))), (.w (.one (.int .i64 1073741824)))] [false, true] = some (AV.w (AW.agg [AC.int IntKind.i64 0, AC.int IntKind.i64 0, AC.yes true]), (pickL [(chkB a != 0, false), (a.u, true)] [0, 0, 0, 1])) := by kernel_rfl
set_option maxRecDepth 100000 in
theorem wavs_0011 (a : Bd) : evR (ctxIn Try.prog numI eqsB libX2 [(112, Try.f112)]) Try.f75 [(bA a), (.w (.one (.fnc 68 []))), (.w (.one (.int .i64 1073741824)))] [false, false, true, true] = some (AV.w (AW.agg [AC.int IntKind.i64 (-1073741824), AC.int IntKind.i64 1073741824, AC.yes false]), (pickL [(chkB a != 0, false), (a.u, false), (i64B a.lo, true), (i64B a.hi, true), (i64B 1073741824, true), (decide (1073741824 < 0) == decide (1073741824 < 0), true), (decide (a.lo < 0) == decide (a.lo < 0), true), (szB 1073741824, true), (szB a.lo, true), (twoB 32, true), (decide (1073741824 - a.lo < 0) == decide (1073741824 - a.lo < 0), true), (decide (twoV 32 < 0) == decide (twoV 32 < 0), true), (szB (1073741824 - a.lo), true), (szB (twoV 32), true), (decide (twoV 32 = 0), false), (decide ((1073741824 - a.lo) % twoV 32 < 0) == decide ((1073741824 - a.lo) % twoV 32 < 0), true), (szB ((1073741824 - a.lo) % twoV 32), true), (decide (a.lo + (1073741824 - a.lo) % twoV 32 < 0) == decide (a.lo + (1073741824 - a.lo) % twoV 32 < 0), true), (decide (a.hi < 0) == decide (a.hi < 0), true), (szB (a.lo + (1073741824 - a.lo) % twoV 32), true), (szB a.hi, true), (decide (Wd.cmpI (a.lo + (1073741824 - a.lo) % twoV 32) a.hi ≤ 0), true), (i64B (IntKind.i64.wrap (1073741824 + 2147483648)), true), (decide (IntKind.i64.wrap (1073741824 + 2147483648) < 0) == decide (IntKind.i64.wrap (1073741824 + 2147483648) < 0), true), (szB (IntKind.i64.wrap (1073741824 + 2147483648)), true), (decide (IntKind.i64.wrap (1073741824 + 2147483648) - a.lo < 0) == decide (IntKind.i64.wrap (1073741824 + 2147483648) - a.lo < 0), true), (szB (IntKind.i64.wrap (1073741824 + 2147483648) - a.lo), true), (decide ((IntKind.i64.wrap (1073741824 + 2147483648) - a.lo) % twoV 32 < 0) == decide ((IntKind.i64.wrap (1073741824 + 2147483648) - a.lo) % twoV 32 < 0), true), (szB ((IntKind.i64.wrap (1073741824 + 2147483648) - a.lo) % twoV 32), true), (decide (a.lo + (IntKind.i64.wrap (1073741824 + 2147483648) - a.lo) % twoV 32 < 0) == decide (a.lo + (IntKind.i64.wrap (1073741824 + 2147483648) - a.lo) % twoV 32 < 0), true), (szB (a.lo + (IntKind.i64.wrap (1073741824 + 2147483648) - a.lo) % twoV 32), true), (decide (Wd.cmpI (a.lo + (IntKind.i64.wrap (1073741824 + 2147483648) - a.lo) % twoV 32) a.hi ≤ 0), true)] [0, 0, 0, 1, 2, 3, 4, 2, 5, 6, 7, 8, 9, 10, 11, 12, 13, 14, 2, 6, 15, 8, 16, 3, 17, 18, 19, 20, 21, 22, 2, 23, 6, 24, 8, 9, 25, 11, 26, 13, 14, 2, 6, 27, 8, 28, 3, 29, 18, 30, 20, 31])) := by kernel_rfl
set_option maxRecDepth 100000 in
theorem wavs_0010 (a : Bd) : evR (ctxIn Try.prog numI eqsB libX2 [(112, Try.f112)]) Try.f75 [(bA a), (.w (.one (.fnc 68 []))), (.w (.one (.int .i64 1073741824)))] [false, false, true, false] = some (AV.w (AW.agg [AC.int IntKind.i64 (bif true then if -1073741824 > IntKind.i64.wrap ((bif false then if sinV a.hi > sinV a.lo then sinV a.hi else sinV a.lo else if sinV a.hi < sinV a.lo then sinV a.hi else sinV a.lo) - 1) then -1073741824 else IntKind.i64.wrap ((bif false then if sinV a.hi > sinV a.lo then sinV a.hi else sinV a.lo else if sinV a.hi < sinV a.lo then sinV a.hi else sinV a.lo) - 1) else if -1073741824 < IntKind.i64.wrap ((bif false then if sinV a.hi > sinV a.lo then sinV a.hi else sinV a.lo else if sinV a.hi < sinV a.lo then sinV a.hi else sinV a.lo) - 1) then -1073741824 else IntKind.i64.wrap ((bif false then if sinV a.hi > sinV a.lo then sinV a.hi else sinV a.lo else if sinV a.hi < sinV a.lo then sinV a.hi else sinV a.lo) - 1)), AC.int IntKind.i64 1073741824, AC.yes false]), (pickL [(chkB a != 0, false), (a.u, false), (i64B a.lo, true), (i64B a.hi, true), (i64B 1073741824, true), (decide (1073741824 < 0) == decide (1073741824 < 0), true), (decide (a.lo < 0) == decide (a.lo < 0), true), (szB 1073741824, true), (szB a.lo, true), (twoB 32, true), (decide (1073741824 - a.lo < 0) == decide (1073741824 - a.lo < 0), true), (decide (twoV 32 < 0) == decide (twoV 32 < 0), true), (szB (1073741824 - a.lo), true), (szB (twoV 32), true), (decide (twoV 32 = 0), false), (decide ((1073741824 - a.lo) % twoV 32 < 0) == decide ((1073741824 - a.lo) % twoV 32 < 0), true), (szB ((1073741824 - a.lo) % twoV 32), true), (decide (a.lo + (1073741824 - a.lo) % twoV 32 < 0) == decide (a.lo + (1073741824 - a.lo) % twoV 32 < 0), true), (decide (a.hi < 0) == decide (a.hi < 0), true), (szB (a.lo + (1073741824 - a.lo) % twoV 32), true), (szB a.hi, true), (decide (Wd.cmpI (a.lo + (1073741824 - a.lo) % twoV 32) a.hi ≤ 0), true), (i64B (IntKind.i64.wrap (1073741824 + 2147483648)), true), (decide (IntKind.i64.wrap (1073741824 + 2147483648) < 0) == decide (IntKind.i64.wrap (1073741824 + 2147483648) < 0), true), (szB (IntKind.i64.wrap (1073741824 + 2147483648)), true), (decide (IntKind.i64.wrap (1073741824 + 2147483648) - a.lo < 0) == decide (IntKind.i64.wrap (1073741824 + 2147483648) - a.lo < 0), true), (szB (IntKind.i64.wrap (1073741824 + 2147483648) - a.lo), true), (decide ((IntKind.i64.wrap (1073741824 + 2147483648) - a.lo) % twoV 32 < 0) == decide ((IntKind.i64.wrap (1073741824 + 2147483648) - a.lo) % twoV 32 < 0), true), (szB ((IntKind.i64.wrap (1073741824 + 2147483648) - a.lo) % twoV 32), true), (decide (a.lo + (IntKind.i64.wrap (1073741824 + 2147483648) - a.lo) % twoV 32 < 0) == decide (a.lo + (IntKind.i64.wrap (1073741824 + 2147483648) - a.lo) % twoV 32 < 0), true), (szB (a.lo + (IntKind.i64.wrap (1073741824 + 2147483648) - a.lo) % twoV 32), true), (decide (Wd.cmpI (a.lo + (IntKind.i64.wrap (1073741824 + 2147483648) - a.lo) % twoV 32) a.hi ≤ 0), false)] [0, 0, 0, 1, 2, 3, 4, 2, 5, 6, 7, 8, 9, 10, 11, 12, 13, 14, 2, 6, 15, 8, 16, 3, 17, 18, 19, 20, 21, 22, 2, 23, 6, 24, 8, 9, 25, 11, 26, 13, 14, 2, 6, 27, 8, 28, 3, 29, 18, 30, 20, 31])) := by kernel_rfl
set_option maxRecDepth 100000 in
theorem wavs_0001 (a : Bd) : evR (ctxIn Try.prog numI eqsB libX2 [(112, Try.f112)]) Try.f75 [(bA a), (.w (.one (.fnc 68 []))), (.w (.one (.int .i64 1073741824)))] [false, false, false, true] = some (AV.w (AW.agg [AC.int IntKind.i64 (-1073741824), AC.int IntKind.i64 (bif false then if 1073741824 > IntKind.i64.wrap ((bif true then if sinV a.hi > sinV a.lo then sinV a.hi else sinV a.lo else if sinV a.hi < sinV a.lo then sinV a.hi else sinV a.lo) + 1) then 1073741824 else IntKind.i64.wrap ((bif true then if sinV a.hi > sinV a.lo then sinV a.hi else sinV a.lo else if sinV a.hi < sinV a.lo then sinV a.hi else sinV a.lo) + 1) else if 1073741824 < IntKind.i64.wrap ((bif true then if sinV a.hi > sinV a.lo then sinV a.hi else sinV a.lo else if sinV a.hi < sinV a.lo then sinV a.hi else sinV a.lo) + 1) then 1073741824 else IntKind.i64.wrap ((bif true then if sinV a.hi > sinV a.lo then sinV a.hi else sinV a.lo else if sinV a.hi < sinV a.lo then sinV a.hi else sinV a.lo) + 1)), AC.yes false]), (pickL [(chkB a != 0, false), (a.u, false), (i64B a.lo, true), (i64B a.hi, true), (i64B 1073741824, true), (decide (1073741824 < 0) == decide (1073741824 < 0), true), (decide (a.lo < 0) == decide (a.lo < 0), true), (szB 1073741824, true), (szB a.lo, true), (twoB 32, true), (decide (1073741824 - a.lo < 0) == decide (1073741824 - a.lo < 0), true), (decide (twoV 32 < 0) == decide (twoV 32 < 0), true), (szB (1073741824 - a.lo), true), (szB (twoV 32), true), (decide (twoV 32 = 0), false), (decide ((1073741824 - a.lo) % twoV 32 < 0) == decide ((1073741824 - a.lo) % twoV 32 < 0), true), (szB ((1073741824 - a.lo) % twoV 32), true), (decide (a.lo + (1073741824 - a.lo) % twoV 32 < 0) == decide (a.lo + (1073741824 - a.lo) % twoV 32 < 0), true), (decide (a.hi < 0) == decide (a.hi < 0), true), (szB (a.lo + (1073741824 - a.lo) % twoV 32), true), (szB a.hi, true), (decide (Wd.cmpI (a.lo + (1073741824 - a.lo) % twoV 32) a.hi ≤ 0), false), (i64B (IntKind.i64.wrap (1073741824 + 2147483648)), true), (decide (IntKind.i64.wrap (1073741824 + 2147483648) < 0) == decide (IntKind.i64.wrap (1073741824 + 2147483648) < 0), true), (szB (IntKind.i64.wrap (1073741824 + 2147483648)), true), (decide (IntKind.i64.wrap (1073741824 + 2147483648) - a.lo < 0) == decide (IntKind.i64.wrap (1073741824 + 2147483648) - a.lo < 0), true), (szB (IntKind.i64.wrap (1073741824 + 2147483648) - a.lo), true), (decide ((IntKind.i64.wrap (1073741824 + 2147483648) - a.lo) % twoV 32 < 0) == decide ((IntKind.i64.wrap (1073741824 + 2147483648) - a.lo) % twoV 32 < 0), true), (szB ((IntKind.i64.wrap (1073741824 + 2147483648) - a.lo) % twoV 32), true), (decide (a.lo + (IntKind.i64.wrap (1073741824 + 2147483648) - a.lo) % twoV 32 < 0) == decide (a.lo + (IntKind.i64.wrap (1073741824 + 2147483648) - a.lo) % twoV 32 < 0), true), (szB (a.lo + (IntKind.i64.wrap (1073741824 + 2147483648) - a.lo) % twoV 32), true), (decide (Wd.cmpI (a.lo + (IntKind.i64.wrap (1073741824 + 2147483648) - a.lo) % twoV 32) a.hi ≤ 0), true)] [0, 0, 0, 1, 2, 3, 4, 2, 5, 6, 7, 8, 9, 10, 11, 12, 13, 14, 2, 6, 15, 8, 16, 3, 17, 18, 19, 20, 21, 22, 2, 23, 6, 24, 8, 9, 25, 11, 26, 13, 14, 2, 6, 27, 8, 28, 3, 29, 18, 30, 20, 31])) := by kernel_rfl
set_option maxRecDepth 100000 in
theorem wavs_0000 (a : Bd) : evR (ctxIn Try.prog numI eqsB libX2 [(112, Try.f112)]) Try.f75 [(bA a), (.w (.one (.fnc 68 []))), (.w (.one (.int .i64 1073741824)))] [false, false, false, false] = some (AV.w (AW.agg [AC.int IntKind.i64 (bif true then if -1073741824 > IntKind.i64.wrap ((bif false then if sinV a.hi > sinV a.lo then sinV a.hi else sinV a.lo else if sinV a.hi < sinV a.lo then sinV a.hi else sinV a.lo) - 1) then -1073741824 else IntKind.i64.wrap ((bif false then if sinV a.hi > sinV a.lo then sinV a.hi else sinV a.lo else if sinV a.hi < sinV a.lo then sinV a.hi else sinV a.lo) - 1) else if -1073741824 < IntKind.i64.wrap ((bif false then if sinV a.hi > sinV a.lo then sinV a.hi else sinV a.lo else if sinV a.hi < sinV a.lo then sinV a.hi else sinV a.lo) - 1) then -1073741824 else IntKind.i64.wrap ((bif false then if sinV a.hi > sinV a.lo then sinV a.hi else sinV a.lo else if sinV a.hi < sinV a.lo then sinV a.hi else sinV a.lo) - 1)), AC.int IntKind.i64 (bif false then if 1073741824 > IntKind.i64.wrap ((bif true then if sinV a.hi > sinV a.lo then sinV a.hi else sinV a.lo else if sinV a.hi < sinV a.lo then sinV a.hi else sinV a.lo) + 1) then 1073741824 else IntKind.i64.wrap ((bif true then if sinV a.hi > sinV a.lo then sinV a.hi else sinV a.lo else if sinV a.hi < sinV a.lo then sinV a.hi else sinV a.lo) + 1) else if 1073741824 < IntKind.i64.wrap ((bif true then if sinV a.hi > sinV a.lo then sinV a.hi else sinV a.lo else if sinV a.hi < sinV a.lo then sinV a.hi else sinV a.lo) + 1) then 1073741824 else IntKind.i64.wrap ((bif true then if sinV a.hi > sinV a.lo then sinV a.hi else sinV a.lo else if sinV a.hi < sinV a.lo then sinV a.hi else sinV a.lo) + 1)), AC.yes false]), (pickL [(chkB a != 0, false), (a.u, false), (i64B a.lo, true), (i64B a.hi, true), (i64B 1073741824, true), (decide (1073741824 < 0) == decide (1073741824 < 0), true), (decide (a.lo < 0) == decide (a.lo < 0), true), (szB 1073741824, true), (szB a.lo, true), (twoB 32, true), (decide (1073741824 - a.lo < 0) == decide (1073741824 - a.lo < 0), true), (decide (twoV 32 < 0) == decide (twoV 32 < 0), true), (szB (1073741824 - a.lo), true), (szB (twoV 32), true), (decide (twoV 32 = 0), false), (decide ((1073741824 - a.lo) % twoV 32 < 0) == decide ((1073741824 - a.lo) % twoV 32 < 0), true), (szB ((1073741824 - a.lo) % twoV 32), true), (decide (a.lo + (1073741824 - a.lo) % twoV 32 < 0) == decide (a.lo + (1073741824 - a.lo) % twoV 32 < 0), true), (decide (a.hi < 0) == decide (a.hi < 0), true), (szB (a.lo + (1073741824 - a.lo) % twoV 32), true), (szB a.hi, true), (decide (Wd.cmpI (a.lo + (1073741824 - a.lo) % twoV 32) a.hi ≤ 0), false), (i64B (IntKind.i64.wrap (1073741824 + 2147483648)), true), (decide (IntKind.i64.wrap (1073741824 + 2147483648) < 0) == decide (IntKind.i64.wrap (1073741824 + 2147483648) < 0), true), (szB (IntKind.i64.wrap (1073741824 + 2147483648)), true), (decide (IntKind.i64.wrap (1073741824 + 2147483648) - a.lo < 0) == decide (IntKind.i64.wrap (1073741824 + 2147483648) - a.lo < 0), true), (szB (IntKind.i64.wrap (1073741824 + 2147483648) - a.lo), true), (decide ((IntKind.i64.wrap (1073741824 + 2147483648) - a.lo) % twoV 32 < 0) == decide ((IntKind.i64.wrap (1073741824 + 2147483648) - a.lo) % twoV 32 < 0), true), (szB ((IntKind.i64.wrap (1073741824 + 2147483648) - a.lo) % twoV 32), true), (decide (a.lo + (IntKind.i64.wrap (1073741824 + 2147483648) - a.lo) % twoV 32 < 0) == decide (a.lo + (IntKind.i64.wrap (1073741824 + 2147483648) - a.lo) % twoV 32 < 0), true), (szB (a.lo + (IntKind.i64.wrap (1073741824 + 2147483648) - a.lo) % twoV 32), true), (decide (Wd.cmpI (a.lo + (IntKind.i64.wrap (1073741824 + 2147483648) - a.lo) % twoV 32) a.hi ≤ 0), false)] [0, 0, 0, 1, 2, 3, 4, 2, 5, 6, 7, 8, 9, 10, 11, 12, 13, 14, 2, 6, 15, 8, 16, 3, 17, 18, 19, 20, 21, 22, 2, 23, 6, 24, 8, 9, 25, 11, 26, 13, 14, 2, 6, 27, 8, 28, 3, 29, 18, 30, 20, 31])) := by kernel_rfl
theorem wavs_ok (a : Bd) : ∃ path x cd', evR (ctxIn Try.prog numI eqsB libX2 [(112, Try.f112)]) Try.f75 [(bA a), (.w (.one (.fnc 68 []))), (.w (.one (.int .i64 1073741824)))] path = some (x, cd') ∧ (∀ E u, x.untip.R E u → (bA (waveV sinV 1073741824 a) : AV Nm).R E u) ∧ ∀ p ∈ cd', p.1 = p.2 := by
  cases h1 : (chkB a != 0) with
  | true =>
    have hk : knB a = false := by
      cases hu : a.u with
      | true => unfold knB; rw [hu]; rfl
      | false => rw [chk_kn hu]; simpa using h1
    have e : waveV sinV 1073741824 a = ⟨0, 0, true⟩ := by unfold waveV; rw [hk]; rfl
    refine ⟨_, _, _, wavs_1 a, fun E u hu => by rw [e]; exact bnd_R hu, pickL_ok ?_ _⟩
    repeat' (first | exact cd_nil | refine cd_cons ?_ ?_)
    all_goals first | rfl | with_reducible assumption | exact eq_self_b' _ | exact z_32 | exact wr_i64 _ | (with_reducible apply Dl.sz; (repeat' (first | with_reducible assumption | with_reducible exact d_32 | with_reducible apply Dl.add' | with_reducible apply Dl.sub')); omega)
  | false =>
    cases hu : a.u with
    | true =>
      have hk : knB a = false := by unfold knB; rw [hu]; rfl
      have e : waveV sinV 1073741824 a = ⟨0, 0, true⟩ := by unfold waveV; rw [hk]; rfl
      refine ⟨_, _, _, wavs_01 a, fun E u hu => by rw [e]; exact bnd_R hu, pickL_ok ?_ _⟩
      repeat' (first | exact cd_nil | refine cd_cons ?_ ?_)
      all_goals first | rfl | with_reducible assumption | exact eq_self_b' _ | exact z_32 | exact wr_i64 _ | (with_reducible apply Dl.sz; (repeat' (first | with_reducible assumption | with_reducible exact d_32 | with_reducible apply Dl.add' | with_reducible apply Dl.sub')); omega)
    | false =>
      have hk : knB a = true := by rw [chk_kn hu]; simpa using h1
      have kl := kn_lo hk
      have i1 := kl.1
      have i2 := kl.2
      have g := knB_iff.1 hk
      have d1 : Dl 4 a.lo := Dl.i64 i1
      have d2 : Dl 4 a.hi := Dl.i64 i2
      have d3 : Dl 4 (1073741824 : Int) := Dl.lit (by omega) (by omega)
      have d4 : Dl 4 (IntKind.i64.wrap (1073741824 + 2147483648)) := Dl.i64 (wr_i64 _)
      have d5 : ∀ c : Int, Dl 4 ((c - a.lo) % twoV 32) := fun c => by rw [two_32]; exact Dl.lit (by omega) (by omega)
      have d6 := d5 1073741824
      have d7 := d5 (IntKind.i64.wrap (1073741824 + 2147483648))
      have ee : IntKind.i64.wrap (1073741824 + 2147483648) = 1073741824 + 2147483648 := c_half _ (by first | exact .inl rfl | exact .inr rfl)
      have W : waveV sinV 1073741824 a = ⟨wLo sinV 1073741824 a, wHi sinV 1073741824 a, false⟩ := by unfold waveV; rw [hk]; rfl
      have q1' := cmp_adm a 1073741824
      have q2' := cmp_adm a (IntKind.i64.wrap (1073741824 + 2147483648))
      rw [show admV a (IntKind.i64.wrap (1073741824 + 2147483648)) = admV a (1073741824 + 2147483648) by rw [ee]] at q2'
      cases q1 : admV a 1073741824 with
      | true =>
        rw [q1] at q1'
        have eh : wHi sinV 1073741824 a = 1073741824 := by unfold wHi; rw [q1]; rfl
        cases q2 : admV a (1073741824 + 2147483648) with
        | true =>
          rw [q2] at q2'
          have el : wLo sinV 1073741824 a = -1073741824 := by unfold wLo; rw [q2]; rfl
          refine ⟨_, _, _, wavs_0011 a, fun E u hu => by rw [W, el, eh]; exact bnd_R hu, pickL_ok ?_ _⟩
          repeat' (first | exact cd_nil | refine cd_cons ?_ ?_)
          all_goals first | rfl | with_reducible assumption | exact eq_self_b' _ | exact z_32 | exact wr_i64 _ | (with_reducible apply Dl.sz; (repeat' (first | with_reducible assumption | with_reducible exact d_32 | with_reducible apply Dl.add' | with_reducible apply Dl.sub')); omega)
        | false =>
          rw [q2] at q2'
          have el : wLo sinV 1073741824 a = maxI (IntKind.i64.wrap (minI (sinV a.lo) (sinV a.hi) - 1)) (-1073741824) := by rw [w_lo' _ _ (f_in sin_s _) (f_in sin_s _)]; unfold wLo; rw [q2]; rfl
          refine ⟨_, _, _, wavs_0010 a, fun E u hu => by rw [W, el, eh]; exact bnd_R hu, pickL_ok ?_ _⟩
          repeat' (first | exact cd_nil | refine cd_cons ?_ ?_)
          all_goals first | rfl | with_reducible assumption | exact eq_self_b' _ | exact z_32 | exact wr_i64 _ | (with_reducible apply Dl.sz; (repeat' (first | with_reducible assumption | with_reducible exact d_32 | with_reducible apply Dl.add' | with_reducible apply Dl.sub')); omega)
      | false =>
        rw [q1] at q1'
        have eh : wHi sinV 1073741824 a = minI (IntKind.i64.wrap (maxI (sinV a.lo) (sinV a.hi) + 1)) 1073741824 := by rw [w_hi' _ _ (f_in sin_s _) (f_in sin_s _)]; unfold wHi; rw [q1]; rfl
        cases q2 : admV a (1073741824 + 2147483648) with
        | true =>
          rw [q2] at q2'
          have el : wLo sinV 1073741824 a = -1073741824 := by unfold wLo; rw [q2]; rfl
          refine ⟨_, _, _, wavs_0001 a, fun E u hu => by rw [W, el, eh]; exact bnd_R hu, pickL_ok ?_ _⟩
          repeat' (first | exact cd_nil | refine cd_cons ?_ ?_)
          all_goals first | rfl | with_reducible assumption | exact eq_self_b' _ | exact z_32 | exact wr_i64 _ | (with_reducible apply Dl.sz; (repeat' (first | with_reducible assumption | with_reducible exact d_32 | with_reducible apply Dl.add' | with_reducible apply Dl.sub')); omega)
        | false =>
          rw [q2] at q2'
          have el : wLo sinV 1073741824 a = maxI (IntKind.i64.wrap (minI (sinV a.lo) (sinV a.hi) - 1)) (-1073741824) := by rw [w_lo' _ _ (f_in sin_s _) (f_in sin_s _)]; unfold wLo; rw [q2]; rfl
          refine ⟨_, _, _, wavs_0000 a, fun E u hu => by rw [W, el, eh]; exact bnd_R hu, pickL_ok ?_ _⟩
          repeat' (first | exact cd_nil | refine cd_cons ?_ ?_)
          all_goals first | rfl | with_reducible assumption | exact eq_self_b' _ | exact z_32 | exact wr_i64 _ | (with_reducible apply Dl.sz; (repeat' (first | with_reducible assumption | with_reducible exact d_32 | with_reducible apply Dl.add' | with_reducible apply Dl.sub')); omega)
set_option maxRecDepth 100000 in
theorem wavc_1 (a : Bd) : evR (ctxIn Try.prog numI eqsB libX2 [(112, Try.f112)]) Try.f75 [(bA a), (.w (.one (.fnc 70 []))), (.w (.one (.int .i64 0)))] [true] = some (AV.w (AW.agg [AC.int IntKind.i64 0, AC.int IntKind.i64 0, AC.yes true]), (pickL [(chkB a != 0, true), (true, true)] [0, 0, 0, 1])) := by kernel_rfl
set_option maxRecDepth 100000 in
theorem wavc_01 (a : Bd) : evR (ctxIn Try.prog numI eqsB libX2 [(112, Try.f112)]) Try.f75 [(bA a), (.w (.one (.fnc 70 []))), (.w (.one (.int .i64 0)))] [false, true] = some (AV.w (AW.agg [AC.int IntKind.i64 0, AC.int IntKind.i64 0, AC.yes true]), (pickL [(chkB a != 0, false), (a.u, true)] [0, 0, 0, 1])) := by kernel_rfl
set_option maxRecDepth 100000 in
theorem wavc_0011 (a : Bd) : evR (ctxIn Try.prog numI eqsB libX2 [(112, Try.f112)]) Try.f75 [(bA a), (.w (.one (.fnc 70 []))), (.w (.one (.int .i64 0)))] [false, false, true, true] = some (AV.w (AW.agg [AC.int IntKind.i64 (-1073741824), AC.int IntKind.i64 1073741824, AC.yes false]), (pickL [(chkB a != 0, false), (a.u, false), (i64B a.lo, true), (i64B a.hi, true), (i64B 0, true), (decide (0 < 0) == decide (0 < 0), true), (decide (a.lo < 0) == decide (a.lo < 0), true), (szB 0, true), (szB a.lo, true), (twoB 32, true), (decide (0 - a.lo < 0) == decide (0 - a.lo < 0), true), (decide (twoV 32 < 0) == decide (twoV 32 < 0), true), (szB (0 - a.lo), true), (szB (twoV 32), true), (decide (twoV 32 = 0), false), (decide ((0 - a.lo) % twoV 32 < 0) == decide ((0 - a.lo) % twoV 32 < 0), true), (szB ((0 - a.lo) % twoV 32), true), (decide (a.lo + (0 - a.lo) % twoV 32 < 0) == decide (a.lo + (0 - a.lo) % twoV 32 < 0), true), (decide (a.hi < 0) == decide (a.hi < 0), true), (szB (a.lo + (0 - a.lo) % twoV 32), true), (szB a.hi, true), (decide (Wd.cmpI (a.lo + (0 - a.lo) % twoV 32) a.hi ≤ 0), true), (i64B (IntKind.i64.wrap (0 + 2147483648)), true), (decide (IntKind.i64.wrap (0 + 2147483648) < 0) == decide (IntKind.i64.wrap (0 + 2147483648) < 0), true), (szB (IntKind.i64.wrap (0 + 2147483648)), true), (decide (IntKind.i64.wrap (0 + 2147483648) - a.lo < 0) == decide (IntKind.i64.wrap (0 + 2147483648) - a.lo < 0), true), (szB (IntKind.i64.wrap (0 + 2147483648) - a.lo), true), (decide ((IntKind.i64.wrap (0 + 2147483648) - a.lo) % twoV 32 < 0) == decide ((IntKind.i64.wrap (0 + 2147483648) - a.lo) % twoV 32 < 0), true), (szB ((IntKind.i64.wrap (0 + 2147483648) - a.lo) % twoV 32), true), (decide (a.lo + (IntKind.i64.wrap (0 + 2147483648) - a.lo) % twoV 32 < 0) == decide (a.lo + (IntKind.i64.wrap (0 + 2147483648) - a.lo) % twoV 32 < 0), true), (szB (a.lo + (IntKind.i64.wrap (0 + 2147483648) - a.lo) % twoV 32), true), (decide (Wd.cmpI (a.lo + (IntKind.i64.wrap (0 + 2147483648) - a.lo) % twoV 32) a.hi ≤ 0), true)] [0, 0, 0, 1, 2, 3, 4, 2, 5, 6, 7, 8, 9, 10, 11, 12, 13, 14, 2, 6, 15, 8, 16, 3, 17, 18, 19, 20, 21, 22, 2, 23, 6, 24, 8, 9, 25, 11, 26, 13, 14, 2, 6, 27, 8, 28, 3, 29, 18, 30, 20, 31])) := by kernel_rfl
set_option maxRecDepth 100000 in
theorem wavc_0010 (a : Bd) : evR (ctxIn Try.prog numI eqsB libX2 [(112, Try.f112)]) Try.f75 [(bA a), (.w (.one (.fnc 70 []))), (.w (.one (.int .i64 0)))] [false, false, true, false] = some (AV.w (AW.agg [AC.int IntKind.i64 (bif true then if -1073741824 > IntKind.i64.wrap ((bif false then if cosV a.hi > cosV a.lo then cosV a.hi else cosV a.lo else if cosV a.hi < cosV a.lo then cosV a.hi else cosV a.lo) - 1) then -1073741824 else IntKind.i64.wrap ((bif false then if cosV a.hi > cosV a.lo then cosV a.hi else cosV a.lo else if cosV a.hi < cosV a.lo then cosV a.hi else cosV a.lo) - 1) else if -1073741824 < IntKind.i64.wrap ((bif false then if cosV a.hi > cosV a.lo then cosV a.hi else cosV a.lo else if cosV a.hi < cosV a.lo then cosV a.hi else cosV a.lo) - 1) then -1073741824 else IntKind.i64.wrap ((bif false then if cosV a.hi > cosV a.lo then cosV a.hi else cosV a.lo else if cosV a.hi < cosV a.lo then cosV a.hi else cosV a.lo) - 1)), AC.int IntKind.i64 1073741824, AC.yes false]), (pickL [(chkB a != 0, false), (a.u, false), (i64B a.lo, true), (i64B a.hi, true), (i64B 0, true), (decide (0 < 0) == decide (0 < 0), true), (decide (a.lo < 0) == decide (a.lo < 0), true), (szB 0, true), (szB a.lo, true), (twoB 32, true), (decide (0 - a.lo < 0) == decide (0 - a.lo < 0), true), (decide (twoV 32 < 0) == decide (twoV 32 < 0), true), (szB (0 - a.lo), true), (szB (twoV 32), true), (decide (twoV 32 = 0), false), (decide ((0 - a.lo) % twoV 32 < 0) == decide ((0 - a.lo) % twoV 32 < 0), true), (szB ((0 - a.lo) % twoV 32), true), (decide (a.lo + (0 - a.lo) % twoV 32 < 0) == decide (a.lo + (0 - a.lo) % twoV 32 < 0), true), (decide (a.hi < 0) == decide (a.hi < 0), true), (szB (a.lo + (0 - a.lo) % twoV 32), true), (szB a.hi, true), (decide (Wd.cmpI (a.lo + (0 - a.lo) % twoV 32) a.hi ≤ 0), true), (i64B (IntKind.i64.wrap (0 + 2147483648)), true), (decide (IntKind.i64.wrap (0 + 2147483648) < 0) == decide (IntKind.i64.wrap (0 + 2147483648) < 0), true), (szB (IntKind.i64.wrap (0 + 2147483648)), true), (decide (IntKind.i64.wrap (0 + 2147483648) - a.lo < 0) == decide (IntKind.i64.wrap (0 + 2147483648) - a.lo < 0), true), (szB (IntKind.i64.wrap (0 + 2147483648) - a.lo), true), (decide ((IntKind.i64.wrap (0 + 2147483648) - a.lo) % twoV 32 < 0) == decide ((IntKind.i64.wrap (0 + 2147483648) - a.lo) % twoV 32 < 0), true), (szB ((IntKind.i64.wrap (0 + 2147483648) - a.lo) % twoV 32), true), (decide (a.lo + (IntKind.i64.wrap (0 + 2147483648) - a.lo) % twoV 32 < 0) == decide (a.lo + (IntKind.i64.wrap (0 + 2147483648) - a.lo) % twoV 32 < 0), true), (szB (a.lo + (IntKind.i64.wrap (0 + 2147483648) - a.lo) % twoV 32), true), (decide (Wd.cmpI (a.lo + (IntKind.i64.wrap (0 + 2147483648) - a.lo) % twoV 32) a.hi ≤ 0), false)] [0, 0, 0, 1, 2, 3, 4, 2, 5, 6, 7, 8, 9, 10, 11, 12, 13, 14, 2, 6, 15, 8, 16, 3, 17, 18, 19, 20, 21, 22, 2, 23, 6, 24, 8, 9, 25, 11, 26, 13, 14, 2, 6, 27, 8, 28, 3, 29, 18, 30, 20, 31])) := by kernel_rfl
set_option maxRecDepth 100000 in
theorem wavc_0001 (a : Bd) : evR (ctxIn Try.prog numI eqsB libX2 [(112, Try.f112)]) Try.f75 [(bA a), (.w (.one (.fnc 70 []))), (.w (.one (.int .i64 0)))] [false, false, false, true] = some (AV.w (AW.agg [AC.int IntKind.i64 (-1073741824), AC.int IntKind.i64 (bif false then if 1073741824 > IntKind.i64.wrap ((bif true then if cosV a.hi > cosV a.lo then cosV a.hi else cosV a.lo else if cosV a.hi < cosV a.lo then cosV a.hi else cosV a.lo) + 1) then 1073741824 else IntKind.i64.wrap ((bif true then if cosV a.hi > cosV a.lo then cosV a.hi else cosV a.lo else if cosV a.hi < cosV a.lo then cosV a.hi else cosV a.lo) + 1) else if 1073741824 < IntKind.i64.wrap ((bif true then if cosV a.hi > cosV a.lo then cosV a.hi else cosV a.lo else if cosV a.hi < cosV a.lo then cosV a.hi else cosV a.lo) + 1) then 1073741824 else IntKind.i64.wrap ((bif true then if cosV a.hi > cosV a.lo then cosV a.hi else cosV a.lo else if cosV a.hi < cosV a.lo then cosV a.hi else cosV a.lo) + 1)), AC.yes false]), (pickL [(chkB a != 0, false), (a.u, false), (i64B a.lo, true), (i64B a.hi, true), (i64B 0, true), (decide (0 < 0) == decide (0 < 0), true), (decide (a.lo < 0) == decide (a.lo < 0), true), (szB 0, true), (szB a.lo, true), (twoB 32, true), (decide (0 - a.lo < 0) == decide (0 - a.lo < 0), true), (decide (twoV 32 < 0) == decide (twoV 32 < 0), true), (szB (0 - a.lo), true), (szB (twoV 32), true), (decide (twoV 32 = 0), false), (decide ((0 - a.lo) % twoV 32 < 0) == decide ((0 - a.lo) % twoV 32 < 0), true), (szB ((0 - a.lo) % twoV 32), true), (decide (a.lo + (0 - a.lo) % twoV 32 < 0) == decide (a.lo + (0 - a.lo) % twoV 32 < 0), true), (decide (a.hi < 0) == decide (a.hi < 0), true), (szB (a.lo + (0 - a.lo) % twoV 32), true), (szB a.hi, true), (decide (Wd.cmpI (a.lo + (0 - a.lo) % twoV 32) a.hi ≤ 0), false), (i64B (IntKind.i64.wrap (0 + 2147483648)), true), (decide (IntKind.i64.wrap (0 + 2147483648) < 0) == decide (IntKind.i64.wrap (0 + 2147483648) < 0), true), (szB (IntKind.i64.wrap (0 + 2147483648)), true), (decide (IntKind.i64.wrap (0 + 2147483648) - a.lo < 0) == decide (IntKind.i64.wrap (0 + 2147483648) - a.lo < 0), true), (szB (IntKind.i64.wrap (0 + 2147483648) - a.lo), true), (decide ((IntKind.i64.wrap (0 + 2147483648) - a.lo) % twoV 32 < 0) == decide ((IntKind.i64.wrap (0 + 2147483648) - a.lo) % twoV 32 < 0), true), (szB ((IntKind.i64.wrap (0 + 2147483648) - a.lo) % twoV 32), true), (decide (a.lo + (IntKind.i64.wrap (0 + 2147483648) - a.lo) % twoV 32 < 0) == decide (a.lo + (IntKind.i64.wrap (0 + 2147483648) - a.lo) % twoV 32 < 0), true), (szB (a.lo + (IntKind.i64.wrap (0 + 2147483648) - a.lo) % twoV 32), true), (decide (Wd.cmpI (a.lo + (IntKind.i64.wrap (0 + 2147483648) - a.lo) % twoV 32) a.hi ≤ 0), true)] [0, 0, 0, 1, 2, 3, 4, 2, 5, 6, 7, 8, 9, 10, 11, 12, 13, 14, 2, 6, 15, 8, 16, 3, 17, 18, 19, 20, 21, 22, 2, 23, 6, 24, 8, 9, 25, 11, 26, 13, 14, 2, 6, 27, 8, 28, 3, 29, 18, 30, 20, 31])) := by kernel_rfl
set_option maxRecDepth 100000 in
theorem wavc_0000 (a : Bd) : evR (ctxIn Try.prog numI eqsB libX2 [(112, Try.f112)]) Try.f75 [(bA a), (.w (.one (.fnc 70 []))), (.w (.one (.int .i64 0)))] [false, false, false, false] = some (AV.w (AW.agg [AC.int IntKind.i64 (bif true then if -1073741824 > IntKind.i64.wrap ((bif false then if cosV a.hi > cosV a.lo then cosV a.hi else cosV a.lo else if cosV a.hi < cosV a.lo then cosV a.hi else cosV a.lo) - 1) then -1073741824 else IntKind.i64.wrap ((bif false then if cosV a.hi > cosV a.lo then cosV a.hi else cosV a.lo else if cosV a.hi < cosV a.lo then cosV a.hi else cosV a.lo) - 1) else if -1073741824 < IntKind.i64.wrap ((bif false then if cosV a.hi > cosV a.lo then cosV a.hi else cosV a.lo else if cosV a.hi < cosV a.lo then cosV a.hi else cosV a.lo) - 1) then -1073741824 else IntKind.i64.wrap ((bif false then if cosV a.hi > cosV a.lo then cosV a.hi else cosV a.lo else if cosV a.hi < cosV a.lo then cosV a.hi else cosV a.lo) - 1)), AC.int IntKind.i64 (bif false then if 1073741824 > IntKind.i64.wrap ((bif true then if cosV a.hi > cosV a.lo then cosV a.hi else cosV a.lo else if cosV a.hi < cosV a.lo then cosV a.hi else cosV a.lo) + 1) then 1073741824 else IntKind.i64.wrap ((bif true then if cosV a.hi > cosV a.lo then cosV a.hi else cosV a.lo else if cosV a.hi < cosV a.lo then cosV a.hi else cosV a.lo) + 1) else if 1073741824 < IntKind.i64.wrap ((bif true then if cosV a.hi > cosV a.lo then cosV a.hi else cosV a.lo else if cosV a.hi < cosV a.lo then cosV a.hi else cosV a.lo) + 1) then 1073741824 else IntKind.i64.wrap ((bif true then if cosV a.hi > cosV a.lo then cosV a.hi else cosV a.lo else if cosV a.hi < cosV a.lo then cosV a.hi else cosV a.lo) + 1)), AC.yes false]), (pickL [(chkB a != 0, false), (a.u, false), (i64B a.lo, true), (i64B a.hi, true), (i64B 0, true), (decide (0 < 0) == decide (0 < 0), true), (decide (a.lo < 0) == decide (a.lo < 0), true), (szB 0, true), (szB a.lo, true), (twoB 32, true), (decide (0 - a.lo < 0) == decide (0 - a.lo < 0), true), (decide (twoV 32 < 0) == decide (twoV 32 < 0), true), (szB (0 - a.lo), true), (szB (twoV 32), true), (decide (twoV 32 = 0), false), (decide ((0 - a.lo) % twoV 32 < 0) == decide ((0 - a.lo) % twoV 32 < 0), true), (szB ((0 - a.lo) % twoV 32), true), (decide (a.lo + (0 - a.lo) % twoV 32 < 0) == decide (a.lo + (0 - a.lo) % twoV 32 < 0), true), (decide (a.hi < 0) == decide (a.hi < 0), true), (szB (a.lo + (0 - a.lo) % twoV 32), true), (szB a.hi, true), (decide (Wd.cmpI (a.lo + (0 - a.lo) % twoV 32) a.hi ≤ 0), false), (i64B (IntKind.i64.wrap (0 + 2147483648)), true), (decide (IntKind.i64.wrap (0 + 2147483648) < 0) == decide (IntKind.i64.wrap (0 + 2147483648) < 0), true), (szB (IntKind.i64.wrap (0 + 2147483648)), true), (decide (IntKind.i64.wrap (0 + 2147483648) - a.lo < 0) == decide (IntKind.i64.wrap (0 + 2147483648) - a.lo < 0), true), (szB (IntKind.i64.wrap (0 + 2147483648) - a.lo), true), (decide ((IntKind.i64.wrap (0 + 2147483648) - a.lo) % twoV 32 < 0) == decide ((IntKind.i64.wrap (0 + 2147483648) - a.lo) % twoV 32 < 0), true), (szB ((IntKind.i64.wrap (0 + 2147483648) - a.lo) % twoV 32), true), (decide (a.lo + (IntKind.i64.wrap (0 + 2147483648) - a.lo) % twoV 32 < 0) == decide (a.lo + (IntKind.i64.wrap (0 + 2147483648) - a.lo) % twoV 32 < 0), true), (szB (a.lo + (IntKind.i64.wrap (0 + 2147483648) - a.lo) % twoV 32), true), (decide (Wd.cmpI (a.lo + (IntKind.i64.wrap (0 + 2147483648) - a.lo) % twoV 32) a.hi ≤ 0), false)] [0, 0, 0, 1, 2, 3, 4, 2, 5, 6, 7, 8, 9, 10, 11, 12, 13, 14, 2, 6, 15, 8, 16, 3, 17, 18, 19, 20, 21, 22, 2, 23, 6, 24, 8, 9, 25, 11, 26, 13, 14, 2, 6, 27, 8, 28, 3, 29, 18, 30, 20, 31])) := by kernel_rfl
theorem wavc_ok (a : Bd) : ∃ path x cd', evR (ctxIn Try.prog numI eqsB libX2 [(112, Try.f112)]) Try.f75 [(bA a), (.w (.one (.fnc 70 []))), (.w (.one (.int .i64 0)))] path = some (x, cd') ∧ (∀ E u, x.untip.R E u → (bA (waveV cosV 0 a) : AV Nm).R E u) ∧ ∀ p ∈ cd', p.1 = p.2 := by
  cases h1 : (chkB a != 0) with
  | true =>
    have hk : knB a = false := by
      cases hu : a.u with
      | true => unfold knB; rw [hu]; rfl
      | false => rw [chk_kn hu]; simpa using h1
    have e : waveV cosV 0 a = ⟨0, 0, true⟩ := by unfold waveV; rw [hk]; rfl
    refine ⟨_, _, _, wavc_1 a, fun E u hu => by rw [e]; exact bnd_R hu, pickL_ok ?_ _⟩
    repeat' (first | exact cd_nil | refine cd_cons ?_ ?_)
    all_goals first | rfl | with_reducible assumption | exact eq_self_b' _ | exact z_32 | exact wr_i64 _ | (with_reducible apply Dl.sz; (repeat' (first | with_reducible assumption | with_reducible exact d_32 | with_reducible apply Dl.add' | with_reducible apply Dl.sub')); omega)
  | false =>
    cases hu : a.u with
    | true =>
      have hk : knB a = false := by unfold knB; rw [hu]; rfl
      have e : waveV cosV 0 a = ⟨0, 0, true⟩ := by unfold waveV; rw [hk]; rfl
      refine ⟨_, _, _, wavc_01 a, fun E u hu => by rw [e]; exact bnd_R hu, pickL_ok ?_ _⟩
      repeat' (first | exact cd_nil | refine cd_cons ?_ ?_)
      all_goals first | rfl | with_reducible assumption | exact eq_self_b' _ | exact z_32 | exact wr_i64 _ | (with_reducible apply Dl.sz; (repeat' (first | with_reducible assumption | with_reducible exact d_32 | with_reducible apply Dl.add' | with_reducible apply Dl.sub')); omega)
    | false =>
      have hk : knB a = true := by rw [chk_kn hu]; simpa using h1
      have kl := kn_lo hk
      have i1 := kl.1
      have i2 := kl.2
      have g := knB_iff.1 hk
      have d1 : Dl 4 a.lo := Dl.i64 i1
      have d2 : Dl 4 a.hi := Dl.i64 i2
      have d3 : Dl 4 (0 : Int) := Dl.lit (by omega) (by omega)
      have d4 : Dl 4 (IntKind.i64.wrap (0 + 2147483648)) := Dl.i64 (wr_i64 _)
      have d5 : ∀ c : Int, Dl 4 ((c - a.lo) % twoV 32) := fun c => by rw [two_32]; exact Dl.lit (by omega) (by omega)
      have d6 := d5 0
      have d7 := d5 (IntKind.i64.wrap (0 + 2147483648))
      have ee : IntKind.i64.wrap (0 + 2147483648) = 0 + 2147483648 := c_half _ (by first | exact .inl rfl | exact .inr rfl)
      have W : waveV cosV 0 a = ⟨wLo cosV 0 a, wHi cosV 0 a, false⟩ := by unfold waveV; rw [hk]; rfl
      have q1' := cmp_adm a 0
      have q2' := cmp_adm a (IntKind.i64.wrap (0 + 2147483648))
      rw [show admV a (IntKind.i64.wrap (0 + 2147483648)) = admV a (0 + 2147483648) by rw [ee]] at q2'
      cases q1 : admV a 0 with
      | true =>
        rw [q1] at q1'
        have eh : wHi cosV 0 a = 1073741824 := by unfold wHi; rw [q1]; rfl
        cases q2 : admV a (0 + 2147483648) with
        | true =>
          rw [q2] at q2'
          have el : wLo cosV 0 a = -1073741824 := by unfold wLo; rw [q2]; rfl
          refine ⟨_, _, _, wavc_0011 a, fun E u hu => by rw [W, el, eh]; exact bnd_R hu, pickL_ok ?_ _⟩
          repeat' (first | exact cd_nil | refine cd_cons ?_ ?_)
          all_goals first | rfl | with_reducible assumption | exact eq_self_b' _ | exact z_32 | exact wr_i64 _ | (with_reducible apply Dl.sz; (repeat' (first | with_reducible assumption | with_reducible exact d_32 | with_reducible apply Dl.add' | with_reducible apply Dl.sub')); omega)
        | false =>
          rw [q2] at q2'
          have el : wLo cosV 0 a = maxI (IntKind.i64.wrap (minI (cosV a.lo) (cosV a.hi) - 1)) (-1073741824) := by rw [w_lo' _ _ (f_in cos_s _) (f_in cos_s _)]; unfold wLo; rw [q2]; rfl
          refine ⟨_, _, _, wavc_0010 a, fun E u hu => by rw [W, el, eh]; exact bnd_R hu, pickL_ok ?_ _⟩
          repeat' (first | exact cd_nil | refine cd_cons ?_ ?_)
          all_goals first | rfl | with_reducible assumption | exact eq_self_b' _ | exact z_32 | exact wr_i64 _ | (with_reducible apply Dl.sz; (repeat' (first | with_reducible assumption | with_reducible exact d_32 | with_reducible apply Dl.add' | with_reducible apply Dl.sub')); omega)
      | false =>
        rw [q1] at q1'
        have eh : wHi cosV 0 a = minI (IntKind.i64.wrap (maxI (cosV a.lo) (cosV a.hi) + 1)) 1073741824 := by rw [w_hi' _ _ (f_in cos_s _) (f_in cos_s _)]; unfold wHi; rw [q1]; rfl
        cases q2 : admV a (0 + 2147483648) with
        | true =>
          rw [q2] at q2'
          have el : wLo cosV 0 a = -1073741824 := by unfold wLo; rw [q2]; rfl
          refine ⟨_, _, _, wavc_0001 a, fun E u hu => by rw [W, el, eh]; exact bnd_R hu, pickL_ok ?_ _⟩
          repeat' (first | exact cd_nil | refine cd_cons ?_ ?_)
          all_goals first | rfl | with_reducible assumption | exact eq_self_b' _ | exact z_32 | exact wr_i64 _ | (with_reducible apply Dl.sz; (repeat' (first | with_reducible assumption | with_reducible exact d_32 | with_reducible apply Dl.add' | with_reducible apply Dl.sub')); omega)
        | false =>
          rw [q2] at q2'
          have el : wLo cosV 0 a = maxI (IntKind.i64.wrap (minI (cosV a.lo) (cosV a.hi) - 1)) (-1073741824) := by rw [w_lo' _ _ (f_in cos_s _) (f_in cos_s _)]; unfold wLo; rw [q2]; rfl
          refine ⟨_, _, _, wavc_0000 a, fun E u hu => by rw [W, el, eh]; exact bnd_R hu, pickL_ok ?_ _⟩
          repeat' (first | exact cd_nil | refine cd_cons ?_ ?_)
          all_goals first | rfl | with_reducible assumption | exact eq_self_b' _ | exact z_32 | exact wr_i64 _ | (with_reducible apply Dl.sz; (repeat' (first | with_reducible assumption | with_reducible exact d_32 | with_reducible apply Dl.add' | with_reducible apply Dl.sub')); omega)
def gWaved : List (AV Nm) → Option (AV Nm × List (Bool × Bool))
  | [.w (.agg [.int .i64 lo, .int .i64 hi, .bool u]), .w (.one (.fnc f [])), .w (.one (.int .i64 p))] =>
    if (Nat.beq f 68 && p == 1073741824) = true then some (bA (waveV sinV 1073741824 ⟨lo, hi, u⟩), []) else if (Nat.beq f 70 && p == 0) = true then some (bA (waveV cosV 0 ⟨lo, hi, u⟩), []) else none
  | _ => none
theorem gWaved_ok : (factSp gWaved).ok Try.prog numI 75 :=
  factR_ok (ctxIn_ok libX2_ok eqsB_ok fnsX_ok) (by kernel_rfl) Try.func75 rfl lps_nil fun args v cd hg hc => by
    unfold gWaved at hg
    split at hg
    · rename_i lo hi u f p
      split at hg
      · rename_i hb
        cases hg
        simp only [Bool.and_eq_true, beq_iff_eq] at hb
        obtain ⟨h1, rfl⟩ := hb
        obtain rfl := Nat.eq_of_beq_eq_true h1
        exact ⟨rfl, rfl, rfl, wavs_ok ⟨lo, hi, u⟩⟩
      · split at hg
        · rename_i hb
          cases hg
          simp only [Bool.and_eq_true, beq_iff_eq] at hb
          obtain ⟨h1, rfl⟩ := hb
          obtain rfl := Nat.eq_of_beq_eq_true h1
          exact ⟨rfl, rfl, rfl, wavc_ok ⟨lo, hi, u⟩⟩
        · cases hg
    · cases hg
abbrev libX3 : List (Nat × FnSp Nm) := (75, factSp gWaved) :: libX2
theorem libX3_ok : LibOk Try.prog numI (lib1 libX3) := lib1_cons gWaved_ok Try.call75 libX2_ok
set_option maxRecDepth 100000 in
theorem tbnds_1 (a : Bd) : evR (ctxOf Try.prog numI eqsB libX3) Try.f12 [(bA a)] [true] = some (AV.w (AW.one (AC.bool ((waveV cosV 0 a).lo == (waveV cosV 0 a).lo && ((waveV cosV 0 a).hi == (waveV cosV 0 a).hi && ((waveV cosV 0 a).u == (waveV cosV 0 a).u && true))))), (pickL [(true, true), ((waveV sinV 1073741824 a).lo == (waveV sinV 1073741824 a).lo && ((waveV sinV 1073741824 a).hi == (waveV sinV 1073741824 a).hi && ((waveV sinV 1073741824 a).u == (waveV sinV 1073741824 a).u && true)), true)] [0, 0, 0, 0, 0, 0, 1, 1, 1, 1, 1, 1])) := by kernel_rfl
theorem trigBounds_law (a : Bd) (w : World) : Calls Try.prog 12 #[bV a] w fun e w' => e = .returned (.bool true) ∧ Below w.heap.size w w' := by
  have E : ∀ b : Bd, (b.lo == b.lo && (b.hi == b.hi && (b.u == b.u && true))) = true := fun b => by simp
  refine evR_calls (I := numI) (v := .bool true) (ctxOf_ok libX3_ok eqsB_ok) (by kernel_rfl) Try.func12 rfl lps_nil (tbnds_1 a) rfl (all2_R (.cons rfl .nil)) (congrArg (fun b => some (Value.bool b)) (E (waveV cosV 0 a))) w (Nat.zero_le _) (pickL_ok ?_ _)
  repeat' (first | exact cd_nil | refine cd_cons ?_ ?_)
  all_goals first | with_reducible assumption | rfl | exact E _
end Go.Proofs.Ytdhodjbomepfbaa

