/-
  The walks of the laws SlewChecks, SlewTargets, SlewFastest and SlewSteps.
  Conditions: the numbers of the arguments are int64.
-/
import Derived.Test.YtiamhppdacfmmaaQE
import Derived.Test.YtiamhppdacfmmaaGO
set_option linter.unusedVariables false
set_option linter.unusedSimpArgs false
namespace Go.Proofs.Ytiamhppdacfmmaa.AtSl
open Go.RowKit Ev Wd
open Go.Proofs.Ytiamhppdacfmmaa
variable {F : Type}
noncomputable section

noncomputable abbrev libF0 : List (Nat × FnSp Empty) := [(26, STS), (24, FTS), (20, inS)]
theorem libF0_ok : LibOk Try.prog noFacts (lib1 libF0) := (lib1_cons (sp3_ok fun a x y _ => ⟨_, rfl, Ste_pl a x y⟩) Try.call26 (lib1_cons (sp2_ok fun a d _ => ⟨_, rfl, Fas_pl a d⟩) Try.call24 (lib1_cons (sp2_ok fun a p _ => ⟨_, rfl, inn_pl a p⟩) Try.call20 (lib1_nil _ _))))
set_option maxRecDepth 100000 in
theorem axf0_111  : evR (ctxOf Try.prog noFacts (fun _ => false) libF0) Try.f15 [] [true, true, true] = some (AV.w (AW.one (AC.bool !inA { mn := 0, mx := 1000000000, sp := 16777216, ac := 16777216 } (-1))), (pickL [(SEv { mn := 0, mx := 1000000000, sp := 16777216, ac := 16777216 } 0 50331648 == 0, true), (SNv { mn := 0, mx := 1000000000, sp := 16777216, ac := 16777216 } 0 50331648 == 4, true), (FTv { mn := 0, mx := 1000000000, sp := 16777216, ac := 16777216 } 5 == 5, true)] [0, 0, 0, 1, 1, 1, 1, 2, 2, 2, 2])) := by kernel_rfl
theorem axes_pl : Pl Try.prog 15 [] (.bool true) := fun w => by
  have k0 : (SEv { mn := 0, mx := 1000000000, sp := 16777216, ac := 16777216 } 0 50331648 == 0) = true := by decide +kernel
  have k1 : (SNv { mn := 0, mx := 1000000000, sp := 16777216, ac := 16777216 } 0 50331648 == 4) = true := by decide +kernel
  have k2 : (FTv { mn := 0, mx := 1000000000, sp := 16777216, ac := 16777216 } 5 == 5) = true := by decide +kernel
  have V : (!inA { mn := 0, mx := 1000000000, sp := 16777216, ac := 16777216 } (-1)) = true := by decide +kernel
  refine evR_calls (I := noFacts) (v := .bool true) (ctxOf_ok libF0_ok (eq_none _)) (by kernel_rfl) Try.func15 rfl lps_nil axf0_111 rfl (all2_R .nil) (congrArg (fun b => some (Value.bool b)) V) w (Nat.zero_le _) (pickL_ok ?_ _)
  repeat' (first | exact cd_nil | refine cd_cons ?_ ?_)
  all_goals first | with_reducible rfl | with_reducible assumption
noncomputable abbrev libF1 : List (Nat × FnSp Empty) := [(15, sp0 (aBool true)), (16, axS), (17, axS), (18, moS), (19, moS), (20, inS), (21, inS)]
theorem libF1_ok : LibOk Try.prog noFacts (lib1 libF1) := (lib1_cons (sp0_ok rfl axes_pl) Try.call15 (lib1_cons (sp1_ok fun a _ => ⟨_, rfl, cax_pl a⟩) Try.call16 (lib1_cons (sp1_ok fun a _ => ⟨_, rfl, axf_pl a⟩) Try.call17 (lib1_cons (sp1_ok fun m _ => ⟨_, rfl, cmo_pl m⟩) Try.call18 (lib1_cons (sp1_ok fun m _ => ⟨_, rfl, mof_pl m⟩) Try.call19 (lib1_cons (sp2_ok fun a p _ => ⟨_, rfl, inn_pl a p⟩) Try.call20 (lib1_cons (sp2_ok fun a p _ => ⟨_, rfl, wit_pl a p⟩) Try.call21 (lib1_nil _ _))))))))
noncomputable abbrev libF2 : List (Nat × FnSp Empty) := [(15, sp0 (aBool true)), (22, TGS), (23, TGS)]
theorem libF2_ok : LibOk Try.prog noFacts (lib1 libF2) := (lib1_cons (sp0_ok rfl axes_pl) Try.call15 (lib1_cons (sp3_ok fun a x y hc => ⟨_, rfl, Tar_pl a x y (ca1 hc)⟩) Try.call22 (lib1_cons (sp3_ok fun a x y hc => ⟨_, rfl, rtg_pl a x y⟩) Try.call23 (lib1_nil _ _))))
noncomputable abbrev libF3 : List (Nat × FnSp Empty) := [(15, sp0 (aBool true)), (24, FTS), (25, FTS)]
theorem libF3_ok : LibOk Try.prog noFacts (lib1 libF3) := (lib1_cons (sp0_ok rfl axes_pl) Try.call15 (lib1_cons (sp2_ok fun a d _ => ⟨_, rfl, Fas_pl a d⟩) Try.call24 (lib1_cons (sp2_ok fun a d _ => ⟨_, rfl, rfs_pl a d⟩) Try.call25 (lib1_nil _ _))))
noncomputable abbrev libF4 : List (Nat × FnSp Empty) := [(15, sp0 (aBool true)), (26, STS), (27, STS)]
theorem libF4_ok : LibOk Try.prog noFacts (lib1 libF4) := (lib1_cons (sp0_ok rfl axes_pl) Try.call15 (lib1_cons (sp3_ok fun a x y _ => ⟨_, rfl, Ste_pl a x y⟩) Try.call26 (lib1_cons (sp3_ok fun a x y _ => ⟨_, rfl, rst_pl a x y⟩) Try.call27 (lib1_nil _ _))))
set_option maxRecDepth 100000 in
theorem lck_111 (a : Ax) (m : Mo) (x : Int) : evR (ctxOf Try.prog noFacts (fun _ => false) libF1) Try.f3 [(axA a), (moA m), (.w (.one (.int .i64 x)))] [true, true, true] = some (AV.w (AW.one (AC.bool (inA a x == inA a x))), (pickL [(true, true), (axE a == axE a, true), (moE m == moE m, true)] [0, 0, 0, 0, 0, 0, 1, 1, 1, 1, 1, 1, 2, 2, 2, 2, 2, 2, 2, 2])) := by kernel_rfl
set_option maxRecDepth 100000 in
theorem ltg_01 (a : Ax) (x : Int) (y : Int) : evR (ctxOf Try.prog noFacts (fun _ => false) libF2) Try.f4 [(axA a), (.w (.one (.int .i64 x))), (.w (.one (.int .i64 y)))] [false, true] = some (AV.w (AW.one (AC.bool (TEv a x y == TEv a x y))), (pickL [(!true, false), (i64B y, true), (TPv a x y == TPv a x y, true)] [0, 1, 1, 2, 2, 2, 2])) := by kernel_rfl
set_option maxRecDepth 100000 in
theorem lfs_1 (a : Ax) (d : Int) : evR (ctxOf Try.prog noFacts (fun _ => false) libF3) Try.f5 [(axA a), (.w (.one (.int .i64 d)))] [true] = some (AV.w (AW.one (AC.bool (FTv a d == FTv a d))), (pickL [(true, true)] [0, 0, 0, 0, 0, 0, 0, 0])) := by kernel_rfl
set_option maxRecDepth 100000 in
theorem lst_01 (a : Ax) (x : Int) (y : Int) : evR (ctxOf Try.prog noFacts (fun _ => false) libF4) Try.f6 [(axA a), (.w (.one (.int .i64 x))), (.w (.one (.int .i64 y)))] [false, true] = some (AV.w (AW.one (AC.bool (SEv a x y == SEv a x y))), (pickL [(!true, false), (SNv a x y == SNv a x y, true)] [0, 1, 1, 1, 1])) := by kernel_rfl
theorem slewChecks_law (W : World) (a1 : Int) (ha1 : okK (some .i64) a1) (a2 : Int) (ha2 : okK (some .i64) a2) (a3 : Int) (ha3 : okK (some .i64) a3) (a4 : Int) (ha4 : okK (some .i64) a4) (m0 : Int) (hm0 : okK (some .i64) m0) (m1 : Int) (hm1 : okK (some .i64) m1) (m2 : Int) (hm2 : okK (some .i64) m2) (m3 : Int) (hm3 : okK (some .i64) m3) (m4 : Int) (hm4 : okK (some .i64) m4) (m5 : Int) (hm5 : okK (some .i64) m5) (m6 : Int) (hm6 : okK (some .i64) m6) (m7 : Int) (hm7 : okK (some .i64) m7) (m8 : Int) (hm8 : okK (some .i64) m8) (m9 : Int) (hm9 : okK (some .i64) m9) (x : Int) (hx : okK (some .i64) x) : Calls Try.prog 3 #[.agg #[.int .i64 a1, .int .i64 a2, .int .i64 a3, .int .i64 a4], .agg #[.int .i64 m0, .int .i64 m1, .int .i64 m2, .int .i64 m3, .int .i64 m4, .int .i64 m5, .int .i64 m6, .int .i64 m7, .int .i64 m8, .int .i64 m9], .int .i64 x] W fun e w' => e = .returned (.bool true) ∧ Below W.heap.size W w' := by
  have L := lck_111 ⟨a1, a2, a3, a4⟩ ⟨⟨m0, m1, m2, m3⟩, ⟨m4, m5, m6, m7⟩, ⟨m8, m9⟩⟩ x
  refine evR_calls (I := noFacts) (v := .bool true) (ctxOf_ok libF1_ok (eq_none _)) (by kernel_rfl) Try.func3 rfl lps_nil L rfl (all2_R (.cons rfl (.cons rfl (.cons rfl .nil)))) (congrArg (fun b => some (Value.bool b)) (beq_self_eq_true _)) W (Nat.zero_le _) (pickL_ok ?_ _)
  repeat' (first | exact cd_nil | refine cd_cons ?_ ?_)
  all_goals first | with_reducible rfl | with_reducible assumption | (simp only [beq_self_eq_true, Bool.and_self]; done) | rfl
theorem slewTargets_law (W : World) (a1 : Int) (ha1 : okK (some .i64) a1) (a2 : Int) (ha2 : okK (some .i64) a2) (a3 : Int) (ha3 : okK (some .i64) a3) (a4 : Int) (ha4 : okK (some .i64) a4) (x : Int) (hx : okK (some .i64) x) (y : Int) (hy : okK (some .i64) y) : Calls Try.prog 4 #[.agg #[.int .i64 a1, .int .i64 a2, .int .i64 a3, .int .i64 a4], .int .i64 x, .int .i64 y] W fun e w' => e = .returned (.bool true) ∧ Below W.heap.size W w' := by
  have hy64 : i64B y = true := i64B_iff.2 (okK_i64 hy)
  have L := ltg_01 ⟨a1, a2, a3, a4⟩ x y
  refine evR_calls (I := noFacts) (v := .bool true) (ctxOf_ok libF2_ok (eq_none _)) (by kernel_rfl) Try.func4 rfl lps_nil L rfl (all2_R (.cons rfl (.cons rfl (.cons rfl .nil)))) (congrArg (fun b => some (Value.bool b)) (beq_self_eq_true _)) W (Nat.zero_le _) (pickL_ok ?_ _)
  repeat' (first | exact cd_nil | refine cd_cons ?_ ?_)
  all_goals first | with_reducible rfl | with_reducible assumption | (simp only [beq_self_eq_true, Bool.and_self]; done) | rfl
theorem slewFastest_law (W : World) (a1 : Int) (ha1 : okK (some .i64) a1) (a2 : Int) (ha2 : okK (some .i64) a2) (a3 : Int) (ha3 : okK (some .i64) a3) (a4 : Int) (ha4 : okK (some .i64) a4) (d : Int) (hd : okK (some .i64) d) : Calls Try.prog 5 #[.agg #[.int .i64 a1, .int .i64 a2, .int .i64 a3, .int .i64 a4], .int .i64 d] W fun e w' => e = .returned (.bool true) ∧ Below W.heap.size W w' := by
  have L := lfs_1 ⟨a1, a2, a3, a4⟩ d
  refine evR_calls (I := noFacts) (v := .bool true) (ctxOf_ok libF3_ok (eq_none _)) (by kernel_rfl) Try.func5 rfl lps_nil L rfl (all2_R (.cons rfl (.cons rfl .nil))) (congrArg (fun b => some (Value.bool b)) (beq_self_eq_true _)) W (Nat.zero_le _) (pickL_ok ?_ _)
  repeat' (first | exact cd_nil | refine cd_cons ?_ ?_)
  all_goals first | with_reducible rfl | with_reducible assumption | (simp only [beq_self_eq_true, Bool.and_self]; done) | rfl
theorem slewSteps_law (W : World) (a1 : Int) (ha1 : okK (some .i64) a1) (a2 : Int) (ha2 : okK (some .i64) a2) (a3 : Int) (ha3 : okK (some .i64) a3) (a4 : Int) (ha4 : okK (some .i64) a4) (x : Int) (hx : okK (some .i64) x) (y : Int) (hy : okK (some .i64) y) : Calls Try.prog 6 #[.agg #[.int .i64 a1, .int .i64 a2, .int .i64 a3, .int .i64 a4], .int .i64 x, .int .i64 y] W fun e w' => e = .returned (.bool true) ∧ Below W.heap.size W w' := by
  have L := lst_01 ⟨a1, a2, a3, a4⟩ x y
  refine evR_calls (I := noFacts) (v := .bool true) (ctxOf_ok libF4_ok (eq_none _)) (by kernel_rfl) Try.func6 rfl lps_nil L rfl (all2_R (.cons rfl (.cons rfl (.cons rfl .nil)))) (congrArg (fun b => some (Value.bool b)) (beq_self_eq_true _)) W (Nat.zero_le _) (pickL_ok ?_ _)
  repeat' (first | exact cd_nil | refine cd_cons ?_ ?_)
  all_goals first | with_reducible rfl | with_reducible assumption | (simp only [beq_self_eq_true, Bool.and_self]; done) | rfl
end
end Go.Proofs.Ytiamhppdacfmmaa.AtSl

