/-
  The walk of spylaw1.TrigAngleNear: it returns true.
  Conditions: the numbers are int64.
-/
import Derived.Test.YtdhodjbomepfbaaT6
import Derived.Test.YtdhodjbomepfbaaT7
import Derived.Test.YtdhodjbomepfbaaAN
set_option linter.unusedVariables false
set_option linter.unusedSimpArgs false
namespace Go.Proofs.Ytdhodjbomepfbaa
open Go.RowKit Go.Shelf Ev Zd Wd Tg

abbrev libA9 : List (Nat × FnSp Nm) := [(66, sp0 (.w (.one (.yes true)))), (77, sp2 (dInt .i64) (dInt .i64) (fun y x => num2 (atanV y x) (atanE y x)) (fun _ _ => [])), (78, sp2 (dInt .i64) (dInt .i64) (fun y x => num2 (atanV y x) (atanE y x)) (fun _ _ => [])), (18, nfn nI), (32, nfn nLess), (49, nfn nTimes), (41, nfn nSign), (73, nfn nReal)]
theorem libA9_ok : LibOk Try.prog numI (lib1 libA9) := (lib1_cons (sp0_ok rfl trigs_pl) Try.call66 (lib1_cons (sp2_ok fun y x _ => ⟨_, rfl, atan_pl y x⟩) Try.call77 (lib1_cons (sp2_ok fun y x _ => ⟨_, rfl, angle_pl y x⟩) Try.call78 (lib1_cons (nI_ok) Try.call18 (lib1_cons (nLess_ok) Try.call32 (lib1_cons (nTimes_ok) Try.call49 (lib1_cons (nSign_ok) Try.call41 (lib1_cons (nReal_ok) Try.call73 (lib1_nil _ _)))))))))
theorem fnsA_ok : FnsOk Try.prog [(79, Try.f79)] := fns_cons Try.func79 rfl Try.call79 (fns_nil _)
set_option maxRecDepth 100000 in
theorem ang_111 (y : Int) (x : Int) : evR (ctxIn Try.prog numI (fun _ => false) libA9 [(79, Try.f79)]) Try.f14 [(.w (.one (.int .i64 y))), (.w (.one (.int .i64 x)))] [true, true, true] = some (AV.w (AW.one (AC.bool (atanV y x == 0))), (pickL [(!true, false), (atanE y x != 0, true), (true, true), (atanE y x == atanE y x, true)] [0, 1, 1, 1, 2, 2, 2, 2, 3, 3, 3, 1, 1, 1])) := by kernel_rfl
set_option maxRecDepth 100000 in
theorem ang_0001 (y : Int) (x : Int) : evR (ctxIn Try.prog numI (fun _ => false) libA9 [(79, Try.f79)]) Try.f14 [(.w (.one (.int .i64 y))), (.w (.one (.int .i64 x)))] [false, false, false, true] = some (AV.w (AW.one (AC.bool (decide (Wd.cmpI (x * realV (IntKind.i64.wrap (atanV y x - 2)) - y * realV (IntKind.i64.wrap (IntKind.i64.wrap (atanV y x - 2) + 1073741824))) 0 < 0)))), (pickL [(!true, false), (atanE y x != 0, false), (decide (atanV y x < 0), false), (decide (atanV y x ≥ 4294967296), false), (i64B x, true), (i64B (IntKind.i64.wrap (atanV y x + 2)), true), (decide (x < 0) == decide (x < 0), true), (decide (realV (IntKind.i64.wrap (atanV y x + 2)) < 0) == decide (realV (IntKind.i64.wrap (atanV y x + 2)) < 0), true), (szB x, true), (szB (realV (IntKind.i64.wrap (atanV y x + 2))), true), (i64B y, true), (i64B (IntKind.i64.wrap (IntKind.i64.wrap (atanV y x + 2) + 1073741824)), true), (decide (y < 0) == decide (y < 0), true), (decide (realV (IntKind.i64.wrap (IntKind.i64.wrap (atanV y x + 2) + 1073741824)) < 0) == decide (realV (IntKind.i64.wrap (IntKind.i64.wrap (atanV y x + 2) + 1073741824)) < 0), true), (szB y, true), (szB (realV (IntKind.i64.wrap (IntKind.i64.wrap (atanV y x + 2) + 1073741824))), true), (decide (x * realV (IntKind.i64.wrap (atanV y x + 2)) < 0) == decide (x * realV (IntKind.i64.wrap (atanV y x + 2)) < 0), true), (decide (y * realV (IntKind.i64.wrap (IntKind.i64.wrap (atanV y x + 2) + 1073741824)) < 0) == decide (y * realV (IntKind.i64.wrap (IntKind.i64.wrap (atanV y x + 2) + 1073741824)) < 0), true), (szB (x * realV (IntKind.i64.wrap (atanV y x + 2))), true), (szB (y * realV (IntKind.i64.wrap (IntKind.i64.wrap (atanV y x + 2) + 1073741824))), true), (decide (x * realV (IntKind.i64.wrap (atanV y x + 2)) - y * realV (IntKind.i64.wrap (IntKind.i64.wrap (atanV y x + 2) + 1073741824)) < 0) == decide (x * realV (IntKind.i64.wrap (atanV y x + 2)) - y * realV (IntKind.i64.wrap (IntKind.i64.wrap (atanV y x + 2) + 1073741824)) < 0), true), (decide (Wd.cmpI (x * realV (IntKind.i64.wrap (atanV y x + 2)) - y * realV (IntKind.i64.wrap (IntKind.i64.wrap (atanV y x + 2) + 1073741824))) 0 > 0), true), (i64B (IntKind.i64.wrap (atanV y x - 2)), true), (decide (realV (IntKind.i64.wrap (atanV y x - 2)) < 0) == decide (realV (IntKind.i64.wrap (atanV y x - 2)) < 0), true), (szB (realV (IntKind.i64.wrap (atanV y x - 2))), true), (i64B (IntKind.i64.wrap (IntKind.i64.wrap (atanV y x - 2) + 1073741824)), true), (decide (realV (IntKind.i64.wrap (IntKind.i64.wrap (atanV y x - 2) + 1073741824)) < 0) == decide (realV (IntKind.i64.wrap (IntKind.i64.wrap (atanV y x - 2) + 1073741824)) < 0), true), (szB (realV (IntKind.i64.wrap (IntKind.i64.wrap (atanV y x - 2) + 1073741824))), true), (decide (x * realV (IntKind.i64.wrap (atanV y x - 2)) < 0) == decide (x * realV (IntKind.i64.wrap (atanV y x - 2)) < 0), true), (decide (y * realV (IntKind.i64.wrap (IntKind.i64.wrap (atanV y x - 2) + 1073741824)) < 0) == decide (y * realV (IntKind.i64.wrap (IntKind.i64.wrap (atanV y x - 2) + 1073741824)) < 0), true), (szB (x * realV (IntKind.i64.wrap (atanV y x - 2))), true), (szB (y * realV (IntKind.i64.wrap (IntKind.i64.wrap (atanV y x - 2) + 1073741824))), true), (decide (x * realV (IntKind.i64.wrap (atanV y x - 2)) - y * realV (IntKind.i64.wrap (IntKind.i64.wrap (atanV y x - 2) + 1073741824)) < 0) == decide (x * realV (IntKind.i64.wrap (atanV y x - 2)) - y * realV (IntKind.i64.wrap (IntKind.i64.wrap (atanV y x - 2) + 1073741824)) < 0), true)] [0, 1, 1, 1, 2, 2, 2, 3, 4, 5, 6, 7, 8, 9, 10, 11, 12, 13, 14, 15, 16, 17, 18, 19, 20, 21, 21, 21, 21, 4, 22, 6, 23, 8, 24, 10, 25, 12, 26, 14, 27, 28, 29, 30, 31, 32, 21, 21])) := by kernel_rfl
theorem real_rs (a : Int) : realV a = rsV a := rfl
theorem d_rs (b : Int) : Dl 10 (rsV b) := by
  have := rs_near b
  have := sin_range b
  exact Dl.big (by omega) (by omega)
theorem cmp_neg' (t : Int) : decide (cmpI t 0 < 0) = decide (t < 0) := by
  unfold cmpI
  by_cases h : t < 0
  · rw [if_pos h, decide_eq_true h]; rfl
  · rw [if_neg h, decide_eq_false h]
    split <;> rfl
theorem angBad {y x : Int} (h : ¬ (-4294967296 ≤ x ∧ x ≤ 4294967296) ∨ ¬ (-4294967296 ≤ y ∧ y ≤ 4294967296) ∨ (x = 0 ∧ y = 0)) : atanV y x = 0 ∧ atanE y x ≠ 0 := by
  by_cases h1 : ¬ (-4294967296 ≤ x ∧ x ≤ 4294967296) ∨ ¬ (-4294967296 ≤ y ∧ y ≤ 4294967296)
  · have := atanV_out (y := y) (x := x) h1
    exact ⟨this.1, by rw [this.2]; decide⟩
  · have h2 : x = 0 ∧ y = 0 := by
      rcases h with h | h | h
      · exact absurd (.inl h) h1
      · exact absurd (.inr h) h1
      · exact h
    obtain ⟨rfl, rfl⟩ := h2
    exact ⟨atanV_00.1, by rw [atanV_00.2]; decide⟩
set_option maxHeartbeats 2000000 in
theorem trigAngleNear_law (y : Int) (y1 : -9223372036854775808 ≤ y) (y2 : y ≤ 9223372036854775807) (x : Int) (x1 : -9223372036854775808 ≤ x) (x2 : x ≤ 9223372036854775807) (w : World) : Calls Try.prog 14 #[.int .i64 y, .int .i64 x] w fun e w' => e = .returned (.bool true) ∧ Below w.heap.size w w' := by
  have i_y : i64B y = true := i64B_iff.2 ⟨y1, y2⟩
  have i_x : i64B x = true := i64B_iff.2 ⟨x1, x2⟩
  by_cases h : ¬ (-4294967296 ≤ x ∧ x ≤ 4294967296) ∨ ¬ (-4294967296 ≤ y ∧ y ≤ 4294967296) ∨ (x = 0 ∧ y = 0)
  · obtain ⟨e1, e2⟩ := angBad h
    have k1 : (atanE y x != 0) = true := by simpa using e2
    have V : (atanV y x == 0) = true := by rw [e1]; rfl
    refine evR_calls (I := numI) (v := .bool true) (ctxIn_ok libA9_ok (eq_none _) fnsA_ok) (by kernel_rfl) Try.func14 rfl lps_nil (ang_111 y x) rfl (all2_R (.cons rfl (.cons rfl .nil))) (congrArg (fun b => some (Value.bool b)) V) w (Nat.zero_le _) (pickL_ok ?_ _)
    repeat' (first | exact cd_nil | refine cd_cons ?_ ?_)
    all_goals first | with_reducible assumption | rfl | exact eq_self_b' _ | exact beq_self_eq_true _
  · have hx : -4294967296 ≤ x ∧ x ≤ 4294967296 := by omega
    have hy : -4294967296 ≤ y ∧ y ≤ 4294967296 := by omega
    have hn : ¬ (x = 0 ∧ y = 0) := by omega
    obtain ⟨e1, e2⟩ := atanV_in hx hy hn
    obtain ⟨s1, s2⟩ := side_ang hn
    have a0 : 0 ≤ angV y x ∧ angV y x < 4294967296 := by unfold angV; omega
    have L := ang_0001 y x
    rw [e1] at L
    generalize angV y x = a at *
    rw [i64w (x := a + 2) (by omega) (by omega), i64w (x := a - 2) (by omega) (by omega)] at L
    rw [i64w (x := a + 2 + 1073741824) (by omega) (by omega), i64w (x := a - 2 + 1073741824) (by omega) (by omega)] at L
    rw [real_rs (a + 2), real_rs (a - 2), real_rs (a + 2 + 1073741824), real_rs (a - 2 + 1073741824)] at L
    have s1 : 0 < x * rsV (a + 2) - y * rsV (a + 2 + 1073741824) := s1
    have s2 : x * rsV (a - 2) - y * rsV (a - 2 + 1073741824) < 0 := s2
    have k1 : (atanE y x != 0) = false := by rw [e2]; rfl
    have k2 : decide (a < 0) = false := decide_eq_false (by omega)
    have k3 : decide (a ≥ 4294967296) = false := decide_eq_false (by omega)
    have k4 : decide (cmpI (x * rsV (a + 2) - y * rsV (a + 2 + 1073741824)) 0 > 0) = true := by rw [cmp_pos]; exact decide_eq_true s1
    have V : decide (cmpI (x * rsV (a - 2) - y * rsV (a - 2 + 1073741824)) 0 < 0) = true := by rw [cmp_neg']; exact decide_eq_true s2
    have i1 : i64B (a + 2) = true := i64B_iff.2 (by omega)
    have i2 : i64B (a - 2) = true := i64B_iff.2 (by omega)
    have i3 : i64B (a + 2 + 1073741824) = true := i64B_iff.2 (by omega)
    have i4 : i64B (a - 2 + 1073741824) = true := i64B_iff.2 (by omega)
    have d1 := d_rs (a + 2)
    have d2 := d_rs (a - 2)
    have d3 := d_rs (a + 2 + 1073741824)
    have d4 := d_rs (a - 2 + 1073741824)
    have dx := Dl.i64 i_x
    have dy := Dl.i64 i_y
    refine evR_calls (I := numI) (v := .bool true) (ctxIn_ok libA9_ok (eq_none _) fnsA_ok) (by kernel_rfl) Try.func14 rfl lps_nil L rfl (all2_R (.cons rfl (.cons rfl .nil))) (congrArg (fun b => some (Value.bool b)) V) w (Nat.zero_le _) (pickL_ok ?_ _)
    repeat' (first | exact cd_nil | refine cd_cons ?_ ?_)
    all_goals first | with_reducible assumption | rfl | exact eq_self_b' _ | (with_reducible apply Dl.sz; (repeat' (first | with_reducible assumption | with_reducible apply Dl.mul | with_reducible apply Dl.sub')); omega)
end Go.Proofs.Ytdhodjbomepfbaa

