/-
  The walks of spykeep1's laws on package trig that take plain numbers: each returns true.
  Conditions: the numbers are int64.
-/
import Derived.Test.YtdhodjbomepfbabT2
import Derived.Test.YtdhodjbomepfbabST
set_option linter.unusedVariables false
set_option linter.unusedSimpArgs false
namespace Go.Proofs.Ytdhodjbomepfbab
open Go.RowKit Ev Wd Tg

def maskW (a : Int) : Int := IntKind.i64.wrap ((BitVec.ofInt IntKind.i64.bits a &&& BitVec.ofInt IntKind.i64.bits 4294967295).toNat : Int)
theorem maskW_eq (a : Int) : maskW a = a % 4294967296 := by
  unfold maskW
  rw [BitVec.toNat_and]
  have e : (BitVec.ofInt IntKind.i64.bits 4294967295).toNat = 2 ^ 32 - 1 := by decide
  rw [e, Nat.and_two_pow_sub_one_eq_mod]
  have h : (BitVec.ofInt IntKind.i64.bits a).toNat = (a % 18446744073709551616).toNat := BitVec.toNat_ofInt a
  rw [h, IntKind.wrap_i64]
  omega
theorem atanV_ok {y x : Int} (hx : -4294967296 ≤ x ∧ x ≤ 4294967296) (hy : -4294967296 ≤ y ∧ y ≤ 4294967296) (h : ¬ (x = 0 ∧ y = 0)) : atanV y x = angV y x ∧ atanE y x = 0 := by
  have e : (inA x && inA y) = true := by rw [inA_iff.2 hx, inA_iff.2 hy]; rfl
  unfold atanV atanE
  rw [if_pos e, if_pos e, if_neg h, if_neg h]
  exact ⟨rfl, rfl⟩
def pW (x : Int) : Int := IntKind.i64.wrap (belowV x 2001 - 1000)
def qW (x : Int) : Int := belowV x 1001
def nW (x : Int) : Int := IntKind.i64.wrap (1 + belowV x 4000000)
theorem pW_in (x : Int) : -1000 ≤ pW x ∧ pW x ≤ 1000 := by
  have := belowV_in x 2001 (by omega)
  unfold pW; rw [i64w (by omega) (by omega)]; omega
theorem qW_in (x : Int) : 0 ≤ qW x ∧ qW x ≤ 1000 := by
  have := belowV_in x 1001 (by omega)
  unfold qW; omega
theorem nW_in (x : Int) : 1 ≤ nW x ∧ nW x ≤ 4000000 := by
  have := belowV_in x 4000000 (by omega)
  unfold nW; rw [i64w (by omega) (by omega)]; omega
theorem turn_le {p q r s : Int} (hp : -1000 ≤ p ∧ p ≤ 1000) (hq : 0 ≤ q ∧ q ≤ 1000) (hr : -1000 ≤ r ∧ r ≤ 1000) (hs : 0 ≤ s ∧ s ≤ 1000) (h1 : ¬ (p = 0 ∧ q = 0)) (h2 : ¬ (r = 0 ∧ s = 0)) (n1 : ¬ (q = 0 ∧ p < 0)) (n2 : ¬ (s = 0 ∧ r < 0)) (h : 0 ≤ p * s - q * r) : atanV q p ≤ atanV s r := by
  rw [(atanV_ok (by omega) (by omega) h1).1, (atanV_ok (by omega) (by omega) h2).1]
  exact angV_le hq.1 hs.1 h1 h2 n1 n2 h
theorem turn_n {p q n : Int} (hp : -1000 ≤ p ∧ p ≤ 1000) (hq : 0 ≤ q ∧ q ≤ 1000) (hn : 1 ≤ n ∧ n ≤ 4000000) (h1 : ¬ (p = 0 ∧ q = 0)) : atanE q p = 0 ∧ atanE (n * q) (n * p) = 0 ∧ atanV q p = atanV (n * q) (n * p) := by
  have a := atanV_ok (x := p) (y := q) (by omega) (by omega) h1
  have m1 := mul_bd (x := n) (X := 4000000) (y := p) (Y := 1000) (by omega) (by omega)
  have m2 := mul_bd (x := n) (X := 4000000) (y := q) (Y := 1000) (by omega) (by omega)
  have b := atanV_ok (x := n * p) (y := n * q) (by omega) (by omega) (by
    rintro ⟨e1, e2⟩
    rcases Int.mul_eq_zero.1 e1 with e | e
    · omega
    · rcases Int.mul_eq_zero.1 e2 with f | f <;> omega)
  exact ⟨a.2, b.2, by rw [a.1, b.1, angV_scale (by omega)]⟩
abbrev libK0 : List (Nat × FnSp Empty) := [(20, sp1 (dInt .i64) (fun a => aInt .i64 (sinV a)) (fun a => [(i64B a, true)])), (21, sp1 (dInt .i64) (fun a => aInt .i64 (cosV a)) (fun _ => [])), (22, sp2 (dInt .i64) (dInt .i64) (fun y x => num2 (atanV y x) (atanE y x)) (fun _ _ => []))]
abbrev libK1 : List (Nat × FnSp Empty) := (19, sp0 (.w (.one (.yes true)))) :: (9, sp2 (dInt .i64) (dInt .i64) (fun x n => aInt .i64 (belowV x n)) (fun x n => [(i64B x, true), (i64B n, true)])) :: libK0
theorem libK0_ok : LibOk Try.prog noFacts (lib1 libK0) := lib1_cons (sp1_ok fun a hc => ⟨_, rfl, sinf_pl a (cd1 hc)⟩) Try.call20 (lib1_cons (sp1_ok fun a _ => ⟨_, rfl, cosf_pl a⟩) Try.call21 (lib1_cons (sp2_ok fun y x _ => ⟨_, rfl, atan_pl y x⟩) Try.call22 (lib1_nil _ _)))
set_option maxRecDepth 100000 in
theorem tfact_11  : evR (ctxOf Try.prog noFacts (fun _ => false) libK0) Try.f19 [] [true, true] = some (AV.w (AW.one (AC.bool (atanV (-5) 5 == 3758096384))), (pickL [(i64B 536870912, true), (sinV 536870912 == 759250125, true), (atanE (-5) 5 == 0, true)] [0, 1, 1, 1, 2, 2, 2])) := by kernel_rfl
theorem tfact_pl : Pl Try.prog 19 [] (.bool true) := fun w => by
  have e1 : (sinV 536870912 == 759250125) = true := by decide +kernel
  have e2 : (atanE (-5) 5 == 0) = true := by decide +kernel
  have V : (atanV (-5) 5 == 3758096384) = true := by decide +kernel
  refine evR_calls (I := noFacts) (v := .bool true) (ctxOf_ok libK0_ok (eq_none _)) (by kernel_rfl) Try.func19 rfl lps_nil tfact_11 rfl (all2_R .nil) (congrArg (fun b => some (Value.bool b)) V) w (Nat.zero_le _) (pickL_ok ?_ _)
  repeat' (first | exact cd_nil | refine cd_cons ?_ ?_)
  all_goals first | with_reducible assumption | rfl
theorem libK1_ok : LibOk Try.prog noFacts (lib1 libK1) := lib1_cons (sp0_ok rfl tfact_pl) Try.call19 (lib1_cons (sp2_ok fun x n hc => ⟨_, rfl, below_pl x n (cd2 hc).2⟩) Try.call9 libK0_ok)
set_option maxRecDepth 100000 in
theorem tcir_1 (a : Int) : evR (ctxOf Try.prog noFacts (fun _ => false) libK1) Try.f5 [(.w (.one (.int .i64 a)))] [true] = some (AV.w (AW.one (AC.bool (decide (IntKind.i64.wrap (IntKind.i64.wrap (IntKind.i64.wrap (sinV a * sinV a) + IntKind.i64.wrap (cosV a * cosV a)) - 1152921504606846976) ≥ -2147483648)))), (pickL [(i64B a, true), (true, true), (decide (IntKind.i64.wrap (IntKind.i64.wrap (IntKind.i64.wrap (sinV a * sinV a) + IntKind.i64.wrap (cosV a * cosV a)) - 1152921504606846976) ≤ 2147483648), true)] [0, 1, 1, 1, 2, 2, 2])) := by kernel_rfl
set_option maxRecDepth 100000 in
theorem trigCircle_law (a : Int) (a1 : -9223372036854775808 ≤ a) (a2 : a ≤ 9223372036854775807) (w : World) : Calls Try.prog 5 #[.int .i64 a] w fun e w' => e = .returned (.bool true) ∧ Below w.heap.size w w' := by
  have i_a : i64B a = true := i64B_iff.2 ⟨a1, a2⟩
  have s0 := sin_range a
  have c0 := cos_range a
  have ss := mul_bd (x := sinV a) (X := 1073741824) (y := sinV a) (Y := 1073741824) (by omega) (by omega)
  have cc := mul_bd (x := cosV a) (X := 1073741824) (y := cosV a) (Y := 1073741824) (by omega) (by omega)
  have K := circle a
  have L := tcir_1 a
  rw [i64w (x := sinV a * sinV a) (by omega) (by omega), i64w (x := cosV a * cosV a) (by omega) (by omega), i64w (x := sinV a * sinV a + cosV a * cosV a) (by omega) (by omega), i64w (x := sinV a * sinV a + cosV a * cosV a - 1152921504606846976) (by omega) (by omega)] at L
  have k1 : decide (sinV a * sinV a + cosV a * cosV a - 1152921504606846976 ≤ 2147483648) = true := decide_eq_true K.2
  have V : decide (sinV a * sinV a + cosV a * cosV a - 1152921504606846976 ≥ -2147483648) = true := decide_eq_true K.1
  refine evR_calls (I := noFacts) (v := .bool true) (ctxOf_ok libK1_ok (eq_none _)) (by kernel_rfl) Try.func5 rfl lps_nil L rfl (all2_R (.cons rfl .nil)) (congrArg (fun b => some (Value.bool b)) V) w (Nat.zero_le _) (pickL_ok ?_ _)
  repeat' (first | exact cd_nil | refine cd_cons ?_ ?_)
  all_goals first | with_reducible assumption | rfl
set_option maxRecDepth 100000 in
theorem tthere_1 (a : Int) : evR (ctxOf Try.prog noFacts (fun _ => false) libK1) Try.f6 [(.w (.one (.int .i64 a)))] [true] = some (AV.w (AW.one (AC.bool (decide (maskW (IntKind.i64.wrap (IntKind.i64.wrap (atanV (sinV a) (cosV a) - a) + 2)) ≤ 4)))), (pickL [(i64B a, true), (true, true), (atanE (sinV a) (cosV a) == 0, true)] [0, 1, 1, 1, 2, 2, 2])) := by kernel_rfl
set_option maxRecDepth 100000 in
theorem trigThere_law (a : Int) (a1 : -9223372036854775808 ≤ a) (a2 : a ≤ 9223372036854775807) (w : World) : Calls Try.prog 6 #[.int .i64 a] w fun e w' => e = .returned (.bool true) ∧ Below w.heap.size w w' := by
  have i_a : i64B a = true := i64B_iff.2 ⟨a1, a2⟩
  have s0 := sin_range a
  have c0 := cos_range a
  have K := circle a
  obtain ⟨E1, E2⟩ := atanV_ok (y := sinV a) (x := cosV a) (by omega) (by omega) (by
    rintro ⟨e1, e2⟩
    rw [e1, e2] at K; omega)
  obtain ⟨j, j1, j2⟩ := ang_there a
  have L := tthere_1 a
  rw [maskW_eq, E1] at L
  have k1 : (atanE (sinV a) (cosV a) == 0) = true := by rw [E2]; rfl
  have V : decide (IntKind.i64.wrap (IntKind.i64.wrap (angV (sinV a) (cosV a) - a) + 2) % 4294967296 ≤ 4) = true := by
    apply decide_eq_true
    rw [IntKind.wrap_i64, IntKind.wrap_i64]; omega
  refine evR_calls (I := noFacts) (v := .bool true) (ctxOf_ok libK1_ok (eq_none _)) (by kernel_rfl) Try.func6 rfl lps_nil L rfl (all2_R (.cons rfl .nil)) (congrArg (fun b => some (Value.bool b)) V) w (Nat.zero_le _) (pickL_ok ?_ _)
  repeat' (first | exact cd_nil | refine cd_cons ?_ ?_)
  all_goals first | with_reducible assumption | rfl
set_option maxRecDepth 100000 in
theorem tturn_11 (x : Int) (y : Int) (u : Int) (v : Int) (k : Int) : evR (ctxOf Try.prog noFacts (fun _ => false) libK1) Try.f7 [(.w (.one (.int .i64 x))), (.w (.one (.int .i64 y))), (.w (.one (.int .i64 u))), (.w (.one (.int .i64 v))), (.w (.one (.int .i64 k)))] [true, true] = some (AV.w (AW.one (AC.yes true)), (pickL [(i64B x, true), (i64B 2001, true), (i64B y, true), (i64B 1001, true), (i64B u, true), (i64B v, true), (i64B k, true), (i64B 4000000, true), (pW x == 0, true), (qW y == 0, true), (true, true)] [0, 1, 2, 3, 4, 1, 5, 3, 6, 7, 8, 8, 8, 9, 9, 9, 9, 9, 10])) := by kernel_rfl
set_option maxRecDepth 100000 in
theorem tturn_1011 (x : Int) (y : Int) (u : Int) (v : Int) (k : Int) : evR (ctxOf Try.prog noFacts (fun _ => false) libK1) Try.f7 [(.w (.one (.int .i64 x))), (.w (.one (.int .i64 y))), (.w (.one (.int .i64 u))), (.w (.one (.int .i64 v))), (.w (.one (.int .i64 k)))] [true, false, true, true] = some (AV.w (AW.one (AC.yes true)), (pickL [(i64B x, true), (i64B 2001, true), (i64B y, true), (i64B 1001, true), (i64B u, true), (i64B v, true), (i64B k, true), (i64B 4000000, true), (pW x == 0, true), (qW y == 0, false), (pW u == 0, true), (qW v == 0, true)] [0, 1, 2, 3, 4, 1, 5, 3, 6, 7, 8, 8, 8, 9, 9, 9, 10, 10, 9, 10, 9, 11])) := by kernel_rfl
set_option maxRecDepth 100000 in
theorem tturn_10100000001 (x : Int) (y : Int) (u : Int) (v : Int) (k : Int) : evR (ctxOf Try.prog noFacts (fun _ => false) libK1) Try.f7 [(.w (.one (.int .i64 x))), (.w (.one (.int .i64 y))), (.w (.one (.int .i64 u))), (.w (.one (.int .i64 v))), (.w (.one (.int .i64 k)))] [true, false, true, false, false, false, false, false, false, false, true] = some (AV.w (AW.one (AC.bool (decide (atanV (qW y) (pW x) ≤ atanV (qW v) (pW u))))), (pickL [(i64B x, true), (i64B 2001, true), (i64B y, true), (i64B 1001, true), (i64B u, true), (i64B v, true), (i64B k, true), (i64B 4000000, true), (pW x == 0, true), (qW y == 0, false), (pW u == 0, true), (qW v == 0, false), (!true, false), (atanE (qW y) (pW x) != 0, false), (atanE (qW v) (pW u) != 0, false), (atanE (IntKind.i64.wrap (nW k * qW y)) (IntKind.i64.wrap (nW k * pW x)) != 0, false), (atanV (qW y) (pW x) != atanV (IntKind.i64.wrap (nW k * qW y)) (IntKind.i64.wrap (nW k * pW x)), false), (false, false), (decide (IntKind.i64.wrap (IntKind.i64.wrap (pW x * qW v) - IntKind.i64.wrap (qW y * pW u)) > 0), true)] [0, 1, 2, 3, 4, 1, 5, 3, 6, 7, 8, 8, 8, 9, 9, 9, 10, 10, 9, 10, 9, 11, 12, 12, 12, 13, 13, 13, 14, 14, 14, 15, 15, 15, 15, 16, 9, 9, 9, 17, 17, 17, 11, 11, 17, 11, 17, 17, 18])) := by kernel_rfl
set_option maxRecDepth 100000 in
theorem tturn_101000000001 (x : Int) (y : Int) (u : Int) (v : Int) (k : Int) : evR (ctxOf Try.prog noFacts (fun _ => false) libK1) Try.f7 [(.w (.one (.int .i64 x))), (.w (.one (.int .i64 y))), (.w (.one (.int .i64 u))), (.w (.one (.int .i64 v))), (.w (.one (.int .i64 k)))] [true, false, true, false, false, false, false, false, false, false, false, true] = some (AV.w (AW.one (AC.bool (decide (atanV (qW y) (pW x) ≥ atanV (qW v) (pW u))))), (pickL [(i64B x, true), (i64B 2001, true), (i64B y, true), (i64B 1001, true), (i64B u, true), (i64B v, true), (i64B k, true), (i64B 4000000, true), (pW x == 0, true), (qW y == 0, false), (pW u == 0, true), (qW v == 0, false), (!true, false), (atanE (qW y) (pW x) != 0, false), (atanE (qW v) (pW u) != 0, false), (atanE (IntKind.i64.wrap (nW k * qW y)) (IntKind.i64.wrap (nW k * pW x)) != 0, false), (atanV (qW y) (pW x) != atanV (IntKind.i64.wrap (nW k * qW y)) (IntKind.i64.wrap (nW k * pW x)), false), (false, false), (decide (IntKind.i64.wrap (IntKind.i64.wrap (pW x * qW v) - IntKind.i64.wrap (qW y * pW u)) > 0), false), (decide (IntKind.i64.wrap (IntKind.i64.wrap (pW x * qW v) - IntKind.i64.wrap (qW y * pW u)) < 0), true)] [0, 1, 2, 3, 4, 1, 5, 3, 6, 7, 8, 8, 8, 9, 9, 9, 10, 10, 9, 10, 9, 11, 12, 12, 12, 13, 13, 13, 14, 14, 14, 15, 15, 15, 15, 16, 9, 9, 9, 17, 17, 17, 11, 11, 17, 11, 17, 17, 18, 19])) := by kernel_rfl
set_option maxRecDepth 100000 in
theorem tturn_101000000000 (x : Int) (y : Int) (u : Int) (v : Int) (k : Int) : evR (ctxOf Try.prog noFacts (fun _ => false) libK1) Try.f7 [(.w (.one (.int .i64 x))), (.w (.one (.int .i64 y))), (.w (.one (.int .i64 u))), (.w (.one (.int .i64 v))), (.w (.one (.int .i64 k)))] [true, false, true, false, false, false, false, false, false, false, false, false] = some (AV.w (AW.one (AC.bool (atanV (qW y) (pW x) == atanV (qW v) (pW u)))), (pickL [(i64B x, true), (i64B 2001, true), (i64B y, true), (i64B 1001, true), (i64B u, true), (i64B v, true), (i64B k, true), (i64B 4000000, true), (pW x == 0, true), (qW y == 0, false), (pW u == 0, true), (qW v == 0, false), (!true, false), (atanE (qW y) (pW x) != 0, false), (atanE (qW v) (pW u) != 0, false), (atanE (IntKind.i64.wrap (nW k * qW y)) (IntKind.i64.wrap (nW k * pW x)) != 0, false), (atanV (qW y) (pW x) != atanV (IntKind.i64.wrap (nW k * qW y)) (IntKind.i64.wrap (nW k * pW x)), false), (false, false), (decide (IntKind.i64.wrap (IntKind.i64.wrap (pW x * qW v) - IntKind.i64.wrap (qW y * pW u)) > 0), false), (decide (IntKind.i64.wrap (IntKind.i64.wrap (pW x * qW v) - IntKind.i64.wrap (qW y * pW u)) < 0), false)] [0, 1, 2, 3, 4, 1, 5, 3, 6, 7, 8, 8, 8, 9, 9, 9, 10, 10, 9, 10, 9, 11, 12, 12, 12, 13, 13, 13, 14, 14, 14, 15, 15, 15, 15, 16, 9, 9, 9, 17, 17, 17, 11, 11, 17, 11, 17, 17, 18, 19])) := by kernel_rfl
set_option maxRecDepth 100000 in
theorem tturn_1000000011 (x : Int) (y : Int) (u : Int) (v : Int) (k : Int) : evR (ctxOf Try.prog noFacts (fun _ => false) libK1) Try.f7 [(.w (.one (.int .i64 x))), (.w (.one (.int .i64 y))), (.w (.one (.int .i64 u))), (.w (.one (.int .i64 v))), (.w (.one (.int .i64 k)))] [true, false, false, false, false, false, false, false, true, true] = some (AV.w (AW.one (AC.yes true)), (pickL [(i64B x, true), (i64B 2001, true), (i64B y, true), (i64B 1001, true), (i64B u, true), (i64B v, true), (i64B k, true), (i64B 4000000, true), (pW x == 0, true), (qW y == 0, false), (pW u == 0, false), (false, false), (!true, false), (atanE (qW y) (pW x) != 0, false), (atanE (qW v) (pW u) != 0, false), (atanE (IntKind.i64.wrap (nW k * qW y)) (IntKind.i64.wrap (nW k * pW x)) != 0, false), (atanV (qW y) (pW x) != atanV (IntKind.i64.wrap (nW k * qW y)) (IntKind.i64.wrap (nW k * pW x)), false), (qW v == 0, true), (decide (pW u < 0), true)] [0, 1, 2, 3, 4, 1, 5, 3, 6, 7, 8, 8, 8, 9, 9, 9, 10, 10, 9, 10, 9, 11, 12, 12, 12, 13, 13, 13, 14, 14, 14, 15, 15, 15, 15, 16, 9, 9, 9, 11, 11, 11, 17, 17, 11, 17, 11, 18])) := by kernel_rfl
set_option maxRecDepth 100000 in
theorem tturn_10000000101 (x : Int) (y : Int) (u : Int) (v : Int) (k : Int) : evR (ctxOf Try.prog noFacts (fun _ => false) libK1) Try.f7 [(.w (.one (.int .i64 x))), (.w (.one (.int .i64 y))), (.w (.one (.int .i64 u))), (.w (.one (.int .i64 v))), (.w (.one (.int .i64 k)))] [true, false, false, false, false, false, false, false, true, false, true] = some (AV.w (AW.one (AC.bool (decide (atanV (qW y) (pW x) ≤ atanV (qW v) (pW u))))), (pickL [(i64B x, true), (i64B 2001, true), (i64B y, true), (i64B 1001, true), (i64B u, true), (i64B v, true), (i64B k, true), (i64B 4000000, true), (pW x == 0, true), (qW y == 0, false), (pW u == 0, false), (false, false), (!true, false), (atanE (qW y) (pW x) != 0, false), (atanE (qW v) (pW u) != 0, false), (atanE (IntKind.i64.wrap (nW k * qW y)) (IntKind.i64.wrap (nW k * pW x)) != 0, false), (atanV (qW y) (pW x) != atanV (IntKind.i64.wrap (nW k * qW y)) (IntKind.i64.wrap (nW k * pW x)), false), (qW v == 0, true), (decide (pW u < 0), false), (decide (IntKind.i64.wrap (IntKind.i64.wrap (pW x * qW v) - IntKind.i64.wrap (qW y * pW u)) > 0), true)] [0, 1, 2, 3, 4, 1, 5, 3, 6, 7, 8, 8, 8, 9, 9, 9, 10, 10, 9, 10, 9, 11, 12, 12, 12, 13, 13, 13, 14, 14, 14, 15, 15, 15, 15, 16, 9, 9, 9, 11, 11, 11, 17, 17, 11, 17, 11, 18, 19])) := by kernel_rfl
set_option maxRecDepth 100000 in
theorem tturn_100000001001 (x : Int) (y : Int) (u : Int) (v : Int) (k : Int) : evR (ctxOf Try.prog noFacts (fun _ => false) libK1) Try.f7 [(.w (.one (.int .i64 x))), (.w (.one (.int .i64 y))), (.w (.one (.int .i64 u))), (.w (.one (.int .i64 v))), (.w (.one (.int .i64 k)))] [true, false, false, false, false, false, false, false, true, false, false, true] = some (AV.w (AW.one (AC.bool (decide (atanV (qW y) (pW x) ≥ atanV (qW v) (pW u))))), (pickL [(i64B x, true), (i64B 2001, true), (i64B y, true), (i64B 1001, true), (i64B u, true), (i64B v, true), (i64B k, true), (i64B 4000000, true), (pW x == 0, true), (qW y == 0, false), (pW u == 0, false), (false, false), (!true, false), (atanE (qW y) (pW x) != 0, false), (atanE (qW v) (pW u) != 0, false), (atanE (IntKind.i64.wrap (nW k * qW y)) (IntKind.i64.wrap (nW k * pW x)) != 0, false), (atanV (qW y) (pW x) != atanV (IntKind.i64.wrap (nW k * qW y)) (IntKind.i64.wrap (nW k * pW x)), false), (qW v == 0, true), (decide (pW u < 0), false), (decide (IntKind.i64.wrap (IntKind.i64.wrap (pW x * qW v) - IntKind.i64.wrap (qW y * pW u)) > 0), false), (decide (IntKind.i64.wrap (IntKind.i64.wrap (pW x * qW v) - IntKind.i64.wrap (qW y * pW u)) < 0), true)] [0, 1, 2, 3, 4, 1, 5, 3, 6, 7, 8, 8, 8, 9, 9, 9, 10, 10, 9, 10, 9, 11, 12, 12, 12, 13, 13, 13, 14, 14, 14, 15, 15, 15, 15, 16, 9, 9, 9, 11, 11, 11, 17, 17, 11, 17, 11, 18, 19, 20])) := by kernel_rfl
set_option maxRecDepth 100000 in
theorem tturn_100000001000 (x : Int) (y : Int) (u : Int) (v : Int) (k : Int) : evR (ctxOf Try.prog noFacts (fun _ => false) libK1) Try.f7 [(.w (.one (.int .i64 x))), (.w (.one (.int .i64 y))), (.w (.one (.int .i64 u))), (.w (.one (.int .i64 v))), (.w (.one (.int .i64 k)))] [true, false, false, false, false, false, false, false, true, false, false, false] = some (AV.w (AW.one (AC.bool (atanV (qW y) (pW x) == atanV (qW v) (pW u)))), (pickL [(i64B x, true), (i64B 2001, true), (i64B y, true), (i64B 1001, true), (i64B u, true), (i64B v, true), (i64B k, true), (i64B 4000000, true), (pW x == 0, true), (qW y == 0, false), (pW u == 0, false), (false, false), (!true, false), (atanE (qW y) (pW x) != 0, false), (atanE (qW v) (pW u) != 0, false), (atanE (IntKind.i64.wrap (nW k * qW y)) (IntKind.i64.wrap (nW k * pW x)) != 0, false), (atanV (qW y) (pW x) != atanV (IntKind.i64.wrap (nW k * qW y)) (IntKind.i64.wrap (nW k * pW x)), false), (qW v == 0, true), (decide (pW u < 0), false), (decide (IntKind.i64.wrap (IntKind.i64.wrap (pW x * qW v) - IntKind.i64.wrap (qW y * pW u)) > 0), false), (decide (IntKind.i64.wrap (IntKind.i64.wrap (pW x * qW v) - IntKind.i64.wrap (qW y * pW u)) < 0), false)] [0, 1, 2, 3, 4, 1, 5, 3, 6, 7, 8, 8, 8, 9, 9, 9, 10, 10, 9, 10, 9, 11, 12, 12, 12, 13, 13, 13, 14, 14, 14, 15, 15, 15, 15, 16, 9, 9, 9, 11, 11, 11, 17, 17, 11, 17, 11, 18, 19, 20])) := by kernel_rfl
set_option maxRecDepth 100000 in
theorem tturn_1000000001 (x : Int) (y : Int) (u : Int) (v : Int) (k : Int) : evR (ctxOf Try.prog noFacts (fun _ => false) libK1) Try.f7 [(.w (.one (.int .i64 x))), (.w (.one (.int .i64 y))), (.w (.one (.int .i64 u))), (.w (.one (.int .i64 v))), (.w (.one (.int .i64 k)))] [true, false, false, false, false, false, false, false, false, true] = some (AV.w (AW.one (AC.bool (decide (atanV (qW y) (pW x) ≤ atanV (qW v) (pW u))))), (pickL [(i64B x, true), (i64B 2001, true), (i64B y, true), (i64B 1001, true), (i64B u, true), (i64B v, true), (i64B k, true), (i64B 4000000, true), (pW x == 0, true), (qW y == 0, false), (pW u == 0, false), (false, false), (!true, false), (atanE (qW y) (pW x) != 0, false), (atanE (qW v) (pW u) != 0, false), (atanE (IntKind.i64.wrap (nW k * qW y)) (IntKind.i64.wrap (nW k * pW x)) != 0, false), (atanV (qW y) (pW x) != atanV (IntKind.i64.wrap (nW k * qW y)) (IntKind.i64.wrap (nW k * pW x)), false), (qW v == 0, false), (decide (IntKind.i64.wrap (IntKind.i64.wrap (pW x * qW v) - IntKind.i64.wrap (qW y * pW u)) > 0), true)] [0, 1, 2, 3, 4, 1, 5, 3, 6, 7, 8, 8, 8, 9, 9, 9, 10, 10, 9, 10, 9, 11, 12, 12, 12, 13, 13, 13, 14, 14, 14, 15, 15, 15, 15, 16, 9, 9, 9, 11, 11, 11, 17, 17, 11, 17, 11, 11, 18])) := by kernel_rfl
set_option maxRecDepth 100000 in
theorem tturn_10000000001 (x : Int) (y : Int) (u : Int) (v : Int) (k : Int) : evR (ctxOf Try.prog noFacts (fun _ => false) libK1) Try.f7 [(.w (.one (.int .i64 x))), (.w (.one (.int .i64 y))), (.w (.one (.int .i64 u))), (.w (.one (.int .i64 v))), (.w (.one (.int .i64 k)))] [true, false, false, false, false, false, false, false, false, false, true] = some (AV.w (AW.one (AC.bool (decide (atanV (qW y) (pW x) ≥ atanV (qW v) (pW u))))), (pickL [(i64B x, true), (i64B 2001, true), (i64B y, true), (i64B 1001, true), (i64B u, true), (i64B v, true), (i64B k, true), (i64B 4000000, true), (pW x == 0, true), (qW y == 0, false), (pW u == 0, false), (false, false), (!true, false), (atanE (qW y) (pW x) != 0, false), (atanE (qW v) (pW u) != 0, false), (atanE (IntKind.i64.wrap (nW k * qW y)) (IntKind.i64.wrap (nW k * pW x)) != 0, false), (atanV (qW y) (pW x) != atanV (IntKind.i64.wrap (nW k * qW y)) (IntKind.i64.wrap (nW k * pW x)), false), (qW v == 0, false), (decide (IntKind.i64.wrap (IntKind.i64.wrap (pW x * qW v) - IntKind.i64.wrap (qW y * pW u)) > 0), false), (decide (IntKind.i64.wrap (IntKind.i64.wrap (pW x * qW v) - IntKind.i64.wrap (qW y * pW u)) < 0), true)] [0, 1, 2, 3, 4, 1, 5, 3, 6, 7, 8, 8, 8, 9, 9, 9, 10, 10, 9, 10, 9, 11, 12, 12, 12, 13, 13, 13, 14, 14, 14, 15, 15, 15, 15, 16, 9, 9, 9, 11, 11, 11, 17, 17, 11, 17, 11, 11, 18, 19])) := by kernel_rfl
set_option maxRecDepth 100000 in
theorem tturn_10000000000 (x : Int) (y : Int) (u : Int) (v : Int) (k : Int) : evR (ctxOf Try.prog noFacts (fun _ => false) libK1) Try.f7 [(.w (.one (.int .i64 x))), (.w (.one (.int .i64 y))), (.w (.one (.int .i64 u))), (.w (.one (.int .i64 v))), (.w (.one (.int .i64 k)))] [true, false, false, false, false, false, false, false, false, false, false] = some (AV.w (AW.one (AC.bool (atanV (qW y) (pW x) == atanV (qW v) (pW u)))), (pickL [(i64B x, true), (i64B 2001, true), (i64B y, true), (i64B 1001, true), (i64B u, true), (i64B v, true), (i64B k, true), (i64B 4000000, true), (pW x == 0, true), (qW y == 0, false), (pW u == 0, false), (false, false), (!true, false), (atanE (qW y) (pW x) != 0, false), (atanE (qW v) (pW u) != 0, false), (atanE (IntKind.i64.wrap (nW k * qW y)) (IntKind.i64.wrap (nW k * pW x)) != 0, false), (atanV (qW y) (pW x) != atanV (IntKind.i64.wrap (nW k * qW y)) (IntKind.i64.wrap (nW k * pW x)), false), (qW v == 0, false), (decide (IntKind.i64.wrap (IntKind.i64.wrap (pW x * qW v) - IntKind.i64.wrap (qW y * pW u)) > 0), false), (decide (IntKind.i64.wrap (IntKind.i64.wrap (pW x * qW v) - IntKind.i64.wrap (qW y * pW u)) < 0), false)] [0, 1, 2, 3, 4, 1, 5, 3, 6, 7, 8, 8, 8, 9, 9, 9, 10, 10, 9, 10, 9, 11, 12, 12, 12, 13, 13, 13, 14, 14, 14, 15, 15, 15, 15, 16, 9, 9, 9, 11, 11, 11, 17, 17, 11, 17, 11, 11, 18, 19])) := by kernel_rfl
set_option maxRecDepth 100000 in
theorem tturn_011 (x : Int) (y : Int) (u : Int) (v : Int) (k : Int) : evR (ctxOf Try.prog noFacts (fun _ => false) libK1) Try.f7 [(.w (.one (.int .i64 x))), (.w (.one (.int .i64 y))), (.w (.one (.int .i64 u))), (.w (.one (.int .i64 v))), (.w (.one (.int .i64 k)))] [false, true, true] = some (AV.w (AW.one (AC.yes true)), (pickL [(i64B x, true), (i64B 2001, true), (i64B y, true), (i64B 1001, true), (i64B u, true), (i64B v, true), (i64B k, true), (i64B 4000000, true), (pW x == 0, false), (false, false), (pW u == 0, true), (qW v == 0, true)] [0, 1, 2, 3, 4, 1, 5, 3, 6, 7, 8, 8, 8, 9, 9, 9, 10, 10, 9, 10, 9, 11])) := by kernel_rfl
set_option maxRecDepth 100000 in
theorem tturn_010000011 (x : Int) (y : Int) (u : Int) (v : Int) (k : Int) : evR (ctxOf Try.prog noFacts (fun _ => false) libK1) Try.f7 [(.w (.one (.int .i64 x))), (.w (.one (.int .i64 y))), (.w (.one (.int .i64 u))), (.w (.one (.int .i64 v))), (.w (.one (.int .i64 k)))] [false, true, false, false, false, false, false, true, true] = some (AV.w (AW.one (AC.yes true)), (pickL [(i64B x, true), (i64B 2001, true), (i64B y, true), (i64B 1001, true), (i64B u, true), (i64B v, true), (i64B k, true), (i64B 4000000, true), (pW x == 0, false), (false, false), (pW u == 0, true), (qW v == 0, false), (!true, false), (atanE (qW y) (pW x) != 0, false), (atanE (qW v) (pW u) != 0, false), (atanE (IntKind.i64.wrap (nW k * qW y)) (IntKind.i64.wrap (nW k * pW x)) != 0, false), (atanV (qW y) (pW x) != atanV (IntKind.i64.wrap (nW k * qW y)) (IntKind.i64.wrap (nW k * pW x)), false), (qW y == 0, true), (decide (pW x < 0), true), (true, true)] [0, 1, 2, 3, 4, 1, 5, 3, 6, 7, 8, 8, 8, 9, 9, 9, 10, 10, 9, 10, 9, 11, 12, 12, 12, 13, 13, 13, 14, 14, 14, 15, 15, 15, 15, 16, 17, 17, 17, 18, 18, 18, 18, 18, 19])) := by kernel_rfl
set_option maxRecDepth 100000 in
theorem tturn_01000001001 (x : Int) (y : Int) (u : Int) (v : Int) (k : Int) : evR (ctxOf Try.prog noFacts (fun _ => false) libK1) Try.f7 [(.w (.one (.int .i64 x))), (.w (.one (.int .i64 y))), (.w (.one (.int .i64 u))), (.w (.one (.int .i64 v))), (.w (.one (.int .i64 k)))] [false, true, false, false, false, false, false, true, false, false, true] = some (AV.w (AW.one (AC.bool (decide (atanV (qW y) (pW x) ≤ atanV (qW v) (pW u))))), (pickL [(i64B x, true), (i64B 2001, true), (i64B y, true), (i64B 1001, true), (i64B u, true), (i64B v, true), (i64B k, true), (i64B 4000000, true), (pW x == 0, false), (false, false), (pW u == 0, true), (qW v == 0, false), (!true, false), (atanE (qW y) (pW x) != 0, false), (atanE (qW v) (pW u) != 0, false), (atanE (IntKind.i64.wrap (nW k * qW y)) (IntKind.i64.wrap (nW k * pW x)) != 0, false), (atanV (qW y) (pW x) != atanV (IntKind.i64.wrap (nW k * qW y)) (IntKind.i64.wrap (nW k * pW x)), false), (qW y == 0, true), (decide (pW x < 0), false), (decide (IntKind.i64.wrap (IntKind.i64.wrap (pW x * qW v) - IntKind.i64.wrap (qW y * pW u)) > 0), true)] [0, 1, 2, 3, 4, 1, 5, 3, 6, 7, 8, 8, 8, 9, 9, 9, 10, 10, 9, 10, 9, 11, 12, 12, 12, 13, 13, 13, 14, 14, 14, 15, 15, 15, 15, 16, 17, 17, 17, 18, 18, 18, 11, 11, 18, 11, 18, 9, 19])) := by kernel_rfl
set_option maxRecDepth 100000 in
theorem tturn_010000010001 (x : Int) (y : Int) (u : Int) (v : Int) (k : Int) : evR (ctxOf Try.prog noFacts (fun _ => false) libK1) Try.f7 [(.w (.one (.int .i64 x))), (.w (.one (.int .i64 y))), (.w (.one (.int .i64 u))), (.w (.one (.int .i64 v))), (.w (.one (.int .i64 k)))] [false, true, false, false, false, false, false, true, false, false, false, true] = some (AV.w (AW.one (AC.bool (decide (atanV (qW y) (pW x) ≥ atanV (qW v) (pW u))))), (pickL [(i64B x, true), (i64B 2001, true), (i64B y, true), (i64B 1001, true), (i64B u, true), (i64B v, true), (i64B k, true), (i64B 4000000, true), (pW x == 0, false), (false, false), (pW u == 0, true), (qW v == 0, false), (!true, false), (atanE (qW y) (pW x) != 0, false), (atanE (qW v) (pW u) != 0, false), (atanE (IntKind.i64.wrap (nW k * qW y)) (IntKind.i64.wrap (nW k * pW x)) != 0, false), (atanV (qW y) (pW x) != atanV (IntKind.i64.wrap (nW k * qW y)) (IntKind.i64.wrap (nW k * pW x)), false), (qW y == 0, true), (decide (pW x < 0), false), (decide (IntKind.i64.wrap (IntKind.i64.wrap (pW x * qW v) - IntKind.i64.wrap (qW y * pW u)) > 0), false), (decide (IntKind.i64.wrap (IntKind.i64.wrap (pW x * qW v) - IntKind.i64.wrap (qW y * pW u)) < 0), true)] [0, 1, 2, 3, 4, 1, 5, 3, 6, 7, 8, 8, 8, 9, 9, 9, 10, 10, 9, 10, 9, 11, 12, 12, 12, 13, 13, 13, 14, 14, 14, 15, 15, 15, 15, 16, 17, 17, 17, 18, 18, 18, 11, 11, 18, 11, 18, 9, 19, 20])) := by kernel_rfl
set_option maxRecDepth 100000 in
theorem tturn_010000010000 (x : Int) (y : Int) (u : Int) (v : Int) (k : Int) : evR (ctxOf Try.prog noFacts (fun _ => false) libK1) Try.f7 [(.w (.one (.int .i64 x))), (.w (.one (.int .i64 y))), (.w (.one (.int .i64 u))), (.w (.one (.int .i64 v))), (.w (.one (.int .i64 k)))] [false, true, false, false, false, false, false, true, false, false, false, false] = some (AV.w (AW.one (AC.bool (atanV (qW y) (pW x) == atanV (qW v) (pW u)))), (pickL [(i64B x, true), (i64B 2001, true), (i64B y, true), (i64B 1001, true), (i64B u, true), (i64B v, true), (i64B k, true), (i64B 4000000, true), (pW x == 0, false), (false, false), (pW u == 0, true), (qW v == 0, false), (!true, false), (atanE (qW y) (pW x) != 0, false), (atanE (qW v) (pW u) != 0, false), (atanE (IntKind.i64.wrap (nW k * qW y)) (IntKind.i64.wrap (nW k * pW x)) != 0, false), (atanV (qW y) (pW x) != atanV (IntKind.i64.wrap (nW k * qW y)) (IntKind.i64.wrap (nW k * pW x)), false), (qW y == 0, true), (decide (pW x < 0), false), (decide (IntKind.i64.wrap (IntKind.i64.wrap (pW x * qW v) - IntKind.i64.wrap (qW y * pW u)) > 0), false), (decide (IntKind.i64.wrap (IntKind.i64.wrap (pW x * qW v) - IntKind.i64.wrap (qW y * pW u)) < 0), false)] [0, 1, 2, 3, 4, 1, 5, 3, 6, 7, 8, 8, 8, 9, 9, 9, 10, 10, 9, 10, 9, 11, 12, 12, 12, 13, 13, 13, 14, 14, 14, 15, 15, 15, 15, 16, 17, 17, 17, 18, 18, 18, 11, 11, 18, 11, 18, 9, 19, 20])) := by kernel_rfl
set_option maxRecDepth 100000 in
theorem tturn_0100000001 (x : Int) (y : Int) (u : Int) (v : Int) (k : Int) : evR (ctxOf Try.prog noFacts (fun _ => false) libK1) Try.f7 [(.w (.one (.int .i64 x))), (.w (.one (.int .i64 y))), (.w (.one (.int .i64 u))), (.w (.one (.int .i64 v))), (.w (.one (.int .i64 k)))] [false, true, false, false, false, false, false, false, false, true] = some (AV.w (AW.one (AC.bool (decide (atanV (qW y) (pW x) ≤ atanV (qW v) (pW u))))), (pickL [(i64B x, true), (i64B 2001, true), (i64B y, true), (i64B 1001, true), (i64B u, true), (i64B v, true), (i64B k, true), (i64B 4000000, true), (pW x == 0, false), (false, false), (pW u == 0, true), (qW v == 0, false), (!true, false), (atanE (qW y) (pW x) != 0, false), (atanE (qW v) (pW u) != 0, false), (atanE (IntKind.i64.wrap (nW k * qW y)) (IntKind.i64.wrap (nW k * pW x)) != 0, false), (atanV (qW y) (pW x) != atanV (IntKind.i64.wrap (nW k * qW y)) (IntKind.i64.wrap (nW k * pW x)), false), (qW y == 0, false), (decide (IntKind.i64.wrap (IntKind.i64.wrap (pW x * qW v) - IntKind.i64.wrap (qW y * pW u)) > 0), true)] [0, 1, 2, 3, 4, 1, 5, 3, 6, 7, 8, 8, 8, 9, 9, 9, 10, 10, 9, 10, 9, 11, 12, 12, 12, 13, 13, 13, 14, 14, 14, 15, 15, 15, 15, 16, 17, 17, 17, 9, 9, 9, 11, 11, 9, 11, 9, 9, 18])) := by kernel_rfl
set_option maxRecDepth 100000 in
theorem tturn_01000000001 (x : Int) (y : Int) (u : Int) (v : Int) (k : Int) : evR (ctxOf Try.prog noFacts (fun _ => false) libK1) Try.f7 [(.w (.one (.int .i64 x))), (.w (.one (.int .i64 y))), (.w (.one (.int .i64 u))), (.w (.one (.int .i64 v))), (.w (.one (.int .i64 k)))] [false, true, false, false, false, false, false, false, false, false, true] = some (AV.w (AW.one (AC.bool (decide (atanV (qW y) (pW x) ≥ atanV (qW v) (pW u))))), (pickL [(i64B x, true), (i64B 2001, true), (i64B y, true), (i64B 1001, true), (i64B u, true), (i64B v, true), (i64B k, true), (i64B 4000000, true), (pW x == 0, false), (false, false), (pW u == 0, true), (qW v == 0, false), (!true, false), (atanE (qW y) (pW x) != 0, false), (atanE (qW v) (pW u) != 0, false), (atanE (IntKind.i64.wrap (nW k * qW y)) (IntKind.i64.wrap (nW k * pW x)) != 0, false), (atanV (qW y) (pW x) != atanV (IntKind.i64.wrap (nW k * qW y)) (IntKind.i64.wrap (nW k * pW x)), false), (qW y == 0, false), (decide (IntKind.i64.wrap (IntKind.i64.wrap (pW x * qW v) - IntKind.i64.wrap (qW y * pW u)) > 0), false), (decide (IntKind.i64.wrap (IntKind.i64.wrap (pW x * qW v) - IntKind.i64.wrap (qW y * pW u)) < 0), true)] [0, 1, 2, 3, 4, 1, 5, 3, 6, 7, 8, 8, 8, 9, 9, 9, 10, 10, 9, 10, 9, 11, 12, 12, 12, 13, 13, 13, 14, 14, 14, 15, 15, 15, 15, 16, 17, 17, 17, 9, 9, 9, 11, 11, 9, 11, 9, 9, 18, 19])) := by kernel_rfl
set_option maxRecDepth 100000 in
theorem tturn_01000000000 (x : Int) (y : Int) (u : Int) (v : Int) (k : Int) : evR (ctxOf Try.prog noFacts (fun _ => false) libK1) Try.f7 [(.w (.one (.int .i64 x))), (.w (.one (.int .i64 y))), (.w (.one (.int .i64 u))), (.w (.one (.int .i64 v))), (.w (.one (.int .i64 k)))] [false, true, false, false, false, false, false, false, false, false, false] = some (AV.w (AW.one (AC.bool (atanV (qW y) (pW x) == atanV (qW v) (pW u)))), (pickL [(i64B x, true), (i64B 2001, true), (i64B y, true), (i64B 1001, true), (i64B u, true), (i64B v, true), (i64B k, true), (i64B 4000000, true), (pW x == 0, false), (false, false), (pW u == 0, true), (qW v == 0, false), (!true, false), (atanE (qW y) (pW x) != 0, false), (atanE (qW v) (pW u) != 0, false), (atanE (IntKind.i64.wrap (nW k * qW y)) (IntKind.i64.wrap (nW k * pW x)) != 0, false), (atanV (qW y) (pW x) != atanV (IntKind.i64.wrap (nW k * qW y)) (IntKind.i64.wrap (nW k * pW x)), false), (qW y == 0, false), (decide (IntKind.i64.wrap (IntKind.i64.wrap (pW x * qW v) - IntKind.i64.wrap (qW y * pW u)) > 0), false), (decide (IntKind.i64.wrap (IntKind.i64.wrap (pW x * qW v) - IntKind.i64.wrap (qW y * pW u)) < 0), false)] [0, 1, 2, 3, 4, 1, 5, 3, 6, 7, 8, 8, 8, 9, 9, 9, 10, 10, 9, 10, 9, 11, 12, 12, 12, 13, 13, 13, 14, 14, 14, 15, 15, 15, 15, 16, 17, 17, 17, 9, 9, 9, 11, 11, 9, 11, 9, 9, 18, 19])) := by kernel_rfl
set_option maxRecDepth 100000 in
theorem tturn_00000011 (x : Int) (y : Int) (u : Int) (v : Int) (k : Int) : evR (ctxOf Try.prog noFacts (fun _ => false) libK1) Try.f7 [(.w (.one (.int .i64 x))), (.w (.one (.int .i64 y))), (.w (.one (.int .i64 u))), (.w (.one (.int .i64 v))), (.w (.one (.int .i64 k)))] [false, false, false, false, false, false, true, true] = some (AV.w (AW.one (AC.yes true)), (pickL [(i64B x, true), (i64B 2001, true), (i64B y, true), (i64B 1001, true), (i64B u, true), (i64B v, true), (i64B k, true), (i64B 4000000, true), (pW x == 0, false), (false, false), (pW u == 0, false), (!true, false), (atanE (qW y) (pW x) != 0, false), (atanE (qW v) (pW u) != 0, false), (atanE (IntKind.i64.wrap (nW k * qW y)) (IntKind.i64.wrap (nW k * pW x)) != 0, false), (atanV (qW y) (pW x) != atanV (IntKind.i64.wrap (nW k * qW y)) (IntKind.i64.wrap (nW k * pW x)), false), (qW y == 0, true), (decide (pW x < 0), true), (true, true)] [0, 1, 2, 3, 4, 1, 5, 3, 6, 7, 8, 8, 8, 9, 9, 9, 10, 10, 9, 10, 9, 9, 11, 11, 11, 12, 12, 12, 13, 13, 13, 14, 14, 14, 14, 15, 16, 16, 16, 17, 17, 17, 17, 17, 18])) := by kernel_rfl
set_option maxRecDepth 100000 in
theorem tturn_0000001011 (x : Int) (y : Int) (u : Int) (v : Int) (k : Int) : evR (ctxOf Try.prog noFacts (fun _ => false) libK1) Try.f7 [(.w (.one (.int .i64 x))), (.w (.one (.int .i64 y))), (.w (.one (.int .i64 u))), (.w (.one (.int .i64 v))), (.w (.one (.int .i64 k)))] [false, false, false, false, false, false, true, false, true, true] = some (AV.w (AW.one (AC.yes true)), (pickL [(i64B x, true), (i64B 2001, true), (i64B y, true), (i64B 1001, true), (i64B u, true), (i64B v, true), (i64B k, true), (i64B 4000000, true), (pW x == 0, false), (false, false), (pW u == 0, false), (!true, false), (atanE (qW y) (pW x) != 0, false), (atanE (qW v) (pW u) != 0, false), (atanE (IntKind.i64.wrap (nW k * qW y)) (IntKind.i64.wrap (nW k * pW x)) != 0, false), (atanV (qW y) (pW x) != atanV (IntKind.i64.wrap (nW k * qW y)) (IntKind.i64.wrap (nW k * pW x)), false), (qW y == 0, true), (decide (pW x < 0), false), (qW v == 0, true), (decide (pW u < 0), true)] [0, 1, 2, 3, 4, 1, 5, 3, 6, 7, 8, 8, 8, 9, 9, 9, 10, 10, 9, 10, 9, 9, 11, 11, 11, 12, 12, 12, 13, 13, 13, 14, 14, 14, 14, 15, 16, 16, 16, 17, 17, 17, 18, 18, 17, 18, 17, 19])) := by kernel_rfl
set_option maxRecDepth 100000 in
theorem tturn_00000010101 (x : Int) (y : Int) (u : Int) (v : Int) (k : Int) : evR (ctxOf Try.prog noFacts (fun _ => false) libK1) Try.f7 [(.w (.one (.int .i64 x))), (.w (.one (.int .i64 y))), (.w (.one (.int .i64 u))), (.w (.one (.int .i64 v))), (.w (.one (.int .i64 k)))] [false, false, false, false, false, false, true, false, true, false, true] = some (AV.w (AW.one (AC.bool (decide (atanV (qW y) (pW x) ≤ atanV (qW v) (pW u))))), (pickL [(i64B x, true), (i64B 2001, true), (i64B y, true), (i64B 1001, true), (i64B u, true), (i64B v, true), (i64B k, true), (i64B 4000000, true), (pW x == 0, false), (false, false), (pW u == 0, false), (!true, false), (atanE (qW y) (pW x) != 0, false), (atanE (qW v) (pW u) != 0, false), (atanE (IntKind.i64.wrap (nW k * qW y)) (IntKind.i64.wrap (nW k * pW x)) != 0, false), (atanV (qW y) (pW x) != atanV (IntKind.i64.wrap (nW k * qW y)) (IntKind.i64.wrap (nW k * pW x)), false), (qW y == 0, true), (decide (pW x < 0), false), (qW v == 0, true), (decide (pW u < 0), false), (decide (IntKind.i64.wrap (IntKind.i64.wrap (pW x * qW v) - IntKind.i64.wrap (qW y * pW u)) > 0), true)] [0, 1, 2, 3, 4, 1, 5, 3, 6, 7, 8, 8, 8, 9, 9, 9, 10, 10, 9, 10, 9, 9, 11, 11, 11, 12, 12, 12, 13, 13, 13, 14, 14, 14, 14, 15, 16, 16, 16, 17, 17, 17, 18, 18, 17, 18, 17, 19, 20])) := by kernel_rfl
set_option maxRecDepth 100000 in
theorem tturn_000000101001 (x : Int) (y : Int) (u : Int) (v : Int) (k : Int) : evR (ctxOf Try.prog noFacts (fun _ => false) libK1) Try.f7 [(.w (.one (.int .i64 x))), (.w (.one (.int .i64 y))), (.w (.one (.int .i64 u))), (.w (.one (.int .i64 v))), (.w (.one (.int .i64 k)))] [false, false, false, false, false, false, true, false, true, false, false, true] = some (AV.w (AW.one (AC.bool (decide (atanV (qW y) (pW x) ≥ atanV (qW v) (pW u))))), (pickL [(i64B x, true), (i64B 2001, true), (i64B y, true), (i64B 1001, true), (i64B u, true), (i64B v, true), (i64B k, true), (i64B 4000000, true), (pW x == 0, false), (false, false), (pW u == 0, false), (!true, false), (atanE (qW y) (pW x) != 0, false), (atanE (qW v) (pW u) != 0, false), (atanE (IntKind.i64.wrap (nW k * qW y)) (IntKind.i64.wrap (nW k * pW x)) != 0, false), (atanV (qW y) (pW x) != atanV (IntKind.i64.wrap (nW k * qW y)) (IntKind.i64.wrap (nW k * pW x)), false), (qW y == 0, true), (decide (pW x < 0), false), (qW v == 0, true), (decide (pW u < 0), false), (decide (IntKind.i64.wrap (IntKind.i64.wrap (pW x * qW v) - IntKind.i64.wrap (qW y * pW u)) > 0), false), (decide (IntKind.i64.wrap (IntKind.i64.wrap (pW x * qW v) - IntKind.i64.wrap (qW y * pW u)) < 0), true)] [0, 1, 2, 3, 4, 1, 5, 3, 6, 7, 8, 8, 8, 9, 9, 9, 10, 10, 9, 10, 9, 9, 11, 11, 11, 12, 12, 12, 13, 13, 13, 14, 14, 14, 14, 15, 16, 16, 16, 17, 17, 17, 18, 18, 17, 18, 17, 19, 20, 21])) := by kernel_rfl
set_option maxRecDepth 100000 in
theorem tturn_000000101000 (x : Int) (y : Int) (u : Int) (v : Int) (k : Int) : evR (ctxOf Try.prog noFacts (fun _ => false) libK1) Try.f7 [(.w (.one (.int .i64 x))), (.w (.one (.int .i64 y))), (.w (.one (.int .i64 u))), (.w (.one (.int .i64 v))), (.w (.one (.int .i64 k)))] [false, false, false, false, false, false, true, false, true, false, false, false] = some (AV.w (AW.one (AC.bool (atanV (qW y) (pW x) == atanV (qW v) (pW u)))), (pickL [(i64B x, true), (i64B 2001, true), (i64B y, true), (i64B 1001, true), (i64B u, true), (i64B v, true), (i64B k, true), (i64B 4000000, true), (pW x == 0, false), (false, false), (pW u == 0, false), (!true, false), (atanE (qW y) (pW x) != 0, false), (atanE (qW v) (pW u) != 0, false), (atanE (IntKind.i64.wrap (nW k * qW y)) (IntKind.i64.wrap (nW k * pW x)) != 0, false), (atanV (qW y) (pW x) != atanV (IntKind.i64.wrap (nW k * qW y)) (IntKind.i64.wrap (nW k * pW x)), false), (qW y == 0, true), (decide (pW x < 0), false), (qW v == 0, true), (decide (pW u < 0), false), (decide (IntKind.i64.wrap (IntKind.i64.wrap (pW x * qW v) - IntKind.i64.wrap (qW y * pW u)) > 0), false), (decide (IntKind.i64.wrap (IntKind.i64.wrap (pW x * qW v) - IntKind.i64.wrap (qW y * pW u)) < 0), false)] [0, 1, 2, 3, 4, 1, 5, 3, 6, 7, 8, 8, 8, 9, 9, 9, 10, 10, 9, 10, 9, 9, 11, 11, 11, 12, 12, 12, 13, 13, 13, 14, 14, 14, 14, 15, 16, 16, 16, 17, 17, 17, 18, 18, 17, 18, 17, 19, 20, 21])) := by kernel_rfl
set_option maxRecDepth 100000 in
theorem tturn_0000001001 (x : Int) (y : Int) (u : Int) (v : Int) (k : Int) : evR (ctxOf Try.prog noFacts (fun _ => false) libK1) Try.f7 [(.w (.one (.int .i64 x))), (.w (.one (.int .i64 y))), (.w (.one (.int .i64 u))), (.w (.one (.int .i64 v))), (.w (.one (.int .i64 k)))] [false, false, false, false, false, false, true, false, false, true] = some (AV.w (AW.one (AC.bool (decide (atanV (qW y) (pW x) ≤ atanV (qW v) (pW u))))), (pickL [(i64B x, true), (i64B 2001, true), (i64B y, true), (i64B 1001, true), (i64B u, true), (i64B v, true), (i64B k, true), (i64B 4000000, true), (pW x == 0, false), (false, false), (pW u == 0, false), (!true, false), (atanE (qW y) (pW x) != 0, false), (atanE (qW v) (pW u) != 0, false), (atanE (IntKind.i64.wrap (nW k * qW y)) (IntKind.i64.wrap (nW k * pW x)) != 0, false), (atanV (qW y) (pW x) != atanV (IntKind.i64.wrap (nW k * qW y)) (IntKind.i64.wrap (nW k * pW x)), false), (qW y == 0, true), (decide (pW x < 0), false), (qW v == 0, false), (decide (IntKind.i64.wrap (IntKind.i64.wrap (pW x * qW v) - IntKind.i64.wrap (qW y * pW u)) > 0), true)] [0, 1, 2, 3, 4, 1, 5, 3, 6, 7, 8, 8, 8, 9, 9, 9, 10, 10, 9, 10, 9, 9, 11, 11, 11, 12, 12, 12, 13, 13, 13, 14, 14, 14, 14, 15, 16, 16, 16, 17, 17, 17, 18, 18, 17, 18, 17, 9, 19])) := by kernel_rfl
set_option maxRecDepth 100000 in
theorem tturn_00000010001 (x : Int) (y : Int) (u : Int) (v : Int) (k : Int) : evR (ctxOf Try.prog noFacts (fun _ => false) libK1) Try.f7 [(.w (.one (.int .i64 x))), (.w (.one (.int .i64 y))), (.w (.one (.int .i64 u))), (.w (.one (.int .i64 v))), (.w (.one (.int .i64 k)))] [false, false, false, false, false, false, true, false, false, false, true] = some (AV.w (AW.one (AC.bool (decide (atanV (qW y) (pW x) ≥ atanV (qW v) (pW u))))), (pickL [(i64B x, true), (i64B 2001, true), (i64B y, true), (i64B 1001, true), (i64B u, true), (i64B v, true), (i64B k, true), (i64B 4000000, true), (pW x == 0, false), (false, false), (pW u == 0, false), (!true, false), (atanE (qW y) (pW x) != 0, false), (atanE (qW v) (pW u) != 0, false), (atanE (IntKind.i64.wrap (nW k * qW y)) (IntKind.i64.wrap (nW k * pW x)) != 0, false), (atanV (qW y) (pW x) != atanV (IntKind.i64.wrap (nW k * qW y)) (IntKind.i64.wrap (nW k * pW x)), false), (qW y == 0, true), (decide (pW x < 0), false), (qW v == 0, false), (decide (IntKind.i64.wrap (IntKind.i64.wrap (pW x * qW v) - IntKind.i64.wrap (qW y * pW u)) > 0), false), (decide (IntKind.i64.wrap (IntKind.i64.wrap (pW x * qW v) - IntKind.i64.wrap (qW y * pW u)) < 0), true)] [0, 1, 2, 3, 4, 1, 5, 3, 6, 7, 8, 8, 8, 9, 9, 9, 10, 10, 9, 10, 9, 9, 11, 11, 11, 12, 12, 12, 13, 13, 13, 14, 14, 14, 14, 15, 16, 16, 16, 17, 17, 17, 18, 18, 17, 18, 17, 9, 19, 20])) := by kernel_rfl
set_option maxRecDepth 100000 in
theorem tturn_00000010000 (x : Int) (y : Int) (u : Int) (v : Int) (k : Int) : evR (ctxOf Try.prog noFacts (fun _ => false) libK1) Try.f7 [(.w (.one (.int .i64 x))), (.w (.one (.int .i64 y))), (.w (.one (.int .i64 u))), (.w (.one (.int .i64 v))), (.w (.one (.int .i64 k)))] [false, false, false, false, false, false, true, false, false, false, false] = some (AV.w (AW.one (AC.bool (atanV (qW y) (pW x) == atanV (qW v) (pW u)))), (pickL [(i64B x, true), (i64B 2001, true), (i64B y, true), (i64B 1001, true), (i64B u, true), (i64B v, true), (i64B k, true), (i64B 4000000, true), (pW x == 0, false), (false, false), (pW u == 0, false), (!true, false), (atanE (qW y) (pW x) != 0, false), (atanE (qW v) (pW u) != 0, false), (atanE (IntKind.i64.wrap (nW k * qW y)) (IntKind.i64.wrap (nW k * pW x)) != 0, false), (atanV (qW y) (pW x) != atanV (IntKind.i64.wrap (nW k * qW y)) (IntKind.i64.wrap (nW k * pW x)), false), (qW y == 0, true), (decide (pW x < 0), false), (qW v == 0, false), (decide (IntKind.i64.wrap (IntKind.i64.wrap (pW x * qW v) - IntKind.i64.wrap (qW y * pW u)) > 0), false), (decide (IntKind.i64.wrap (IntKind.i64.wrap (pW x * qW v) - IntKind.i64.wrap (qW y * pW u)) < 0), false)] [0, 1, 2, 3, 4, 1, 5, 3, 6, 7, 8, 8, 8, 9, 9, 9, 10, 10, 9, 10, 9, 9, 11, 11, 11, 12, 12, 12, 13, 13, 13, 14, 14, 14, 14, 15, 16, 16, 16, 17, 17, 17, 18, 18, 17, 18, 17, 9, 19, 20])) := by kernel_rfl
set_option maxRecDepth 100000 in
theorem tturn_000000011 (x : Int) (y : Int) (u : Int) (v : Int) (k : Int) : evR (ctxOf Try.prog noFacts (fun _ => false) libK1) Try.f7 [(.w (.one (.int .i64 x))), (.w (.one (.int .i64 y))), (.w (.one (.int .i64 u))), (.w (.one (.int .i64 v))), (.w (.one (.int .i64 k)))] [false, false, false, false, false, false, false, true, true] = some (AV.w (AW.one (AC.yes true)), (pickL [(i64B x, true), (i64B 2001, true), (i64B y, true), (i64B 1001, true), (i64B u, true), (i64B v, true), (i64B k, true), (i64B 4000000, true), (pW x == 0, false), (false, false), (pW u == 0, false), (!true, false), (atanE (qW y) (pW x) != 0, false), (atanE (qW v) (pW u) != 0, false), (atanE (IntKind.i64.wrap (nW k * qW y)) (IntKind.i64.wrap (nW k * pW x)) != 0, false), (atanV (qW y) (pW x) != atanV (IntKind.i64.wrap (nW k * qW y)) (IntKind.i64.wrap (nW k * pW x)), false), (qW y == 0, false), (qW v == 0, true), (decide (pW u < 0), true)] [0, 1, 2, 3, 4, 1, 5, 3, 6, 7, 8, 8, 8, 9, 9, 9, 10, 10, 9, 10, 9, 9, 11, 11, 11, 12, 12, 12, 13, 13, 13, 14, 14, 14, 14, 15, 16, 16, 16, 9, 9, 9, 17, 17, 9, 17, 9, 18])) := by kernel_rfl
set_option maxRecDepth 100000 in
theorem tturn_0000000101 (x : Int) (y : Int) (u : Int) (v : Int) (k : Int) : evR (ctxOf Try.prog noFacts (fun _ => false) libK1) Try.f7 [(.w (.one (.int .i64 x))), (.w (.one (.int .i64 y))), (.w (.one (.int .i64 u))), (.w (.one (.int .i64 v))), (.w (.one (.int .i64 k)))] [false, false, false, false, false, false, false, true, false, true] = some (AV.w (AW.one (AC.bool (decide (atanV (qW y) (pW x) ≤ atanV (qW v) (pW u))))), (pickL [(i64B x, true), (i64B 2001, true), (i64B y, true), (i64B 1001, true), (i64B u, true), (i64B v, true), (i64B k, true), (i64B 4000000, true), (pW x == 0, false), (false, false), (pW u == 0, false), (!true, false), (atanE (qW y) (pW x) != 0, false), (atanE (qW v) (pW u) != 0, false), (atanE (IntKind.i64.wrap (nW k * qW y)) (IntKind.i64.wrap (nW k * pW x)) != 0, false), (atanV (qW y) (pW x) != atanV (IntKind.i64.wrap (nW k * qW y)) (IntKind.i64.wrap (nW k * pW x)), false), (qW y == 0, false), (qW v == 0, true), (decide (pW u < 0), false), (decide (IntKind.i64.wrap (IntKind.i64.wrap (pW x * qW v) - IntKind.i64.wrap (qW y * pW u)) > 0), true)] [0, 1, 2, 3, 4, 1, 5, 3, 6, 7, 8, 8, 8, 9, 9, 9, 10, 10, 9, 10, 9, 9, 11, 11, 11, 12, 12, 12, 13, 13, 13, 14, 14, 14, 14, 15, 16, 16, 16, 9, 9, 9, 17, 17, 9, 17, 9, 18, 19])) := by kernel_rfl
set_option maxRecDepth 100000 in
theorem tturn_00000001001 (x : Int) (y : Int) (u : Int) (v : Int) (k : Int) : evR (ctxOf Try.prog noFacts (fun _ => false) libK1) Try.f7 [(.w (.one (.int .i64 x))), (.w (.one (.int .i64 y))), (.w (.one (.int .i64 u))), (.w (.one (.int .i64 v))), (.w (.one (.int .i64 k)))] [false, false, false, false, false, false, false, true, false, false, true] = some (AV.w (AW.one (AC.bool (decide (atanV (qW y) (pW x) ≥ atanV (qW v) (pW u))))), (pickL [(i64B x, true), (i64B 2001, true), (i64B y, true), (i64B 1001, true), (i64B u, true), (i64B v, true), (i64B k, true), (i64B 4000000, true), (pW x == 0, false), (false, false), (pW u == 0, false), (!true, false), (atanE (qW y) (pW x) != 0, false), (atanE (qW v) (pW u) != 0, false), (atanE (IntKind.i64.wrap (nW k * qW y)) (IntKind.i64.wrap (nW k * pW x)) != 0, false), (atanV (qW y) (pW x) != atanV (IntKind.i64.wrap (nW k * qW y)) (IntKind.i64.wrap (nW k * pW x)), false), (qW y == 0, false), (qW v == 0, true), (decide (pW u < 0), false), (decide (IntKind.i64.wrap (IntKind.i64.wrap (pW x * qW v) - IntKind.i64.wrap (qW y * pW u)) > 0), false), (decide (IntKind.i64.wrap (IntKind.i64.wrap (pW x * qW v) - IntKind.i64.wrap (qW y * pW u)) < 0), true)] [0, 1, 2, 3, 4, 1, 5, 3, 6, 7, 8, 8, 8, 9, 9, 9, 10, 10, 9, 10, 9, 9, 11, 11, 11, 12, 12, 12, 13, 13, 13, 14, 14, 14, 14, 15, 16, 16, 16, 9, 9, 9, 17, 17, 9, 17, 9, 18, 19, 20])) := by kernel_rfl
set_option maxRecDepth 100000 in
theorem tturn_00000001000 (x : Int) (y : Int) (u : Int) (v : Int) (k : Int) : evR (ctxOf Try.prog noFacts (fun _ => false) libK1) Try.f7 [(.w (.one (.int .i64 x))), (.w (.one (.int .i64 y))), (.w (.one (.int .i64 u))), (.w (.one (.int .i64 v))), (.w (.one (.int .i64 k)))] [false, false, false, false, false, false, false, true, false, false, false] = some (AV.w (AW.one (AC.bool (atanV (qW y) (pW x) == atanV (qW v) (pW u)))), (pickL [(i64B x, true), (i64B 2001, true), (i64B y, true), (i64B 1001, true), (i64B u, true), (i64B v, true), (i64B k, true), (i64B 4000000, true), (pW x == 0, false), (false, false), (pW u == 0, false), (!true, false), (atanE (qW y) (pW x) != 0, false), (atanE (qW v) (pW u) != 0, false), (atanE (IntKind.i64.wrap (nW k * qW y)) (IntKind.i64.wrap (nW k * pW x)) != 0, false), (atanV (qW y) (pW x) != atanV (IntKind.i64.wrap (nW k * qW y)) (IntKind.i64.wrap (nW k * pW x)), false), (qW y == 0, false), (qW v == 0, true), (decide (pW u < 0), false), (decide (IntKind.i64.wrap (IntKind.i64.wrap (pW x * qW v) - IntKind.i64.wrap (qW y * pW u)) > 0), false), (decide (IntKind.i64.wrap (IntKind.i64.wrap (pW x * qW v) - IntKind.i64.wrap (qW y * pW u)) < 0), false)] [0, 1, 2, 3, 4, 1, 5, 3, 6, 7, 8, 8, 8, 9, 9, 9, 10, 10, 9, 10, 9, 9, 11, 11, 11, 12, 12, 12, 13, 13, 13, 14, 14, 14, 14, 15, 16, 16, 16, 9, 9, 9, 17, 17, 9, 17, 9, 18, 19, 20])) := by kernel_rfl
set_option maxRecDepth 100000 in
theorem tturn_000000001 (x : Int) (y : Int) (u : Int) (v : Int) (k : Int) : evR (ctxOf Try.prog noFacts (fun _ => false) libK1) Try.f7 [(.w (.one (.int .i64 x))), (.w (.one (.int .i64 y))), (.w (.one (.int .i64 u))), (.w (.one (.int .i64 v))), (.w (.one (.int .i64 k)))] [false, false, false, false, false, false, false, false, true] = some (AV.w (AW.one (AC.bool (decide (atanV (qW y) (pW x) ≤ atanV (qW v) (pW u))))), (pickL [(i64B x, true), (i64B 2001, true), (i64B y, true), (i64B 1001, true), (i64B u, true), (i64B v, true), (i64B k, true), (i64B 4000000, true), (pW x == 0, false), (false, false), (pW u == 0, false), (!true, false), (atanE (qW y) (pW x) != 0, false), (atanE (qW v) (pW u) != 0, false), (atanE (IntKind.i64.wrap (nW k * qW y)) (IntKind.i64.wrap (nW k * pW x)) != 0, false), (atanV (qW y) (pW x) != atanV (IntKind.i64.wrap (nW k * qW y)) (IntKind.i64.wrap (nW k * pW x)), false), (qW y == 0, false), (qW v == 0, false), (decide (IntKind.i64.wrap (IntKind.i64.wrap (pW x * qW v) - IntKind.i64.wrap (qW y * pW u)) > 0), true)] [0, 1, 2, 3, 4, 1, 5, 3, 6, 7, 8, 8, 8, 9, 9, 9, 10, 10, 9, 10, 9, 9, 11, 11, 11, 12, 12, 12, 13, 13, 13, 14, 14, 14, 14, 15, 16, 16, 16, 9, 9, 9, 17, 17, 9, 17, 9, 9, 18])) := by kernel_rfl
set_option maxRecDepth 100000 in
theorem tturn_0000000001 (x : Int) (y : Int) (u : Int) (v : Int) (k : Int) : evR (ctxOf Try.prog noFacts (fun _ => false) libK1) Try.f7 [(.w (.one (.int .i64 x))), (.w (.one (.int .i64 y))), (.w (.one (.int .i64 u))), (.w (.one (.int .i64 v))), (.w (.one (.int .i64 k)))] [false, false, false, false, false, false, false, false, false, true] = some (AV.w (AW.one (AC.bool (decide (atanV (qW y) (pW x) ≥ atanV (qW v) (pW u))))), (pickL [(i64B x, true), (i64B 2001, true), (i64B y, true), (i64B 1001, true), (i64B u, true), (i64B v, true), (i64B k, true), (i64B 4000000, true), (pW x == 0, false), (false, false), (pW u == 0, false), (!true, false), (atanE (qW y) (pW x) != 0, false), (atanE (qW v) (pW u) != 0, false), (atanE (IntKind.i64.wrap (nW k * qW y)) (IntKind.i64.wrap (nW k * pW x)) != 0, false), (atanV (qW y) (pW x) != atanV (IntKind.i64.wrap (nW k * qW y)) (IntKind.i64.wrap (nW k * pW x)), false), (qW y == 0, false), (qW v == 0, false), (decide (IntKind.i64.wrap (IntKind.i64.wrap (pW x * qW v) - IntKind.i64.wrap (qW y * pW u)) > 0), false), (decide (IntKind.i64.wrap (IntKind.i64.wrap (pW x * qW v) - IntKind.i64.wrap (qW y * pW u)) < 0), true)] [0, 1, 2, 3, 4, 1, 5, 3, 6, 7, 8, 8, 8, 9, 9, 9, 10, 10, 9, 10, 9, 9, 11, 11, 11, 12, 12, 12, 13, 13, 13, 14, 14, 14, 14, 15, 16, 16, 16, 9, 9, 9, 17, 17, 9, 17, 9, 9, 18, 19])) := by kernel_rfl
set_option maxRecDepth 100000 in
theorem tturn_0000000000 (x : Int) (y : Int) (u : Int) (v : Int) (k : Int) : evR (ctxOf Try.prog noFacts (fun _ => false) libK1) Try.f7 [(.w (.one (.int .i64 x))), (.w (.one (.int .i64 y))), (.w (.one (.int .i64 u))), (.w (.one (.int .i64 v))), (.w (.one (.int .i64 k)))] [false, false, false, false, false, false, false, false, false, false] = some (AV.w (AW.one (AC.bool (atanV (qW y) (pW x) == atanV (qW v) (pW u)))), (pickL [(i64B x, true), (i64B 2001, true), (i64B y, true), (i64B 1001, true), (i64B u, true), (i64B v, true), (i64B k, true), (i64B 4000000, true), (pW x == 0, false), (false, false), (pW u == 0, false), (!true, false), (atanE (qW y) (pW x) != 0, false), (atanE (qW v) (pW u) != 0, false), (atanE (IntKind.i64.wrap (nW k * qW y)) (IntKind.i64.wrap (nW k * pW x)) != 0, false), (atanV (qW y) (pW x) != atanV (IntKind.i64.wrap (nW k * qW y)) (IntKind.i64.wrap (nW k * pW x)), false), (qW y == 0, false), (qW v == 0, false), (decide (IntKind.i64.wrap (IntKind.i64.wrap (pW x * qW v) - IntKind.i64.wrap (qW y * pW u)) > 0), false), (decide (IntKind.i64.wrap (IntKind.i64.wrap (pW x * qW v) - IntKind.i64.wrap (qW y * pW u)) < 0), false)] [0, 1, 2, 3, 4, 1, 5, 3, 6, 7, 8, 8, 8, 9, 9, 9, 10, 10, 9, 10, 9, 9, 11, 11, 11, 12, 12, 12, 13, 13, 13, 14, 14, 14, 14, 15, 16, 16, 16, 9, 9, 9, 17, 17, 9, 17, 9, 9, 18, 19])) := by kernel_rfl
set_option maxRecDepth 100000 in
set_option maxHeartbeats 4000000 in
theorem trigTurns_law (x : Int) (x1 : -9223372036854775808 ≤ x) (x2 : x ≤ 9223372036854775807) (y : Int) (y1 : -9223372036854775808 ≤ y) (y2 : y ≤ 9223372036854775807) (u : Int) (u1 : -9223372036854775808 ≤ u) (u2 : u ≤ 9223372036854775807) (v : Int) (v1 : -9223372036854775808 ≤ v) (v2 : v ≤ 9223372036854775807) (k : Int) (k1 : -9223372036854775808 ≤ k) (k2 : k ≤ 9223372036854775807) (w : World) : Calls Try.prog 7 #[.int .i64 x, .int .i64 y, .int .i64 u, .int .i64 v, .int .i64 k] w fun e w' => e = .returned (.bool true) ∧ Below w.heap.size w w' := by
  have i_x : i64B x = true := i64B_iff.2 ⟨x1, x2⟩
  have i_y : i64B y = true := i64B_iff.2 ⟨y1, y2⟩
  have i_u : i64B u = true := i64B_iff.2 ⟨u1, u2⟩
  have i_v : i64B v = true := i64B_iff.2 ⟨v1, v2⟩
  have i_k : i64B k = true := i64B_iff.2 ⟨k1, k2⟩
  clear x1 x2 y1 y2 u1 u2 v1 v2 k1 k2
  have ip := pW_in x
  obtain ⟨p, hp⟩ : ∃ z, pW x = z := ⟨_, rfl⟩
  rw [hp] at ip
  have iq := qW_in y
  obtain ⟨q, hq⟩ : ∃ z, qW y = z := ⟨_, rfl⟩
  rw [hq] at iq
  have ir := pW_in u
  obtain ⟨r, hr⟩ : ∃ z, pW u = z := ⟨_, rfl⟩
  rw [hr] at ir
  have is_ := qW_in v
  obtain ⟨s, hs⟩ : ∃ z, qW v = z := ⟨_, rfl⟩
  rw [hs] at is_
  have in_ := nW_in k
  obtain ⟨n, hn⟩ : ∃ z, nW k = z := ⟨_, rfl⟩
  rw [hn] at in_
  have m1 := mul_bd (x := n) (X := 4000000) (y := q) (Y := 1000) (by omega) (by omega)
  have m2 := mul_bd (x := n) (X := 4000000) (y := p) (Y := 1000) (by omega) (by omega)
  have m3 := mul_bd (x := p) (X := 1000) (y := s) (Y := 1000) (by omega) (by omega)
  have m4 := mul_bd (x := q) (X := 1000) (y := r) (Y := 1000) (by omega) (by omega)
  have W1 := i64w (x := n * q) (by omega) (by omega)
  have W2 := i64w (x := n * p) (by omega) (by omega)
  have W3 := i64w (x := p * s) (by omega) (by omega)
  have W4 := i64w (x := q * r) (by omega) (by omega)
  have W5 := i64w (x := p * s - q * r) (by omega) (by omega)
  clear m1 m2 m3 m4
  cases k0 : (p == 0) with
  | true =>
    cases k1 : (q == 0) with
    | true =>
      have L := tturn_11 x y u v k
      rw [hp] at L
      try rw [hq] at L
      refine evR_calls (I := noFacts) (v := .bool true) (ctxOf_ok libK1_ok (eq_none _)) (by kernel_rfl) Try.func7 rfl lps_nil L rfl (all2_R (.cons rfl (.cons rfl (.cons rfl (.cons rfl (.cons rfl .nil)))))) rfl _ (Nat.zero_le _) (pickL_ok ?_ _)
      repeat' (first | exact cd_nil | refine cd_cons ?_ ?_)
      all_goals first | rfl | with_reducible assumption
    | false =>
      cases k2 : (r == 0) with
      | true =>
        cases k3 : (s == 0) with
        | true =>
          have L := tturn_1011 x y u v k
          rw [hp] at L
          try rw [hq] at L
          rw [hr, hs] at L
          refine evR_calls (I := noFacts) (v := .bool true) (ctxOf_ok libK1_ok (eq_none _)) (by kernel_rfl) Try.func7 rfl lps_nil L rfl (all2_R (.cons rfl (.cons rfl (.cons rfl (.cons rfl (.cons rfl .nil)))))) rfl _ (Nat.zero_le _) (pickL_ok ?_ _)
          repeat' (first | exact cd_nil | refine cd_cons ?_ ?_)
          all_goals first | rfl | with_reducible assumption
        | false =>
          cases k4 : (decide (p * s - q * r > 0)) with
          | true =>
            have L := tturn_10100000001 x y u v k
            rw [hp] at L
            try rw [hq] at L
            rw [hr, hs] at L
            rw [hn, W1, W2] at L
            rw [W3, W4, W5] at L
            have h1 : ¬ (p = 0 ∧ q = 0) := by clear L; simp only [beq_iff_eq, beq_eq_false_iff_ne, ne_eq, bne_iff_ne, bne_eq_false_iff_eq, decide_eq_true_eq, decide_eq_false_iff_not] at *; omega
            have h2 : ¬ (r = 0 ∧ s = 0) := by clear L; simp only [beq_iff_eq, beq_eq_false_iff_ne, ne_eq, bne_iff_ne, bne_eq_false_iff_eq, decide_eq_true_eq, decide_eq_false_iff_not] at *; omega
            obtain ⟨T1, T2, T3⟩ := turn_n ip iq in_ h1
            have T4 := (turn_n ir is_ in_ h2).1
            have c1 : (atanE q p != 0) = false := by rw [T1]; rfl
            have c2 : (atanE s r != 0) = false := by rw [T4]; rfl
            have c3 : (atanE (n * q) (n * p) != 0) = false := by rw [T2]; rfl
            have c4 : (atanV q p != atanV (n * q) (n * p)) = false := by rw [T3]; exact bne_self_eq_false _
            have V : (decide (atanV q p ≤ atanV s r)) = true := by
              clear L c1 c2 c3 c4 T1 T2 T3 T4; simp only [beq_iff_eq, beq_eq_false_iff_ne, ne_eq, bne_iff_ne, bne_eq_false_iff_eq, decide_eq_true_eq, decide_eq_false_iff_not] at *; first | (exfalso; omega) | exact turn_le ip iq ir is_ h1 h2 (by omega) (by omega) (by omega)
            refine evR_calls (I := noFacts) (v := .bool true) (ctxOf_ok libK1_ok (eq_none _)) (by kernel_rfl) Try.func7 rfl lps_nil L rfl (all2_R (.cons rfl (.cons rfl (.cons rfl (.cons rfl (.cons rfl .nil)))))) (congrArg (fun b => some (Value.bool b)) V) _ (Nat.zero_le _) (pickL_ok ?_ _)
            repeat' (first | exact cd_nil | refine cd_cons ?_ ?_)
            all_goals first | rfl | with_reducible assumption
          | false =>
            cases k5 : (decide (p * s - q * r < 0)) with
            | true =>
              have L := tturn_101000000001 x y u v k
              rw [hp] at L
              try rw [hq] at L
              rw [hr, hs] at L
              rw [hn, W1, W2] at L
              rw [W3, W4, W5] at L
              have h1 : ¬ (p = 0 ∧ q = 0) := by clear L; simp only [beq_iff_eq, beq_eq_false_iff_ne, ne_eq, bne_iff_ne, bne_eq_false_iff_eq, decide_eq_true_eq, decide_eq_false_iff_not] at *; omega
              have h2 : ¬ (r = 0 ∧ s = 0) := by clear L; simp only [beq_iff_eq, beq_eq_false_iff_ne, ne_eq, bne_iff_ne, bne_eq_false_iff_eq, decide_eq_true_eq, decide_eq_false_iff_not] at *; omega
              obtain ⟨T1, T2, T3⟩ := turn_n ip iq in_ h1
              have T4 := (turn_n ir is_ in_ h2).1
              have c1 : (atanE q p != 0) = false := by rw [T1]; rfl
              have c2 : (atanE s r != 0) = false := by rw [T4]; rfl
              have c3 : (atanE (n * q) (n * p) != 0) = false := by rw [T2]; rfl
              have c4 : (atanV q p != atanV (n * q) (n * p)) = false := by rw [T3]; exact bne_self_eq_false _
              have V : (decide (atanV q p ≥ atanV s r)) = true := by
                clear L c1 c2 c3 c4 T1 T2 T3 T4; simp only [beq_iff_eq, beq_eq_false_iff_ne, ne_eq, bne_iff_ne, bne_eq_false_iff_eq, decide_eq_true_eq, decide_eq_false_iff_not] at *; first | (exfalso; omega) | exact turn_le ir is_ ip iq h2 h1 (by omega) (by omega) (by rw [Int.mul_comm r q, Int.mul_comm s p]; omega)
              refine evR_calls (I := noFacts) (v := .bool true) (ctxOf_ok libK1_ok (eq_none _)) (by kernel_rfl) Try.func7 rfl lps_nil L rfl (all2_R (.cons rfl (.cons rfl (.cons rfl (.cons rfl (.cons rfl .nil)))))) (congrArg (fun b => some (Value.bool b)) V) _ (Nat.zero_le _) (pickL_ok ?_ _)
              repeat' (first | exact cd_nil | refine cd_cons ?_ ?_)
              all_goals first | rfl | with_reducible assumption
            | false =>
              have L := tturn_101000000000 x y u v k
              rw [hp] at L
              try rw [hq] at L
              rw [hr, hs] at L
              rw [hn, W1, W2] at L
              rw [W3, W4, W5] at L
              have h1 : ¬ (p = 0 ∧ q = 0) := by clear L; simp only [beq_iff_eq, beq_eq_false_iff_ne, ne_eq, bne_iff_ne, bne_eq_false_iff_eq, decide_eq_true_eq, decide_eq_false_iff_not] at *; omega
              have h2 : ¬ (r = 0 ∧ s = 0) := by clear L; simp only [beq_iff_eq, beq_eq_false_iff_ne, ne_eq, bne_iff_ne, bne_eq_false_iff_eq, decide_eq_true_eq, decide_eq_false_iff_not] at *; omega
              obtain ⟨T1, T2, T3⟩ := turn_n ip iq in_ h1
              have T4 := (turn_n ir is_ in_ h2).1
              have c1 : (atanE q p != 0) = false := by rw [T1]; rfl
              have c2 : (atanE s r != 0) = false := by rw [T4]; rfl
              have c3 : (atanE (n * q) (n * p) != 0) = false := by rw [T2]; rfl
              have c4 : (atanV q p != atanV (n * q) (n * p)) = false := by rw [T3]; exact bne_self_eq_false _
              have V : (atanV q p == atanV s r) = true := by
                clear L c1 c2 c3 c4 T1 T2 T3 T4; simp only [beq_iff_eq, beq_eq_false_iff_ne, ne_eq, bne_iff_ne, bne_eq_false_iff_eq, decide_eq_true_eq, decide_eq_false_iff_not] at *; first | (exfalso; omega) | exact Int.le_antisymm (turn_le ip iq ir is_ h1 h2 (by omega) (by omega) (by omega)) (turn_le ir is_ ip iq h2 h1 (by omega) (by omega) (by rw [Int.mul_comm r q, Int.mul_comm s p]; omega))
              refine evR_calls (I := noFacts) (v := .bool true) (ctxOf_ok libK1_ok (eq_none _)) (by kernel_rfl) Try.func7 rfl lps_nil L rfl (all2_R (.cons rfl (.cons rfl (.cons rfl (.cons rfl (.cons rfl .nil)))))) (congrArg (fun b => some (Value.bool b)) V) _ (Nat.zero_le _) (pickL_ok ?_ _)
              repeat' (first | exact cd_nil | refine cd_cons ?_ ?_)
              all_goals first | rfl | with_reducible assumption
      | false =>
        cases k6 : (s == 0) with
        | true =>
          cases k7 : (decide (r < 0)) with
          | true =>
            have L := tturn_1000000011 x y u v k
            rw [hp] at L
            try rw [hq] at L
            rw [hr, hs] at L
            rw [hn, W1, W2] at L
            have h1 : ¬ (p = 0 ∧ q = 0) := by clear L; simp only [beq_iff_eq, beq_eq_false_iff_ne, ne_eq, bne_iff_ne, bne_eq_false_iff_eq, decide_eq_true_eq, decide_eq_false_iff_not] at *; omega
            have h2 : ¬ (r = 0 ∧ s = 0) := by clear L; simp only [beq_iff_eq, beq_eq_false_iff_ne, ne_eq, bne_iff_ne, bne_eq_false_iff_eq, decide_eq_true_eq, decide_eq_false_iff_not] at *; omega
            obtain ⟨T1, T2, T3⟩ := turn_n ip iq in_ h1
            have T4 := (turn_n ir is_ in_ h2).1
            have c1 : (atanE q p != 0) = false := by rw [T1]; rfl
            have c2 : (atanE s r != 0) = false := by rw [T4]; rfl
            have c3 : (atanE (n * q) (n * p) != 0) = false := by rw [T2]; rfl
            have c4 : (atanV q p != atanV (n * q) (n * p)) = false := by rw [T3]; exact bne_self_eq_false _
            refine evR_calls (I := noFacts) (v := .bool true) (ctxOf_ok libK1_ok (eq_none _)) (by kernel_rfl) Try.func7 rfl lps_nil L rfl (all2_R (.cons rfl (.cons rfl (.cons rfl (.cons rfl (.cons rfl .nil)))))) rfl _ (Nat.zero_le _) (pickL_ok ?_ _)
            repeat' (first | exact cd_nil | refine cd_cons ?_ ?_)
            all_goals first | rfl | with_reducible assumption
          | false =>
            cases k8 : (decide (p * s - q * r > 0)) with
            | true =>
              have L := tturn_10000000101 x y u v k
              rw [hp] at L
              try rw [hq] at L
              rw [hr, hs] at L
              rw [hn, W1, W2] at L
              rw [W3, W4, W5] at L
              have h1 : ¬ (p = 0 ∧ q = 0) := by clear L; simp only [beq_iff_eq, beq_eq_false_iff_ne, ne_eq, bne_iff_ne, bne_eq_false_iff_eq, decide_eq_true_eq, decide_eq_false_iff_not] at *; omega
              have h2 : ¬ (r = 0 ∧ s = 0) := by clear L; simp only [beq_iff_eq, beq_eq_false_iff_ne, ne_eq, bne_iff_ne, bne_eq_false_iff_eq, decide_eq_true_eq, decide_eq_false_iff_not] at *; omega
              obtain ⟨T1, T2, T3⟩ := turn_n ip iq in_ h1
              have T4 := (turn_n ir is_ in_ h2).1
              have c1 : (atanE q p != 0) = false := by rw [T1]; rfl
              have c2 : (atanE s r != 0) = false := by rw [T4]; rfl
              have c3 : (atanE (n * q) (n * p) != 0) = false := by rw [T2]; rfl
              have c4 : (atanV q p != atanV (n * q) (n * p)) = false := by rw [T3]; exact bne_self_eq_false _
              have V : (decide (atanV q p ≤ atanV s r)) = true := by
                clear L c1 c2 c3 c4 T1 T2 T3 T4; simp only [beq_iff_eq, beq_eq_false_iff_ne, ne_eq, bne_iff_ne, bne_eq_false_iff_eq, decide_eq_true_eq, decide_eq_false_iff_not] at *; first | (exfalso; omega) | exact turn_le ip iq ir is_ h1 h2 (by omega) (by omega) (by omega)
              refine evR_calls (I := noFacts) (v := .bool true) (ctxOf_ok libK1_ok (eq_none _)) (by kernel_rfl) Try.func7 rfl lps_nil L rfl (all2_R (.cons rfl (.cons rfl (.cons rfl (.cons rfl (.cons rfl .nil)))))) (congrArg (fun b => some (Value.bool b)) V) _ (Nat.zero_le _) (pickL_ok ?_ _)
              repeat' (first | exact cd_nil | refine cd_cons ?_ ?_)
              all_goals first | rfl | with_reducible assumption
            | false =>
              cases k9 : (decide (p * s - q * r < 0)) with
              | true =>
                have L := tturn_100000001001 x y u v k
                rw [hp] at L
                try rw [hq] at L
                rw [hr, hs] at L
                rw [hn, W1, W2] at L
                rw [W3, W4, W5] at L
                have h1 : ¬ (p = 0 ∧ q = 0) := by clear L; simp only [beq_iff_eq, beq_eq_false_iff_ne, ne_eq, bne_iff_ne, bne_eq_false_iff_eq, decide_eq_true_eq, decide_eq_false_iff_not] at *; omega
                have h2 : ¬ (r = 0 ∧ s = 0) := by clear L; simp only [beq_iff_eq, beq_eq_false_iff_ne, ne_eq, bne_iff_ne, bne_eq_false_iff_eq, decide_eq_true_eq, decide_eq_false_iff_not] at *; omega
                obtain ⟨T1, T2, T3⟩ := turn_n ip iq in_ h1
                have T4 := (turn_n ir is_ in_ h2).1
                have c1 : (atanE q p != 0) = false := by rw [T1]; rfl
                have c2 : (atanE s r != 0) = false := by rw [T4]; rfl
                have c3 : (atanE (n * q) (n * p) != 0) = false := by rw [T2]; rfl
                have c4 : (atanV q p != atanV (n * q) (n * p)) = false := by rw [T3]; exact bne_self_eq_false _
                have V : (decide (atanV q p ≥ atanV s r)) = true := by
                  clear L c1 c2 c3 c4 T1 T2 T3 T4; simp only [beq_iff_eq, beq_eq_false_iff_ne, ne_eq, bne_iff_ne, bne_eq_false_iff_eq, decide_eq_true_eq, decide_eq_false_iff_not] at *; first | (exfalso; omega) | exact turn_le ir is_ ip iq h2 h1 (by omega) (by omega) (by rw [Int.mul_comm r q, Int.mul_comm s p]; omega)
                refine evR_calls (I := noFacts) (v := .bool true) (ctxOf_ok libK1_ok (eq_none _)) (by kernel_rfl) Try.func7 rfl lps_nil L rfl (all2_R (.cons rfl (.cons rfl (.cons rfl (.cons rfl (.cons rfl .nil)))))) (congrArg (fun b => some (Value.bool b)) V) _ (Nat.zero_le _) (pickL_ok ?_ _)
                repeat' (first | exact cd_nil | refine cd_cons ?_ ?_)
                all_goals first | rfl | with_reducible assumption
              | false =>
                have L := tturn_100000001000 x y u v k
                rw [hp] at L
                try rw [hq] at L
                rw [hr, hs] at L
                rw [hn, W1, W2] at L
                rw [W3, W4, W5] at L
                have h1 : ¬ (p = 0 ∧ q = 0) := by clear L; simp only [beq_iff_eq, beq_eq_false_iff_ne, ne_eq, bne_iff_ne, bne_eq_false_iff_eq, decide_eq_true_eq, decide_eq_false_iff_not] at *; omega
                have h2 : ¬ (r = 0 ∧ s = 0) := by clear L; simp only [beq_iff_eq, beq_eq_false_iff_ne, ne_eq, bne_iff_ne, bne_eq_false_iff_eq, decide_eq_true_eq, decide_eq_false_iff_not] at *; omega
                obtain ⟨T1, T2, T3⟩ := turn_n ip iq in_ h1
                have T4 := (turn_n ir is_ in_ h2).1
                have c1 : (atanE q p != 0) = false := by rw [T1]; rfl
                have c2 : (atanE s r != 0) = false := by rw [T4]; rfl
                have c3 : (atanE (n * q) (n * p) != 0) = false := by rw [T2]; rfl
                have c4 : (atanV q p != atanV (n * q) (n * p)) = false := by rw [T3]; exact bne_self_eq_false _
                have V : (atanV q p == atanV s r) = true := by
                  clear L c1 c2 c3 c4 T1 T2 T3 T4; simp only [beq_iff_eq, beq_eq_false_iff_ne, ne_eq, bne_iff_ne, bne_eq_false_iff_eq, decide_eq_true_eq, decide_eq_false_iff_not] at *; first | (exfalso; omega) | exact Int.le_antisymm (turn_le ip iq ir is_ h1 h2 (by omega) (by omega) (by omega)) (turn_le ir is_ ip iq h2 h1 (by omega) (by omega) (by rw [Int.mul_comm r q, Int.mul_comm s p]; omega))
                refine evR_calls (I := noFacts) (v := .bool true) (ctxOf_ok libK1_ok (eq_none _)) (by kernel_rfl) Try.func7 rfl lps_nil L rfl (all2_R (.cons rfl (.cons rfl (.cons rfl (.cons rfl (.cons rfl .nil)))))) (congrArg (fun b => some (Value.bool b)) V) _ (Nat.zero_le _) (pickL_ok ?_ _)
                repeat' (first | exact cd_nil | refine cd_cons ?_ ?_)
                all_goals first | rfl | with_reducible assumption
        | false =>
          cases k10 : (decide (p * s - q * r > 0)) with
          | true =>
            have L := tturn_1000000001 x y u v k
            rw [hp] at L
            try rw [hq] at L
            rw [hr, hs] at L
            rw [hn, W1, W2] at L
            rw [W3, W4, W5] at L
            have h1 : ¬ (p = 0 ∧ q = 0) := by clear L; simp only [beq_iff_eq, beq_eq_false_iff_ne, ne_eq, bne_iff_ne, bne_eq_false_iff_eq, decide_eq_true_eq, decide_eq_false_iff_not] at *; omega
            have h2 : ¬ (r = 0 ∧ s = 0) := by clear L; simp only [beq_iff_eq, beq_eq_false_iff_ne, ne_eq, bne_iff_ne, bne_eq_false_iff_eq, decide_eq_true_eq, decide_eq_false_iff_not] at *; omega
            obtain ⟨T1, T2, T3⟩ := turn_n ip iq in_ h1
            have T4 := (turn_n ir is_ in_ h2).1
            have c1 : (atanE q p != 0) = false := by rw [T1]; rfl
            have c2 : (atanE s r != 0) = false := by rw [T4]; rfl
            have c3 : (atanE (n * q) (n * p) != 0) = false := by rw [T2]; rfl
            have c4 : (atanV q p != atanV (n * q) (n * p)) = false := by rw [T3]; exact bne_self_eq_false _
            have V : (decide (atanV q p ≤ atanV s r)) = true := by
              clear L c1 c2 c3 c4 T1 T2 T3 T4; simp only [beq_iff_eq, beq_eq_false_iff_ne, ne_eq, bne_iff_ne, bne_eq_false_iff_eq, decide_eq_true_eq, decide_eq_false_iff_not] at *; first | (exfalso; omega) | exact turn_le ip iq ir is_ h1 h2 (by omega) (by omega) (by omega)
            refine evR_calls (I := noFacts) (v := .bool true) (ctxOf_ok libK1_ok (eq_none _)) (by kernel_rfl) Try.func7 rfl lps_nil L rfl (all2_R (.cons rfl (.cons rfl (.cons rfl (.cons rfl (.cons rfl .nil)))))) (congrArg (fun b => some (Value.bool b)) V) _ (Nat.zero_le _) (pickL_ok ?_ _)
            repeat' (first | exact cd_nil | refine cd_cons ?_ ?_)
            all_goals first | rfl | with_reducible assumption
          | false =>
            cases k11 : (decide (p * s - q * r < 0)) with
            | true =>
              have L := tturn_10000000001 x y u v k
              rw [hp] at L
              try rw [hq] at L
              rw [hr, hs] at L
              rw [hn, W1, W2] at L
              rw [W3, W4, W5] at L
              have h1 : ¬ (p = 0 ∧ q = 0) := by clear L; simp only [beq_iff_eq, beq_eq_false_iff_ne, ne_eq, bne_iff_ne, bne_eq_false_iff_eq, decide_eq_true_eq, decide_eq_false_iff_not] at *; omega
              have h2 : ¬ (r = 0 ∧ s = 0) := by clear L; simp only [beq_iff_eq, beq_eq_false_iff_ne, ne_eq, bne_iff_ne, bne_eq_false_iff_eq, decide_eq_true_eq, decide_eq_false_iff_not] at *; omega
              obtain ⟨T1, T2, T3⟩ := turn_n ip iq in_ h1
              have T4 := (turn_n ir is_ in_ h2).1
              have c1 : (atanE q p != 0) = false := by rw [T1]; rfl
              have c2 : (atanE s r != 0) = false := by rw [T4]; rfl
              have c3 : (atanE (n * q) (n * p) != 0) = false := by rw [T2]; rfl
              have c4 : (atanV q p != atanV (n * q) (n * p)) = false := by rw [T3]; exact bne_self_eq_false _
              have V : (decide (atanV q p ≥ atanV s r)) = true := by
                clear L c1 c2 c3 c4 T1 T2 T3 T4; simp only [beq_iff_eq, beq_eq_false_iff_ne, ne_eq, bne_iff_ne, bne_eq_false_iff_eq, decide_eq_true_eq, decide_eq_false_iff_not] at *; first | (exfalso; omega) | exact turn_le ir is_ ip iq h2 h1 (by omega) (by omega) (by rw [Int.mul_comm r q, Int.mul_comm s p]; omega)
              refine evR_calls (I := noFacts) (v := .bool true) (ctxOf_ok libK1_ok (eq_none _)) (by kernel_rfl) Try.func7 rfl lps_nil L rfl (all2_R (.cons rfl (.cons rfl (.cons rfl (.cons rfl (.cons rfl .nil)))))) (congrArg (fun b => some (Value.bool b)) V) _ (Nat.zero_le _) (pickL_ok ?_ _)
              repeat' (first | exact cd_nil | refine cd_cons ?_ ?_)
              all_goals first | rfl | with_reducible assumption
            | false =>
              have L := tturn_10000000000 x y u v k
              rw [hp] at L
              try rw [hq] at L
              rw [hr, hs] at L
              rw [hn, W1, W2] at L
              rw [W3, W4, W5] at L
              have h1 : ¬ (p = 0 ∧ q = 0) := by clear L; simp only [beq_iff_eq, beq_eq_false_iff_ne, ne_eq, bne_iff_ne, bne_eq_false_iff_eq, decide_eq_true_eq, decide_eq_false_iff_not] at *; omega
              have h2 : ¬ (r = 0 ∧ s = 0) := by clear L; simp only [beq_iff_eq, beq_eq_false_iff_ne, ne_eq, bne_iff_ne, bne_eq_false_iff_eq, decide_eq_true_eq, decide_eq_false_iff_not] at *; omega
              obtain ⟨T1, T2, T3⟩ := turn_n ip iq in_ h1
              have T4 := (turn_n ir is_ in_ h2).1
              have c1 : (atanE q p != 0) = false := by rw [T1]; rfl
              have c2 : (atanE s r != 0) = false := by rw [T4]; rfl
              have c3 : (atanE (n * q) (n * p) != 0) = false := by rw [T2]; rfl
              have c4 : (atanV q p != atanV (n * q) (n * p)) = false := by rw [T3]; exact bne_self_eq_false _
              have V : (atanV q p == atanV s r) = true := by
                clear L c1 c2 c3 c4 T1 T2 T3 T4; simp only [beq_iff_eq, beq_eq_false_iff_ne, ne_eq, bne_iff_ne, bne_eq_false_iff_eq, decide_eq_true_eq, decide_eq_false_iff_not] at *; first | (exfalso; omega) | exact Int.le_antisymm (turn_le ip iq ir is_ h1 h2 (by omega) (by omega) (by omega)) (turn_le ir is_ ip iq h2 h1 (by omega) (by omega) (by rw [Int.mul_comm r q, Int.mul_comm s p]; omega))
              refine evR_calls (I := noFacts) (v := .bool true) (ctxOf_ok libK1_ok (eq_none _)) (by kernel_rfl) Try.func7 rfl lps_nil L rfl (all2_R (.cons rfl (.cons rfl (.cons rfl (.cons rfl (.cons rfl .nil)))))) (congrArg (fun b => some (Value.bool b)) V) _ (Nat.zero_le _) (pickL_ok ?_ _)
              repeat' (first | exact cd_nil | refine cd_cons ?_ ?_)
              all_goals first | rfl | with_reducible assumption
  | false =>
    cases k12 : (r == 0) with
    | true =>
      cases k13 : (s == 0) with
      | true =>
        have L := tturn_011 x y u v k
        rw [hp] at L
        try rw [hq] at L
        rw [hr, hs] at L
        refine evR_calls (I := noFacts) (v := .bool true) (ctxOf_ok libK1_ok (eq_none _)) (by kernel_rfl) Try.func7 rfl lps_nil L rfl (all2_R (.cons rfl (.cons rfl (.cons rfl (.cons rfl (.cons rfl .nil)))))) rfl _ (Nat.zero_le _) (pickL_ok ?_ _)
        repeat' (first | exact cd_nil | refine cd_cons ?_ ?_)
        all_goals first | rfl | with_reducible assumption
      | false =>
        cases k14 : (q == 0) with
        | true =>
          cases k15 : (decide (p < 0)) with
          | true =>
            have L := tturn_010000011 x y u v k
            rw [hp] at L
            try rw [hq] at L
            rw [hr, hs] at L
            rw [hn, W1, W2] at L
            have h1 : ¬ (p = 0 ∧ q = 0) := by clear L; simp only [beq_iff_eq, beq_eq_false_iff_ne, ne_eq, bne_iff_ne, bne_eq_false_iff_eq, decide_eq_true_eq, decide_eq_false_iff_not] at *; omega
            have h2 : ¬ (r = 0 ∧ s = 0) := by clear L; simp only [beq_iff_eq, beq_eq_false_iff_ne, ne_eq, bne_iff_ne, bne_eq_false_iff_eq, decide_eq_true_eq, decide_eq_false_iff_not] at *; omega
            obtain ⟨T1, T2, T3⟩ := turn_n ip iq in_ h1
            have T4 := (turn_n ir is_ in_ h2).1
            have c1 : (atanE q p != 0) = false := by rw [T1]; rfl
            have c2 : (atanE s r != 0) = false := by rw [T4]; rfl
            have c3 : (atanE (n * q) (n * p) != 0) = false := by rw [T2]; rfl
            have c4 : (atanV q p != atanV (n * q) (n * p)) = false := by rw [T3]; exact bne_self_eq_false _
            refine evR_calls (I := noFacts) (v := .bool true) (ctxOf_ok libK1_ok (eq_none _)) (by kernel_rfl) Try.func7 rfl lps_nil L rfl (all2_R (.cons rfl (.cons rfl (.cons rfl (.cons rfl (.cons rfl .nil)))))) rfl _ (Nat.zero_le _) (pickL_ok ?_ _)
            repeat' (first | exact cd_nil | refine cd_cons ?_ ?_)
            all_goals first | rfl | with_reducible assumption
          | false =>
            cases k16 : (decide (p * s - q * r > 0)) with
            | true =>
              have L := tturn_01000001001 x y u v k
              rw [hp] at L
              try rw [hq] at L
              rw [hr, hs] at L
              rw [hn, W1, W2] at L
              rw [W3, W4, W5] at L
              have h1 : ¬ (p = 0 ∧ q = 0) := by clear L; simp only [beq_iff_eq, beq_eq_false_iff_ne, ne_eq, bne_iff_ne, bne_eq_false_iff_eq, decide_eq_true_eq, decide_eq_false_iff_not] at *; omega
              have h2 : ¬ (r = 0 ∧ s = 0) := by clear L; simp only [beq_iff_eq, beq_eq_false_iff_ne, ne_eq, bne_iff_ne, bne_eq_false_iff_eq, decide_eq_true_eq, decide_eq_false_iff_not] at *; omega
              obtain ⟨T1, T2, T3⟩ := turn_n ip iq in_ h1
              have T4 := (turn_n ir is_ in_ h2).1
              have c1 : (atanE q p != 0) = false := by rw [T1]; rfl
              have c2 : (atanE s r != 0) = false := by rw [T4]; rfl
              have c3 : (atanE (n * q) (n * p) != 0) = false := by rw [T2]; rfl
              have c4 : (atanV q p != atanV (n * q) (n * p)) = false := by rw [T3]; exact bne_self_eq_false _
              have V : (decide (atanV q p ≤ atanV s r)) = true := by
                clear L c1 c2 c3 c4 T1 T2 T3 T4; simp only [beq_iff_eq, beq_eq_false_iff_ne, ne_eq, bne_iff_ne, bne_eq_false_iff_eq, decide_eq_true_eq, decide_eq_false_iff_not] at *; first | (exfalso; omega) | exact turn_le ip iq ir is_ h1 h2 (by omega) (by omega) (by omega)
              refine evR_calls (I := noFacts) (v := .bool true) (ctxOf_ok libK1_ok (eq_none _)) (by kernel_rfl) Try.func7 rfl lps_nil L rfl (all2_R (.cons rfl (.cons rfl (.cons rfl (.cons rfl (.cons rfl .nil)))))) (congrArg (fun b => some (Value.bool b)) V) _ (Nat.zero_le _) (pickL_ok ?_ _)
              repeat' (first | exact cd_nil | refine cd_cons ?_ ?_)
              all_goals first | rfl | with_reducible assumption
            | false =>
              cases k17 : (decide (p * s - q * r < 0)) with
              | true =>
                have L := tturn_010000010001 x y u v k
                rw [hp] at L
                try rw [hq] at L
                rw [hr, hs] at L
                rw [hn, W1, W2] at L
                rw [W3, W4, W5] at L
                have h1 : ¬ (p = 0 ∧ q = 0) := by clear L; simp only [beq_iff_eq, beq_eq_false_iff_ne, ne_eq, bne_iff_ne, bne_eq_false_iff_eq, decide_eq_true_eq, decide_eq_false_iff_not] at *; omega
                have h2 : ¬ (r = 0 ∧ s = 0) := by clear L; simp only [beq_iff_eq, beq_eq_false_iff_ne, ne_eq, bne_iff_ne, bne_eq_false_iff_eq, decide_eq_true_eq, decide_eq_false_iff_not] at *; omega
                obtain ⟨T1, T2, T3⟩ := turn_n ip iq in_ h1
                have T4 := (turn_n ir is_ in_ h2).1
                have c1 : (atanE q p != 0) = false := by rw [T1]; rfl
                have c2 : (atanE s r != 0) = false := by rw [T4]; rfl
                have c3 : (atanE (n * q) (n * p) != 0) = false := by rw [T2]; rfl
                have c4 : (atanV q p != atanV (n * q) (n * p)) = false := by rw [T3]; exact bne_self_eq_false _
                have V : (decide (atanV q p ≥ atanV s r)) = true := by
                  clear L c1 c2 c3 c4 T1 T2 T3 T4; simp only [beq_iff_eq, beq_eq_false_iff_ne, ne_eq, bne_iff_ne, bne_eq_false_iff_eq, decide_eq_true_eq, decide_eq_false_iff_not] at *; first | (exfalso; omega) | exact turn_le ir is_ ip iq h2 h1 (by omega) (by omega) (by rw [Int.mul_comm r q, Int.mul_comm s p]; omega)
                refine evR_calls (I := noFacts) (v := .bool true) (ctxOf_ok libK1_ok (eq_none _)) (by kernel_rfl) Try.func7 rfl lps_nil L rfl (all2_R (.cons rfl (.cons rfl (.cons rfl (.cons rfl (.cons rfl .nil)))))) (congrArg (fun b => some (Value.bool b)) V) _ (Nat.zero_le _) (pickL_ok ?_ _)
                repeat' (first | exact cd_nil | refine cd_cons ?_ ?_)
                all_goals first | rfl | with_reducible assumption
              | false =>
                have L := tturn_010000010000 x y u v k
                rw [hp] at L
                try rw [hq] at L
                rw [hr, hs] at L
                rw [hn, W1, W2] at L
                rw [W3, W4, W5] at L
                have h1 : ¬ (p = 0 ∧ q = 0) := by clear L; simp only [beq_iff_eq, beq_eq_false_iff_ne, ne_eq, bne_iff_ne, bne_eq_false_iff_eq, decide_eq_true_eq, decide_eq_false_iff_not] at *; omega
                have h2 : ¬ (r = 0 ∧ s = 0) := by clear L; simp only [beq_iff_eq, beq_eq_false_iff_ne, ne_eq, bne_iff_ne, bne_eq_false_iff_eq, decide_eq_true_eq, decide_eq_false_iff_not] at *; omega
                obtain ⟨T1, T2, T3⟩ := turn_n ip iq in_ h1
                have T4 := (turn_n ir is_ in_ h2).1
                have c1 : (atanE q p != 0) = false := by rw [T1]; rfl
                have c2 : (atanE s r != 0) = false := by rw [T4]; rfl
                have c3 : (atanE (n * q) (n * p) != 0) = false := by rw [T2]; rfl
                have c4 : (atanV q p != atanV (n * q) (n * p)) = false := by rw [T3]; exact bne_self_eq_false _
                have V : (atanV q p == atanV s r) = true := by
                  clear L c1 c2 c3 c4 T1 T2 T3 T4; simp only [beq_iff_eq, beq_eq_false_iff_ne, ne_eq, bne_iff_ne, bne_eq_false_iff_eq, decide_eq_true_eq, decide_eq_false_iff_not] at *; first | (exfalso; omega) | exact Int.le_antisymm (turn_le ip iq ir is_ h1 h2 (by omega) (by omega) (by omega)) (turn_le ir is_ ip iq h2 h1 (by omega) (by omega) (by rw [Int.mul_comm r q, Int.mul_comm s p]; omega))
                refine evR_calls (I := noFacts) (v := .bool true) (ctxOf_ok libK1_ok (eq_none _)) (by kernel_rfl) Try.func7 rfl lps_nil L rfl (all2_R (.cons rfl (.cons rfl (.cons rfl (.cons rfl (.cons rfl .nil)))))) (congrArg (fun b => some (Value.bool b)) V) _ (Nat.zero_le _) (pickL_ok ?_ _)
                repeat' (first | exact cd_nil | refine cd_cons ?_ ?_)
                all_goals first | rfl | with_reducible assumption
        | false =>
          cases k18 : (decide (p * s - q * r > 0)) with
          | true =>
            have L := tturn_0100000001 x y u v k
            rw [hp] at L
            try rw [hq] at L
            rw [hr, hs] at L
            rw [hn, W1, W2] at L
            rw [W3, W4, W5] at L
            have h1 : ¬ (p = 0 ∧ q = 0) := by clear L; simp only [beq_iff_eq, beq_eq_false_iff_ne, ne_eq, bne_iff_ne, bne_eq_false_iff_eq, decide_eq_true_eq, decide_eq_false_iff_not] at *; omega
            have h2 : ¬ (r = 0 ∧ s = 0) := by clear L; simp only [beq_iff_eq, beq_eq_false_iff_ne, ne_eq, bne_iff_ne, bne_eq_false_iff_eq, decide_eq_true_eq, decide_eq_false_iff_not] at *; omega
            obtain ⟨T1, T2, T3⟩ := turn_n ip iq in_ h1
            have T4 := (turn_n ir is_ in_ h2).1
            have c1 : (atanE q p != 0) = false := by rw [T1]; rfl
            have c2 : (atanE s r != 0) = false := by rw [T4]; rfl
            have c3 : (atanE (n * q) (n * p) != 0) = false := by rw [T2]; rfl
            have c4 : (atanV q p != atanV (n * q) (n * p)) = false := by rw [T3]; exact bne_self_eq_false _
            have V : (decide (atanV q p ≤ atanV s r)) = true := by
              clear L c1 c2 c3 c4 T1 T2 T3 T4; simp only [beq_iff_eq, beq_eq_false_iff_ne, ne_eq, bne_iff_ne, bne_eq_false_iff_eq, decide_eq_true_eq, decide_eq_false_iff_not] at *; first | (exfalso; omega) | exact turn_le ip iq ir is_ h1 h2 (by omega) (by omega) (by omega)
            refine evR_calls (I := noFacts) (v := .bool true) (ctxOf_ok libK1_ok (eq_none _)) (by kernel_rfl) Try.func7 rfl lps_nil L rfl (all2_R (.cons rfl (.cons rfl (.cons rfl (.cons rfl (.cons rfl .nil)))))) (congrArg (fun b => some (Value.bool b)) V) _ (Nat.zero_le _) (pickL_ok ?_ _)
            repeat' (first | exact cd_nil | refine cd_cons ?_ ?_)
            all_goals first | rfl | with_reducible assumption
          | false =>
            cases k19 : (decide (p * s - q * r < 0)) with
            | true =>
              have L := tturn_01000000001 x y u v k
              rw [hp] at L
              try rw [hq] at L
              rw [hr, hs] at L
              rw [hn, W1, W2] at L
              rw [W3, W4, W5] at L
              have h1 : ¬ (p = 0 ∧ q = 0) := by clear L; simp only [beq_iff_eq, beq_eq_false_iff_ne, ne_eq, bne_iff_ne, bne_eq_false_iff_eq, decide_eq_true_eq, decide_eq_false_iff_not] at *; omega
              have h2 : ¬ (r = 0 ∧ s = 0) := by clear L; simp only [beq_iff_eq, beq_eq_false_iff_ne, ne_eq, bne_iff_ne, bne_eq_false_iff_eq, decide_eq_true_eq, decide_eq_false_iff_not] at *; omega
              obtain ⟨T1, T2, T3⟩ := turn_n ip iq in_ h1
              have T4 := (turn_n ir is_ in_ h2).1
              have c1 : (atanE q p != 0) = false := by rw [T1]; rfl
              have c2 : (atanE s r != 0) = false := by rw [T4]; rfl
              have c3 : (atanE (n * q) (n * p) != 0) = false := by rw [T2]; rfl
              have c4 : (atanV q p != atanV (n * q) (n * p)) = false := by rw [T3]; exact bne_self_eq_false _
              have V : (decide (atanV q p ≥ atanV s r)) = true := by
                clear L c1 c2 c3 c4 T1 T2 T3 T4; simp only [beq_iff_eq, beq_eq_false_iff_ne, ne_eq, bne_iff_ne, bne_eq_false_iff_eq, decide_eq_true_eq, decide_eq_false_iff_not] at *; first | (exfalso; omega) | exact turn_le ir is_ ip iq h2 h1 (by omega) (by omega) (by rw [Int.mul_comm r q, Int.mul_comm s p]; omega)
              refine evR_calls (I := noFacts) (v := .bool true) (ctxOf_ok libK1_ok (eq_none _)) (by kernel_rfl) Try.func7 rfl lps_nil L rfl (all2_R (.cons rfl (.cons rfl (.cons rfl (.cons rfl (.cons rfl .nil)))))) (congrArg (fun b => some (Value.bool b)) V) _ (Nat.zero_le _) (pickL_ok ?_ _)
              repeat' (first | exact cd_nil | refine cd_cons ?_ ?_)
              all_goals first | rfl | with_reducible assumption
            | false =>
              have L := tturn_01000000000 x y u v k
              rw [hp] at L
              try rw [hq] at L
              rw [hr, hs] at L
              rw [hn, W1, W2] at L
              rw [W3, W4, W5] at L
              have h1 : ¬ (p = 0 ∧ q = 0) := by clear L; simp only [beq_iff_eq, beq_eq_false_iff_ne, ne_eq, bne_iff_ne, bne_eq_false_iff_eq, decide_eq_true_eq, decide_eq_false_iff_not] at *; omega
              have h2 : ¬ (r = 0 ∧ s = 0) := by clear L; simp only [beq_iff_eq, beq_eq_false_iff_ne, ne_eq, bne_iff_ne, bne_eq_false_iff_eq, decide_eq_true_eq, decide_eq_false_iff_not] at *; omega
              obtain ⟨T1, T2, T3⟩ := turn_n ip iq in_ h1
              have T4 := (turn_n ir is_ in_ h2).1
              have c1 : (atanE q p != 0) = false := by rw [T1]; rfl
              have c2 : (atanE s r != 0) = false := by rw [T4]; rfl
              have c3 : (atanE (n * q) (n * p) != 0) = false := by rw [T2]; rfl
              have c4 : (atanV q p != atanV (n * q) (n * p)) = false := by rw [T3]; exact bne_self_eq_false _
              have V : (atanV q p == atanV s r) = true := by
                clear L c1 c2 c3 c4 T1 T2 T3 T4; simp only [beq_iff_eq, beq_eq_false_iff_ne, ne_eq, bne_iff_ne, bne_eq_false_iff_eq, decide_eq_true_eq, decide_eq_false_iff_not] at *; first | (exfalso; omega) | exact Int.le_antisymm (turn_le ip iq ir is_ h1 h2 (by omega) (by omega) (by omega)) (turn_le ir is_ ip iq h2 h1 (by omega) (by omega) (by rw [Int.mul_comm r q, Int.mul_comm s p]; omega))
              refine evR_calls (I := noFacts) (v := .bool true) (ctxOf_ok libK1_ok (eq_none _)) (by kernel_rfl) Try.func7 rfl lps_nil L rfl (all2_R (.cons rfl (.cons rfl (.cons rfl (.cons rfl (.cons rfl .nil)))))) (congrArg (fun b => some (Value.bool b)) V) _ (Nat.zero_le _) (pickL_ok ?_ _)
              repeat' (first | exact cd_nil | refine cd_cons ?_ ?_)
              all_goals first | rfl | with_reducible assumption
    | false =>
      cases k20 : (q == 0) with
      | true =>
        cases k21 : (decide (p < 0)) with
        | true =>
          have L := tturn_00000011 x y u v k
          rw [hp] at L
          try rw [hq] at L
          rw [hr, hs] at L
          rw [hn, W1, W2] at L
          have h1 : ¬ (p = 0 ∧ q = 0) := by clear L; simp only [beq_iff_eq, beq_eq_false_iff_ne, ne_eq, bne_iff_ne, bne_eq_false_iff_eq, decide_eq_true_eq, decide_eq_false_iff_not] at *; omega
          have h2 : ¬ (r = 0 ∧ s = 0) := by clear L; simp only [beq_iff_eq, beq_eq_false_iff_ne, ne_eq, bne_iff_ne, bne_eq_false_iff_eq, decide_eq_true_eq, decide_eq_false_iff_not] at *; omega
          obtain ⟨T1, T2, T3⟩ := turn_n ip iq in_ h1
          have T4 := (turn_n ir is_ in_ h2).1
          have c1 : (atanE q p != 0) = false := by rw [T1]; rfl
          have c2 : (atanE s r != 0) = false := by rw [T4]; rfl
          have c3 : (atanE (n * q) (n * p) != 0) = false := by rw [T2]; rfl
          have c4 : (atanV q p != atanV (n * q) (n * p)) = false := by rw [T3]; exact bne_self_eq_false _
          refine evR_calls (I := noFacts) (v := .bool true) (ctxOf_ok libK1_ok (eq_none _)) (by kernel_rfl) Try.func7 rfl lps_nil L rfl (all2_R (.cons rfl (.cons rfl (.cons rfl (.cons rfl (.cons rfl .nil)))))) rfl _ (Nat.zero_le _) (pickL_ok ?_ _)
          repeat' (first | exact cd_nil | refine cd_cons ?_ ?_)
          all_goals first | rfl | with_reducible assumption
        | false =>
          cases k22 : (s == 0) with
          | true =>
            cases k23 : (decide (r < 0)) with
            | true =>
              have L := tturn_0000001011 x y u v k
              rw [hp] at L
              try rw [hq] at L
              rw [hr, hs] at L
              rw [hn, W1, W2] at L
              have h1 : ¬ (p = 0 ∧ q = 0) := by clear L; simp only [beq_iff_eq, beq_eq_false_iff_ne, ne_eq, bne_iff_ne, bne_eq_false_iff_eq, decide_eq_true_eq, decide_eq_false_iff_not] at *; omega
              have h2 : ¬ (r = 0 ∧ s = 0) := by clear L; simp only [beq_iff_eq, beq_eq_false_iff_ne, ne_eq, bne_iff_ne, bne_eq_false_iff_eq, decide_eq_true_eq, decide_eq_false_iff_not] at *; omega
              obtain ⟨T1, T2, T3⟩ := turn_n ip iq in_ h1
              have T4 := (turn_n ir is_ in_ h2).1
              have c1 : (atanE q p != 0) = false := by rw [T1]; rfl
              have c2 : (atanE s r != 0) = false := by rw [T4]; rfl
              have c3 : (atanE (n * q) (n * p) != 0) = false := by rw [T2]; rfl
              have c4 : (atanV q p != atanV (n * q) (n * p)) = false := by rw [T3]; exact bne_self_eq_false _
              refine evR_calls (I := noFacts) (v := .bool true) (ctxOf_ok libK1_ok (eq_none _)) (by kernel_rfl) Try.func7 rfl lps_nil L rfl (all2_R (.cons rfl (.cons rfl (.cons rfl (.cons rfl (.cons rfl .nil)))))) rfl _ (Nat.zero_le _) (pickL_ok ?_ _)
              repeat' (first | exact cd_nil | refine cd_cons ?_ ?_)
              all_goals first | rfl | with_reducible assumption
            | false =>
              cases k24 : (decide (p * s - q * r > 0)) with
              | true =>
                have L := tturn_00000010101 x y u v k
                rw [hp] at L
                try rw [hq] at L
                rw [hr, hs] at L
                rw [hn, W1, W2] at L
                rw [W3, W4, W5] at L
                have h1 : ¬ (p = 0 ∧ q = 0) := by clear L; simp only [beq_iff_eq, beq_eq_false_iff_ne, ne_eq, bne_iff_ne, bne_eq_false_iff_eq, decide_eq_true_eq, decide_eq_false_iff_not] at *; omega
                have h2 : ¬ (r = 0 ∧ s = 0) := by clear L; simp only [beq_iff_eq, beq_eq_false_iff_ne, ne_eq, bne_iff_ne, bne_eq_false_iff_eq, decide_eq_true_eq, decide_eq_false_iff_not] at *; omega
                obtain ⟨T1, T2, T3⟩ := turn_n ip iq in_ h1
                have T4 := (turn_n ir is_ in_ h2).1
                have c1 : (atanE q p != 0) = false := by rw [T1]; rfl
                have c2 : (atanE s r != 0) = false := by rw [T4]; rfl
                have c3 : (atanE (n * q) (n * p) != 0) = false := by rw [T2]; rfl
                have c4 : (atanV q p != atanV (n * q) (n * p)) = false := by rw [T3]; exact bne_self_eq_false _
                have V : (decide (atanV q p ≤ atanV s r)) = true := by
                  clear L c1 c2 c3 c4 T1 T2 T3 T4; simp only [beq_iff_eq, beq_eq_false_iff_ne, ne_eq, bne_iff_ne, bne_eq_false_iff_eq, decide_eq_true_eq, decide_eq_false_iff_not] at *; first | (exfalso; omega) | exact turn_le ip iq ir is_ h1 h2 (by omega) (by omega) (by omega)
                refine evR_calls (I := noFacts) (v := .bool true) (ctxOf_ok libK1_ok (eq_none _)) (by kernel_rfl) Try.func7 rfl lps_nil L rfl (all2_R (.cons rfl (.cons rfl (.cons rfl (.cons rfl (.cons rfl .nil)))))) (congrArg (fun b => some (Value.bool b)) V) _ (Nat.zero_le _) (pickL_ok ?_ _)
                repeat' (first | exact cd_nil | refine cd_cons ?_ ?_)
                all_goals first | rfl | with_reducible assumption
              | false =>
                cases k25 : (decide (p * s - q * r < 0)) with
                | true =>
                  have L := tturn_000000101001 x y u v k
                  rw [hp] at L
                  try rw [hq] at L
                  rw [hr, hs] at L
                  rw [hn, W1, W2] at L
                  rw [W3, W4, W5] at L
                  have h1 : ¬ (p = 0 ∧ q = 0) := by clear L; simp only [beq_iff_eq, beq_eq_false_iff_ne, ne_eq, bne_iff_ne, bne_eq_false_iff_eq, decide_eq_true_eq, decide_eq_false_iff_not] at *; omega
                  have h2 : ¬ (r = 0 ∧ s = 0) := by clear L; simp only [beq_iff_eq, beq_eq_false_iff_ne, ne_eq, bne_iff_ne, bne_eq_false_iff_eq, decide_eq_true_eq, decide_eq_false_iff_not] at *; omega
                  obtain ⟨T1, T2, T3⟩ := turn_n ip iq in_ h1
                  have T4 := (turn_n ir is_ in_ h2).1
                  have c1 : (atanE q p != 0) = false := by rw [T1]; rfl
                  have c2 : (atanE s r != 0) = false := by rw [T4]; rfl
                  have c3 : (atanE (n * q) (n * p) != 0) = false := by rw [T2]; rfl
                  have c4 : (atanV q p != atanV (n * q) (n * p)) = false := by rw [T3]; exact bne_self_eq_false _
                  have V : (decide (atanV q p ≥ atanV s r)) = true := by
                    clear L c1 c2 c3 c4 T1 T2 T3 T4; simp only [beq_iff_eq, beq_eq_false_iff_ne, ne_eq, bne_iff_ne, bne_eq_false_iff_eq, decide_eq_true_eq, decide_eq_false_iff_not] at *; first | (exfalso; omega) | exact turn_le ir is_ ip iq h2 h1 (by omega) (by omega) (by rw [Int.mul_comm r q, Int.mul_comm s p]; omega)
                  refine evR_calls (I := noFacts) (v := .bool true) (ctxOf_ok libK1_ok (eq_none _)) (by kernel_rfl) Try.func7 rfl lps_nil L rfl (all2_R (.cons rfl (.cons rfl (.cons rfl (.cons rfl (.cons rfl .nil)))))) (congrArg (fun b => some (Value.bool b)) V) _ (Nat.zero_le _) (pickL_ok ?_ _)
                  repeat' (first | exact cd_nil | refine cd_cons ?_ ?_)
                  all_goals first | rfl | with_reducible assumption
                | false =>
                  have L := tturn_000000101000 x y u v k
                  rw [hp] at L
                  try rw [hq] at L
                  rw [hr, hs] at L
                  rw [hn, W1, W2] at L
                  rw [W3, W4, W5] at L
                  have h1 : ¬ (p = 0 ∧ q = 0) := by clear L; simp only [beq_iff_eq, beq_eq_false_iff_ne, ne_eq, bne_iff_ne, bne_eq_false_iff_eq, decide_eq_true_eq, decide_eq_false_iff_not] at *; omega
                  have h2 : ¬ (r = 0 ∧ s = 0) := by clear L; simp only [beq_iff_eq, beq_eq_false_iff_ne, ne_eq, bne_iff_ne, bne_eq_false_iff_eq, decide_eq_true_eq, decide_eq_false_iff_not] at *; omega
                  obtain ⟨T1, T2, T3⟩ := turn_n ip iq in_ h1
                  have T4 := (turn_n ir is_ in_ h2).1
                  have c1 : (atanE q p != 0) = false := by rw [T1]; rfl
                  have c2 : (atanE s r != 0) = false := by rw [T4]; rfl
                  have c3 : (atanE (n * q) (n * p) != 0) = false := by rw [T2]; rfl
                  have c4 : (atanV q p != atanV (n * q) (n * p)) = false := by rw [T3]; exact bne_self_eq_false _
                  have V : (atanV q p == atanV s r) = true := by
                    clear L c1 c2 c3 c4 T1 T2 T3 T4; simp only [beq_iff_eq, beq_eq_false_iff_ne, ne_eq, bne_iff_ne, bne_eq_false_iff_eq, decide_eq_true_eq, decide_eq_false_iff_not] at *; first | (exfalso; omega) | exact Int.le_antisymm (turn_le ip iq ir is_ h1 h2 (by omega) (by omega) (by omega)) (turn_le ir is_ ip iq h2 h1 (by omega) (by omega) (by rw [Int.mul_comm r q, Int.mul_comm s p]; omega))
                  refine evR_calls (I := noFacts) (v := .bool true) (ctxOf_ok libK1_ok (eq_none _)) (by kernel_rfl) Try.func7 rfl lps_nil L rfl (all2_R (.cons rfl (.cons rfl (.cons rfl (.cons rfl (.cons rfl .nil)))))) (congrArg (fun b => some (Value.bool b)) V) _ (Nat.zero_le _) (pickL_ok ?_ _)
                  repeat' (first | exact cd_nil | refine cd_cons ?_ ?_)
                  all_goals first | rfl | with_reducible assumption
          | false =>
            cases k26 : (decide (p * s - q * r > 0)) with
            | true =>
              have L := tturn_0000001001 x y u v k
              rw [hp] at L
              try rw [hq] at L
              rw [hr, hs] at L
              rw [hn, W1, W2] at L
              rw [W3, W4, W5] at L
              have h1 : ¬ (p = 0 ∧ q = 0) := by clear L; simp only [beq_iff_eq, beq_eq_false_iff_ne, ne_eq, bne_iff_ne, bne_eq_false_iff_eq, decide_eq_true_eq, decide_eq_false_iff_not] at *; omega
              have h2 : ¬ (r = 0 ∧ s = 0) := by clear L; simp only [beq_iff_eq, beq_eq_false_iff_ne, ne_eq, bne_iff_ne, bne_eq_false_iff_eq, decide_eq_true_eq, decide_eq_false_iff_not] at *; omega
              obtain ⟨T1, T2, T3⟩ := turn_n ip iq in_ h1
              have T4 := (turn_n ir is_ in_ h2).1
              have c1 : (atanE q p != 0) = false := by rw [T1]; rfl
              have c2 : (atanE s r != 0) = false := by rw [T4]; rfl
              have c3 : (atanE (n * q) (n * p) != 0) = false := by rw [T2]; rfl
              have c4 : (atanV q p != atanV (n * q) (n * p)) = false := by rw [T3]; exact bne_self_eq_false _
              have V : (decide (atanV q p ≤ atanV s r)) = true := by
                clear L c1 c2 c3 c4 T1 T2 T3 T4; simp only [beq_iff_eq, beq_eq_false_iff_ne, ne_eq, bne_iff_ne, bne_eq_false_iff_eq, decide_eq_true_eq, decide_eq_false_iff_not] at *; first | (exfalso; omega) | exact turn_le ip iq ir is_ h1 h2 (by omega) (by omega) (by omega)
              refine evR_calls (I := noFacts) (v := .bool true) (ctxOf_ok libK1_ok (eq_none _)) (by kernel_rfl) Try.func7 rfl lps_nil L rfl (all2_R (.cons rfl (.cons rfl (.cons rfl (.cons rfl (.cons rfl .nil)))))) (congrArg (fun b => some (Value.bool b)) V) _ (Nat.zero_le _) (pickL_ok ?_ _)
              repeat' (first | exact cd_nil | refine cd_cons ?_ ?_)
              all_goals first | rfl | with_reducible assumption
            | false =>
              cases k27 : (decide (p * s - q * r < 0)) with
              | true =>
                have L := tturn_00000010001 x y u v k
                rw [hp] at L
                try rw [hq] at L
                rw [hr, hs] at L
                rw [hn, W1, W2] at L
                rw [W3, W4, W5] at L
                have h1 : ¬ (p = 0 ∧ q = 0) := by clear L; simp only [beq_iff_eq, beq_eq_false_iff_ne, ne_eq, bne_iff_ne, bne_eq_false_iff_eq, decide_eq_true_eq, decide_eq_false_iff_not] at *; omega
                have h2 : ¬ (r = 0 ∧ s = 0) := by clear L; simp only [beq_iff_eq, beq_eq_false_iff_ne, ne_eq, bne_iff_ne, bne_eq_false_iff_eq, decide_eq_true_eq, decide_eq_false_iff_not] at *; omega
                obtain ⟨T1, T2, T3⟩ := turn_n ip iq in_ h1
                have T4 := (turn_n ir is_ in_ h2).1
                have c1 : (atanE q p != 0) = false := by rw [T1]; rfl
                have c2 : (atanE s r != 0) = false := by rw [T4]; rfl
                have c3 : (atanE (n * q) (n * p) != 0) = false := by rw [T2]; rfl
                have c4 : (atanV q p != atanV (n * q) (n * p)) = false := by rw [T3]; exact bne_self_eq_false _
                have V : (decide (atanV q p ≥ atanV s r)) = true := by
                  clear L c1 c2 c3 c4 T1 T2 T3 T4; simp only [beq_iff_eq, beq_eq_false_iff_ne, ne_eq, bne_iff_ne, bne_eq_false_iff_eq, decide_eq_true_eq, decide_eq_false_iff_not] at *; first | (exfalso; omega) | exact turn_le ir is_ ip iq h2 h1 (by omega) (by omega) (by rw [Int.mul_comm r q, Int.mul_comm s p]; omega)
                refine evR_calls (I := noFacts) (v := .bool true) (ctxOf_ok libK1_ok (eq_none _)) (by kernel_rfl) Try.func7 rfl lps_nil L rfl (all2_R (.cons rfl (.cons rfl (.cons rfl (.cons rfl (.cons rfl .nil)))))) (congrArg (fun b => some (Value.bool b)) V) _ (Nat.zero_le _) (pickL_ok ?_ _)
                repeat' (first | exact cd_nil | refine cd_cons ?_ ?_)
                all_goals first | rfl | with_reducible assumption
              | false =>
                have L := tturn_00000010000 x y u v k
                rw [hp] at L
                try rw [hq] at L
                rw [hr, hs] at L
                rw [hn, W1, W2] at L
                rw [W3, W4, W5] at L
                have h1 : ¬ (p = 0 ∧ q = 0) := by clear L; simp only [beq_iff_eq, beq_eq_false_iff_ne, ne_eq, bne_iff_ne, bne_eq_false_iff_eq, decide_eq_true_eq, decide_eq_false_iff_not] at *; omega
                have h2 : ¬ (r = 0 ∧ s = 0) := by clear L; simp only [beq_iff_eq, beq_eq_false_iff_ne, ne_eq, bne_iff_ne, bne_eq_false_iff_eq, decide_eq_true_eq, decide_eq_false_iff_not] at *; omega
                obtain ⟨T1, T2, T3⟩ := turn_n ip iq in_ h1
                have T4 := (turn_n ir is_ in_ h2).1
                have c1 : (atanE q p != 0) = false := by rw [T1]; rfl
                have c2 : (atanE s r != 0) = false := by rw [T4]; rfl
                have c3 : (atanE (n * q) (n * p) != 0) = false := by rw [T2]; rfl
                have c4 : (atanV q p != atanV (n * q) (n * p)) = false := by rw [T3]; exact bne_self_eq_false _
                have V : (atanV q p == atanV s r) = true := by
                  clear L c1 c2 c3 c4 T1 T2 T3 T4; simp only [beq_iff_eq, beq_eq_false_iff_ne, ne_eq, bne_iff_ne, bne_eq_false_iff_eq, decide_eq_true_eq, decide_eq_false_iff_not] at *; first | (exfalso; omega) | exact Int.le_antisymm (turn_le ip iq ir is_ h1 h2 (by omega) (by omega) (by omega)) (turn_le ir is_ ip iq h2 h1 (by omega) (by omega) (by rw [Int.mul_comm r q, Int.mul_comm s p]; omega))
                refine evR_calls (I := noFacts) (v := .bool true) (ctxOf_ok libK1_ok (eq_none _)) (by kernel_rfl) Try.func7 rfl lps_nil L rfl (all2_R (.cons rfl (.cons rfl (.cons rfl (.cons rfl (.cons rfl .nil)))))) (congrArg (fun b => some (Value.bool b)) V) _ (Nat.zero_le _) (pickL_ok ?_ _)
                repeat' (first | exact cd_nil | refine cd_cons ?_ ?_)
                all_goals first | rfl | with_reducible assumption
      | false =>
        cases k28 : (s == 0) with
        | true =>
          cases k29 : (decide (r < 0)) with
          | true =>
            have L := tturn_000000011 x y u v k
            rw [hp] at L
            try rw [hq] at L
            rw [hr, hs] at L
            rw [hn, W1, W2] at L
            have h1 : ¬ (p = 0 ∧ q = 0) := by clear L; simp only [beq_iff_eq, beq_eq_false_iff_ne, ne_eq, bne_iff_ne, bne_eq_false_iff_eq, decide_eq_true_eq, decide_eq_false_iff_not] at *; omega
            have h2 : ¬ (r = 0 ∧ s = 0) := by clear L; simp only [beq_iff_eq, beq_eq_false_iff_ne, ne_eq, bne_iff_ne, bne_eq_false_iff_eq, decide_eq_true_eq, decide_eq_false_iff_not] at *; omega
            obtain ⟨T1, T2, T3⟩ := turn_n ip iq in_ h1
            have T4 := (turn_n ir is_ in_ h2).1
            have c1 : (atanE q p != 0) = false := by rw [T1]; rfl
            have c2 : (atanE s r != 0) = false := by rw [T4]; rfl
            have c3 : (atanE (n * q) (n * p) != 0) = false := by rw [T2]; rfl
            have c4 : (atanV q p != atanV (n * q) (n * p)) = false := by rw [T3]; exact bne_self_eq_false _
            refine evR_calls (I := noFacts) (v := .bool true) (ctxOf_ok libK1_ok (eq_none _)) (by kernel_rfl) Try.func7 rfl lps_nil L rfl (all2_R (.cons rfl (.cons rfl (.cons rfl (.cons rfl (.cons rfl .nil)))))) rfl _ (Nat.zero_le _) (pickL_ok ?_ _)
            repeat' (first | exact cd_nil | refine cd_cons ?_ ?_)
            all_goals first | rfl | with_reducible assumption
          | false =>
            cases k30 : (decide (p * s - q * r > 0)) with
            | true =>
              have L := tturn_0000000101 x y u v k
              rw [hp] at L
              try rw [hq] at L
              rw [hr, hs] at L
              rw [hn, W1, W2] at L
              rw [W3, W4, W5] at L
              have h1 : ¬ (p = 0 ∧ q = 0) := by clear L; simp only [beq_iff_eq, beq_eq_false_iff_ne, ne_eq, bne_iff_ne, bne_eq_false_iff_eq, decide_eq_true_eq, decide_eq_false_iff_not] at *; omega
              have h2 : ¬ (r = 0 ∧ s = 0) := by clear L; simp only [beq_iff_eq, beq_eq_false_iff_ne, ne_eq, bne_iff_ne, bne_eq_false_iff_eq, decide_eq_true_eq, decide_eq_false_iff_not] at *; omega
              obtain ⟨T1, T2, T3⟩ := turn_n ip iq in_ h1
              have T4 := (turn_n ir is_ in_ h2).1
              have c1 : (atanE q p != 0) = false := by rw [T1]; rfl
              have c2 : (atanE s r != 0) = false := by rw [T4]; rfl
              have c3 : (atanE (n * q) (n * p) != 0) = false := by rw [T2]; rfl
              have c4 : (atanV q p != atanV (n * q) (n * p)) = false := by rw [T3]; exact bne_self_eq_false _
              have V : (decide (atanV q p ≤ atanV s r)) = true := by
                clear L c1 c2 c3 c4 T1 T2 T3 T4; simp only [beq_iff_eq, beq_eq_false_iff_ne, ne_eq, bne_iff_ne, bne_eq_false_iff_eq, decide_eq_true_eq, decide_eq_false_iff_not] at *; first | (exfalso; omega) | exact turn_le ip iq ir is_ h1 h2 (by omega) (by omega) (by omega)
              refine evR_calls (I := noFacts) (v := .bool true) (ctxOf_ok libK1_ok (eq_none _)) (by kernel_rfl) Try.func7 rfl lps_nil L rfl (all2_R (.cons rfl (.cons rfl (.cons rfl (.cons rfl (.cons rfl .nil)))))) (congrArg (fun b => some (Value.bool b)) V) _ (Nat.zero_le _) (pickL_ok ?_ _)
              repeat' (first | exact cd_nil | refine cd_cons ?_ ?_)
              all_goals first | rfl | with_reducible assumption
            | false =>
              cases k31 : (decide (p * s - q * r < 0)) with
              | true =>
                have L := tturn_00000001001 x y u v k
                rw [hp] at L
                try rw [hq] at L
                rw [hr, hs] at L
                rw [hn, W1, W2] at L
                rw [W3, W4, W5] at L
                have h1 : ¬ (p = 0 ∧ q = 0) := by clear L; simp only [beq_iff_eq, beq_eq_false_iff_ne, ne_eq, bne_iff_ne, bne_eq_false_iff_eq, decide_eq_true_eq, decide_eq_false_iff_not] at *; omega
                have h2 : ¬ (r = 0 ∧ s = 0) := by clear L; simp only [beq_iff_eq, beq_eq_false_iff_ne, ne_eq, bne_iff_ne, bne_eq_false_iff_eq, decide_eq_true_eq, decide_eq_false_iff_not] at *; omega
                obtain ⟨T1, T2, T3⟩ := turn_n ip iq in_ h1
                have T4 := (turn_n ir is_ in_ h2).1
                have c1 : (atanE q p != 0) = false := by rw [T1]; rfl
                have c2 : (atanE s r != 0) = false := by rw [T4]; rfl
                have c3 : (atanE (n * q) (n * p) != 0) = false := by rw [T2]; rfl
                have c4 : (atanV q p != atanV (n * q) (n * p)) = false := by rw [T3]; exact bne_self_eq_false _
                have V : (decide (atanV q p ≥ atanV s r)) = true := by
                  clear L c1 c2 c3 c4 T1 T2 T3 T4; simp only [beq_iff_eq, beq_eq_false_iff_ne, ne_eq, bne_iff_ne, bne_eq_false_iff_eq, decide_eq_true_eq, decide_eq_false_iff_not] at *; first | (exfalso; omega) | exact turn_le ir is_ ip iq h2 h1 (by omega) (by omega) (by rw [Int.mul_comm r q, Int.mul_comm s p]; omega)
                refine evR_calls (I := noFacts) (v := .bool true) (ctxOf_ok libK1_ok (eq_none _)) (by kernel_rfl) Try.func7 rfl lps_nil L rfl (all2_R (.cons rfl (.cons rfl (.cons rfl (.cons rfl (.cons rfl .nil)))))) (congrArg (fun b => some (Value.bool b)) V) _ (Nat.zero_le _) (pickL_ok ?_ _)
                repeat' (first | exact cd_nil | refine cd_cons ?_ ?_)
                all_goals first | rfl | with_reducible assumption
              | false =>
                have L := tturn_00000001000 x y u v k
                rw [hp] at L
                try rw [hq] at L
                rw [hr, hs] at L
                rw [hn, W1, W2] at L
                rw [W3, W4, W5] at L
                have h1 : ¬ (p = 0 ∧ q = 0) := by clear L; simp only [beq_iff_eq, beq_eq_false_iff_ne, ne_eq, bne_iff_ne, bne_eq_false_iff_eq, decide_eq_true_eq, decide_eq_false_iff_not] at *; omega
                have h2 : ¬ (r = 0 ∧ s = 0) := by clear L; simp only [beq_iff_eq, beq_eq_false_iff_ne, ne_eq, bne_iff_ne, bne_eq_false_iff_eq, decide_eq_true_eq, decide_eq_false_iff_not] at *; omega
                obtain ⟨T1, T2, T3⟩ := turn_n ip iq in_ h1
                have T4 := (turn_n ir is_ in_ h2).1
                have c1 : (atanE q p != 0) = false := by rw [T1]; rfl
                have c2 : (atanE s r != 0) = false := by rw [T4]; rfl
                have c3 : (atanE (n * q) (n * p) != 0) = false := by rw [T2]; rfl
                have c4 : (atanV q p != atanV (n * q) (n * p)) = false := by rw [T3]; exact bne_self_eq_false _
                have V : (atanV q p == atanV s r) = true := by
                  clear L c1 c2 c3 c4 T1 T2 T3 T4; simp only [beq_iff_eq, beq_eq_false_iff_ne, ne_eq, bne_iff_ne, bne_eq_false_iff_eq, decide_eq_true_eq, decide_eq_false_iff_not] at *; first | (exfalso; omega) | exact Int.le_antisymm (turn_le ip iq ir is_ h1 h2 (by omega) (by omega) (by omega)) (turn_le ir is_ ip iq h2 h1 (by omega) (by omega) (by rw [Int.mul_comm r q, Int.mul_comm s p]; omega))
                refine evR_calls (I := noFacts) (v := .bool true) (ctxOf_ok libK1_ok (eq_none _)) (by kernel_rfl) Try.func7 rfl lps_nil L rfl (all2_R (.cons rfl (.cons rfl (.cons rfl (.cons rfl (.cons rfl .nil)))))) (congrArg (fun b => some (Value.bool b)) V) _ (Nat.zero_le _) (pickL_ok ?_ _)
                repeat' (first | exact cd_nil | refine cd_cons ?_ ?_)
                all_goals first | rfl | with_reducible assumption
        | false =>
          cases k32 : (decide (p * s - q * r > 0)) with
          | true =>
            have L := tturn_000000001 x y u v k
            rw [hp] at L
            try rw [hq] at L
            rw [hr, hs] at L
            rw [hn, W1, W2] at L
            rw [W3, W4, W5] at L
            have h1 : ¬ (p = 0 ∧ q = 0) := by clear L; simp only [beq_iff_eq, beq_eq_false_iff_ne, ne_eq, bne_iff_ne, bne_eq_false_iff_eq, decide_eq_true_eq, decide_eq_false_iff_not] at *; omega
            have h2 : ¬ (r = 0 ∧ s = 0) := by clear L; simp only [beq_iff_eq, beq_eq_false_iff_ne, ne_eq, bne_iff_ne, bne_eq_false_iff_eq, decide_eq_true_eq, decide_eq_false_iff_not] at *; omega
            obtain ⟨T1, T2, T3⟩ := turn_n ip iq in_ h1
            have T4 := (turn_n ir is_ in_ h2).1
            have c1 : (atanE q p != 0) = false := by rw [T1]; rfl
            have c2 : (atanE s r != 0) = false := by rw [T4]; rfl
            have c3 : (atanE (n * q) (n * p) != 0) = false := by rw [T2]; rfl
            have c4 : (atanV q p != atanV (n * q) (n * p)) = false := by rw [T3]; exact bne_self_eq_false _
            have V : (decide (atanV q p ≤ atanV s r)) = true := by
              clear L c1 c2 c3 c4 T1 T2 T3 T4; simp only [beq_iff_eq, beq_eq_false_iff_ne, ne_eq, bne_iff_ne, bne_eq_false_iff_eq, decide_eq_true_eq, decide_eq_false_iff_not] at *; first | (exfalso; omega) | exact turn_le ip iq ir is_ h1 h2 (by omega) (by omega) (by omega)
            refine evR_calls (I := noFacts) (v := .bool true) (ctxOf_ok libK1_ok (eq_none _)) (by kernel_rfl) Try.func7 rfl lps_nil L rfl (all2_R (.cons rfl (.cons rfl (.cons rfl (.cons rfl (.cons rfl .nil)))))) (congrArg (fun b => some (Value.bool b)) V) _ (Nat.zero_le _) (pickL_ok ?_ _)
            repeat' (first | exact cd_nil | refine cd_cons ?_ ?_)
            all_goals first | rfl | with_reducible assumption
          | false =>
            cases k33 : (decide (p * s - q * r < 0)) with
            | true =>
              have L := tturn_0000000001 x y u v k
              rw [hp] at L
              try rw [hq] at L
              rw [hr, hs] at L
              rw [hn, W1, W2] at L
              rw [W3, W4, W5] at L
              have h1 : ¬ (p = 0 ∧ q = 0) := by clear L; simp only [beq_iff_eq, beq_eq_false_iff_ne, ne_eq, bne_iff_ne, bne_eq_false_iff_eq, decide_eq_true_eq, decide_eq_false_iff_not] at *; omega
              have h2 : ¬ (r = 0 ∧ s = 0) := by clear L; simp only [beq_iff_eq, beq_eq_false_iff_ne, ne_eq, bne_iff_ne, bne_eq_false_iff_eq, decide_eq_true_eq, decide_eq_false_iff_not] at *; omega
              obtain ⟨T1, T2, T3⟩ := turn_n ip iq in_ h1
              have T4 := (turn_n ir is_ in_ h2).1
              have c1 : (atanE q p != 0) = false := by rw [T1]; rfl
              have c2 : (atanE s r != 0) = false := by rw [T4]; rfl
              have c3 : (atanE (n * q) (n * p) != 0) = false := by rw [T2]; rfl
              have c4 : (atanV q p != atanV (n * q) (n * p)) = false := by rw [T3]; exact bne_self_eq_false _
              have V : (decide (atanV q p ≥ atanV s r)) = true := by
                clear L c1 c2 c3 c4 T1 T2 T3 T4; simp only [beq_iff_eq, beq_eq_false_iff_ne, ne_eq, bne_iff_ne, bne_eq_false_iff_eq, decide_eq_true_eq, decide_eq_false_iff_not] at *; first | (exfalso; omega) | exact turn_le ir is_ ip iq h2 h1 (by omega) (by omega) (by rw [Int.mul_comm r q, Int.mul_comm s p]; omega)
              refine evR_calls (I := noFacts) (v := .bool true) (ctxOf_ok libK1_ok (eq_none _)) (by kernel_rfl) Try.func7 rfl lps_nil L rfl (all2_R (.cons rfl (.cons rfl (.cons rfl (.cons rfl (.cons rfl .nil)))))) (congrArg (fun b => some (Value.bool b)) V) _ (Nat.zero_le _) (pickL_ok ?_ _)
              repeat' (first | exact cd_nil | refine cd_cons ?_ ?_)
              all_goals first | rfl | with_reducible assumption
            | false =>
              have L := tturn_0000000000 x y u v k
              rw [hp] at L
              try rw [hq] at L
              rw [hr, hs] at L
              rw [hn, W1, W2] at L
              rw [W3, W4, W5] at L
              have h1 : ¬ (p = 0 ∧ q = 0) := by clear L; simp only [beq_iff_eq, beq_eq_false_iff_ne, ne_eq, bne_iff_ne, bne_eq_false_iff_eq, decide_eq_true_eq, decide_eq_false_iff_not] at *; omega
              have h2 : ¬ (r = 0 ∧ s = 0) := by clear L; simp only [beq_iff_eq, beq_eq_false_iff_ne, ne_eq, bne_iff_ne, bne_eq_false_iff_eq, decide_eq_true_eq, decide_eq_false_iff_not] at *; omega
              obtain ⟨T1, T2, T3⟩ := turn_n ip iq in_ h1
              have T4 := (turn_n ir is_ in_ h2).1
              have c1 : (atanE q p != 0) = false := by rw [T1]; rfl
              have c2 : (atanE s r != 0) = false := by rw [T4]; rfl
              have c3 : (atanE (n * q) (n * p) != 0) = false := by rw [T2]; rfl
              have c4 : (atanV q p != atanV (n * q) (n * p)) = false := by rw [T3]; exact bne_self_eq_false _
              have V : (atanV q p == atanV s r) = true := by
                clear L c1 c2 c3 c4 T1 T2 T3 T4; simp only [beq_iff_eq, beq_eq_false_iff_ne, ne_eq, bne_iff_ne, bne_eq_false_iff_eq, decide_eq_true_eq, decide_eq_false_iff_not] at *; first | (exfalso; omega) | exact Int.le_antisymm (turn_le ip iq ir is_ h1 h2 (by omega) (by omega) (by omega)) (turn_le ir is_ ip iq h2 h1 (by omega) (by omega) (by rw [Int.mul_comm r q, Int.mul_comm s p]; omega))
              refine evR_calls (I := noFacts) (v := .bool true) (ctxOf_ok libK1_ok (eq_none _)) (by kernel_rfl) Try.func7 rfl lps_nil L rfl (all2_R (.cons rfl (.cons rfl (.cons rfl (.cons rfl (.cons rfl .nil)))))) (congrArg (fun b => some (Value.bool b)) V) _ (Nat.zero_le _) (pickL_ok ?_ _)
              repeat' (first | exact cd_nil | refine cd_cons ?_ ?_)
              all_goals first | rfl | with_reducible assumption
set_option maxRecDepth 100000 in
theorem tsym_1 (a : Int) : evR (ctxOf Try.prog noFacts (fun _ => false) libK1) Try.f4 [(.w (.one (.int .i64 a)))] [true] = some (AV.w (AW.one (AC.yes true)), (pickL [(!true, false), (a == -9223372036854775808, true)] [0, 0, 0, 1])) := by kernel_rfl
set_option maxRecDepth 100000 in
theorem tsym_0111111111 (a : Int) : evR (ctxOf Try.prog noFacts (fun _ => false) libK1) Try.f4 [(.w (.one (.int .i64 a)))] [false, true, true, true, true, true, true, true, true, true] = some (AV.w (AW.one (AC.bool (decide (IntKind.i64.wrap (sinV (IntKind.i64.wrap (maskW a + 1)) - sinV (maskW a)) ≤ 3)))), (pickL [(!true, false), (a == -9223372036854775808, false), (decide (maskW a < 1073741824), true), (i64B (IntKind.i64.wrap (maskW a + 1)), true), (i64B (maskW a), true), (i64B (IntKind.i64.wrap (0 - a)), true), (i64B a, true), (sinV (IntKind.i64.wrap (0 - a)) == IntKind.i64.wrap (0 - sinV a), true), (cosV (IntKind.i64.wrap (0 - a)) == cosV a, true), (i64B (IntKind.i64.wrap (maskW a + 2147483648)), true), (sinV (IntKind.i64.wrap (maskW a + 2147483648)) == IntKind.i64.wrap (0 - sinV a), true), (i64B (IntKind.i64.wrap (2147483648 - maskW a)), true), (sinV (IntKind.i64.wrap (2147483648 - maskW a)) == sinV a, true), (i64B (IntKind.i64.wrap (maskW a + 1073741824)), true), (cosV a == sinV (IntKind.i64.wrap (maskW a + 1073741824)), true), (decide (IntKind.i64.wrap (sinV (IntKind.i64.wrap (maskW a + 1)) - sinV (maskW a)) ≥ 0), true), (true, true), (decide (IntKind.i64.wrap (sinV (IntKind.i64.wrap (maskW a + 1)) - sinV (maskW a)) ≤ 0), true), (decide (IntKind.i64.wrap (sinV (IntKind.i64.wrap (maskW a + 1)) - sinV (maskW a)) ≥ -3), true)] [0, 0, 0, 1, 2, 2, 2, 3, 4, 5, 6, 7, 7, 7, 7, 7, 7, 7, 8, 8, 8, 9, 8, 8, 6, 8, 8, 8, 10, 10, 10, 11, 10, 10, 6, 10, 10, 12, 12, 12, 12, 12, 13, 12, 12, 14, 14, 14, 15, 15, 14, 15, 14, 16, 16, 16, 17, 16, 17, 16, 16, 16, 16, 18, 18, 18])) := by kernel_rfl
set_option maxRecDepth 100000 in
theorem tsym_0111111110 (a : Int) : evR (ctxOf Try.prog noFacts (fun _ => false) libK1) Try.f4 [(.w (.one (.int .i64 a)))] [false, true, true, true, true, true, true, true, true, false] = some (AV.w (AW.one (AC.yes false)), (pickL [(!true, false), (a == -9223372036854775808, false), (decide (maskW a < 1073741824), true), (i64B (IntKind.i64.wrap (maskW a + 1)), true), (i64B (maskW a), true), (i64B (IntKind.i64.wrap (0 - a)), true), (i64B a, true), (sinV (IntKind.i64.wrap (0 - a)) == IntKind.i64.wrap (0 - sinV a), true), (cosV (IntKind.i64.wrap (0 - a)) == cosV a, true), (i64B (IntKind.i64.wrap (maskW a + 2147483648)), true), (sinV (IntKind.i64.wrap (maskW a + 2147483648)) == IntKind.i64.wrap (0 - sinV a), true), (i64B (IntKind.i64.wrap (2147483648 - maskW a)), true), (sinV (IntKind.i64.wrap (2147483648 - maskW a)) == sinV a, true), (i64B (IntKind.i64.wrap (maskW a + 1073741824)), true), (cosV a == sinV (IntKind.i64.wrap (maskW a + 1073741824)), true), (decide (IntKind.i64.wrap (sinV (IntKind.i64.wrap (maskW a + 1)) - sinV (maskW a)) ≥ 0), true), (true, true), (decide (IntKind.i64.wrap (sinV (IntKind.i64.wrap (maskW a + 1)) - sinV (maskW a)) ≤ 0), true), (decide (IntKind.i64.wrap (sinV (IntKind.i64.wrap (maskW a + 1)) - sinV (maskW a)) ≥ -3), false)] [0, 0, 0, 1, 2, 2, 2, 3, 4, 5, 6, 7, 7, 7, 7, 7, 7, 7, 8, 8, 8, 9, 8, 8, 6, 8, 8, 8, 10, 10, 10, 11, 10, 10, 6, 10, 10, 12, 12, 12, 12, 12, 13, 12, 12, 14, 14, 14, 15, 15, 14, 15, 14, 16, 16, 16, 17, 16, 17, 16, 16, 16, 16, 18, 18, 18])) := by kernel_rfl
set_option maxRecDepth 100000 in
theorem tsym_0111111101 (a : Int) : evR (ctxOf Try.prog noFacts (fun _ => false) libK1) Try.f4 [(.w (.one (.int .i64 a)))] [false, true, true, true, true, true, true, true, false, true] = some (AV.w (AW.one (AC.bool (decide (IntKind.i64.wrap (sinV (IntKind.i64.wrap (maskW a + 1)) - sinV (maskW a)) ≤ 3)))), (pickL [(!true, false), (a == -9223372036854775808, false), (decide (maskW a < 1073741824), true), (i64B (IntKind.i64.wrap (maskW a + 1)), true), (i64B (maskW a), true), (i64B (IntKind.i64.wrap (0 - a)), true), (i64B a, true), (sinV (IntKind.i64.wrap (0 - a)) == IntKind.i64.wrap (0 - sinV a), true), (cosV (IntKind.i64.wrap (0 - a)) == cosV a, true), (i64B (IntKind.i64.wrap (maskW a + 2147483648)), true), (sinV (IntKind.i64.wrap (maskW a + 2147483648)) == IntKind.i64.wrap (0 - sinV a), true), (i64B (IntKind.i64.wrap (2147483648 - maskW a)), true), (sinV (IntKind.i64.wrap (2147483648 - maskW a)) == sinV a, true), (i64B (IntKind.i64.wrap (maskW a + 1073741824)), true), (cosV a == sinV (IntKind.i64.wrap (maskW a + 1073741824)), true), (decide (IntKind.i64.wrap (sinV (IntKind.i64.wrap (maskW a + 1)) - sinV (maskW a)) ≥ 0), true), (true, true), (decide (IntKind.i64.wrap (sinV (IntKind.i64.wrap (maskW a + 1)) - sinV (maskW a)) ≤ 0), false), (decide (IntKind.i64.wrap (sinV (IntKind.i64.wrap (maskW a + 1)) - sinV (maskW a)) ≥ -3), true)] [0, 0, 0, 1, 2, 2, 2, 3, 4, 5, 6, 7, 7, 7, 7, 7, 7, 7, 8, 8, 8, 9, 8, 8, 6, 8, 8, 8, 10, 10, 10, 11, 10, 10, 6, 10, 10, 12, 12, 12, 12, 12, 13, 12, 12, 14, 14, 14, 15, 15, 14, 15, 14, 16, 16, 16, 17, 16, 17, 16, 16, 16, 16, 18, 18, 18])) := by kernel_rfl
set_option maxRecDepth 100000 in
theorem tsym_0111111100 (a : Int) : evR (ctxOf Try.prog noFacts (fun _ => false) libK1) Try.f4 [(.w (.one (.int .i64 a)))] [false, true, true, true, true, true, true, true, false, false] = some (AV.w (AW.one (AC.yes false)), (pickL [(!true, false), (a == -9223372036854775808, false), (decide (maskW a < 1073741824), true), (i64B (IntKind.i64.wrap (maskW a + 1)), true), (i64B (maskW a), true), (i64B (IntKind.i64.wrap (0 - a)), true), (i64B a, true), (sinV (IntKind.i64.wrap (0 - a)) == IntKind.i64.wrap (0 - sinV a), true), (cosV (IntKind.i64.wrap (0 - a)) == cosV a, true), (i64B (IntKind.i64.wrap (maskW a + 2147483648)), true), (sinV (IntKind.i64.wrap (maskW a + 2147483648)) == IntKind.i64.wrap (0 - sinV a), true), (i64B (IntKind.i64.wrap (2147483648 - maskW a)), true), (sinV (IntKind.i64.wrap (2147483648 - maskW a)) == sinV a, true), (i64B (IntKind.i64.wrap (maskW a + 1073741824)), true), (cosV a == sinV (IntKind.i64.wrap (maskW a + 1073741824)), true), (decide (IntKind.i64.wrap (sinV (IntKind.i64.wrap (maskW a + 1)) - sinV (maskW a)) ≥ 0), true), (true, true), (decide (IntKind.i64.wrap (sinV (IntKind.i64.wrap (maskW a + 1)) - sinV (maskW a)) ≤ 0), false), (decide (IntKind.i64.wrap (sinV (IntKind.i64.wrap (maskW a + 1)) - sinV (maskW a)) ≥ -3), false)] [0, 0, 0, 1, 2, 2, 2, 3, 4, 5, 6, 7, 7, 7, 7, 7, 7, 7, 8, 8, 8, 9, 8, 8, 6, 8, 8, 8, 10, 10, 10, 11, 10, 10, 6, 10, 10, 12, 12, 12, 12, 12, 13, 12, 12, 14, 14, 14, 15, 15, 14, 15, 14, 16, 16, 16, 17, 16, 17, 16, 16, 16, 16, 18, 18, 18])) := by kernel_rfl
set_option maxRecDepth 100000 in
theorem tsym_01111110 (a : Int) : evR (ctxOf Try.prog noFacts (fun _ => false) libK1) Try.f4 [(.w (.one (.int .i64 a)))] [false, true, true, true, true, true, true, false] = some (AV.w (AW.one (AC.yes false)), (pickL [(!true, false), (a == -9223372036854775808, false), (decide (maskW a < 1073741824), true), (i64B (IntKind.i64.wrap (maskW a + 1)), true), (i64B (maskW a), true), (i64B (IntKind.i64.wrap (0 - a)), true), (i64B a, true), (sinV (IntKind.i64.wrap (0 - a)) == IntKind.i64.wrap (0 - sinV a), true), (cosV (IntKind.i64.wrap (0 - a)) == cosV a, true), (i64B (IntKind.i64.wrap (maskW a + 2147483648)), true), (sinV (IntKind.i64.wrap (maskW a + 2147483648)) == IntKind.i64.wrap (0 - sinV a), true), (i64B (IntKind.i64.wrap (2147483648 - maskW a)), true), (sinV (IntKind.i64.wrap (2147483648 - maskW a)) == sinV a, true), (i64B (IntKind.i64.wrap (maskW a + 1073741824)), true), (cosV a == sinV (IntKind.i64.wrap (maskW a + 1073741824)), true), (decide (IntKind.i64.wrap (sinV (IntKind.i64.wrap (maskW a + 1)) - sinV (maskW a)) ≥ 0), false), (false, false)] [0, 0, 0, 1, 2, 2, 2, 3, 4, 5, 6, 7, 7, 7, 7, 7, 7, 7, 8, 8, 8, 9, 8, 8, 6, 8, 8, 8, 10, 10, 10, 11, 10, 10, 6, 10, 10, 12, 12, 12, 12, 12, 13, 12, 12, 14, 14, 14, 15, 15, 14, 15, 14, 0, 0, 0, 0, 0, 16, 16, 16, 16, 16, 16])) := by kernel_rfl
set_option maxRecDepth 100000 in
theorem tsym_0011111111 (a : Int) : evR (ctxOf Try.prog noFacts (fun _ => false) libK1) Try.f4 [(.w (.one (.int .i64 a)))] [false, false, true, true, true, true, true, true, true, true] = some (AV.w (AW.one (AC.bool (decide (IntKind.i64.wrap (sinV (IntKind.i64.wrap (maskW a + 1)) - sinV (maskW a)) ≤ 3)))), (pickL [(!true, false), (a == -9223372036854775808, false), (decide (maskW a < 1073741824), false), (i64B (IntKind.i64.wrap (maskW a + 1)), true), (i64B (maskW a), true), (i64B (IntKind.i64.wrap (0 - a)), true), (i64B a, true), (sinV (IntKind.i64.wrap (0 - a)) == IntKind.i64.wrap (0 - sinV a), true), (cosV (IntKind.i64.wrap (0 - a)) == cosV a, true), (i64B (IntKind.i64.wrap (maskW a + 2147483648)), true), (sinV (IntKind.i64.wrap (maskW a + 2147483648)) == IntKind.i64.wrap (0 - sinV a), true), (i64B (IntKind.i64.wrap (2147483648 - maskW a)), true), (sinV (IntKind.i64.wrap (2147483648 - maskW a)) == sinV a, true), (i64B (IntKind.i64.wrap (maskW a + 1073741824)), true), (cosV a == sinV (IntKind.i64.wrap (maskW a + 1073741824)), true), (decide (IntKind.i64.wrap (sinV (IntKind.i64.wrap (maskW a + 1)) - sinV (maskW a)) ≥ 0), true), (true, true), (decide (IntKind.i64.wrap (sinV (IntKind.i64.wrap (maskW a + 1)) - sinV (maskW a)) ≤ 0), true), (decide (IntKind.i64.wrap (sinV (IntKind.i64.wrap (maskW a + 1)) - sinV (maskW a)) ≥ -3), true)] [0, 0, 0, 1, 2, 2, 2, 3, 4, 5, 6, 7, 7, 7, 7, 7, 7, 7, 8, 8, 8, 9, 8, 8, 6, 8, 8, 8, 10, 10, 10, 11, 10, 10, 6, 10, 10, 12, 12, 12, 12, 12, 13, 12, 12, 14, 14, 14, 15, 15, 14, 15, 14, 16, 16, 16, 17, 16, 17, 16, 16, 16, 16, 18, 18, 18])) := by kernel_rfl
set_option maxRecDepth 100000 in
theorem tsym_0011111110 (a : Int) : evR (ctxOf Try.prog noFacts (fun _ => false) libK1) Try.f4 [(.w (.one (.int .i64 a)))] [false, false, true, true, true, true, true, true, true, false] = some (AV.w (AW.one (AC.yes false)), (pickL [(!true, false), (a == -9223372036854775808, false), (decide (maskW a < 1073741824), false), (i64B (IntKind.i64.wrap (maskW a + 1)), true), (i64B (maskW a), true), (i64B (IntKind.i64.wrap (0 - a)), true), (i64B a, true), (sinV (IntKind.i64.wrap (0 - a)) == IntKind.i64.wrap (0 - sinV a), true), (cosV (IntKind.i64.wrap (0 - a)) == cosV a, true), (i64B (IntKind.i64.wrap (maskW a + 2147483648)), true), (sinV (IntKind.i64.wrap (maskW a + 2147483648)) == IntKind.i64.wrap (0 - sinV a), true), (i64B (IntKind.i64.wrap (2147483648 - maskW a)), true), (sinV (IntKind.i64.wrap (2147483648 - maskW a)) == sinV a, true), (i64B (IntKind.i64.wrap (maskW a + 1073741824)), true), (cosV a == sinV (IntKind.i64.wrap (maskW a + 1073741824)), true), (decide (IntKind.i64.wrap (sinV (IntKind.i64.wrap (maskW a + 1)) - sinV (maskW a)) ≥ 0), true), (true, true), (decide (IntKind.i64.wrap (sinV (IntKind.i64.wrap (maskW a + 1)) - sinV (maskW a)) ≤ 0), true), (decide (IntKind.i64.wrap (sinV (IntKind.i64.wrap (maskW a + 1)) - sinV (maskW a)) ≥ -3), false)] [0, 0, 0, 1, 2, 2, 2, 3, 4, 5, 6, 7, 7, 7, 7, 7, 7, 7, 8, 8, 8, 9, 8, 8, 6, 8, 8, 8, 10, 10, 10, 11, 10, 10, 6, 10, 10, 12, 12, 12, 12, 12, 13, 12, 12, 14, 14, 14, 15, 15, 14, 15, 14, 16, 16, 16, 17, 16, 17, 16, 16, 16, 16, 18, 18, 18])) := by kernel_rfl
set_option maxRecDepth 100000 in
theorem tsym_00111111011 (a : Int) : evR (ctxOf Try.prog noFacts (fun _ => false) libK1) Try.f4 [(.w (.one (.int .i64 a)))] [false, false, true, true, true, true, true, true, false, true, true] = some (AV.w (AW.one (AC.bool (decide (IntKind.i64.wrap (sinV (IntKind.i64.wrap (maskW a + 1)) - sinV (maskW a)) ≤ 3)))), (pickL [(!true, false), (a == -9223372036854775808, false), (decide (maskW a < 1073741824), false), (i64B (IntKind.i64.wrap (maskW a + 1)), true), (i64B (maskW a), true), (i64B (IntKind.i64.wrap (0 - a)), true), (i64B a, true), (sinV (IntKind.i64.wrap (0 - a)) == IntKind.i64.wrap (0 - sinV a), true), (cosV (IntKind.i64.wrap (0 - a)) == cosV a, true), (i64B (IntKind.i64.wrap (maskW a + 2147483648)), true), (sinV (IntKind.i64.wrap (maskW a + 2147483648)) == IntKind.i64.wrap (0 - sinV a), true), (i64B (IntKind.i64.wrap (2147483648 - maskW a)), true), (sinV (IntKind.i64.wrap (2147483648 - maskW a)) == sinV a, true), (i64B (IntKind.i64.wrap (maskW a + 1073741824)), true), (cosV a == sinV (IntKind.i64.wrap (maskW a + 1073741824)), true), (decide (IntKind.i64.wrap (sinV (IntKind.i64.wrap (maskW a + 1)) - sinV (maskW a)) ≥ 0), true), (true, true), (decide (IntKind.i64.wrap (sinV (IntKind.i64.wrap (maskW a + 1)) - sinV (maskW a)) ≤ 0), false), (decide (maskW a ≥ 3221225472), true), (decide (IntKind.i64.wrap (sinV (IntKind.i64.wrap (maskW a + 1)) - sinV (maskW a)) ≥ -3), true)] [0, 0, 0, 1, 2, 2, 2, 3, 4, 5, 6, 7, 7, 7, 7, 7, 7, 7, 8, 8, 8, 9, 8, 8, 6, 8, 8, 8, 10, 10, 10, 11, 10, 10, 6, 10, 10, 12, 12, 12, 12, 12, 13, 12, 12, 14, 14, 14, 15, 15, 14, 15, 14, 16, 16, 16, 17, 16, 17, 16, 18, 18, 18, 19, 19, 19])) := by kernel_rfl
set_option maxRecDepth 100000 in
theorem tsym_00111111010 (a : Int) : evR (ctxOf Try.prog noFacts (fun _ => false) libK1) Try.f4 [(.w (.one (.int .i64 a)))] [false, false, true, true, true, true, true, true, false, true, false] = some (AV.w (AW.one (AC.yes false)), (pickL [(!true, false), (a == -9223372036854775808, false), (decide (maskW a < 1073741824), false), (i64B (IntKind.i64.wrap (maskW a + 1)), true), (i64B (maskW a), true), (i64B (IntKind.i64.wrap (0 - a)), true), (i64B a, true), (sinV (IntKind.i64.wrap (0 - a)) == IntKind.i64.wrap (0 - sinV a), true), (cosV (IntKind.i64.wrap (0 - a)) == cosV a, true), (i64B (IntKind.i64.wrap (maskW a + 2147483648)), true), (sinV (IntKind.i64.wrap (maskW a + 2147483648)) == IntKind.i64.wrap (0 - sinV a), true), (i64B (IntKind.i64.wrap (2147483648 - maskW a)), true), (sinV (IntKind.i64.wrap (2147483648 - maskW a)) == sinV a, true), (i64B (IntKind.i64.wrap (maskW a + 1073741824)), true), (cosV a == sinV (IntKind.i64.wrap (maskW a + 1073741824)), true), (decide (IntKind.i64.wrap (sinV (IntKind.i64.wrap (maskW a + 1)) - sinV (maskW a)) ≥ 0), true), (true, true), (decide (IntKind.i64.wrap (sinV (IntKind.i64.wrap (maskW a + 1)) - sinV (maskW a)) ≤ 0), false), (decide (maskW a ≥ 3221225472), true), (decide (IntKind.i64.wrap (sinV (IntKind.i64.wrap (maskW a + 1)) - sinV (maskW a)) ≥ -3), false)] [0, 0, 0, 1, 2, 2, 2, 3, 4, 5, 6, 7, 7, 7, 7, 7, 7, 7, 8, 8, 8, 9, 8, 8, 6, 8, 8, 8, 10, 10, 10, 11, 10, 10, 6, 10, 10, 12, 12, 12, 12, 12, 13, 12, 12, 14, 14, 14, 15, 15, 14, 15, 14, 16, 16, 16, 17, 16, 17, 16, 18, 18, 18, 19, 19, 19])) := by kernel_rfl
set_option maxRecDepth 100000 in
theorem tsym_0011111100 (a : Int) : evR (ctxOf Try.prog noFacts (fun _ => false) libK1) Try.f4 [(.w (.one (.int .i64 a)))] [false, false, true, true, true, true, true, true, false, false] = some (AV.w (AW.one (AC.yes false)), (pickL [(!true, false), (a == -9223372036854775808, false), (decide (maskW a < 1073741824), false), (i64B (IntKind.i64.wrap (maskW a + 1)), true), (i64B (maskW a), true), (i64B (IntKind.i64.wrap (0 - a)), true), (i64B a, true), (sinV (IntKind.i64.wrap (0 - a)) == IntKind.i64.wrap (0 - sinV a), true), (cosV (IntKind.i64.wrap (0 - a)) == cosV a, true), (i64B (IntKind.i64.wrap (maskW a + 2147483648)), true), (sinV (IntKind.i64.wrap (maskW a + 2147483648)) == IntKind.i64.wrap (0 - sinV a), true), (i64B (IntKind.i64.wrap (2147483648 - maskW a)), true), (sinV (IntKind.i64.wrap (2147483648 - maskW a)) == sinV a, true), (i64B (IntKind.i64.wrap (maskW a + 1073741824)), true), (cosV a == sinV (IntKind.i64.wrap (maskW a + 1073741824)), true), (decide (IntKind.i64.wrap (sinV (IntKind.i64.wrap (maskW a + 1)) - sinV (maskW a)) ≥ 0), true), (true, true), (decide (IntKind.i64.wrap (sinV (IntKind.i64.wrap (maskW a + 1)) - sinV (maskW a)) ≤ 0), false), (decide (maskW a ≥ 3221225472), false), (false, false)] [0, 0, 0, 1, 2, 2, 2, 3, 4, 5, 6, 7, 7, 7, 7, 7, 7, 7, 8, 8, 8, 9, 8, 8, 6, 8, 8, 8, 10, 10, 10, 11, 10, 10, 6, 10, 10, 12, 12, 12, 12, 12, 13, 12, 12, 14, 14, 14, 15, 15, 14, 15, 14, 16, 16, 16, 17, 16, 17, 16, 18, 18, 18, 19, 19, 19])) := by kernel_rfl
set_option maxRecDepth 100000 in
theorem tsym_00111110111 (a : Int) : evR (ctxOf Try.prog noFacts (fun _ => false) libK1) Try.f4 [(.w (.one (.int .i64 a)))] [false, false, true, true, true, true, true, false, true, true, true] = some (AV.w (AW.one (AC.bool (decide (IntKind.i64.wrap (sinV (IntKind.i64.wrap (maskW a + 1)) - sinV (maskW a)) ≤ 3)))), (pickL [(!true, false), (a == -9223372036854775808, false), (decide (maskW a < 1073741824), false), (i64B (IntKind.i64.wrap (maskW a + 1)), true), (i64B (maskW a), true), (i64B (IntKind.i64.wrap (0 - a)), true), (i64B a, true), (sinV (IntKind.i64.wrap (0 - a)) == IntKind.i64.wrap (0 - sinV a), true), (cosV (IntKind.i64.wrap (0 - a)) == cosV a, true), (i64B (IntKind.i64.wrap (maskW a + 2147483648)), true), (sinV (IntKind.i64.wrap (maskW a + 2147483648)) == IntKind.i64.wrap (0 - sinV a), true), (i64B (IntKind.i64.wrap (2147483648 - maskW a)), true), (sinV (IntKind.i64.wrap (2147483648 - maskW a)) == sinV a, true), (i64B (IntKind.i64.wrap (maskW a + 1073741824)), true), (cosV a == sinV (IntKind.i64.wrap (maskW a + 1073741824)), true), (decide (IntKind.i64.wrap (sinV (IntKind.i64.wrap (maskW a + 1)) - sinV (maskW a)) ≥ 0), false), (!decide (maskW a ≥ 3221225472), true), (decide (IntKind.i64.wrap (sinV (IntKind.i64.wrap (maskW a + 1)) - sinV (maskW a)) ≤ 0), true), (true, true), (decide (IntKind.i64.wrap (sinV (IntKind.i64.wrap (maskW a + 1)) - sinV (maskW a)) ≥ -3), true)] [0, 0, 0, 1, 2, 2, 2, 3, 4, 5, 6, 7, 7, 7, 7, 7, 7, 7, 8, 8, 8, 9, 8, 8, 6, 8, 8, 8, 10, 10, 10, 11, 10, 10, 6, 10, 10, 12, 12, 12, 12, 12, 13, 12, 12, 14, 14, 14, 15, 15, 14, 15, 14, 16, 16, 16, 17, 16, 17, 16, 18, 18, 18, 19, 19, 19])) := by kernel_rfl
set_option maxRecDepth 100000 in
theorem tsym_00111110110 (a : Int) : evR (ctxOf Try.prog noFacts (fun _ => false) libK1) Try.f4 [(.w (.one (.int .i64 a)))] [false, false, true, true, true, true, true, false, true, true, false] = some (AV.w (AW.one (AC.yes false)), (pickL [(!true, false), (a == -9223372036854775808, false), (decide (maskW a < 1073741824), false), (i64B (IntKind.i64.wrap (maskW a + 1)), true), (i64B (maskW a), true), (i64B (IntKind.i64.wrap (0 - a)), true), (i64B a, true), (sinV (IntKind.i64.wrap (0 - a)) == IntKind.i64.wrap (0 - sinV a), true), (cosV (IntKind.i64.wrap (0 - a)) == cosV a, true), (i64B (IntKind.i64.wrap (maskW a + 2147483648)), true), (sinV (IntKind.i64.wrap (maskW a + 2147483648)) == IntKind.i64.wrap (0 - sinV a), true), (i64B (IntKind.i64.wrap (2147483648 - maskW a)), true), (sinV (IntKind.i64.wrap (2147483648 - maskW a)) == sinV a, true), (i64B (IntKind.i64.wrap (maskW a + 1073741824)), true), (cosV a == sinV (IntKind.i64.wrap (maskW a + 1073741824)), true), (decide (IntKind.i64.wrap (sinV (IntKind.i64.wrap (maskW a + 1)) - sinV (maskW a)) ≥ 0), false), (!decide (maskW a ≥ 3221225472), true), (decide (IntKind.i64.wrap (sinV (IntKind.i64.wrap (maskW a + 1)) - sinV (maskW a)) ≤ 0), true), (true, true), (decide (IntKind.i64.wrap (sinV (IntKind.i64.wrap (maskW a + 1)) - sinV (maskW a)) ≥ -3), false)] [0, 0, 0, 1, 2, 2, 2, 3, 4, 5, 6, 7, 7, 7, 7, 7, 7, 7, 8, 8, 8, 9, 8, 8, 6, 8, 8, 8, 10, 10, 10, 11, 10, 10, 6, 10, 10, 12, 12, 12, 12, 12, 13, 12, 12, 14, 14, 14, 15, 15, 14, 15, 14, 16, 16, 16, 17, 16, 17, 16, 18, 18, 18, 19, 19, 19])) := by kernel_rfl
set_option maxRecDepth 100000 in
theorem tsym_001111101011 (a : Int) : evR (ctxOf Try.prog noFacts (fun _ => false) libK1) Try.f4 [(.w (.one (.int .i64 a)))] [false, false, true, true, true, true, true, false, true, false, true, true] = some (AV.w (AW.one (AC.bool (decide (IntKind.i64.wrap (sinV (IntKind.i64.wrap (maskW a + 1)) - sinV (maskW a)) ≤ 3)))), (pickL [(!true, false), (a == -9223372036854775808, false), (decide (maskW a < 1073741824), false), (i64B (IntKind.i64.wrap (maskW a + 1)), true), (i64B (maskW a), true), (i64B (IntKind.i64.wrap (0 - a)), true), (i64B a, true), (sinV (IntKind.i64.wrap (0 - a)) == IntKind.i64.wrap (0 - sinV a), true), (cosV (IntKind.i64.wrap (0 - a)) == cosV a, true), (i64B (IntKind.i64.wrap (maskW a + 2147483648)), true), (sinV (IntKind.i64.wrap (maskW a + 2147483648)) == IntKind.i64.wrap (0 - sinV a), true), (i64B (IntKind.i64.wrap (2147483648 - maskW a)), true), (sinV (IntKind.i64.wrap (2147483648 - maskW a)) == sinV a, true), (i64B (IntKind.i64.wrap (maskW a + 1073741824)), true), (cosV a == sinV (IntKind.i64.wrap (maskW a + 1073741824)), true), (decide (IntKind.i64.wrap (sinV (IntKind.i64.wrap (maskW a + 1)) - sinV (maskW a)) ≥ 0), false), (!decide (maskW a ≥ 3221225472), true), (decide (IntKind.i64.wrap (sinV (IntKind.i64.wrap (maskW a + 1)) - sinV (maskW a)) ≤ 0), false), (decide (maskW a ≥ 3221225472), true), (decide (IntKind.i64.wrap (sinV (IntKind.i64.wrap (maskW a + 1)) - sinV (maskW a)) ≥ -3), true)] [0, 0, 0, 1, 2, 2, 2, 3, 4, 5, 6, 7, 7, 7, 7, 7, 7, 7, 8, 8, 8, 9, 8, 8, 6, 8, 8, 8, 10, 10, 10, 11, 10, 10, 6, 10, 10, 12, 12, 12, 12, 12, 13, 12, 12, 14, 14, 14, 15, 15, 14, 15, 14, 16, 16, 16, 17, 16, 17, 16, 18, 18, 18, 19, 19, 19])) := by kernel_rfl
set_option maxRecDepth 100000 in
theorem tsym_001111101010 (a : Int) : evR (ctxOf Try.prog noFacts (fun _ => false) libK1) Try.f4 [(.w (.one (.int .i64 a)))] [false, false, true, true, true, true, true, false, true, false, true, false] = some (AV.w (AW.one (AC.yes false)), (pickL [(!true, false), (a == -9223372036854775808, false), (decide (maskW a < 1073741824), false), (i64B (IntKind.i64.wrap (maskW a + 1)), true), (i64B (maskW a), true), (i64B (IntKind.i64.wrap (0 - a)), true), (i64B a, true), (sinV (IntKind.i64.wrap (0 - a)) == IntKind.i64.wrap (0 - sinV a), true), (cosV (IntKind.i64.wrap (0 - a)) == cosV a, true), (i64B (IntKind.i64.wrap (maskW a + 2147483648)), true), (sinV (IntKind.i64.wrap (maskW a + 2147483648)) == IntKind.i64.wrap (0 - sinV a), true), (i64B (IntKind.i64.wrap (2147483648 - maskW a)), true), (sinV (IntKind.i64.wrap (2147483648 - maskW a)) == sinV a, true), (i64B (IntKind.i64.wrap (maskW a + 1073741824)), true), (cosV a == sinV (IntKind.i64.wrap (maskW a + 1073741824)), true), (decide (IntKind.i64.wrap (sinV (IntKind.i64.wrap (maskW a + 1)) - sinV (maskW a)) ≥ 0), false), (!decide (maskW a ≥ 3221225472), true), (decide (IntKind.i64.wrap (sinV (IntKind.i64.wrap (maskW a + 1)) - sinV (maskW a)) ≤ 0), false), (decide (maskW a ≥ 3221225472), true), (decide (IntKind.i64.wrap (sinV (IntKind.i64.wrap (maskW a + 1)) - sinV (maskW a)) ≥ -3), false)] [0, 0, 0, 1, 2, 2, 2, 3, 4, 5, 6, 7, 7, 7, 7, 7, 7, 7, 8, 8, 8, 9, 8, 8, 6, 8, 8, 8, 10, 10, 10, 11, 10, 10, 6, 10, 10, 12, 12, 12, 12, 12, 13, 12, 12, 14, 14, 14, 15, 15, 14, 15, 14, 16, 16, 16, 17, 16, 17, 16, 18, 18, 18, 19, 19, 19])) := by kernel_rfl
set_option maxRecDepth 100000 in
theorem tsym_00111110100 (a : Int) : evR (ctxOf Try.prog noFacts (fun _ => false) libK1) Try.f4 [(.w (.one (.int .i64 a)))] [false, false, true, true, true, true, true, false, true, false, false] = some (AV.w (AW.one (AC.yes false)), (pickL [(!true, false), (a == -9223372036854775808, false), (decide (maskW a < 1073741824), false), (i64B (IntKind.i64.wrap (maskW a + 1)), true), (i64B (maskW a), true), (i64B (IntKind.i64.wrap (0 - a)), true), (i64B a, true), (sinV (IntKind.i64.wrap (0 - a)) == IntKind.i64.wrap (0 - sinV a), true), (cosV (IntKind.i64.wrap (0 - a)) == cosV a, true), (i64B (IntKind.i64.wrap (maskW a + 2147483648)), true), (sinV (IntKind.i64.wrap (maskW a + 2147483648)) == IntKind.i64.wrap (0 - sinV a), true), (i64B (IntKind.i64.wrap (2147483648 - maskW a)), true), (sinV (IntKind.i64.wrap (2147483648 - maskW a)) == sinV a, true), (i64B (IntKind.i64.wrap (maskW a + 1073741824)), true), (cosV a == sinV (IntKind.i64.wrap (maskW a + 1073741824)), true), (decide (IntKind.i64.wrap (sinV (IntKind.i64.wrap (maskW a + 1)) - sinV (maskW a)) ≥ 0), false), (!decide (maskW a ≥ 3221225472), true), (decide (IntKind.i64.wrap (sinV (IntKind.i64.wrap (maskW a + 1)) - sinV (maskW a)) ≤ 0), false), (decide (maskW a ≥ 3221225472), false), (false, false)] [0, 0, 0, 1, 2, 2, 2, 3, 4, 5, 6, 7, 7, 7, 7, 7, 7, 7, 8, 8, 8, 9, 8, 8, 6, 8, 8, 8, 10, 10, 10, 11, 10, 10, 6, 10, 10, 12, 12, 12, 12, 12, 13, 12, 12, 14, 14, 14, 15, 15, 14, 15, 14, 16, 16, 16, 17, 16, 17, 16, 18, 18, 18, 19, 19, 19])) := by kernel_rfl
set_option maxRecDepth 100000 in
theorem tsym_001111100 (a : Int) : evR (ctxOf Try.prog noFacts (fun _ => false) libK1) Try.f4 [(.w (.one (.int .i64 a)))] [false, false, true, true, true, true, true, false, false] = some (AV.w (AW.one (AC.yes false)), (pickL [(!true, false), (a == -9223372036854775808, false), (decide (maskW a < 1073741824), false), (i64B (IntKind.i64.wrap (maskW a + 1)), true), (i64B (maskW a), true), (i64B (IntKind.i64.wrap (0 - a)), true), (i64B a, true), (sinV (IntKind.i64.wrap (0 - a)) == IntKind.i64.wrap (0 - sinV a), true), (cosV (IntKind.i64.wrap (0 - a)) == cosV a, true), (i64B (IntKind.i64.wrap (maskW a + 2147483648)), true), (sinV (IntKind.i64.wrap (maskW a + 2147483648)) == IntKind.i64.wrap (0 - sinV a), true), (i64B (IntKind.i64.wrap (2147483648 - maskW a)), true), (sinV (IntKind.i64.wrap (2147483648 - maskW a)) == sinV a, true), (i64B (IntKind.i64.wrap (maskW a + 1073741824)), true), (cosV a == sinV (IntKind.i64.wrap (maskW a + 1073741824)), true), (decide (IntKind.i64.wrap (sinV (IntKind.i64.wrap (maskW a + 1)) - sinV (maskW a)) ≥ 0), false), (!decide (maskW a ≥ 3221225472), false), (false, false)] [0, 0, 0, 1, 2, 2, 2, 3, 4, 5, 6, 7, 7, 7, 7, 7, 7, 7, 8, 8, 8, 9, 8, 8, 6, 8, 8, 8, 10, 10, 10, 11, 10, 10, 6, 10, 10, 12, 12, 12, 12, 12, 13, 12, 12, 14, 14, 14, 15, 15, 14, 15, 14, 16, 16, 16, 16, 16, 17, 17, 17, 17, 17, 17])) := by kernel_rfl
set_option maxRecDepth 100000 in
set_option maxHeartbeats 4000000 in
theorem trigSymmetries_law (a : Int) (a1 : -9223372036854775808 ≤ a) (a2 : a ≤ 9223372036854775807) (w : World) : Calls Try.prog 4 #[.int .i64 a] w fun e w' => e = .returned (.bool true) ∧ Below w.heap.size w w' := by
  have i_a : i64B a = true := i64B_iff.2 ⟨a1, a2⟩
  have s0 := sin_range a
  have e0 : sinV (a % 4294967296) = sinV a := sin_cong (by omega)
  have S2 : sinV (a % 4294967296 + 2147483648) = -sinV a := by rw [sin_half, e0]
  have S3 : sinV (2147483648 - a % 4294967296) = sinV a := by rw [sin_supp, e0]
  have S4 : cosV a = sinV (a % 4294967296 + 1073741824) := by unfold cosV; exact sin_cong (by omega)
  have X1 : a ≠ -9223372036854775808 → IntKind.i64.wrap (0 - a) = -a := fun h => by rw [i64w (by omega) (by omega)]; omega
  have X2 : IntKind.i64.wrap (0 - sinV a) = -sinV a := by rw [i64w (by omega) (by omega)]; omega
  have X3 : IntKind.i64.wrap (a % 4294967296 + 1) = a % 4294967296 + 1 := i64w (by omega) (by omega)
  have X4 : IntKind.i64.wrap (a % 4294967296 + 2147483648) = a % 4294967296 + 2147483648 := i64w (by omega) (by omega)
  have X5 : IntKind.i64.wrap (2147483648 - a % 4294967296) = 2147483648 - a % 4294967296 := i64w (by omega) (by omega)
  have X6 : IntKind.i64.wrap (a % 4294967296 + 1073741824) = a % 4294967296 + 1073741824 := i64w (by omega) (by omega)
  have U := sin_up (a := a % 4294967296)
  have D := sin_down (a := a % 4294967296)
  rw [show a % 4294967296 % 4294967296 = a % 4294967296 by omega] at U D
  have r1 := sin_range (a % 4294967296 + 1)
  have r2 := sin_range (a % 4294967296)
  have X7 : IntKind.i64.wrap (sinV (a % 4294967296 + 1) - sinV (a % 4294967296)) = sinV (a % 4294967296 + 1) - sinV (a % 4294967296) := i64w (by omega) (by omega)
  cases k0 : (a == -9223372036854775808) with
  | true =>
    have L := tsym_1 a
    refine evR_calls (I := noFacts) (v := .bool true) (ctxOf_ok libK1_ok (eq_none _)) (by kernel_rfl) Try.func4 rfl lps_nil L rfl (all2_R (.cons rfl .nil)) rfl _ (Nat.zero_le _) (pickL_ok ?_ _)
    repeat' (first | exact cd_nil | refine cd_cons ?_ ?_)
    all_goals first | rfl | with_reducible assumption | (with_reducible refine i64B_iff.2 ?_; omega)
  | false =>
    cases k1 : (decide (a % 4294967296 < 1073741824)) with
    | true =>
      have k2 : (sinV (-a) == -sinV a) = true := beq_iff_eq.2 (sin_neg a)
      have k3 : (cosV (-a) == cosV a) = true := beq_iff_eq.2 (cos_neg a)
      have k4 : (sinV (a % 4294967296 + 2147483648) == -sinV a) = true := beq_iff_eq.2 S2
      have k5 : (sinV (2147483648 - a % 4294967296) == sinV a) = true := beq_iff_eq.2 S3
      have k6 : (cosV a == sinV (a % 4294967296 + 1073741824)) = true := beq_iff_eq.2 S4
      cases k7 : (decide (sinV (a % 4294967296 + 1) - sinV (a % 4294967296) ≥ 0)) with
      | true =>
        cases k8 : (decide (sinV (a % 4294967296 + 1) - sinV (a % 4294967296) ≤ 0)) with
        | true =>
          cases k9 : (decide (sinV (a % 4294967296 + 1) - sinV (a % 4294967296) ≥ -3)) with
          | true =>
            have L := tsym_0111111111 a
            have n0 : a ≠ -9223372036854775808 := by simpa using k0
            have i_n : i64B (-a) = true := i64B_iff.2 (by omega)
            rw [maskW_eq] at L
            rw [X1 (by simpa using k0), X2] at L
            rw [X3] at L
            rw [X4] at L
            rw [X5] at L
            rw [X6] at L
            try rw [X7] at L
            have V : (decide (sinV (a % 4294967296 + 1) - sinV (a % 4294967296) ≤ 3)) = true := by
              try clear L
              simp only [beq_iff_eq, beq_eq_false_iff_ne, ne_eq, bne_iff_ne, bne_eq_false_iff_eq, decide_eq_true_eq, decide_eq_false_iff_not, Bool.not_eq_true', Bool.not_eq_false'] at *
              omega
            refine evR_calls (I := noFacts) (v := .bool true) (ctxOf_ok libK1_ok (eq_none _)) (by kernel_rfl) Try.func4 rfl lps_nil L rfl (all2_R (.cons rfl .nil)) (congrArg (fun b => some (Value.bool b)) V) _ (Nat.zero_le _) (pickL_ok ?_ _)
            repeat' (first | exact cd_nil | refine cd_cons ?_ ?_)
            all_goals first | rfl | with_reducible assumption | (with_reducible refine i64B_iff.2 ?_; omega)
          | false =>
            exfalso
            try clear L
            simp only [beq_iff_eq, beq_eq_false_iff_ne, ne_eq, bne_iff_ne, bne_eq_false_iff_eq, decide_eq_true_eq, decide_eq_false_iff_not, Bool.not_eq_true', Bool.not_eq_false'] at *
            omega
        | false =>
          cases k10 : (decide (sinV (a % 4294967296 + 1) - sinV (a % 4294967296) ≥ -3)) with
          | true =>
            have L := tsym_0111111101 a
            have n0 : a ≠ -9223372036854775808 := by simpa using k0
            have i_n : i64B (-a) = true := i64B_iff.2 (by omega)
            rw [maskW_eq] at L
            rw [X1 (by simpa using k0), X2] at L
            rw [X3] at L
            rw [X4] at L
            rw [X5] at L
            rw [X6] at L
            try rw [X7] at L
            have V : (decide (sinV (a % 4294967296 + 1) - sinV (a % 4294967296) ≤ 3)) = true := by
              try clear L
              simp only [beq_iff_eq, beq_eq_false_iff_ne, ne_eq, bne_iff_ne, bne_eq_false_iff_eq, decide_eq_true_eq, decide_eq_false_iff_not, Bool.not_eq_true', Bool.not_eq_false'] at *
              omega
            refine evR_calls (I := noFacts) (v := .bool true) (ctxOf_ok libK1_ok (eq_none _)) (by kernel_rfl) Try.func4 rfl lps_nil L rfl (all2_R (.cons rfl .nil)) (congrArg (fun b => some (Value.bool b)) V) _ (Nat.zero_le _) (pickL_ok ?_ _)
            repeat' (first | exact cd_nil | refine cd_cons ?_ ?_)
            all_goals first | rfl | with_reducible assumption | (with_reducible refine i64B_iff.2 ?_; omega)
          | false =>
            exfalso
            try clear L
            simp only [beq_iff_eq, beq_eq_false_iff_ne, ne_eq, bne_iff_ne, bne_eq_false_iff_eq, decide_eq_true_eq, decide_eq_false_iff_not, Bool.not_eq_true', Bool.not_eq_false'] at *
            omega
      | false =>
        exfalso
        try clear L
        simp only [beq_iff_eq, beq_eq_false_iff_ne, ne_eq, bne_iff_ne, bne_eq_false_iff_eq, decide_eq_true_eq, decide_eq_false_iff_not, Bool.not_eq_true', Bool.not_eq_false'] at *
        omega
    | false =>
      have k11 : (sinV (-a) == -sinV a) = true := beq_iff_eq.2 (sin_neg a)
      have k12 : (cosV (-a) == cosV a) = true := beq_iff_eq.2 (cos_neg a)
      have k13 : (sinV (a % 4294967296 + 2147483648) == -sinV a) = true := beq_iff_eq.2 S2
      have k14 : (sinV (2147483648 - a % 4294967296) == sinV a) = true := beq_iff_eq.2 S3
      have k15 : (cosV a == sinV (a % 4294967296 + 1073741824)) = true := beq_iff_eq.2 S4
      cases k16 : (decide (sinV (a % 4294967296 + 1) - sinV (a % 4294967296) ≥ 0)) with
      | true =>
        cases k17 : (decide (sinV (a % 4294967296 + 1) - sinV (a % 4294967296) ≤ 0)) with
        | true =>
          cases k18 : (decide (sinV (a % 4294967296 + 1) - sinV (a % 4294967296) ≥ -3)) with
          | true =>
            have L := tsym_0011111111 a
            have n0 : a ≠ -9223372036854775808 := by simpa using k0
            have i_n : i64B (-a) = true := i64B_iff.2 (by omega)
            rw [maskW_eq] at L
            rw [X1 (by simpa using k0), X2] at L
            rw [X3] at L
            rw [X4] at L
            rw [X5] at L
            rw [X6] at L
            try rw [X7] at L
            have V : (decide (sinV (a % 4294967296 + 1) - sinV (a % 4294967296) ≤ 3)) = true := by
              try clear L
              simp only [beq_iff_eq, beq_eq_false_iff_ne, ne_eq, bne_iff_ne, bne_eq_false_iff_eq, decide_eq_true_eq, decide_eq_false_iff_not, Bool.not_eq_true', Bool.not_eq_false'] at *
              omega
            refine evR_calls (I := noFacts) (v := .bool true) (ctxOf_ok libK1_ok (eq_none _)) (by kernel_rfl) Try.func4 rfl lps_nil L rfl (all2_R (.cons rfl .nil)) (congrArg (fun b => some (Value.bool b)) V) _ (Nat.zero_le _) (pickL_ok ?_ _)
            repeat' (first | exact cd_nil | refine cd_cons ?_ ?_)
            all_goals first | rfl | with_reducible assumption | (with_reducible refine i64B_iff.2 ?_; omega)
          | false =>
            exfalso
            try clear L
            simp only [beq_iff_eq, beq_eq_false_iff_ne, ne_eq, bne_iff_ne, bne_eq_false_iff_eq, decide_eq_true_eq, decide_eq_false_iff_not, Bool.not_eq_true', Bool.not_eq_false'] at *
            omega
        | false =>
          cases k19 : (decide (a % 4294967296 ≥ 3221225472)) with
          | true =>
            cases k20 : (decide (sinV (a % 4294967296 + 1) - sinV (a % 4294967296) ≥ -3)) with
            | true =>
              have L := tsym_00111111011 a
              have n0 : a ≠ -9223372036854775808 := by simpa using k0
              have i_n : i64B (-a) = true := i64B_iff.2 (by omega)
              rw [maskW_eq] at L
              rw [X1 (by simpa using k0), X2] at L
              rw [X3] at L
              rw [X4] at L
              rw [X5] at L
              rw [X6] at L
              try rw [X7] at L
              have V : (decide (sinV (a % 4294967296 + 1) - sinV (a % 4294967296) ≤ 3)) = true := by
                try clear L
                simp only [beq_iff_eq, beq_eq_false_iff_ne, ne_eq, bne_iff_ne, bne_eq_false_iff_eq, decide_eq_true_eq, decide_eq_false_iff_not, Bool.not_eq_true', Bool.not_eq_false'] at *
                omega
              refine evR_calls (I := noFacts) (v := .bool true) (ctxOf_ok libK1_ok (eq_none _)) (by kernel_rfl) Try.func4 rfl lps_nil L rfl (all2_R (.cons rfl .nil)) (congrArg (fun b => some (Value.bool b)) V) _ (Nat.zero_le _) (pickL_ok ?_ _)
              repeat' (first | exact cd_nil | refine cd_cons ?_ ?_)
              all_goals first | rfl | with_reducible assumption | (with_reducible refine i64B_iff.2 ?_; omega)
            | false =>
              exfalso
              try clear L
              simp only [beq_iff_eq, beq_eq_false_iff_ne, ne_eq, bne_iff_ne, bne_eq_false_iff_eq, decide_eq_true_eq, decide_eq_false_iff_not, Bool.not_eq_true', Bool.not_eq_false'] at *
              omega
          | false =>
            exfalso
            try clear L
            simp only [beq_iff_eq, beq_eq_false_iff_ne, ne_eq, bne_iff_ne, bne_eq_false_iff_eq, decide_eq_true_eq, decide_eq_false_iff_not, Bool.not_eq_true', Bool.not_eq_false'] at *
            omega
      | false =>
        cases k21 : (!decide (a % 4294967296 ≥ 3221225472)) with
        | true =>
          cases k22 : (decide (sinV (a % 4294967296 + 1) - sinV (a % 4294967296) ≤ 0)) with
          | true =>
            cases k23 : (decide (sinV (a % 4294967296 + 1) - sinV (a % 4294967296) ≥ -3)) with
            | true =>
              have L := tsym_00111110111 a
              have n0 : a ≠ -9223372036854775808 := by simpa using k0
              have i_n : i64B (-a) = true := i64B_iff.2 (by omega)
              rw [maskW_eq] at L
              rw [X1 (by simpa using k0), X2] at L
              rw [X3] at L
              rw [X4] at L
              rw [X5] at L
              rw [X6] at L
              try rw [X7] at L
              have V : (decide (sinV (a % 4294967296 + 1) - sinV (a % 4294967296) ≤ 3)) = true := by
                try clear L
                simp only [beq_iff_eq, beq_eq_false_iff_ne, ne_eq, bne_iff_ne, bne_eq_false_iff_eq, decide_eq_true_eq, decide_eq_false_iff_not, Bool.not_eq_true', Bool.not_eq_false'] at *
                omega
              refine evR_calls (I := noFacts) (v := .bool true) (ctxOf_ok libK1_ok (eq_none _)) (by kernel_rfl) Try.func4 rfl lps_nil L rfl (all2_R (.cons rfl .nil)) (congrArg (fun b => some (Value.bool b)) V) _ (Nat.zero_le _) (pickL_ok ?_ _)
              repeat' (first | exact cd_nil | refine cd_cons ?_ ?_)
              all_goals first | rfl | with_reducible assumption | (with_reducible refine i64B_iff.2 ?_; omega)
            | false =>
              exfalso
              try clear L
              simp only [beq_iff_eq, beq_eq_false_iff_ne, ne_eq, bne_iff_ne, bne_eq_false_iff_eq, decide_eq_true_eq, decide_eq_false_iff_not, Bool.not_eq_true', Bool.not_eq_false'] at *
              omega
          | false =>
            cases k24 : (decide (a % 4294967296 ≥ 3221225472)) with
            | true =>
              cases k25 : (decide (sinV (a % 4294967296 + 1) - sinV (a % 4294967296) ≥ -3)) with
              | true =>
                have L := tsym_001111101011 a
                have n0 : a ≠ -9223372036854775808 := by simpa using k0
                have i_n : i64B (-a) = true := i64B_iff.2 (by omega)
                rw [maskW_eq] at L
                rw [X1 (by simpa using k0), X2] at L
                rw [X3] at L
                rw [X4] at L
                rw [X5] at L
                rw [X6] at L
                try rw [X7] at L
                have V : (decide (sinV (a % 4294967296 + 1) - sinV (a % 4294967296) ≤ 3)) = true := by
                  try clear L
                  simp only [beq_iff_eq, beq_eq_false_iff_ne, ne_eq, bne_iff_ne, bne_eq_false_iff_eq, decide_eq_true_eq, decide_eq_false_iff_not, Bool.not_eq_true', Bool.not_eq_false'] at *
                  omega
                refine evR_calls (I := noFacts) (v := .bool true) (ctxOf_ok libK1_ok (eq_none _)) (by kernel_rfl) Try.func4 rfl lps_nil L rfl (all2_R (.cons rfl .nil)) (congrArg (fun b => some (Value.bool b)) V) _ (Nat.zero_le _) (pickL_ok ?_ _)
                repeat' (first | exact cd_nil | refine cd_cons ?_ ?_)
                all_goals first | rfl | with_reducible assumption | (with_reducible refine i64B_iff.2 ?_; omega)
              | false =>
                exfalso
                try clear L
                simp only [beq_iff_eq, beq_eq_false_iff_ne, ne_eq, bne_iff_ne, bne_eq_false_iff_eq, decide_eq_true_eq, decide_eq_false_iff_not, Bool.not_eq_true', Bool.not_eq_false'] at *
                omega
            | false =>
              exfalso
              try clear L
              simp only [beq_iff_eq, beq_eq_false_iff_ne, ne_eq, bne_iff_ne, bne_eq_false_iff_eq, decide_eq_true_eq, decide_eq_false_iff_not, Bool.not_eq_true', Bool.not_eq_false'] at *
              omega
        | false =>
          exfalso
          try clear L
          simp only [beq_iff_eq, beq_eq_false_iff_ne, ne_eq, bne_iff_ne, bne_eq_false_iff_eq, decide_eq_true_eq, decide_eq_false_iff_not, Bool.not_eq_true', Bool.not_eq_false'] at *
          omega
end Go.Proofs.Ytdhodjbomepfbab

