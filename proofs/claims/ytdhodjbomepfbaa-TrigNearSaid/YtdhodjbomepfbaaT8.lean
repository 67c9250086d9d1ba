/-
  The walk of spylaw1.TrigNear: it returns true.
  Conditions: the number is int64.
-/
import Derived.Test.YtdhodjbomepfbaaT7
set_option linter.unusedVariables false
set_option linter.unusedSimpArgs false
namespace Go.Proofs.Ytdhodjbomepfbaa
open Go.RowKit Go.Shelf Ev Zd Wd Tg

abbrev libN0 : List (Nat × FnSp Nm) := [(72, factSp gTwo), (18, nfn nI), (31, nfn nPlus), (32, nfn nLess), (49, nfn nTimes), (42, nfn nAbs), (16, nfn nCmp), (73, nfn nReal)]
theorem libN0_ok : LibOk Try.prog numI (lib1 libN0) := (lib1_cons (gTwo_ok) Try.call72 (lib1_cons (nI_ok) Try.call18 (lib1_cons (nPlus_ok) Try.call31 (lib1_cons (nLess_ok) Try.call32 (lib1_cons (nTimes_ok) Try.call49 (lib1_cons (nAbs_ok) Try.call42 (lib1_cons (nCmp_ok) Try.call16 (lib1_cons (nReal_ok) Try.call73 (lib1_nil _ _)))))))))
def nearB (f b : Int) : Bool := decide (cmpI (absI (f * twoV 150 - realV b * twoV 30) * 100) (51 * twoV 150 + twoV 60) ≤ 0)
def nearO (f b : Int) : Bool := i64B f && i64B b && decide (-1073741824 ≤ f) && decide (f ≤ 1073741824)
set_option maxRecDepth 100000 in
theorem nr1_ (f : Int) (b : Int) : evR (ctxOf Try.prog numI (fun _ => false) libN0) Try.f71 [(.w (.one (.int .i64 f))), (.w (.one (.int .i64 b)))] [] = some (AV.w (AW.one (AC.bool (decide (Wd.cmpI (absI (f * twoV 150 - realV b * twoV 30) * 100) (51 * twoV 150 + twoV 60) ≤ 0)))), (pickL [(i64B f, true), (twoB 150, true), (decide (f < 0) == decide (f < 0), true), (decide (twoV 150 < 0) == decide (twoV 150 < 0), true), (szB f, true), (szB (twoV 150), true), (i64B b, true), (twoB 30, true), (decide (realV b < 0) == decide (realV b < 0), true), (decide (twoV 30 < 0) == decide (twoV 30 < 0), true), (szB (realV b), true), (szB (twoV 30), true), (decide (f * twoV 150 < 0) == decide (f * twoV 150 < 0), true), (decide (realV b * twoV 30 < 0) == decide (realV b * twoV 30 < 0), true), (szB (f * twoV 150), true), (szB (realV b * twoV 30), true), (decide (f * twoV 150 - realV b * twoV 30 < 0) == decide (f * twoV 150 - realV b * twoV 30 < 0), true), (i64B 100, true), (decide (absI (f * twoV 150 - realV b * twoV 30) < 0) == decide (absI (f * twoV 150 - realV b * twoV 30) < 0), true), (decide (100 < 0) == decide (100 < 0), true), (szB (absI (f * twoV 150 - realV b * twoV 30)), true), (szB 100, true), (i64B 51, true), (decide (51 < 0) == decide (51 < 0), true), (szB 51, true), (twoB 60, true), (decide (51 * twoV 150 < 0) == decide (51 * twoV 150 < 0), true), (decide (twoV 60 < 0) == decide (twoV 60 < 0), true), (szB (51 * twoV 150), true), (szB (twoV 60), true), (decide (absI (f * twoV 150 - realV b * twoV 30) * 100 < 0) == decide (absI (f * twoV 150 - realV b * twoV 30) * 100 < 0), true), (decide (51 * twoV 150 + twoV 60 < 0) == decide (51 * twoV 150 + twoV 60 < 0), true), (szB (absI (f * twoV 150 - realV b * twoV 30) * 100), true), (szB (51 * twoV 150 + twoV 60), true)] [0, 1, 2, 3, 4, 5, 6, 7, 8, 9, 10, 11, 12, 13, 14, 15, 16, 17, 18, 19, 20, 21, 22, 1, 23, 3, 24, 5, 25, 26, 27, 28, 29, 30, 31, 32, 33])) := by kernel_rfl
/-- The rule's sine and the real one. -/
theorem real_near (b : Int) : -669806294750992764080434026469392384 ≤ 1329227995784915872903807060280344576 * sinV b - realV b ∧ 1329227995784915872903807060280344576 * sinV b - realV b ≤ 669806294750992764080434026469392384 := by
  unfold sinV sinR realV rsRed
  by_cases h1 : b % 4294967296 ≤ 1073741824
  · rw [if_pos h1, if_neg (by omega), if_neg (by omega)]
    exact near_q (by omega) h1
  · rw [if_neg h1]
    by_cases h2 : b % 4294967296 ≤ 2147483648
    · rw [if_pos h2, if_neg (by omega), if_pos (by omega)]
      exact near_q (by omega) (by omega)
    · rw [if_neg h2]
      by_cases h3 : b % 4294967296 ≤ 3221225472
      · rw [if_pos h3, if_pos (by omega), if_neg (by omega)]
        have := near_q (r := b % 4294967296 - 2147483648) (by omega) (by omega)
        omega
      · rw [if_neg h3, if_pos (by omega), if_pos (by omega), show 2147483648 - (b % 4294967296 - 2147483648) = 4294967296 - b % 4294967296 by omega]
        have := near_q (r := 4294967296 - b % 4294967296) (by omega) (by omega)
        omega
theorem real_cong {a b : Int} (h : a % 4294967296 = b % 4294967296) : realV a = realV b := by unfold realV; rw [h]
theorem d_real (b : Int) : Dl 10 (realV b) := by
  have := real_near b
  have := sin_range b
  exact Dl.big (by omega) (by omega)
theorem near_pl (f b : Int) (h : nearO f b = true) : Pl Try.prog 71 [.int .i64 f, .int .i64 b] (.bool (nearB f b)) := fun w => by
  simp only [nearO, Bool.and_eq_true, decide_eq_true_eq] at h
  obtain ⟨⟨⟨h1, h2⟩, h3⟩, h4⟩ := h
  have df := Dl.i64 h1
  have dr := d_real b
  have d150 := d_150
  have d30 := d_30
  have d60 := d_60
  have d1 : Dl 4 100 := Dl.lit (by omega) (by omega)
  have d2 : Dl 4 51 := Dl.lit (by omega) (by omega)
  refine evR_calls (I := numI) (ctxOf_ok libN0_ok (eq_none _)) (by kernel_rfl) Try.func71 rfl lps_nil (nr1_ f b) rfl (all2_R (.cons rfl (.cons rfl .nil))) rfl w (Nat.zero_le _) (pickL_ok ?_ _)
  repeat' (first | exact cd_nil | refine cd_cons ?_ ?_)
  all_goals first | rfl | with_reducible assumption | exact eq_self_b' _ | (with_reducible apply Dl.sz; (repeat' (first | with_reducible assumption | with_reducible apply Dl.mul | with_reducible apply Dl.abs | with_reducible apply Dl.add' | with_reducible apply Dl.sub')); omega)
theorem near_true (b : Int) : nearB (sinV b) b = true := by
  have := real_near b
  unfold nearB
  apply decide_eq_true
  have e : absI (sinV b * twoV 150 - realV b * twoV 30) * 100 ≤ 51 * twoV 150 + twoV 60 := by
    rw [two_150, two_30, two_60]
    unfold absI
    omega
  unfold cmpI
  split
  · omega
  · split <;> omega
abbrev libN1 : List (Nat × FnSp Nm) := [(66, sp0 (.w (.one (.yes true)))), (67, sp1 (dInt .i64) (fun a => aInt .i64 (sinV a)) (fun a => [(i64B a, true)])), (69, sp1 (dInt .i64) (fun a => aInt .i64 (cosV a)) (fun _ => [])), (68, sp1 (dInt .i64) (fun a => aInt .i64 (sinV a)) (fun a => [(i64B a, true)])), (70, sp1 (dInt .i64) (fun a => aInt .i64 (cosV a)) (fun a => [(i64B a, true)])), (71, sp2 (dInt .i64) (dInt .i64) (fun f b => aBool (nearB f b)) (fun f b => [(nearO f b, true)]))]
theorem libN1_ok : LibOk Try.prog numI (lib1 libN1) := (lib1_cons (sp0_ok rfl trigs_pl) Try.call66 (lib1_cons (sp1_ok fun a hc => ⟨_, rfl, sinf_pl a (cd1 hc)⟩) Try.call67 (lib1_cons (sp1_ok fun a _ => ⟨_, rfl, cosf_pl a⟩) Try.call69 (lib1_cons (sp1_ok fun a hc => ⟨_, rfl, sine_pl a (cd1 hc)⟩) Try.call68 (lib1_cons (sp1_ok fun a hc => ⟨_, rfl, cosine_pl a (cd1 hc)⟩) Try.call70 (lib1_cons (sp2_ok fun f b hc => ⟨_, rfl, near_pl f b (cd1 hc)⟩) Try.call71 (lib1_nil _ _)))))))
def maskW (a : Int) : Int := IntKind.i64.wrap ((BitVec.ofInt IntKind.i64.bits a &&& BitVec.ofInt IntKind.i64.bits 4294967295).toNat : Int)
theorem maskW_eq (a : Int) : maskW a = a % 4294967296 := by
  unfold maskW
  rw [BitVec.toNat_and]
  have e : (BitVec.ofInt IntKind.i64.bits 4294967295).toNat = 2 ^ 32 - 1 := by decide
  rw [e, Nat.and_two_pow_sub_one_eq_mod]
  have h : (BitVec.ofInt IntKind.i64.bits a).toNat = (a % 18446744073709551616).toNat := BitVec.toNat_ofInt a
  rw [h, IntKind.wrap_i64]
  omega
set_option maxRecDepth 100000 in
theorem tnear_1 (a : Int) : evR (ctxOf Try.prog numI (fun _ => false) libN1) Try.f11 [(.w (.one (.int .i64 a)))] [true] = some (AV.w (AW.one (AC.bool (nearB (cosV a) (IntKind.i64.wrap (maskW a + 1073741824))))), (pickL [(true, true), (i64B a, true), (nearO (sinV a) (maskW a), true), (nearB (sinV a) (maskW a), true), (nearO (cosV a) (IntKind.i64.wrap (maskW a + 1073741824)), true)] [0, 0, 0, 1, 0, 0, 2, 0, 3, 3, 3, 3, 3, 3, 4, 3])) := by kernel_rfl
theorem trigNear_law (a : Int) (a1 : -9223372036854775808 ≤ a) (a2 : a ≤ 9223372036854775807) (w : World) : Calls Try.prog 11 #[.int .i64 a] w fun e w' => e = .returned (.bool true) ∧ Below w.heap.size w w' := by
  have i_a : i64B a = true := i64B_iff.2 ⟨a1, a2⟩
  have s := sin_range a
  have c := cos_range a
  have L := tnear_1 a
  rw [maskW_eq, i64w (x := a % 4294967296 + 1073741824) (by omega) (by omega)] at L
  have n1 : nearB (sinV a) (a % 4294967296) = true := by rw [show sinV a = sinV (a % 4294967296) from sin_cong (by omega)]; exact near_true _
  have V : nearB (cosV a) (a % 4294967296 + 1073741824) = true := by rw [show cosV a = sinV (a % 4294967296 + 1073741824) from sin_cong (by omega)]; exact near_true _
  have o1 : nearO (sinV a) (a % 4294967296) = true := by
    simp only [nearO, Bool.and_eq_true, decide_eq_true_eq, i64B_iff]
    omega
  have o2 : nearO (cosV a) (a % 4294967296 + 1073741824) = true := by
    simp only [nearO, Bool.and_eq_true, decide_eq_true_eq, i64B_iff]
    omega
  refine evR_calls (I := numI) (v := .bool true) (ctxOf_ok libN1_ok (eq_none _)) (by kernel_rfl) Try.func11 rfl lps_nil L rfl (all2_R (.cons rfl .nil)) (congrArg (fun b => some (Value.bool b)) V) w (Nat.zero_le _) (pickL_ok ?_ _)
  repeat' (first | exact cd_nil | refine cd_cons ?_ ?_)
  all_goals first | with_reducible assumption | rfl
end Go.Proofs.Ytdhodjbomepfbaa

