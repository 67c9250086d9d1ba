/-
  The walk of the law BoundRoots.
  Conditions: the numbers of the arguments are int64.
-/
import Derived.Test.YtjegnlnnjcchaaaBR
import Derived.Test.YtjegnlnnjcchaaaZK
import Derived.Test.YtjegnlnnjcchaaaGO
set_option linter.unusedVariables false
set_option linter.unusedSimpArgs false
namespace Go.Proofs.Ytjegnlnnjcchaaa.AtBr
open Ev Go.RowKit Go.Shelf Zd Wd
open Go.Proofs.Ytjegnlnnjcchaaa
noncomputable section

abbrev nRoot := nUn (fun a => (isq a.toNat : Int)) (fun a => [(decide (0 ≤ a), true), (szB a, true)])
theorem nRoot_ok : (nfn nRoot).ok Try.prog numI 50 := nUn_ok fun a hc => n_num1 fun v w ha => by
  have h0 : 0 ≤ a := of_decide_eq_true (hc (decide (0 ≤ a), true) (by simp))
  have h1 : (digs a.natAbs).length ≤ 1000 := szB_iff.1 (hc (szB a, true) (by simp))
  exact zroot_any v a h0 (by omega) w ha
abbrev eqBoundRoots : TypeId → Bool := fun t => Nat.beq t 24
noncomputable abbrev libBoundRoots : List (Nat × FnSp Nm) := [(16, sp0 (aBool true)), (51, sp2 dBd (dInt .i64) (fun a n => bA (rootB a n)) (fun _ n => [(i64B n, true)])), (15, nfn nI), (22, factSp gBd), (18, sp1 dBd (fun b => aInt .i64 (chkB b)) (fun _ => [])), (46, nfn nTimes), (13, nfn nCmp), (28, nfn nPlus), (50, nfn nRoot)]
noncomputable abbrev fnsBoundRoots : List (Nat × Func) := [(12, Try.f12)]
theorem eqBoundRoots_ok : EqOk Try.prog (tabOf Try.prog) eqBoundRoots := eq_of fun t ht => by
  have ht : (Nat.beq t 24) = true := ht
  have := Nat.eq_of_beq_eq_true ht
  subst this
  exact ⟨by kernel_rfl, by kernel_rfl, by kernel_rfl⟩
theorem libBoundRoots_ok : LibOk Try.prog numI (lib1 libBoundRoots) := (lib1_cons (sp0_ok rfl bounds_pl) Try.call16 (lib1_cons (sp2_ok fun a n hc => ⟨_, rfl, root_pl a n (hc (i64B n, true) (by simp))⟩) Try.call51 (lib1_cons nI_ok Try.call15 (lib1_cons bdt_ok Try.call22 (lib1_cons (sp1_ok fun b _ => ⟨_, rfl, bte_pl b⟩) Try.call18 (lib1_cons nTimes_ok Try.call46 (lib1_cons nCmp_ok Try.call13 (lib1_cons nPlus_ok Try.call28 (lib1_cons nRoot_ok Try.call50 (lib1_nil _ _))))))))))
theorem fnsBoundRoots_ok : FnsOk Try.prog fnsBoundRoots := (fns_cons Try.func12 rfl Try.call12 (fns_nil _))
theorem kn_bad {b : Bd} (h : (chkB b != 0) = true) : knB b = false := by
  cases k : knB b with
  | false => rfl
  | true =>
    obtain ⟨h1, h2, h3, h4⟩ := knB_iff.1 k
    have : chkB b = 0 := by
      unfold chkB inB
      rw [h1, decide_eq_true (show -1152921504606846976 ≤ b.lo by omega), decide_eq_true (show b.lo ≤ 1152921504606846976 by omega), decide_eq_true (show -1152921504606846976 ≤ b.hi by omega), decide_eq_true (show b.hi ≤ 1152921504606846976 by omega), decide_eq_false (show ¬ b.lo > b.hi by omega)]
      rfl
    rw [this] at h; simp at h
theorem kn_u {b : Bd} (h : b.u = true) : knB b = false := by unfold knB; rw [h]; rfl
theorem kn_ok {b : Bd} (h : (chkB b != 0) = false) (hu : b.u = false) : knB b = true := by
  have h : chkB b = 0 := by simpa using h
  unfold chkB at h
  unfold knB
  rw [hu] at h ⊢
  simp only [Bool.false_and, cond_false, Bool.not_false, Bool.true_and] at h ⊢
  cases h1 : (inB b.lo && inB b.hi) with
  | false => rw [h1] at h; cases h
  | true =>
    rw [h1] at h
    simp only [Bool.not_true, cond_false] at h
    by_cases h2 : b.lo > b.hi
    · rw [decide_eq_true h2] at h; cases h
    · rw [decide_eq_true (show b.lo ≤ b.hi by omega)]; rfl
theorem cmp_le0 (a b : Int) : decide (cmpI a b ≤ 0) = decide (a ≤ b) := by
  have := cmp_gt a b
  by_cases h : a ≤ b
  · rw [decide_eq_false (show ¬ b < a by omega)] at this
    have := of_decide_eq_false this
    rw [decide_eq_true h, decide_eq_true (by omega)]
  · rw [decide_eq_true (show b < a by omega)] at this
    have := of_decide_eq_true this
    rw [decide_eq_false h, decide_eq_false (by omega)]
theorem cmp_ge0 (a b : Int) : decide (cmpI a b ≥ 0) = decide (b ≤ a) := by
  have := cmp_lt' a b
  by_cases h : a < b
  · rw [decide_eq_true h] at this
    have := of_decide_eq_true this
    rw [decide_eq_false (show ¬ b ≤ a by omega), decide_eq_false (by omega)]
  · rw [decide_eq_false h] at this
    have := of_decide_eq_false this
    rw [decide_eq_true (show b ≤ a by omega), decide_eq_true (by omega)]
theorem i64_kn {b : Bd} (h : knB b = true) : i64B b.lo = true ∧ i64B b.hi = true := by
  obtain ⟨_, h1, h2, h3⟩ := knB_iff.1 h
  exact ⟨i64B_iff.2 ⟨by omega, by omega⟩, i64B_iff.2 ⟨by omega, by omega⟩⟩
set_option maxRecDepth 100000 in
theorem boundRoots_011 (a : Bd) (n : Int) : evR (ctxLp Try.prog numI eqBoundRoots libBoundRoots fnsBoundRoots []) Try.f7 [(bA a), (.w (.one (.int .i64 n)))] [false, true, true] = some (AV.w (AW.one (AC.bool ((rootB a n).lo == 0 && ((rootB a n).hi == 0 && ((rootB a n).u == true && true))))), (pickL [(chkB a != 0, false), (a.u, true), (false, false), (true, true), (i64B n, true)] [0, 0, 0, 1, 2, 2, 2, 2, 2, 2, 2, 2, 3, 3, 3, 4, 3, 3, 3])) := by kernel_rfl
set_option maxRecDepth 100000 in
theorem boundRoots_11 (a : Bd) (n : Int) : evR (ctxLp Try.prog numI eqBoundRoots libBoundRoots fnsBoundRoots []) Try.f7 [(bA a), (.w (.one (.int .i64 n)))] [true, true] = some (AV.w (AW.one (AC.bool ((rootB a n).lo == 0 && ((rootB a n).hi == 0 && ((rootB a n).u == true && true))))), (pickL [(chkB a != 0, true), (true, true), (false, false), (i64B n, true)] [0, 0, 0, 1, 2, 2, 2, 2, 2, 2, 2, 2, 1, 1, 1, 3, 1, 1, 1])) := by kernel_rfl
set_option maxRecDepth 100000 in
theorem boundRoots_0001 (a : Bd) (n : Int) : evR (ctxLp Try.prog numI eqBoundRoots libBoundRoots fnsBoundRoots []) Try.f7 [(bA a), (.w (.one (.int .i64 n)))] [false, false, false, true] = some (AV.w (AW.one (AC.bool ((rootB a n).lo == 0 && ((rootB a n).hi == 0 && ((rootB a n).u == true && true))))), (pickL [(chkB a != 0, false), (a.u, false), (i64B a.lo, true), (i64B a.hi, true), (true, true), (decide (n ≥ 1), false), (false, false), (i64B n, true)] [0, 0, 0, 1, 2, 3, 4, 4, 4, 5, 5, 5, 5, 6, 4, 4, 4, 7, 4, 4, 4])) := by kernel_rfl
set_option maxRecDepth 100000 in
theorem boundRoots_0011011 (a : Bd) (n : Int) : evR (ctxLp Try.prog numI eqBoundRoots libBoundRoots fnsBoundRoots []) Try.f7 [(bA a), (.w (.one (.int .i64 n)))] [false, false, true, true, false, true, true] = some (AV.w (AW.one (AC.bool ((rootB a n).lo == (ofB (↑(isq (a.lo * n).toNat)) (↑(isq (a.hi * n).toNat) + 1)).lo && ((rootB a n).hi == (ofB (↑(isq (a.lo * n).toNat)) (↑(isq (a.hi * n).toNat) + 1)).hi && ((rootB a n).u == (ofB (↑(isq (a.lo * n).toNat)) (↑(isq (a.hi * n).toNat) + 1)).u && true))))), (pickL [(chkB a != 0, false), (a.u, false), (i64B a.lo, true), (i64B a.hi, true), (true, true), (decide (n ≥ 1), true), (!decide (a.hi < 0), true), (decide (a.lo < 0), false), (i64B n, true), (decide (a.lo < 0) == decide (a.lo < 0), true), (decide (n < 0) == decide (n < 0), true), (szB a.lo, true), (szB n, true), (decide (a.lo * n < 0) == decide (a.lo * n < 0), true), (decide (0 ≤ a.lo * n), true), (szB (a.lo * n), true), (decide (a.hi < 0) == decide (a.hi < 0), true), (szB a.hi, true), (decide (a.hi * n < 0) == decide (a.hi * n < 0), true), (decide (0 ≤ a.hi * n), true), (szB (a.hi * n), true), (decide (↑(isq (a.hi * n).toNat) < 0) == decide (↑(isq (a.hi * n).toNat) < 0), true), (szB ↑(isq (a.hi * n).toNat), true), (decide (↑(isq (a.hi * n).toNat) * ↑(isq (a.hi * n).toNat) < 0) == decide (↑(isq (a.hi * n).toNat) * ↑(isq (a.hi * n).toNat) < 0), true), (szB (↑(isq (a.hi * n).toNat) * ↑(isq (a.hi * n).toNat)), true), (cmpI (↑(isq (a.hi * n).toNat) * ↑(isq (a.hi * n).toNat)) (a.hi * n) != 0, true), (i64B 1, true), (decide (1 < 0) == decide (1 < 0), true), (szB 1, true), (decide (↑(isq (a.lo * n).toNat) < 0) == decide (↑(isq (a.lo * n).toNat) < 0), true), (decide (↑(isq (a.hi * n).toNat) + 1 < 0) == decide (↑(isq (a.hi * n).toNat) + 1 < 0), true), (szB ↑(isq (a.lo * n).toNat), true), (szB (↑(isq (a.hi * n).toNat) + 1), true)] [0, 0, 0, 1, 2, 3, 4, 4, 4, 5, 5, 5, 5, 6, 7, 8, 9, 10, 11, 12, 13, 14, 15, 8, 16, 10, 17, 12, 18, 19, 20, 21, 21, 22, 22, 8, 16, 10, 17, 12, 23, 18, 24, 20, 25, 26, 21, 27, 22, 28, 29, 30, 31, 32, 4, 4, 4, 8, 4, 4, 4])) := by kernel_rfl
set_option maxRecDepth 100000 in
theorem boundRoots_0011001 (a : Bd) (n : Int) : evR (ctxLp Try.prog numI eqBoundRoots libBoundRoots fnsBoundRoots []) Try.f7 [(bA a), (.w (.one (.int .i64 n)))] [false, false, true, true, false, false, true] = some (AV.w (AW.one (AC.bool ((rootB a n).lo == (ofB ↑(isq (a.lo * n).toNat) ↑(isq (a.hi * n).toNat)).lo && ((rootB a n).hi == (ofB ↑(isq (a.lo * n).toNat) ↑(isq (a.hi * n).toNat)).hi && ((rootB a n).u == (ofB ↑(isq (a.lo * n).toNat) ↑(isq (a.hi * n).toNat)).u && true))))), (pickL [(chkB a != 0, false), (a.u, false), (i64B a.lo, true), (i64B a.hi, true), (true, true), (decide (n ≥ 1), true), (!decide (a.hi < 0), true), (decide (a.lo < 0), false), (i64B n, true), (decide (a.lo < 0) == decide (a.lo < 0), true), (decide (n < 0) == decide (n < 0), true), (szB a.lo, true), (szB n, true), (decide (a.lo * n < 0) == decide (a.lo * n < 0), true), (decide (0 ≤ a.lo * n), true), (szB (a.lo * n), true), (decide (a.hi < 0) == decide (a.hi < 0), true), (szB a.hi, true), (decide (a.hi * n < 0) == decide (a.hi * n < 0), true), (decide (0 ≤ a.hi * n), true), (szB (a.hi * n), true), (decide (↑(isq (a.hi * n).toNat) < 0) == decide (↑(isq (a.hi * n).toNat) < 0), true), (szB ↑(isq (a.hi * n).toNat), true), (decide (↑(isq (a.hi * n).toNat) * ↑(isq (a.hi * n).toNat) < 0) == decide (↑(isq (a.hi * n).toNat) * ↑(isq (a.hi * n).toNat) < 0), true), (szB (↑(isq (a.hi * n).toNat) * ↑(isq (a.hi * n).toNat)), true), (cmpI (↑(isq (a.hi * n).toNat) * ↑(isq (a.hi * n).toNat)) (a.hi * n) != 0, false), (decide (↑(isq (a.lo * n).toNat) < 0) == decide (↑(isq (a.lo * n).toNat) < 0), true), (szB ↑(isq (a.lo * n).toNat), true)] [0, 0, 0, 1, 2, 3, 4, 4, 4, 5, 5, 5, 5, 6, 7, 8, 9, 10, 11, 12, 13, 14, 15, 8, 16, 10, 17, 12, 18, 19, 20, 21, 21, 22, 22, 8, 16, 10, 17, 12, 23, 18, 24, 20, 25, 26, 21, 27, 22, 4, 4, 4, 8, 4, 4, 4])) := by kernel_rfl
set_option maxRecDepth 100000 in
theorem boundRoots_00101 (a : Bd) (n : Int) : evR (ctxLp Try.prog numI eqBoundRoots libBoundRoots fnsBoundRoots []) Try.f7 [(bA a), (.w (.one (.int .i64 n)))] [false, false, true, false, true] = some (AV.w (AW.one (AC.bool ((rootB a n).lo == 0 && ((rootB a n).hi == 0 && ((rootB a n).u == true && true))))), (pickL [(chkB a != 0, false), (a.u, false), (i64B a.lo, true), (i64B a.hi, true), (true, true), (decide (n ≥ 1), true), (!decide (a.hi < 0), false), (i64B n, true)] [0, 0, 0, 1, 2, 3, 4, 4, 4, 5, 5, 5, 5, 6, 4, 4, 4, 7, 4, 4, 4])) := by kernel_rfl
set_option maxRecDepth 100000 in
theorem boundRoots_0011111 (a : Bd) (n : Int) : evR (ctxLp Try.prog numI eqBoundRoots libBoundRoots fnsBoundRoots []) Try.f7 [(bA a), (.w (.one (.int .i64 n)))] [false, false, true, true, true, true, true] = some (AV.w (AW.one (AC.bool ((rootB a n).lo == (ofB (↑(isq (0 * n).toNat)) (↑(isq (a.hi * n).toNat) + 1)).lo && ((rootB a n).hi == (ofB (↑(isq (0 * n).toNat)) (↑(isq (a.hi * n).toNat) + 1)).hi && ((rootB a n).u == (ofB (↑(isq (0 * n).toNat)) (↑(isq (a.hi * n).toNat) + 1)).u && true))))), (pickL [(chkB a != 0, false), (a.u, false), (i64B a.lo, true), (i64B a.hi, true), (true, true), (decide (n ≥ 1), true), (!decide (a.hi < 0), true), (decide (a.lo < 0), true), (i64B n, true), (decide (n < 0) == decide (n < 0), true), (szB 0, true), (szB n, true), (decide (0 * n < 0) == decide (0 * n < 0), true), (decide (0 ≤ 0 * n), true), (szB (0 * n), true), (decide (a.hi < 0) == decide (a.hi < 0), true), (szB a.hi, true), (decide (a.hi * n < 0) == decide (a.hi * n < 0), true), (decide (0 ≤ a.hi * n), true), (szB (a.hi * n), true), (decide (↑(isq (a.hi * n).toNat) < 0) == decide (↑(isq (a.hi * n).toNat) < 0), true), (szB ↑(isq (a.hi * n).toNat), true), (decide (↑(isq (a.hi * n).toNat) * ↑(isq (a.hi * n).toNat) < 0) == decide (↑(isq (a.hi * n).toNat) * ↑(isq (a.hi * n).toNat) < 0), true), (szB (↑(isq (a.hi * n).toNat) * ↑(isq (a.hi * n).toNat)), true), (cmpI (↑(isq (a.hi * n).toNat) * ↑(isq (a.hi * n).toNat)) (a.hi * n) != 0, true), (i64B 1, true), (decide (1 < 0) == decide (1 < 0), true), (szB 1, true), (decide (↑(isq (0 * n).toNat) < 0) == decide (↑(isq (0 * n).toNat) < 0), true), (decide (↑(isq (a.hi * n).toNat) + 1 < 0) == decide (↑(isq (a.hi * n).toNat) + 1 < 0), true), (szB ↑(isq (0 * n).toNat), true), (szB (↑(isq (a.hi * n).toNat) + 1), true)] [0, 0, 0, 1, 2, 3, 4, 4, 4, 5, 5, 5, 5, 6, 7, 8, 9, 10, 11, 12, 13, 14, 8, 15, 9, 16, 11, 17, 18, 19, 20, 20, 21, 21, 8, 15, 9, 16, 11, 22, 17, 23, 19, 24, 25, 20, 26, 21, 27, 28, 29, 30, 31, 4, 4, 4, 8, 4, 4, 4])) := by kernel_rfl
set_option maxRecDepth 100000 in
theorem boundRoots_0011101 (a : Bd) (n : Int) : evR (ctxLp Try.prog numI eqBoundRoots libBoundRoots fnsBoundRoots []) Try.f7 [(bA a), (.w (.one (.int .i64 n)))] [false, false, true, true, true, false, true] = some (AV.w (AW.one (AC.bool ((rootB a n).lo == (ofB ↑(isq (0 * n).toNat) ↑(isq (a.hi * n).toNat)).lo && ((rootB a n).hi == (ofB ↑(isq (0 * n).toNat) ↑(isq (a.hi * n).toNat)).hi && ((rootB a n).u == (ofB ↑(isq (0 * n).toNat) ↑(isq (a.hi * n).toNat)).u && true))))), (pickL [(chkB a != 0, false), (a.u, false), (i64B a.lo, true), (i64B a.hi, true), (true, true), (decide (n ≥ 1), true), (!decide (a.hi < 0), true), (decide (a.lo < 0), true), (i64B n, true), (decide (n < 0) == decide (n < 0), true), (szB 0, true), (szB n, true), (decide (0 * n < 0) == decide (0 * n < 0), true), (decide (0 ≤ 0 * n), true), (szB (0 * n), true), (decide (a.hi < 0) == decide (a.hi < 0), true), (szB a.hi, true), (decide (a.hi * n < 0) == decide (a.hi * n < 0), true), (decide (0 ≤ a.hi * n), true), (szB (a.hi * n), true), (decide (↑(isq (a.hi * n).toNat) < 0) == decide (↑(isq (a.hi * n).toNat) < 0), true), (szB ↑(isq (a.hi * n).toNat), true), (decide (↑(isq (a.hi * n).toNat) * ↑(isq (a.hi * n).toNat) < 0) == decide (↑(isq (a.hi * n).toNat) * ↑(isq (a.hi * n).toNat) < 0), true), (szB (↑(isq (a.hi * n).toNat) * ↑(isq (a.hi * n).toNat)), true), (cmpI (↑(isq (a.hi * n).toNat) * ↑(isq (a.hi * n).toNat)) (a.hi * n) != 0, false), (decide (↑(isq (0 * n).toNat) < 0) == decide (↑(isq (0 * n).toNat) < 0), true), (szB ↑(isq (0 * n).toNat), true)] [0, 0, 0, 1, 2, 3, 4, 4, 4, 5, 5, 5, 5, 6, 7, 8, 9, 10, 11, 12, 13, 14, 8, 15, 9, 16, 11, 17, 18, 19, 20, 20, 21, 21, 8, 15, 9, 16, 11, 22, 17, 23, 19, 24, 25, 20, 26, 21, 4, 4, 4, 8, 4, 4, 4])) := by kernel_rfl
theorem isq_eq {x n : Int} (hx : 0 ≤ x) (hn : 0 ≤ n) : (isq (x * n).toNat : Int) = isqI x n := by
  unfold isqI
  rw [Int.toNat_mul hx hn]
theorem rt_hi {x n : Int} (hx : i64B x = true) (hn : i64B n = true) (h0 : 0 ≤ x) (h1 : 0 ≤ n) : rootUp x n = bif (cmpI (isqI x n * isqI x n) (x * n) != 0) then isqI x n + 1 else isqI x n := by
  obtain ⟨g0, g1, g2⟩ := isq_in hx hn
  rw [Int.toNat_of_nonneg h0, Int.toNat_of_nonneg h1] at g1
  unfold rootUp cmpI
  generalize isqI x n * isqI x n = p at *
  generalize x * n = q at *
  by_cases h : p < q
  · rw [decide_eq_true h, if_pos h]; rfl
  · rw [decide_eq_false h, if_neg h, if_neg (show ¬ q < p by omega)]; rfl
theorem isq_i64 {x n : Int} (hx : i64B x = true) (hn : i64B n = true) : i64B (isqI x n) = true := by
  obtain ⟨g0, g1, g2⟩ := isq_in hx hn
  exact i64B_iff.2 ⟨by omega, g2⟩
theorem i64_0 : i64B 0 = true := by decide
theorem i64_1 : i64B 1 = true := by decide
set_option maxRecDepth 100000 in
theorem boundRoots_w0 (a : Bd) (n : Int) (W : World) (hn : i64B n = true) (k0 : (chkB a != 0) = true) : Calls Try.prog 7 #[bV a, .int .i64 n] W fun e w' => e = .returned (.bool true) ∧ Below W.heap.size W w' := by
  have L := boundRoots_11 a n
  have ka : knB a = false := kn_bad k0
  have n7 := Dl.i64 hn
  have V : ((rootB a n).lo == 0 && ((rootB a n).hi == 0 && ((rootB a n).u == true && true))) = true := by
    have e : rootB a n = noneB := by
      unfold rootB
      simp [ka]
    rw [e]; rfl
  have p1 : (true) = true := by
    rfl
  have p2 : (false) = false := by
    rfl
  have p3 : (i64B n) = true := by
    first | with_reducible assumption | decide
  exact evR_calls (I := numI) (v := .bool true) (ctxLp_ok libBoundRoots_ok eqBoundRoots_ok fnsBoundRoots_ok (fun _ _ _ => lps_nil)) (by kernel_rfl) Try.func7 rfl lps_nil L rfl (all2_R (.cons rfl (.cons rfl .nil))) (congrArg (fun b => some (Value.bool b)) V) _ (Nat.zero_le _) (pickL_ok (cd_cons k0 (cd_cons p1 (cd_cons p2 (cd_cons p3 cd_nil)))) _)
set_option maxRecDepth 100000 in
theorem boundRoots_w1 (a : Bd) (n : Int) (W : World) (hn : i64B n = true) (k0 : (chkB a != 0) = false) (k1 : (a.u) = true) : Calls Try.prog 7 #[bV a, .int .i64 n] W fun e w' => e = .returned (.bool true) ∧ Below W.heap.size W w' := by
  have L := boundRoots_011 a n
  have ka : knB a = false := kn_u k1
  have n7 := Dl.i64 hn
  have V : ((rootB a n).lo == 0 && ((rootB a n).hi == 0 && ((rootB a n).u == true && true))) = true := by
    have e : rootB a n = noneB := by
      unfold rootB
      simp [ka]
    rw [e]; rfl
  have p2 : (false) = false := by
    rfl
  have p3 : (true) = true := by
    rfl
  have p4 : (i64B n) = true := by
    first | with_reducible assumption | decide
  exact evR_calls (I := numI) (v := .bool true) (ctxLp_ok libBoundRoots_ok eqBoundRoots_ok fnsBoundRoots_ok (fun _ _ _ => lps_nil)) (by kernel_rfl) Try.func7 rfl lps_nil L rfl (all2_R (.cons rfl (.cons rfl .nil))) (congrArg (fun b => some (Value.bool b)) V) _ (Nat.zero_le _) (pickL_ok (cd_cons k0 (cd_cons k1 (cd_cons p2 (cd_cons p3 (cd_cons p4 cd_nil))))) _)
set_option maxRecDepth 100000 in
theorem boundRoots_w2 (a : Bd) (n : Int) (W : World) (hn : i64B n = true) (k0 : (chkB a != 0) = false) (k1 : (a.u) = false) (k2 : (decide (n ≥ 1)) = true) (k3 : (!decide (a.hi < 0)) = true) (k4 : (decide (a.lo < 0)) = true) (k5 : (cmpI (↑(isq (a.hi * n).toNat) * ↑(isq (a.hi * n).toNat)) (a.hi * n) != 0) = true) : Calls Try.prog 7 #[bV a, .int .i64 n] W fun e w' => e = .returned (.bool true) ∧ Below W.heap.size W w' := by
  have L := boundRoots_0011111 a n
  have ka : knB a = true := kn_ok k0 k1
  obtain ⟨au, a1, a2, a3⟩ := knB_iff.1 ka
  obtain ⟨a4, a5⟩ := i64_kn ka
  have a6 := Dl.i64 a4
  have a7 := Dl.i64 a5
  have n7 := Dl.i64 hn
  have d2 := of_decide_eq_true k2
  have d4 := of_decide_eq_true k4
  have hh : ¬ a.hi < 0 := by simpa using k3
  have l64 : i64B 0 = true := i64_0
  have q1 := isq_eq (x := a.hi) (n := n) (by omega) (by omega)
  have q2 := isq_eq (x := 0) (n := n) (by omega) (by omega)
  have m0 : 0 ≤ a.hi * n := Int.mul_nonneg (by omega) (by omega)
  have m1 : 0 ≤ 0 * n := Int.mul_nonneg (by omega) (by omega)
  have D1 : Dl 4 (isq (a.hi * n).toNat : Int) := by rw [q1]; exact Dl.i64 (isq_i64 a5 hn)
  have D2 := Dl.mul D1 D1
  have D3 := Dl.mul a7 n7
  have D0 := Dl.i64 i64_0
  have Dn := Dl.i64 i64_1
  have D4 := Dl.add' D1 Dn
  have D5 : Dl 4 (isq (0 * n).toNat : Int) := by rw [q2]; exact Dl.i64 (isq_i64 l64 hn)
  have D6 := Dl.mul (Dl.i64 l64) n7
  have hR : rootB a n = ofB (isqI 0 n) (rootUp a.hi n) := by
    unfold rootB
    rw [ka, decide_eq_false (show ¬ n < 1 by omega), decide_eq_false (show ¬ a.hi < 0 by omega), show maxI a.lo 0 = 0 by unfold maxI; split <;> omega]; rfl
  have hU := rt_hi a5 hn (by omega) (by omega)
  rw [← q1, k5] at hU
  simp only [cond_true, cond_false] at hU
  rw [hU, ← q2] at hR
  have V : ((rootB a n).lo == (ofB (↑(isq (0 * n).toNat)) (↑(isq (a.hi * n).toNat) + 1)).lo && ((rootB a n).hi == (ofB (↑(isq (0 * n).toNat)) (↑(isq (a.hi * n).toNat) + 1)).hi && ((rootB a n).u == (ofB (↑(isq (0 * n).toNat)) (↑(isq (a.hi * n).toNat) + 1)).u && true))) = true := by
    rw [hR]; simp
  have p2 : (i64B a.lo) = true := by
    first | with_reducible assumption | decide
  have p3 : (i64B a.hi) = true := by
    first | with_reducible assumption | decide
  have p4 : (true) = true := by
    rfl
  have p8 : (i64B n) = true := by
    first | with_reducible assumption | decide
  have p9 : (decide (n < 0) == decide (n < 0)) = true := by
    first | exact eqB _ | exact beq_self_eq_true _
  have p10 : (szB 0) = true := by
    exact Dl.sz (by with_reducible assumption) (by omega)
  have p11 : (szB n) = true := by
    exact Dl.sz (by with_reducible assumption) (by omega)
  have p12 : (decide (0 * n < 0) == decide (0 * n < 0)) = true := by
    first | exact eqB _ | exact beq_self_eq_true _
  have p13 : (decide (0 ≤ 0 * n)) = true := by
    exact decide_eq_true (by with_reducible assumption)
  have p14 : (szB (0 * n)) = true := by
    exact Dl.sz (by with_reducible assumption) (by omega)
  have p15 : (decide (a.hi < 0) == decide (a.hi < 0)) = true := by
    first | exact eqB _ | exact beq_self_eq_true _
  have p16 : (szB a.hi) = true := by
    exact Dl.sz (by with_reducible assumption) (by omega)
  have p17 : (decide (a.hi * n < 0) == decide (a.hi * n < 0)) = true := by
    first | exact eqB _ | exact beq_self_eq_true _
  have p18 : (decide (0 ≤ a.hi * n)) = true := by
    exact decide_eq_true (by with_reducible assumption)
  have p19 : (szB (a.hi * n)) = true := by
    exact Dl.sz (by with_reducible assumption) (by omega)
  have p20 : (decide (↑(isq (a.hi * n).toNat) < 0) == decide (↑(isq (a.hi * n).toNat) < 0)) = true := by
    first | exact eqB _ | exact beq_self_eq_true _
  have p21 : (szB ↑(isq (a.hi * n).toNat)) = true := by
    exact Dl.sz (by with_reducible assumption) (by omega)
  have p22 : (decide (↑(isq (a.hi * n).toNat) * ↑(isq (a.hi * n).toNat) < 0) == decide (↑(isq (a.hi * n).toNat) * ↑(isq (a.hi * n).toNat) < 0)) = true := by
    first | exact eqB _ | exact beq_self_eq_true _
  have p23 : (szB (↑(isq (a.hi * n).toNat) * ↑(isq (a.hi * n).toNat))) = true := by
    exact Dl.sz (by with_reducible assumption) (by omega)
  have p25 : (i64B 1) = true := by
    first | with_reducible assumption | decide
  have p26 : (decide (1 < 0) == decide (1 < 0)) = true := by
    first | exact eqB _ | exact beq_self_eq_true _
  have p27 : (szB 1) = true := by
    exact Dl.sz (by with_reducible assumption) (by omega)
  have p28 : (decide (↑(isq (0 * n).toNat) < 0) == decide (↑(isq (0 * n).toNat) < 0)) = true := by
    first | exact eqB _ | exact beq_self_eq_true _
  have p29 : (decide (↑(isq (a.hi * n).toNat) + 1 < 0) == decide (↑(isq (a.hi * n).toNat) + 1 < 0)) = true := by
    first | exact eqB _ | exact beq_self_eq_true _
  have p30 : (szB ↑(isq (0 * n).toNat)) = true := by
    exact Dl.sz (by with_reducible assumption) (by omega)
  have p31 : (szB (↑(isq (a.hi * n).toNat) + 1)) = true := by
    exact Dl.sz (by with_reducible assumption) (by omega)
  exact evR_calls (I := numI) (v := .bool true) (ctxLp_ok libBoundRoots_ok eqBoundRoots_ok fnsBoundRoots_ok (fun _ _ _ => lps_nil)) (by kernel_rfl) Try.func7 rfl lps_nil L rfl (all2_R (.cons rfl (.cons rfl .nil))) (congrArg (fun b => some (Value.bool b)) V) _ (Nat.zero_le _) (pickL_ok (cd_cons k0 (cd_cons k1 (cd_cons p2 (cd_cons p3 (cd_cons p4 (cd_cons k2 (cd_cons k3 (cd_cons k4 (cd_cons p8 (cd_cons p9 (cd_cons p10 (cd_cons p11 (cd_cons p12 (cd_cons p13 (cd_cons p14 (cd_cons p15 (cd_cons p16 (cd_cons p17 (cd_cons p18 (cd_cons p19 (cd_cons p20 (cd_cons p21 (cd_cons p22 (cd_cons p23 (cd_cons k5 (cd_cons p25 (cd_cons p26 (cd_cons p27 (cd_cons p28 (cd_cons p29 (cd_cons p30 (cd_cons p31 cd_nil)))))))))))))))))))))))))))))))) _)
set_option maxRecDepth 100000 in
theorem boundRoots_w3 (a : Bd) (n : Int) (W : World) (hn : i64B n = true) (k0 : (chkB a != 0) = false) (k1 : (a.u) = false) (k2 : (decide (n ≥ 1)) = true) (k3 : (!decide (a.hi < 0)) = true) (k4 : (decide (a.lo < 0)) = true) (k5 : (cmpI (↑(isq (a.hi * n).toNat) * ↑(isq (a.hi * n).toNat)) (a.hi * n) != 0) = false) : Calls Try.prog 7 #[bV a, .int .i64 n] W fun e w' => e = .returned (.bool true) ∧ Below W.heap.size W w' := by
  have L := boundRoots_0011101 a n
  have ka : knB a = true := kn_ok k0 k1
  obtain ⟨au, a1, a2, a3⟩ := knB_iff.1 ka
  obtain ⟨a4, a5⟩ := i64_kn ka
  have a6 := Dl.i64 a4
  have a7 := Dl.i64 a5
  have n7 := Dl.i64 hn
  have d2 := of_decide_eq_true k2
  have d4 := of_decide_eq_true k4
  have hh : ¬ a.hi < 0 := by simpa using k3
  have l64 : i64B 0 = true := i64_0
  have q1 := isq_eq (x := a.hi) (n := n) (by omega) (by omega)
  have q2 := isq_eq (x := 0) (n := n) (by omega) (by omega)
  have m0 : 0 ≤ a.hi * n := Int.mul_nonneg (by omega) (by omega)
  have m1 : 0 ≤ 0 * n := Int.mul_nonneg (by omega) (by omega)
  have D1 : Dl 4 (isq (a.hi * n).toNat : Int) := by rw [q1]; exact Dl.i64 (isq_i64 a5 hn)
  have D2 := Dl.mul D1 D1
  have D3 := Dl.mul a7 n7
  have D0 := Dl.i64 i64_0
  have Dn := Dl.i64 i64_1
  have D4 := Dl.add' D1 Dn
  have D5 : Dl 4 (isq (0 * n).toNat : Int) := by rw [q2]; exact Dl.i64 (isq_i64 l64 hn)
  have D6 := Dl.mul (Dl.i64 l64) n7
  have hR : rootB a n = ofB (isqI 0 n) (rootUp a.hi n) := by
    unfold rootB
    rw [ka, decide_eq_false (show ¬ n < 1 by omega), decide_eq_false (show ¬ a.hi < 0 by omega), show maxI a.lo 0 = 0 by unfold maxI; split <;> omega]; rfl
  have hU := rt_hi a5 hn (by omega) (by omega)
  rw [← q1, k5] at hU
  simp only [cond_true, cond_false] at hU
  rw [hU, ← q2] at hR
  have V : ((rootB a n).lo == (ofB ↑(isq (0 * n).toNat) ↑(isq (a.hi * n).toNat)).lo && ((rootB a n).hi == (ofB ↑(isq (0 * n).toNat) ↑(isq (a.hi * n).toNat)).hi && ((rootB a n).u == (ofB ↑(isq (0 * n).toNat) ↑(isq (a.hi * n).toNat)).u && true))) = true := by
    rw [hR]; simp
  have p2 : (i64B a.lo) = true := by
    first | with_reducible assumption | decide
  have p3 : (i64B a.hi) = true := by
    first | with_reducible assumption | decide
  have p4 : (true) = true := by
    rfl
  have p8 : (i64B n) = true := by
    first | with_reducible assumption | decide
  have p9 : (decide (n < 0) == decide (n < 0)) = true := by
    first | exact eqB _ | exact beq_self_eq_true _
  have p10 : (szB 0) = true := by
    exact Dl.sz (by with_reducible assumption) (by omega)
  have p11 : (szB n) = true := by
    exact Dl.sz (by with_reducible assumption) (by omega)
  have p12 : (decide (0 * n < 0) == decide (0 * n < 0)) = true := by
    first | exact eqB _ | exact beq_self_eq_true _
  have p13 : (decide (0 ≤ 0 * n)) = true := by
    exact decide_eq_true (by with_reducible assumption)
  have p14 : (szB (0 * n)) = true := by
    exact Dl.sz (by with_reducible assumption) (by omega)
  have p15 : (decide (a.hi < 0) == decide (a.hi < 0)) = true := by
    first | exact eqB _ | exact beq_self_eq_true _
  have p16 : (szB a.hi) = true := by
    exact Dl.sz (by with_reducible assumption) (by omega)
  have p17 : (decide (a.hi * n < 0) == decide (a.hi * n < 0)) = true := by
    first | exact eqB _ | exact beq_self_eq_true _
  have p18 : (decide (0 ≤ a.hi * n)) = true := by
    exact decide_eq_true (by with_reducible assumption)
  have p19 : (szB (a.hi * n)) = true := by
    exact Dl.sz (by with_reducible assumption) (by omega)
  have p20 : (decide (↑(isq (a.hi * n).toNat) < 0) == decide (↑(isq (a.hi * n).toNat) < 0)) = true := by
    first | exact eqB _ | exact beq_self_eq_true _
  have p21 : (szB ↑(isq (a.hi * n).toNat)) = true := by
    exact Dl.sz (by with_reducible assumption) (by omega)
  have p22 : (decide (↑(isq (a.hi * n).toNat) * ↑(isq (a.hi * n).toNat) < 0) == decide (↑(isq (a.hi * n).toNat) * ↑(isq (a.hi * n).toNat) < 0)) = true := by
    first | exact eqB _ | exact beq_self_eq_true _
  have p23 : (szB (↑(isq (a.hi * n).toNat) * ↑(isq (a.hi * n).toNat))) = true := by
    exact Dl.sz (by with_reducible assumption) (by omega)
  have p25 : (decide (↑(isq (0 * n).toNat) < 0) == decide (↑(isq (0 * n).toNat) < 0)) = true := by
    first | exact eqB _ | exact beq_self_eq_true _
  have p26 : (szB ↑(isq (0 * n).toNat)) = true := by
    exact Dl.sz (by with_reducible assumption) (by omega)
  exact evR_calls (I := numI) (v := .bool true) (ctxLp_ok libBoundRoots_ok eqBoundRoots_ok fnsBoundRoots_ok (fun _ _ _ => lps_nil)) (by kernel_rfl) Try.func7 rfl lps_nil L rfl (all2_R (.cons rfl (.cons rfl .nil))) (congrArg (fun b => some (Value.bool b)) V) _ (Nat.zero_le _) (pickL_ok (cd_cons k0 (cd_cons k1 (cd_cons p2 (cd_cons p3 (cd_cons p4 (cd_cons k2 (cd_cons k3 (cd_cons k4 (cd_cons p8 (cd_cons p9 (cd_cons p10 (cd_cons p11 (cd_cons p12 (cd_cons p13 (cd_cons p14 (cd_cons p15 (cd_cons p16 (cd_cons p17 (cd_cons p18 (cd_cons p19 (cd_cons p20 (cd_cons p21 (cd_cons p22 (cd_cons p23 (cd_cons k5 (cd_cons p25 (cd_cons p26 cd_nil))))))))))))))))))))))))))) _)
set_option maxRecDepth 100000 in
theorem boundRoots_w4 (a : Bd) (n : Int) (W : World) (hn : i64B n = true) (k0 : (chkB a != 0) = false) (k1 : (a.u) = false) (k2 : (decide (n ≥ 1)) = true) (k3 : (!decide (a.hi < 0)) = true) (k4 : (decide (a.lo < 0)) = false) (k6 : (cmpI (↑(isq (a.hi * n).toNat) * ↑(isq (a.hi * n).toNat)) (a.hi * n) != 0) = true) : Calls Try.prog 7 #[bV a, .int .i64 n] W fun e w' => e = .returned (.bool true) ∧ Below W.heap.size W w' := by
  have L := boundRoots_0011011 a n
  have ka : knB a = true := kn_ok k0 k1
  obtain ⟨au, a1, a2, a3⟩ := knB_iff.1 ka
  obtain ⟨a4, a5⟩ := i64_kn ka
  have a6 := Dl.i64 a4
  have a7 := Dl.i64 a5
  have n7 := Dl.i64 hn
  have d2 := of_decide_eq_true k2
  have d4 := of_decide_eq_false k4
  have hh : ¬ a.hi < 0 := by simpa using k3
  have l64 : i64B a.lo = true := a4
  have q1 := isq_eq (x := a.hi) (n := n) (by omega) (by omega)
  have q2 := isq_eq (x := a.lo) (n := n) (by omega) (by omega)
  have m0 : 0 ≤ a.hi * n := Int.mul_nonneg (by omega) (by omega)
  have m1 : 0 ≤ a.lo * n := Int.mul_nonneg (by omega) (by omega)
  have D1 : Dl 4 (isq (a.hi * n).toNat : Int) := by rw [q1]; exact Dl.i64 (isq_i64 a5 hn)
  have D2 := Dl.mul D1 D1
  have D3 := Dl.mul a7 n7
  have D0 := Dl.i64 i64_0
  have Dn := Dl.i64 i64_1
  have D4 := Dl.add' D1 Dn
  have D5 : Dl 4 (isq (a.lo * n).toNat : Int) := by rw [q2]; exact Dl.i64 (isq_i64 l64 hn)
  have D6 := Dl.mul (Dl.i64 l64) n7
  have hR : rootB a n = ofB (isqI a.lo n) (rootUp a.hi n) := by
    unfold rootB
    rw [ka, decide_eq_false (show ¬ n < 1 by omega), decide_eq_false (show ¬ a.hi < 0 by omega), show maxI a.lo 0 = a.lo by unfold maxI; split <;> omega]; rfl
  have hU := rt_hi a5 hn (by omega) (by omega)
  rw [← q1, k6] at hU
  simp only [cond_true, cond_false] at hU
  rw [hU, ← q2] at hR
  have V : ((rootB a n).lo == (ofB (↑(isq (a.lo * n).toNat)) (↑(isq (a.hi * n).toNat) + 1)).lo && ((rootB a n).hi == (ofB (↑(isq (a.lo * n).toNat)) (↑(isq (a.hi * n).toNat) + 1)).hi && ((rootB a n).u == (ofB (↑(isq (a.lo * n).toNat)) (↑(isq (a.hi * n).toNat) + 1)).u && true))) = true := by
    rw [hR]; simp
  have p2 : (i64B a.lo) = true := by
    first | with_reducible assumption | decide
  have p3 : (i64B a.hi) = true := by
    first | with_reducible assumption | decide
  have p4 : (true) = true := by
    rfl
  have p8 : (i64B n) = true := by
    first | with_reducible assumption | decide
  have p9 : (decide (a.lo < 0) == decide (a.lo < 0)) = true := by
    first | exact eqB _ | exact beq_self_eq_true _
  have p10 : (decide (n < 0) == decide (n < 0)) = true := by
    first | exact eqB _ | exact beq_self_eq_true _
  have p11 : (szB a.lo) = true := by
    exact Dl.sz (by with_reducible assumption) (by omega)
  have p12 : (szB n) = true := by
    exact Dl.sz (by with_reducible assumption) (by omega)
  have p13 : (decide (a.lo * n < 0) == decide (a.lo * n < 0)) = true := by
    first | exact eqB _ | exact beq_self_eq_true _
  have p14 : (decide (0 ≤ a.lo * n)) = true := by
    exact decide_eq_true (by with_reducible assumption)
  have p15 : (szB (a.lo * n)) = true := by
    exact Dl.sz (by with_reducible assumption) (by omega)
  have p16 : (decide (a.hi < 0) == decide (a.hi < 0)) = true := by
    first | exact eqB _ | exact beq_self_eq_true _
  have p17 : (szB a.hi) = true := by
    exact Dl.sz (by with_reducible assumption) (by omega)
  have p18 : (decide (a.hi * n < 0) == decide (a.hi * n < 0)) = true := by
    first | exact eqB _ | exact beq_self_eq_true _
  have p19 : (decide (0 ≤ a.hi * n)) = true := by
    exact decide_eq_true (by with_reducible assumption)
  have p20 : (szB (a.hi * n)) = true := by
    exact Dl.sz (by with_reducible assumption) (by omega)
  have p21 : (decide (↑(isq (a.hi * n).toNat) < 0) == decide (↑(isq (a.hi * n).toNat) < 0)) = true := by
    first | exact eqB _ | exact beq_self_eq_true _
  have p22 : (szB ↑(isq (a.hi * n).toNat)) = true := by
    exact Dl.sz (by with_reducible assumption) (by omega)
  have p23 : (decide (↑(isq (a.hi * n).toNat) * ↑(isq (a.hi * n).toNat) < 0) == decide (↑(isq (a.hi * n).toNat) * ↑(isq (a.hi * n).toNat) < 0)) = true := by
    first | exact eqB _ | exact beq_self_eq_true _
  have p24 : (szB (↑(isq (a.hi * n).toNat) * ↑(isq (a.hi * n).toNat))) = true := by
    exact Dl.sz (by with_reducible assumption) (by omega)
  have p26 : (i64B 1) = true := by
    first | with_reducible assumption | decide
  have p27 : (decide (1 < 0) == decide (1 < 0)) = true := by
    first | exact eqB _ | exact beq_self_eq_true _
  have p28 : (szB 1) = true := by
    exact Dl.sz (by with_reducible assumption) (by omega)
  have p29 : (decide (↑(isq (a.lo * n).toNat) < 0) == decide (↑(isq (a.lo * n).toNat) < 0)) = true := by
    first | exact eqB _ | exact beq_self_eq_true _
  have p30 : (decide (↑(isq (a.hi * n).toNat) + 1 < 0) == decide (↑(isq (a.hi * n).toNat) + 1 < 0)) = true := by
    first | exact eqB _ | exact beq_self_eq_true _
  have p31 : (szB ↑(isq (a.lo * n).toNat)) = true := by
    exact Dl.sz (by with_reducible assumption) (by omega)
  have p32 : (szB (↑(isq (a.hi * n).toNat) + 1)) = true := by
    exact Dl.sz (by with_reducible assumption) (by omega)
  exact evR_calls (I := numI) (v := .bool true) (ctxLp_ok libBoundRoots_ok eqBoundRoots_ok fnsBoundRoots_ok (fun _ _ _ => lps_nil)) (by kernel_rfl) Try.func7 rfl lps_nil L rfl (all2_R (.cons rfl (.cons rfl .nil))) (congrArg (fun b => some (Value.bool b)) V) _ (Nat.zero_le _) (pickL_ok (cd_cons k0 (cd_cons k1 (cd_cons p2 (cd_cons p3 (cd_cons p4 (cd_cons k2 (cd_cons k3 (cd_cons k4 (cd_cons p8 (cd_cons p9 (cd_cons p10 (cd_cons p11 (cd_cons p12 (cd_cons p13 (cd_cons p14 (cd_cons p15 (cd_cons p16 (cd_cons p17 (cd_cons p18 (cd_cons p19 (cd_cons p20 (cd_cons p21 (cd_cons p22 (cd_cons p23 (cd_cons p24 (cd_cons k6 (cd_cons p26 (cd_cons p27 (cd_cons p28 (cd_cons p29 (cd_cons p30 (cd_cons p31 (cd_cons p32 cd_nil))))))))))))))))))))))))))))))))) _)
set_option maxRecDepth 100000 in
theorem boundRoots_w5 (a : Bd) (n : Int) (W : World) (hn : i64B n = true) (k0 : (chkB a != 0) = false) (k1 : (a.u) = false) (k2 : (decide (n ≥ 1)) = true) (k3 : (!decide (a.hi < 0)) = true) (k4 : (decide (a.lo < 0)) = false) (k6 : (cmpI (↑(isq (a.hi * n).toNat) * ↑(isq (a.hi * n).toNat)) (a.hi * n) != 0) = false) : Calls Try.prog 7 #[bV a, .int .i64 n] W fun e w' => e = .returned (.bool true) ∧ Below W.heap.size W w' := by
  have L := boundRoots_0011001 a n
  have ka : knB a = true := kn_ok k0 k1
  obtain ⟨au, a1, a2, a3⟩ := knB_iff.1 ka
  obtain ⟨a4, a5⟩ := i64_kn ka
  have a6 := Dl.i64 a4
  have a7 := Dl.i64 a5
  have n7 := Dl.i64 hn
  have d2 := of_decide_eq_true k2
  have d4 := of_decide_eq_false k4
  have hh : ¬ a.hi < 0 := by simpa using k3
  have l64 : i64B a.lo = true := a4
  have q1 := isq_eq (x := a.hi) (n := n) (by omega) (by omega)
  have q2 := isq_eq (x := a.lo) (n := n) (by omega) (by omega)
  have m0 : 0 ≤ a.hi * n := Int.mul_nonneg (by omega) (by omega)
  have m1 : 0 ≤ a.lo * n := Int.mul_nonneg (by omega) (by omega)
  have D1 : Dl 4 (isq (a.hi * n).toNat : Int) := by rw [q1]; exact Dl.i64 (isq_i64 a5 hn)
  have D2 := Dl.mul D1 D1
  have D3 := Dl.mul a7 n7
  have D0 := Dl.i64 i64_0
  have Dn := Dl.i64 i64_1
  have D4 := Dl.add' D1 Dn
  have D5 : Dl 4 (isq (a.lo * n).toNat : Int) := by rw [q2]; exact Dl.i64 (isq_i64 l64 hn)
  have D6 := Dl.mul (Dl.i64 l64) n7
  have hR : rootB a n = ofB (isqI a.lo n) (rootUp a.hi n) := by
    unfold rootB
    rw [ka, decide_eq_false (show ¬ n < 1 by omega), decide_eq_false (show ¬ a.hi < 0 by omega), show maxI a.lo 0 = a.lo by unfold maxI; split <;> omega]; rfl
  have hU := rt_hi a5 hn (by omega) (by omega)
  rw [← q1, k6] at hU
  simp only [cond_true, cond_false] at hU
  rw [hU, ← q2] at hR
  have V : ((rootB a n).lo == (ofB ↑(isq (a.lo * n).toNat) ↑(isq (a.hi * n).toNat)).lo && ((rootB a n).hi == (ofB ↑(isq (a.lo * n).toNat) ↑(isq (a.hi * n).toNat)).hi && ((rootB a n).u == (ofB ↑(isq (a.lo * n).toNat) ↑(isq (a.hi * n).toNat)).u && true))) = true := by
    rw [hR]; simp
  have p2 : (i64B a.lo) = true := by
    first | with_reducible assumption | decide
  have p3 : (i64B a.hi) = true := by
    first | with_reducible assumption | decide
  have p4 : (true) = true := by
    rfl
  have p8 : (i64B n) = true := by
    first | with_reducible assumption | decide
  have p9 : (decide (a.lo < 0) == decide (a.lo < 0)) = true := by
    first | exact eqB _ | exact beq_self_eq_true _
  have p10 : (decide (n < 0) == decide (n < 0)) = true := by
    first | exact eqB _ | exact beq_self_eq_true _
  have p11 : (szB a.lo) = true := by
    exact Dl.sz (by with_reducible assumption) (by omega)
  have p12 : (szB n) = true := by
    exact Dl.sz (by with_reducible assumption) (by omega)
  have p13 : (decide (a.lo * n < 0) == decide (a.lo * n < 0)) = true := by
    first | exact eqB _ | exact beq_self_eq_true _
  have p14 : (decide (0 ≤ a.lo * n)) = true := by
    exact decide_eq_true (by with_reducible assumption)
  have p15 : (szB (a.lo * n)) = true := by
    exact Dl.sz (by with_reducible assumption) (by omega)
  have p16 : (decide (a.hi < 0) == decide (a.hi < 0)) = true := by
    first | exact eqB _ | exact beq_self_eq_true _
  have p17 : (szB a.hi) = true := by
    exact Dl.sz (by with_reducible assumption) (by omega)
  have p18 : (decide (a.hi * n < 0) == decide (a.hi * n < 0)) = true := by
    first | exact eqB _ | exact beq_self_eq_true _
  have p19 : (decide (0 ≤ a.hi * n)) = true := by
    exact decide_eq_true (by with_reducible assumption)
  have p20 : (szB (a.hi * n)) = true := by
    exact Dl.sz (by with_reducible assumption) (by omega)
  have p21 : (decide (↑(isq (a.hi * n).toNat) < 0) == decide (↑(isq (a.hi * n).toNat) < 0)) = true := by
    first | exact eqB _ | exact beq_self_eq_true _
  have p22 : (szB ↑(isq (a.hi * n).toNat)) = true := by
    exact Dl.sz (by with_reducible assumption) (by omega)
  have p23 : (decide (↑(isq (a.hi * n).toNat) * ↑(isq (a.hi * n).toNat) < 0) == decide (↑(isq (a.hi * n).toNat) * ↑(isq (a.hi * n).toNat) < 0)) = true := by
    first | exact eqB _ | exact beq_self_eq_true _
  have p24 : (szB (↑(isq (a.hi * n).toNat) * ↑(isq (a.hi * n).toNat))) = true := by
    exact Dl.sz (by with_reducible assumption) (by omega)
  have p26 : (decide (↑(isq (a.lo * n).toNat) < 0) == decide (↑(isq (a.lo * n).toNat) < 0)) = true := by
    first | exact eqB _ | exact beq_self_eq_true _
  have p27 : (szB ↑(isq (a.lo * n).toNat)) = true := by
    exact Dl.sz (by with_reducible assumption) (by omega)
  exact evR_calls (I := numI) (v := .bool true) (ctxLp_ok libBoundRoots_ok eqBoundRoots_ok fnsBoundRoots_ok (fun _ _ _ => lps_nil)) (by kernel_rfl) Try.func7 rfl lps_nil L rfl (all2_R (.cons rfl (.cons rfl .nil))) (congrArg (fun b => some (Value.bool b)) V) _ (Nat.zero_le _) (pickL_ok (cd_cons k0 (cd_cons k1 (cd_cons p2 (cd_cons p3 (cd_cons p4 (cd_cons k2 (cd_cons k3 (cd_cons k4 (cd_cons p8 (cd_cons p9 (cd_cons p10 (cd_cons p11 (cd_cons p12 (cd_cons p13 (cd_cons p14 (cd_cons p15 (cd_cons p16 (cd_cons p17 (cd_cons p18 (cd_cons p19 (cd_cons p20 (cd_cons p21 (cd_cons p22 (cd_cons p23 (cd_cons p24 (cd_cons k6 (cd_cons p26 (cd_cons p27 cd_nil)))))))))))))))))))))))))))) _)
set_option maxRecDepth 100000 in
theorem boundRoots_w6 (a : Bd) (n : Int) (W : World) (hn : i64B n = true) (k0 : (chkB a != 0) = false) (k1 : (a.u) = false) (k2 : (decide (n ≥ 1)) = true) (k3 : (!decide (a.hi < 0)) = false) : Calls Try.prog 7 #[bV a, .int .i64 n] W fun e w' => e = .returned (.bool true) ∧ Below W.heap.size W w' := by
  have L := boundRoots_00101 a n
  have ka : knB a = true := kn_ok k0 k1
  obtain ⟨au, a1, a2, a3⟩ := knB_iff.1 ka
  obtain ⟨a4, a5⟩ := i64_kn ka
  have a6 := Dl.i64 a4
  have a7 := Dl.i64 a5
  have n7 := Dl.i64 hn
  have d2 := of_decide_eq_true k2
  have V : ((rootB a n).lo == 0 && ((rootB a n).hi == 0 && ((rootB a n).u == true && true))) = true := by
    have e : rootB a n = noneB := by
      unfold rootB
      have hh : a.hi < 0 := by simpa using k3
      simp [ka, hh]
    rw [e]; rfl
  have p2 : (i64B a.lo) = true := by
    first | with_reducible assumption | decide
  have p3 : (i64B a.hi) = true := by
    first | with_reducible assumption | decide
  have p4 : (true) = true := by
    rfl
  have p7 : (i64B n) = true := by
    first | with_reducible assumption | decide
  exact evR_calls (I := numI) (v := .bool true) (ctxLp_ok libBoundRoots_ok eqBoundRoots_ok fnsBoundRoots_ok (fun _ _ _ => lps_nil)) (by kernel_rfl) Try.func7 rfl lps_nil L rfl (all2_R (.cons rfl (.cons rfl .nil))) (congrArg (fun b => some (Value.bool b)) V) _ (Nat.zero_le _) (pickL_ok (cd_cons k0 (cd_cons k1 (cd_cons p2 (cd_cons p3 (cd_cons p4 (cd_cons k2 (cd_cons k3 (cd_cons p7 cd_nil)))))))) _)
set_option maxRecDepth 100000 in
theorem boundRoots_w7 (a : Bd) (n : Int) (W : World) (hn : i64B n = true) (k0 : (chkB a != 0) = false) (k1 : (a.u) = false) (k2 : (decide (n ≥ 1)) = false) : Calls Try.prog 7 #[bV a, .int .i64 n] W fun e w' => e = .returned (.bool true) ∧ Below W.heap.size W w' := by
  have L := boundRoots_0001 a n
  have ka : knB a = true := kn_ok k0 k1
  obtain ⟨au, a1, a2, a3⟩ := knB_iff.1 ka
  obtain ⟨a4, a5⟩ := i64_kn ka
  have a6 := Dl.i64 a4
  have a7 := Dl.i64 a5
  have n7 := Dl.i64 hn
  have d2 := of_decide_eq_false k2
  have V : ((rootB a n).lo == 0 && ((rootB a n).hi == 0 && ((rootB a n).u == true && true))) = true := by
    have e : rootB a n = noneB := by
      unfold rootB
      have hh : n < 1 := by have := k2; simp at this; omega
      simp [ka, hh]
    rw [e]; rfl
  have p2 : (i64B a.lo) = true := by
    first | with_reducible assumption | decide
  have p3 : (i64B a.hi) = true := by
    first | with_reducible assumption | decide
  have p4 : (true) = true := by
    rfl
  have p6 : (false) = false := by
    rfl
  have p7 : (i64B n) = true := by
    first | with_reducible assumption | decide
  exact evR_calls (I := numI) (v := .bool true) (ctxLp_ok libBoundRoots_ok eqBoundRoots_ok fnsBoundRoots_ok (fun _ _ _ => lps_nil)) (by kernel_rfl) Try.func7 rfl lps_nil L rfl (all2_R (.cons rfl (.cons rfl .nil))) (congrArg (fun b => some (Value.bool b)) V) _ (Nat.zero_le _) (pickL_ok (cd_cons k0 (cd_cons k1 (cd_cons p2 (cd_cons p3 (cd_cons p4 (cd_cons k2 (cd_cons p6 (cd_cons p7 cd_nil)))))))) _)
set_option maxRecDepth 100000 in
theorem boundRoots_law (a : Bd) (n : Int) (W : World) (hn : i64B n = true) : Calls Try.prog 7 #[bV a, .int .i64 n] W fun e w' => e = .returned (.bool true) ∧ Below W.heap.size W w' := by
  cases k0 : (chkB a != 0) with
  | true =>
    exact boundRoots_w0 a n W hn k0
  | false =>
    cases k1 : (a.u) with
    | true =>
      exact boundRoots_w1 a n W hn k0 k1
    | false =>
      cases k2 : (decide (n ≥ 1)) with
      | true =>
        cases k3 : (!decide (a.hi < 0)) with
        | true =>
          cases k4 : (decide (a.lo < 0)) with
          | true =>
            cases k5 : (cmpI (↑(isq (a.hi * n).toNat) * ↑(isq (a.hi * n).toNat)) (a.hi * n) != 0) with
            | true =>
              exact boundRoots_w2 a n W hn k0 k1 k2 k3 k4 k5
            | false =>
              exact boundRoots_w3 a n W hn k0 k1 k2 k3 k4 k5
          | false =>
            cases k6 : (cmpI (↑(isq (a.hi * n).toNat) * ↑(isq (a.hi * n).toNat)) (a.hi * n) != 0) with
            | true =>
              exact boundRoots_w4 a n W hn k0 k1 k2 k3 k4 k6
            | false =>
              exact boundRoots_w5 a n W hn k0 k1 k2 k3 k4 k6
        | false =>
          exact boundRoots_w6 a n W hn k0 k1 k2 k3
      | false =>
        exact boundRoots_w7 a n W hn k0 k1 k2
theorem i64_ok {x : Int} (h : okK (some .i64) x) : i64B x = true := i64B_iff.2 (okK_i64 h)
theorem boundRoots_walk (W : World) (al : Int) (hal : okK (some .i64) al) (ah : Int) (hah : okK (some .i64) ah) (au : Bool) (n : Int) (hn : okK (some .i64) n) :
    Calls Try.prog 7 #[.agg #[.int .i64 al, .int .i64 ah, .bool au], .int .i64 n] W fun e w' => e = .returned (.bool true) ∧ Below W.heap.size W w' :=
  boundRoots_law ⟨al, ah, au⟩ n W (i64_ok hn)
end
end Go.Proofs.Ytjegnlnnjcchaaa.AtBr

