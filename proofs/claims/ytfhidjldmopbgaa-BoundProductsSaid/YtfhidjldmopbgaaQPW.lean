/-
  The walk of the law BoundProducts.
  Conditions: the numbers of the arguments are int64.
-/
import Derived.Test.YtfhidjldmopbgaaQPS
import Derived.Test.YtfhidjldmopbgaaQZG
import Derived.Test.YtfhidjldmopbgaaQNum
import Derived.Deep.RegionHeld3
import Derived.Test.YtfhidjldmopbgaaQGO

set_option linter.unusedVariables false
set_option linter.unusedSimpArgs false
namespace Go.Proofs.Ytfhidjldmopbgaa.AtBr
open Ev Go.RowKit Go.Shelf Zd Wd
open Go.Proofs.Ytfhidjldmopbgaa
noncomputable section

noncomputable abbrev libBP : List (Nat × FnSp Nm) := [(13, sp0 (aBool true)), (21, sp3 dBd dBd (dInt .i64) (fun a b n => bA (mulB a b n)) (fun _ _ n => [(i64B n, true)])), (22, sp3 dBd dBd (dInt .i64) (fun a b n => bA (divB a b n)) (fun _ _ n => [(i64B n, true)])), (23, sp3 dBd (dInt .i64) (dInt .i64) (fun a n d => bA (scaB a n d)) (fun _ n d => [(i64B n, true), (i64B d, true)])), (10, nfn nI), (24, sp1 dBd (fun b => aInt .i64 (chkB b)) (fun _ => [])), (19, nfn nTimes), (20, nfn nSign), (18, locSp cxP gRa)]
noncomputable abbrev fnsBP : List (Nat × Func) := [(5, Try.f5)]
abbrev eqBP : TypeId → Bool := fun t => Nat.beq t 24
theorem eqBP_ok : EqOk Try.prog (tabOf Try.prog) eqBP := eq_of fun t ht => by
  have ht : (Nat.beq t 24) = true := ht
  have := Nat.eq_of_beq_eq_true ht
  subst this
  exact ⟨by kernel_rfl, by kernel_rfl, by kernel_rfl⟩
theorem libBP_ok : LibOk Try.prog numI (lib1 libBP) := (lib1_cons (sp0_ok rfl bounds_pl) Try.call13 (lib1_cons (sp3_ok fun a b n hc => ⟨_, rfl, mul_pl a b n (hc (i64B n, true) (by simp))⟩) Try.call21 (lib1_cons (sp3_ok fun a b n hc => ⟨_, rfl, div_pl a b n (hc (i64B n, true) (by simp))⟩) Try.call22 (lib1_cons (sp3_ok fun a n d hc => ⟨_, rfl, scale_pl a n d (cd2 hc).1 (cd2 hc).2⟩) Try.call23 (lib1_cons nI_ok Try.call10 (lib1_cons (sp1_ok fun b _ => ⟨_, rfl, bte_pl b⟩) Try.call24 (lib1_cons nTimes_ok Try.call19 (lib1_cons nSign_ok Try.call20 (lib1_cons gRa_ok Try.call18 (lib1_nil _ _))))))))))
theorem fnsBP_ok : FnsOk Try.prog fnsBP := (fns_cons Try.func5 rfl Try.call5 (fns_nil _))
theorem kn_bad {b : Bd} (h : (chkB b != 0) = true) : knB b = false := by
  cases k : knB b with
  | false => rfl
  | true =>
    obtain ⟨h1, h2, h3, h4⟩ := knB_iff.1 k
    have : chkB b = 0 := by
      unfold chkB inB
      rw [h1, decide_eq_true (show -1152921504606846976 ≤ b.lo by omega), decide_eq_true (show b.lo ≤ 1152921504606846976 by omega), decide_eq_true (show -1152921504606846976 ≤ b.hi by omega), decide_eq_true (show b.hi ≤ 1152921504606846976 by omega), decide_eq_false (show ¬ b.lo > b.hi by omega)]
      rfl
    rw [this] at h; simp at h
theorem kn_u {b : Bd} (h : b.u = true) : knB b = false := by unfold knB; rw [h]; rfl
theorem kn_ok {b : Bd} (h : (chkB b != 0) = false) (hu : b.u = false) : knB b = true := by
  have h : chkB b = 0 := by simpa using h
  unfold chkB at h
  unfold knB
  rw [hu] at h ⊢
  simp only [Bool.false_and, cond_false, Bool.not_false, Bool.true_and] at h ⊢
  cases h1 : (inB b.lo && inB b.hi) with
  | false => rw [h1] at h; cases h
  | true =>
    rw [h1] at h
    simp only [Bool.not_true, cond_false] at h
    by_cases h2 : b.lo > b.hi
    · rw [decide_eq_true h2] at h; cases h
    · rw [decide_eq_true (show b.lo ≤ b.hi by omega)]; rfl
set_option maxRecDepth 100000 in
theorem bpr_11111 (a : Bd) (b : Bd) (q : Int) (n : Int) (d : Int) : evR (ctxLp Try.prog numI eqBP libBP fnsBP []) Try.f4 [(bA a), (bA b), (.w (.one (.int .i64 q))), (.w (.one (.int .i64 n))), (.w (.one (.int .i64 d)))] [true, true, true, true, true] = some (AV.w (AW.one (AC.bool ((scaB a n d).lo == 0 && ((scaB a n d).hi == 0 && ((scaB a n d).u == true && true))))), (pickL [(chkB a != 0, true), (true, true), (chkB b != 0, true), (i64B q, true), (false, false), ((mulB a b q).lo == 0 && ((mulB a b q).hi == 0 && ((mulB a b q).u == true && true)), true), ((divB a b q).lo == 0 && ((divB a b q).hi == 0 && ((divB a b q).u == true && true)), true), (i64B n, true), (i64B d, true)] [0, 0, 0, 1, 2, 2, 2, 1, 3, 4, 4, 4, 4, 4, 4, 4, 4, 4, 4, 4, 4, 4, 4, 4, 4, 1, 1, 1, 1, 3, 1, 1, 1, 5, 5, 5, 5, 3, 5, 5, 5, 6, 6, 6, 6, 7, 8, 6, 6, 6])) := by kernel_rfl
set_option maxRecDepth 100000 in
theorem bpr_101111 (a : Bd) (b : Bd) (q : Int) (n : Int) (d : Int) : evR (ctxLp Try.prog numI eqBP libBP fnsBP []) Try.f4 [(bA a), (bA b), (.w (.one (.int .i64 q))), (.w (.one (.int .i64 n))), (.w (.one (.int .i64 d)))] [true, false, true, true, true, true] = some (AV.w (AW.one (AC.bool ((scaB a n d).lo == 0 && ((scaB a n d).hi == 0 && ((scaB a n d).u == true && true))))), (pickL [(chkB a != 0, true), (true, true), (chkB b != 0, false), (b.u, true), (i64B q, true), (false, false), ((mulB a b q).lo == 0 && ((mulB a b q).hi == 0 && ((mulB a b q).u == true && true)), true), ((divB a b q).lo == 0 && ((divB a b q).hi == 0 && ((divB a b q).u == true && true)), true), (i64B n, true), (i64B d, true)] [0, 0, 0, 1, 2, 2, 2, 3, 4, 5, 5, 5, 5, 5, 5, 5, 5, 5, 5, 5, 5, 5, 5, 5, 5, 1, 1, 1, 1, 4, 1, 1, 1, 6, 6, 6, 6, 4, 6, 6, 6, 7, 7, 7, 7, 8, 9, 7, 7, 7])) := by kernel_rfl
set_option maxRecDepth 100000 in
theorem bpr_100111 (a : Bd) (b : Bd) (q : Int) (n : Int) (d : Int) : evR (ctxLp Try.prog numI eqBP libBP fnsBP []) Try.f4 [(bA a), (bA b), (.w (.one (.int .i64 q))), (.w (.one (.int .i64 n))), (.w (.one (.int .i64 d)))] [true, false, false, true, true, true] = some (AV.w (AW.one (AC.bool ((scaB a n d).lo == 0 && ((scaB a n d).hi == 0 && ((scaB a n d).u == true && true))))), (pickL [(chkB a != 0, true), (true, true), (chkB b != 0, false), (b.u, false), (i64B b.lo, true), (i64B b.hi, true), (i64B q, true), (false, false), ((mulB a b q).lo == 0 && ((mulB a b q).hi == 0 && ((mulB a b q).u == true && true)), true), ((divB a b q).lo == 0 && ((divB a b q).hi == 0 && ((divB a b q).u == true && true)), true), (i64B n, true), (i64B d, true)] [0, 0, 0, 1, 2, 2, 2, 3, 4, 5, 6, 7, 7, 7, 7, 7, 7, 7, 7, 7, 7, 7, 7, 7, 7, 7, 7, 1, 1, 1, 1, 6, 1, 1, 1, 8, 8, 8, 8, 6, 8, 8, 8, 9, 9, 9, 9, 10, 11, 9, 9, 9])) := by kernel_rfl
set_option maxRecDepth 100000 in
theorem bpr_011111 (a : Bd) (b : Bd) (q : Int) (n : Int) (d : Int) : evR (ctxLp Try.prog numI eqBP libBP fnsBP []) Try.f4 [(bA a), (bA b), (.w (.one (.int .i64 q))), (.w (.one (.int .i64 n))), (.w (.one (.int .i64 d)))] [false, true, true, true, true, true] = some (AV.w (AW.one (AC.bool ((scaB a n d).lo == 0 && ((scaB a n d).hi == 0 && ((scaB a n d).u == true && true))))), (pickL [(chkB a != 0, false), (a.u, true), (chkB b != 0, true), (true, true), (i64B q, true), (false, false), ((mulB a b q).lo == 0 && ((mulB a b q).hi == 0 && ((mulB a b q).u == true && true)), true), ((divB a b q).lo == 0 && ((divB a b q).hi == 0 && ((divB a b q).u == true && true)), true), (i64B n, true), (i64B d, true)] [0, 0, 0, 1, 2, 2, 2, 3, 4, 5, 5, 5, 5, 5, 5, 5, 5, 5, 5, 5, 5, 5, 5, 5, 5, 3, 3, 3, 3, 4, 3, 3, 3, 6, 6, 6, 6, 4, 6, 6, 6, 7, 7, 7, 7, 8, 9, 7, 7, 7])) := by kernel_rfl
set_option maxRecDepth 100000 in
theorem bpr_0101111 (a : Bd) (b : Bd) (q : Int) (n : Int) (d : Int) : evR (ctxLp Try.prog numI eqBP libBP fnsBP []) Try.f4 [(bA a), (bA b), (.w (.one (.int .i64 q))), (.w (.one (.int .i64 n))), (.w (.one (.int .i64 d)))] [false, true, false, true, true, true, true] = some (AV.w (AW.one (AC.bool ((scaB a n d).lo == 0 && ((scaB a n d).hi == 0 && ((scaB a n d).u == true && true))))), (pickL [(chkB a != 0, false), (a.u, true), (chkB b != 0, false), (b.u, true), (i64B q, true), (false, false), (true, true), ((mulB a b q).lo == 0 && ((mulB a b q).hi == 0 && ((mulB a b q).u == true && true)), true), ((divB a b q).lo == 0 && ((divB a b q).hi == 0 && ((divB a b q).u == true && true)), true), (i64B n, true), (i64B d, true)] [0, 0, 0, 1, 2, 2, 2, 3, 4, 5, 5, 5, 5, 5, 5, 5, 5, 5, 5, 5, 5, 5, 5, 5, 5, 6, 6, 6, 6, 4, 6, 6, 6, 7, 7, 7, 7, 4, 7, 7, 7, 8, 8, 8, 8, 9, 10, 8, 8, 8])) := by kernel_rfl
set_option maxRecDepth 100000 in
theorem bpr_0100111 (a : Bd) (b : Bd) (q : Int) (n : Int) (d : Int) : evR (ctxLp Try.prog numI eqBP libBP fnsBP []) Try.f4 [(bA a), (bA b), (.w (.one (.int .i64 q))), (.w (.one (.int .i64 n))), (.w (.one (.int .i64 d)))] [false, true, false, false, true, true, true] = some (AV.w (AW.one (AC.bool ((scaB a n d).lo == 0 && ((scaB a n d).hi == 0 && ((scaB a n d).u == true && true))))), (pickL [(chkB a != 0, false), (a.u, true), (chkB b != 0, false), (b.u, false), (i64B b.lo, true), (i64B b.hi, true), (i64B q, true), (false, false), (true, true), ((mulB a b q).lo == 0 && ((mulB a b q).hi == 0 && ((mulB a b q).u == true && true)), true), ((divB a b q).lo == 0 && ((divB a b q).hi == 0 && ((divB a b q).u == true && true)), true), (i64B n, true), (i64B d, true)] [0, 0, 0, 1, 2, 2, 2, 3, 4, 5, 6, 7, 7, 7, 7, 7, 7, 7, 7, 7, 7, 7, 7, 7, 7, 7, 7, 8, 8, 8, 8, 6, 8, 8, 8, 9, 9, 9, 9, 6, 9, 9, 9, 10, 10, 10, 10, 11, 12, 10, 10, 10])) := by kernel_rfl
set_option maxRecDepth 100000 in
theorem bpr_0010111 (a : Bd) (b : Bd) (q : Int) (n : Int) (d : Int) : evR (ctxLp Try.prog numI eqBP libBP fnsBP []) Try.f4 [(bA a), (bA b), (.w (.one (.int .i64 q))), (.w (.one (.int .i64 n))), (.w (.one (.int .i64 d)))] [false, false, true, false, true, true, true] = some (AV.w (AW.one (AC.bool ((scaB a n d).lo == 0 && ((scaB a n d).hi == 0 && ((scaB a n d).u == true && true))))), (pickL [(chkB a != 0, false), (a.u, false), (i64B a.lo, true), (i64B a.hi, true), (chkB b != 0, true), (true, true), (i64B q, true), (false, false), (decide (d ≥ 1), false), ((mulB a b q).lo == 0 && ((mulB a b q).hi == 0 && ((mulB a b q).u == true && true)), true), ((divB a b q).lo == 0 && ((divB a b q).hi == 0 && ((divB a b q).u == true && true)), true), (i64B n, true), (i64B d, true)] [0, 0, 0, 1, 2, 3, 4, 4, 4, 5, 6, 5, 5, 7, 7, 7, 7, 5, 5, 5, 8, 8, 8, 7, 7, 7, 7, 5, 5, 5, 5, 6, 5, 5, 5, 9, 9, 9, 9, 6, 9, 9, 9, 10, 10, 10, 10, 11, 12, 10, 10, 10])) := by kernel_rfl
set_option maxRecDepth 100000 in
theorem bpr_00010111 (a : Bd) (b : Bd) (q : Int) (n : Int) (d : Int) : evR (ctxLp Try.prog numI eqBP libBP fnsBP []) Try.f4 [(bA a), (bA b), (.w (.one (.int .i64 q))), (.w (.one (.int .i64 n))), (.w (.one (.int .i64 d)))] [false, false, false, true, false, true, true, true] = some (AV.w (AW.one (AC.bool ((scaB a n d).lo == 0 && ((scaB a n d).hi == 0 && ((scaB a n d).u == true && true))))), (pickL [(chkB a != 0, false), (a.u, false), (i64B a.lo, true), (i64B a.hi, true), (chkB b != 0, false), (b.u, true), (i64B q, true), (true, true), (false, false), (decide (d ≥ 1), false), ((mulB a b q).lo == 0 && ((mulB a b q).hi == 0 && ((mulB a b q).u == true && true)), true), ((divB a b q).lo == 0 && ((divB a b q).hi == 0 && ((divB a b q).u == true && true)), true), (i64B n, true), (i64B d, true)] [0, 0, 0, 1, 2, 3, 4, 4, 4, 5, 6, 7, 7, 8, 8, 8, 8, 7, 7, 7, 9, 9, 9, 8, 8, 8, 8, 7, 7, 7, 7, 6, 7, 7, 7, 10, 10, 10, 10, 6, 10, 10, 10, 11, 11, 11, 11, 12, 13, 11, 11, 11])) := by kernel_rfl
set_option maxRecDepth 100000 in
theorem bpr_000000111 (a : Bd) (b : Bd) (q : Int) (n : Int) (d : Int) : evR (ctxLp Try.prog numI eqBP libBP fnsBP []) Try.f4 [(bA a), (bA b), (.w (.one (.int .i64 q))), (.w (.one (.int .i64 n))), (.w (.one (.int .i64 d)))] [false, false, false, false, false, false, true, true, true] = some (AV.w (AW.one (AC.bool ((scaB a n d).lo == 0 && ((scaB a n d).hi == 0 && ((scaB a n d).u == true && true))))), (pickL [(chkB a != 0, false), (a.u, false), (i64B a.lo, true), (i64B a.hi, true), (chkB b != 0, false), (b.u, false), (i64B b.lo, true), (i64B b.hi, true), (i64B q, true), (true, true), (decide (q ≥ 1), false), (decide (d ≥ 1), false), (false, false), ((mulB a b q).lo == 0 && ((mulB a b q).hi == 0 && ((mulB a b q).u == true && true)), true), ((divB a b q).lo == 0 && ((divB a b q).hi == 0 && ((divB a b q).u == true && true)), true), (i64B n, true), (i64B d, true)] [0, 0, 0, 1, 2, 3, 4, 4, 4, 5, 6, 7, 8, 9, 9, 9, 9, 9, 10, 9, 9, 9, 11, 11, 11, 12, 12, 12, 12, 9, 9, 9, 9, 8, 9, 9, 9, 13, 13, 13, 13, 8, 13, 13, 13, 14, 14, 14, 14, 15, 16, 14, 14, 14])) := by kernel_rfl
set_option maxRecDepth 100000 in
theorem bpr_0000100111 (a : Bd) (b : Bd) (q : Int) (n : Int) (d : Int) : evR (ctxLp Try.prog numI eqBP libBP fnsBP []) Try.f4 [(bA a), (bA b), (.w (.one (.int .i64 q))), (.w (.one (.int .i64 n))), (.w (.one (.int .i64 d)))] [false, false, false, false, true, false, false, true, true, true] = some (AV.w (AW.one (AC.bool ((scaB a n d).lo == 0 && ((scaB a n d).hi == 0 && ((scaB a n d).u == true && true))))), (pickL [(chkB a != 0, false), (a.u, false), (i64B a.lo, true), (i64B a.hi, true), (chkB b != 0, false), (b.u, false), (i64B b.lo, true), (i64B b.hi, true), (i64B q, true), (true, true), (decide (q ≥ 1), true), (decide (a.lo < 0) == decide (a.lo < 0), true), (decide (b.lo < 0) == decide (b.lo < 0), true), (szB a.lo, true), (szB b.lo, true), (decide (b.hi < 0) == decide (b.hi < 0), true), (szB b.hi, true), (decide (a.hi < 0) == decide (a.hi < 0), true), (szB a.hi, true), (okM a b q, true), (cmpI b.lo 0 == cmpI b.hi 0, false), (false, false), (decide (d ≥ 1), false), ((mulB a b q).lo == (rM a b q).lo && ((mulB a b q).hi == (rM a b q).hi && ((mulB a b q).u == (rM a b q).u && true)), true), ((divB a b q).lo == 0 && ((divB a b q).hi == 0 && ((divB a b q).u == true && true)), true), (i64B n, true), (i64B d, true)] [0, 0, 0, 1, 2, 3, 4, 4, 4, 5, 6, 7, 8, 9, 9, 9, 9, 9, 10, 11, 12, 13, 14, 11, 15, 13, 16, 17, 12, 18, 14, 17, 15, 18, 16, 19, 12, 15, 20, 20, 20, 20, 21, 9, 9, 9, 22, 22, 22, 21, 21, 21, 21, 9, 9, 9, 9, 8, 9, 9, 9, 23, 23, 23, 23, 8, 23, 23, 23, 24, 24, 24, 24, 25, 26, 24, 24, 24])) := by kernel_rfl
set_option maxRecDepth 100000 in
theorem bpr_00001100111 (a : Bd) (b : Bd) (q : Int) (n : Int) (d : Int) : evR (ctxLp Try.prog numI eqBP libBP fnsBP []) Try.f4 [(bA a), (bA b), (.w (.one (.int .i64 q))), (.w (.one (.int .i64 n))), (.w (.one (.int .i64 d)))] [false, false, false, false, true, true, false, false, true, true, true] = some (AV.w (AW.one (AC.bool ((scaB a n d).lo == 0 && ((scaB a n d).hi == 0 && ((scaB a n d).u == true && true))))), (pickL [(chkB a != 0, false), (a.u, false), (i64B a.lo, true), (i64B a.hi, true), (chkB b != 0, false), (b.u, false), (i64B b.lo, true), (i64B b.hi, true), (i64B q, true), (true, true), (decide (q ≥ 1), true), (decide (a.lo < 0) == decide (a.lo < 0), true), (decide (b.lo < 0) == decide (b.lo < 0), true), (szB a.lo, true), (szB b.lo, true), (decide (b.hi < 0) == decide (b.hi < 0), true), (szB b.hi, true), (decide (a.hi < 0) == decide (a.hi < 0), true), (szB a.hi, true), (okM a b q, true), (cmpI b.lo 0 == cmpI b.hi 0, true), (cmpI b.lo 0 != 0, false), (decide (d ≥ 1), false), (false, false), ((mulB a b q).lo == (rM a b q).lo && ((mulB a b q).hi == (rM a b q).hi && ((mulB a b q).u == (rM a b q).u && true)), true), ((divB a b q).lo == 0 && ((divB a b q).hi == 0 && ((divB a b q).u == true && true)), true), (i64B n, true), (i64B d, true)] [0, 0, 0, 1, 2, 3, 4, 4, 4, 5, 6, 7, 8, 9, 9, 9, 9, 9, 10, 11, 12, 13, 14, 11, 15, 13, 16, 17, 12, 18, 14, 17, 15, 18, 16, 19, 12, 15, 20, 20, 12, 20, 20, 21, 9, 9, 9, 22, 22, 22, 23, 23, 23, 23, 9, 9, 9, 9, 8, 9, 9, 9, 24, 24, 24, 24, 8, 24, 24, 24, 25, 25, 25, 25, 26, 27, 25, 25, 25])) := by kernel_rfl
set_option maxRecDepth 100000 in
theorem bpr_00001110111 (a : Bd) (b : Bd) (q : Int) (n : Int) (d : Int) : evR (ctxLp Try.prog numI eqBP libBP fnsBP []) Try.f4 [(bA a), (bA b), (.w (.one (.int .i64 q))), (.w (.one (.int .i64 n))), (.w (.one (.int .i64 d)))] [false, false, false, false, true, true, true, false, true, true, true] = some (AV.w (AW.one (AC.bool ((scaB a n d).lo == 0 && ((scaB a n d).hi == 0 && ((scaB a n d).u == true && true))))), (pickL [(chkB a != 0, false), (a.u, false), (i64B a.lo, true), (i64B a.hi, true), (chkB b != 0, false), (b.u, false), (i64B b.lo, true), (i64B b.hi, true), (i64B q, true), (true, true), (decide (q ≥ 1), true), (decide (a.lo < 0) == decide (a.lo < 0), true), (decide (b.lo < 0) == decide (b.lo < 0), true), (szB a.lo, true), (szB b.lo, true), (decide (b.hi < 0) == decide (b.hi < 0), true), (szB b.hi, true), (decide (a.hi < 0) == decide (a.hi < 0), true), (szB a.hi, true), (okM a b q, true), (cmpI b.lo 0 == cmpI b.hi 0, true), (cmpI b.lo 0 != 0, true), (decide (q < 0) == decide (q < 0), true), (szB q, true), (okZ (zm (a.lo * q)) (zm (b.lo)) && okZ (zm (a.lo * q)) (zm (b.hi)) && okZ (zm (a.hi * q)) (zm (b.lo)) && okZ (zm (a.hi * q)) (zm (b.hi)), true), (decide (d ≥ 1), false), (false, false), ((mulB a b q).lo == (rM a b q).lo && ((mulB a b q).hi == (rM a b q).hi && ((mulB a b q).u == (rM a b q).u && true)), true), ((divB a b q).lo == (rD a b q).lo && ((divB a b q).hi == (rD a b q).hi && ((divB a b q).u == (rD a b q).u && true)), true), (i64B n, true), (i64B d, true)] [0, 0, 0, 1, 2, 3, 4, 4, 4, 5, 6, 7, 8, 9, 9, 9, 9, 9, 10, 11, 12, 13, 14, 11, 15, 13, 16, 17, 12, 18, 14, 17, 15, 18, 16, 19, 12, 15, 20, 20, 12, 20, 20, 21, 11, 22, 13, 23, 11, 22, 13, 23, 17, 22, 18, 23, 17, 22, 18, 23, 24, 9, 9, 9, 25, 25, 25, 26, 26, 26, 26, 9, 9, 9, 9, 8, 9, 9, 9, 27, 27, 27, 27, 8, 27, 27, 27, 28, 28, 28, 28, 29, 30, 28, 28, 28])) := by kernel_rfl
set_option maxRecDepth 100000 in
theorem bpr_00110111 (a : Bd) (b : Bd) (q : Int) (n : Int) (d : Int) : evR (ctxLp Try.prog numI eqBP libBP fnsBP []) Try.f4 [(bA a), (bA b), (.w (.one (.int .i64 q))), (.w (.one (.int .i64 n))), (.w (.one (.int .i64 d)))] [false, false, true, true, false, true, true, true] = some (AV.w (AW.one (AC.bool ((scaB a n d).lo == 0 && ((scaB a n d).hi == 0 && ((scaB a n d).u == true && true))))), (pickL [(chkB a != 0, false), (a.u, false), (i64B a.lo, true), (i64B a.hi, true), (chkB b != 0, true), (true, true), (i64B q, true), (false, false), (decide (d ≥ 1), true), (decide (n ≥ -1152921504606846976), false), ((mulB a b q).lo == 0 && ((mulB a b q).hi == 0 && ((mulB a b q).u == true && true)), true), ((divB a b q).lo == 0 && ((divB a b q).hi == 0 && ((divB a b q).u == true && true)), true), (i64B n, true), (i64B d, true)] [0, 0, 0, 1, 2, 3, 4, 4, 4, 5, 6, 5, 5, 7, 7, 7, 7, 5, 5, 5, 8, 8, 8, 9, 9, 9, 7, 5, 5, 5, 5, 6, 5, 5, 5, 10, 10, 10, 10, 6, 10, 10, 10, 11, 11, 11, 11, 12, 13, 11, 11, 11])) := by kernel_rfl
set_option maxRecDepth 100000 in
theorem bpr_000110111 (a : Bd) (b : Bd) (q : Int) (n : Int) (d : Int) : evR (ctxLp Try.prog numI eqBP libBP fnsBP []) Try.f4 [(bA a), (bA b), (.w (.one (.int .i64 q))), (.w (.one (.int .i64 n))), (.w (.one (.int .i64 d)))] [false, false, false, true, true, false, true, true, true] = some (AV.w (AW.one (AC.bool ((scaB a n d).lo == 0 && ((scaB a n d).hi == 0 && ((scaB a n d).u == true && true))))), (pickL [(chkB a != 0, false), (a.u, false), (i64B a.lo, true), (i64B a.hi, true), (chkB b != 0, false), (b.u, true), (i64B q, true), (true, true), (false, false), (decide (d ≥ 1), true), (decide (n ≥ -1152921504606846976), false), ((mulB a b q).lo == 0 && ((mulB a b q).hi == 0 && ((mulB a b q).u == true && true)), true), ((divB a b q).lo == 0 && ((divB a b q).hi == 0 && ((divB a b q).u == true && true)), true), (i64B n, true), (i64B d, true)] [0, 0, 0, 1, 2, 3, 4, 4, 4, 5, 6, 7, 7, 8, 8, 8, 8, 7, 7, 7, 9, 9, 9, 10, 10, 10, 8, 7, 7, 7, 7, 6, 7, 7, 7, 11, 11, 11, 11, 6, 11, 11, 11, 12, 12, 12, 12, 13, 14, 12, 12, 12])) := by kernel_rfl
set_option maxRecDepth 100000 in
theorem bpr_0000010111 (a : Bd) (b : Bd) (q : Int) (n : Int) (d : Int) : evR (ctxLp Try.prog numI eqBP libBP fnsBP []) Try.f4 [(bA a), (bA b), (.w (.one (.int .i64 q))), (.w (.one (.int .i64 n))), (.w (.one (.int .i64 d)))] [false, false, false, false, false, true, false, true, true, true] = some (AV.w (AW.one (AC.bool ((scaB a n d).lo == 0 && ((scaB a n d).hi == 0 && ((scaB a n d).u == true && true))))), (pickL [(chkB a != 0, false), (a.u, false), (i64B a.lo, true), (i64B a.hi, true), (chkB b != 0, false), (b.u, false), (i64B b.lo, true), (i64B b.hi, true), (i64B q, true), (true, true), (decide (q ≥ 1), false), (decide (d ≥ 1), true), (decide (n ≥ -1152921504606846976), false), (false, false), ((mulB a b q).lo == 0 && ((mulB a b q).hi == 0 && ((mulB a b q).u == true && true)), true), ((divB a b q).lo == 0 && ((divB a b q).hi == 0 && ((divB a b q).u == true && true)), true), (i64B n, true), (i64B d, true)] [0, 0, 0, 1, 2, 3, 4, 4, 4, 5, 6, 7, 8, 9, 9, 9, 9, 9, 10, 9, 9, 9, 11, 11, 11, 12, 12, 12, 13, 9, 9, 9, 9, 8, 9, 9, 9, 14, 14, 14, 14, 8, 14, 14, 14, 15, 15, 15, 15, 16, 17, 15, 15, 15])) := by kernel_rfl
set_option maxRecDepth 100000 in
theorem bpr_00001010111 (a : Bd) (b : Bd) (q : Int) (n : Int) (d : Int) : evR (ctxLp Try.prog numI eqBP libBP fnsBP []) Try.f4 [(bA a), (bA b), (.w (.one (.int .i64 q))), (.w (.one (.int .i64 n))), (.w (.one (.int .i64 d)))] [false, false, false, false, true, false, true, false, true, true, true] = some (AV.w (AW.one (AC.bool ((scaB a n d).lo == 0 && ((scaB a n d).hi == 0 && ((scaB a n d).u == true && true))))), (pickL [(chkB a != 0, false), (a.u, false), (i64B a.lo, true), (i64B a.hi, true), (chkB b != 0, false), (b.u, false), (i64B b.lo, true), (i64B b.hi, true), (i64B q, true), (true, true), (decide (q ≥ 1), true), (decide (a.lo < 0) == decide (a.lo < 0), true), (decide (b.lo < 0) == decide (b.lo < 0), true), (szB a.lo, true), (szB b.lo, true), (decide (b.hi < 0) == decide (b.hi < 0), true), (szB b.hi, true), (decide (a.hi < 0) == decide (a.hi < 0), true), (szB a.hi, true), (okM a b q, true), (cmpI b.lo 0 == cmpI b.hi 0, false), (false, false), (decide (d ≥ 1), true), (decide (n ≥ -1152921504606846976), false), ((mulB a b q).lo == (rM a b q).lo && ((mulB a b q).hi == (rM a b q).hi && ((mulB a b q).u == (rM a b q).u && true)), true), ((divB a b q).lo == 0 && ((divB a b q).hi == 0 && ((divB a b q).u == true && true)), true), (i64B n, true), (i64B d, true)] [0, 0, 0, 1, 2, 3, 4, 4, 4, 5, 6, 7, 8, 9, 9, 9, 9, 9, 10, 11, 12, 13, 14, 11, 15, 13, 16, 17, 12, 18, 14, 17, 15, 18, 16, 19, 12, 15, 20, 20, 20, 20, 21, 9, 9, 9, 22, 22, 22, 23, 23, 23, 21, 9, 9, 9, 9, 8, 9, 9, 9, 24, 24, 24, 24, 8, 24, 24, 24, 25, 25, 25, 25, 26, 27, 25, 25, 25])) := by kernel_rfl
set_option maxRecDepth 100000 in
theorem bpr_000011010111 (a : Bd) (b : Bd) (q : Int) (n : Int) (d : Int) : evR (ctxLp Try.prog numI eqBP libBP fnsBP []) Try.f4 [(bA a), (bA b), (.w (.one (.int .i64 q))), (.w (.one (.int .i64 n))), (.w (.one (.int .i64 d)))] [false, false, false, false, true, true, false, true, false, true, true, true] = some (AV.w (AW.one (AC.bool ((scaB a n d).lo == 0 && ((scaB a n d).hi == 0 && ((scaB a n d).u == true && true))))), (pickL [(chkB a != 0, false), (a.u, false), (i64B a.lo, true), (i64B a.hi, true), (chkB b != 0, false), (b.u, false), (i64B b.lo, true), (i64B b.hi, true), (i64B q, true), (true, true), (decide (q ≥ 1), true), (decide (a.lo < 0) == decide (a.lo < 0), true), (decide (b.lo < 0) == decide (b.lo < 0), true), (szB a.lo, true), (szB b.lo, true), (decide (b.hi < 0) == decide (b.hi < 0), true), (szB b.hi, true), (decide (a.hi < 0) == decide (a.hi < 0), true), (szB a.hi, true), (okM a b q, true), (cmpI b.lo 0 == cmpI b.hi 0, true), (cmpI b.lo 0 != 0, false), (decide (d ≥ 1), true), (decide (n ≥ -1152921504606846976), false), (false, false), ((mulB a b q).lo == (rM a b q).lo && ((mulB a b q).hi == (rM a b q).hi && ((mulB a b q).u == (rM a b q).u && true)), true), ((divB a b q).lo == 0 && ((divB a b q).hi == 0 && ((divB a b q).u == true && true)), true), (i64B n, true), (i64B d, true)] [0, 0, 0, 1, 2, 3, 4, 4, 4, 5, 6, 7, 8, 9, 9, 9, 9, 9, 10, 11, 12, 13, 14, 11, 15, 13, 16, 17, 12, 18, 14, 17, 15, 18, 16, 19, 12, 15, 20, 20, 12, 20, 20, 21, 9, 9, 9, 22, 22, 22, 23, 23, 23, 24, 9, 9, 9, 9, 8, 9, 9, 9, 25, 25, 25, 25, 8, 25, 25, 25, 26, 26, 26, 26, 27, 28, 26, 26, 26])) := by kernel_rfl
set_option maxRecDepth 100000 in
theorem bpr_000011110111 (a : Bd) (b : Bd) (q : Int) (n : Int) (d : Int) : evR (ctxLp Try.prog numI eqBP libBP fnsBP []) Try.f4 [(bA a), (bA b), (.w (.one (.int .i64 q))), (.w (.one (.int .i64 n))), (.w (.one (.int .i64 d)))] [false, false, false, false, true, true, true, true, false, true, true, true] = some (AV.w (AW.one (AC.bool ((scaB a n d).lo == 0 && ((scaB a n d).hi == 0 && ((scaB a n d).u == true && true))))), (pickL [(chkB a != 0, false), (a.u, false), (i64B a.lo, true), (i64B a.hi, true), (chkB b != 0, false), (b.u, false), (i64B b.lo, true), (i64B b.hi, true), (i64B q, true), (true, true), (decide (q ≥ 1), true), (decide (a.lo < 0) == decide (a.lo < 0), true), (decide (b.lo < 0) == decide (b.lo < 0), true), (szB a.lo, true), (szB b.lo, true), (decide (b.hi < 0) == decide (b.hi < 0), true), (szB b.hi, true), (decide (a.hi < 0) == decide (a.hi < 0), true), (szB a.hi, true), (okM a b q, true), (cmpI b.lo 0 == cmpI b.hi 0, true), (cmpI b.lo 0 != 0, true), (decide (q < 0) == decide (q < 0), true), (szB q, true), (okZ (zm (a.lo * q)) (zm (b.lo)) && okZ (zm (a.lo * q)) (zm (b.hi)) && okZ (zm (a.hi * q)) (zm (b.lo)) && okZ (zm (a.hi * q)) (zm (b.hi)), true), (decide (d ≥ 1), true), (decide (n ≥ -1152921504606846976), false), (false, false), ((mulB a b q).lo == (rM a b q).lo && ((mulB a b q).hi == (rM a b q).hi && ((mulB a b q).u == (rM a b q).u && true)), true), ((divB a b q).lo == (rD a b q).lo && ((divB a b q).hi == (rD a b q).hi && ((divB a b q).u == (rD a b q).u && true)), true), (i64B n, true), (i64B d, true)] [0, 0, 0, 1, 2, 3, 4, 4, 4, 5, 6, 7, 8, 9, 9, 9, 9, 9, 10, 11, 12, 13, 14, 11, 15, 13, 16, 17, 12, 18, 14, 17, 15, 18, 16, 19, 12, 15, 20, 20, 12, 20, 20, 21, 11, 22, 13, 23, 11, 22, 13, 23, 17, 22, 18, 23, 17, 22, 18, 23, 24, 9, 9, 9, 25, 25, 25, 26, 26, 26, 27, 9, 9, 9, 9, 8, 9, 9, 9, 28, 28, 28, 28, 8, 28, 28, 28, 29, 29, 29, 29, 30, 31, 29, 29, 29])) := by kernel_rfl
set_option maxRecDepth 100000 in
theorem bpr_001110111 (a : Bd) (b : Bd) (q : Int) (n : Int) (d : Int) : evR (ctxLp Try.prog numI eqBP libBP fnsBP []) Try.f4 [(bA a), (bA b), (.w (.one (.int .i64 q))), (.w (.one (.int .i64 n))), (.w (.one (.int .i64 d)))] [false, false, true, true, true, false, true, true, true] = some (AV.w (AW.one (AC.bool ((scaB a n d).lo == 0 && ((scaB a n d).hi == 0 && ((scaB a n d).u == true && true))))), (pickL [(chkB a != 0, false), (a.u, false), (i64B a.lo, true), (i64B a.hi, true), (chkB b != 0, true), (true, true), (i64B q, true), (false, false), (decide (d ≥ 1), true), (decide (n ≥ -1152921504606846976), true), (decide (n ≤ 1152921504606846976), false), ((mulB a b q).lo == 0 && ((mulB a b q).hi == 0 && ((mulB a b q).u == true && true)), true), ((divB a b q).lo == 0 && ((divB a b q).hi == 0 && ((divB a b q).u == true && true)), true), (i64B n, true), (i64B d, true)] [0, 0, 0, 1, 2, 3, 4, 4, 4, 5, 6, 5, 5, 7, 7, 7, 7, 5, 5, 5, 8, 8, 8, 9, 9, 9, 10, 5, 5, 5, 5, 6, 5, 5, 5, 11, 11, 11, 11, 6, 11, 11, 11, 12, 12, 12, 12, 13, 14, 12, 12, 12])) := by kernel_rfl
set_option maxRecDepth 100000 in
theorem bpr_0001110111 (a : Bd) (b : Bd) (q : Int) (n : Int) (d : Int) : evR (ctxLp Try.prog numI eqBP libBP fnsBP []) Try.f4 [(bA a), (bA b), (.w (.one (.int .i64 q))), (.w (.one (.int .i64 n))), (.w (.one (.int .i64 d)))] [false, false, false, true, true, true, false, true, true, true] = some (AV.w (AW.one (AC.bool ((scaB a n d).lo == 0 && ((scaB a n d).hi == 0 && ((scaB a n d).u == true && true))))), (pickL [(chkB a != 0, false), (a.u, false), (i64B a.lo, true), (i64B a.hi, true), (chkB b != 0, false), (b.u, true), (i64B q, true), (true, true), (false, false), (decide (d ≥ 1), true), (decide (n ≥ -1152921504606846976), true), (decide (n ≤ 1152921504606846976), false), ((mulB a b q).lo == 0 && ((mulB a b q).hi == 0 && ((mulB a b q).u == true && true)), true), ((divB a b q).lo == 0 && ((divB a b q).hi == 0 && ((divB a b q).u == true && true)), true), (i64B n, true), (i64B d, true)] [0, 0, 0, 1, 2, 3, 4, 4, 4, 5, 6, 7, 7, 8, 8, 8, 8, 7, 7, 7, 9, 9, 9, 10, 10, 10, 11, 7, 7, 7, 7, 6, 7, 7, 7, 12, 12, 12, 12, 6, 12, 12, 12, 13, 13, 13, 13, 14, 15, 13, 13, 13])) := by kernel_rfl
set_option maxRecDepth 100000 in
theorem bpr_00000110111 (a : Bd) (b : Bd) (q : Int) (n : Int) (d : Int) : evR (ctxLp Try.prog numI eqBP libBP fnsBP []) Try.f4 [(bA a), (bA b), (.w (.one (.int .i64 q))), (.w (.one (.int .i64 n))), (.w (.one (.int .i64 d)))] [false, false, false, false, false, true, true, false, true, true, true] = some (AV.w (AW.one (AC.bool ((scaB a n d).lo == 0 && ((scaB a n d).hi == 0 && ((scaB a n d).u == true && true))))), (pickL [(chkB a != 0, false), (a.u, false), (i64B a.lo, true), (i64B a.hi, true), (chkB b != 0, false), (b.u, false), (i64B b.lo, true), (i64B b.hi, true), (i64B q, true), (true, true), (decide (q ≥ 1), false), (decide (d ≥ 1), true), (decide (n ≥ -1152921504606846976), true), (decide (n ≤ 1152921504606846976), false), ((mulB a b q).lo == 0 && ((mulB a b q).hi == 0 && ((mulB a b q).u == true && true)), true), ((divB a b q).lo == 0 && ((divB a b q).hi == 0 && ((divB a b q).u == true && true)), true), (i64B n, true), (i64B d, true)] [0, 0, 0, 1, 2, 3, 4, 4, 4, 5, 6, 7, 8, 9, 9, 9, 9, 9, 10, 9, 9, 9, 11, 11, 11, 12, 12, 12, 13, 9, 9, 9, 9, 8, 9, 9, 9, 14, 14, 14, 14, 8, 14, 14, 14, 15, 15, 15, 15, 16, 17, 15, 15, 15])) := by kernel_rfl
set_option maxRecDepth 100000 in
theorem bpr_000010110111 (a : Bd) (b : Bd) (q : Int) (n : Int) (d : Int) : evR (ctxLp Try.prog numI eqBP libBP fnsBP []) Try.f4 [(bA a), (bA b), (.w (.one (.int .i64 q))), (.w (.one (.int .i64 n))), (.w (.one (.int .i64 d)))] [false, false, false, false, true, false, true, true, false, true, true, true] = some (AV.w (AW.one (AC.bool ((scaB a n d).lo == 0 && ((scaB a n d).hi == 0 && ((scaB a n d).u == true && true))))), (pickL [(chkB a != 0, false), (a.u, false), (i64B a.lo, true), (i64B a.hi, true), (chkB b != 0, false), (b.u, false), (i64B b.lo, true), (i64B b.hi, true), (i64B q, true), (true, true), (decide (q ≥ 1), true), (decide (a.lo < 0) == decide (a.lo < 0), true), (decide (b.lo < 0) == decide (b.lo < 0), true), (szB a.lo, true), (szB b.lo, true), (decide (b.hi < 0) == decide (b.hi < 0), true), (szB b.hi, true), (decide (a.hi < 0) == decide (a.hi < 0), true), (szB a.hi, true), (okM a b q, true), (cmpI b.lo 0 == cmpI b.hi 0, false), (false, false), (decide (d ≥ 1), true), (decide (n ≥ -1152921504606846976), true), (decide (n ≤ 1152921504606846976), false), ((mulB a b q).lo == (rM a b q).lo && ((mulB a b q).hi == (rM a b q).hi && ((mulB a b q).u == (rM a b q).u && true)), true), ((divB a b q).lo == 0 && ((divB a b q).hi == 0 && ((divB a b q).u == true && true)), true), (i64B n, true), (i64B d, true)] [0, 0, 0, 1, 2, 3, 4, 4, 4, 5, 6, 7, 8, 9, 9, 9, 9, 9, 10, 11, 12, 13, 14, 11, 15, 13, 16, 17, 12, 18, 14, 17, 15, 18, 16, 19, 12, 15, 20, 20, 20, 20, 21, 9, 9, 9, 22, 22, 22, 23, 23, 23, 24, 9, 9, 9, 9, 8, 9, 9, 9, 25, 25, 25, 25, 8, 25, 25, 25, 26, 26, 26, 26, 27, 28, 26, 26, 26])) := by kernel_rfl
set_option maxRecDepth 100000 in
theorem bpr_0000110110111 (a : Bd) (b : Bd) (q : Int) (n : Int) (d : Int) : evR (ctxLp Try.prog numI eqBP libBP fnsBP []) Try.f4 [(bA a), (bA b), (.w (.one (.int .i64 q))), (.w (.one (.int .i64 n))), (.w (.one (.int .i64 d)))] [false, false, false, false, true, true, false, true, true, false, true, true, true] = some (AV.w (AW.one (AC.bool ((scaB a n d).lo == 0 && ((scaB a n d).hi == 0 && ((scaB a n d).u == true && true))))), (pickL [(chkB a != 0, false), (a.u, false), (i64B a.lo, true), (i64B a.hi, true), (chkB b != 0, false), (b.u, false), (i64B b.lo, true), (i64B b.hi, true), (i64B q, true), (true, true), (decide (q ≥ 1), true), (decide (a.lo < 0) == decide (a.lo < 0), true), (decide (b.lo < 0) == decide (b.lo < 0), true), (szB a.lo, true), (szB b.lo, true), (decide (b.hi < 0) == decide (b.hi < 0), true), (szB b.hi, true), (decide (a.hi < 0) == decide (a.hi < 0), true), (szB a.hi, true), (okM a b q, true), (cmpI b.lo 0 == cmpI b.hi 0, true), (cmpI b.lo 0 != 0, false), (decide (d ≥ 1), true), (decide (n ≥ -1152921504606846976), true), (decide (n ≤ 1152921504606846976), false), ((mulB a b q).lo == (rM a b q).lo && ((mulB a b q).hi == (rM a b q).hi && ((mulB a b q).u == (rM a b q).u && true)), true), ((divB a b q).lo == 0 && ((divB a b q).hi == 0 && ((divB a b q).u == true && true)), true), (i64B n, true), (i64B d, true)] [0, 0, 0, 1, 2, 3, 4, 4, 4, 5, 6, 7, 8, 9, 9, 9, 9, 9, 10, 11, 12, 13, 14, 11, 15, 13, 16, 17, 12, 18, 14, 17, 15, 18, 16, 19, 12, 15, 20, 20, 12, 20, 20, 21, 9, 9, 9, 22, 22, 22, 23, 23, 23, 24, 9, 9, 9, 9, 8, 9, 9, 9, 25, 25, 25, 25, 8, 25, 25, 25, 26, 26, 26, 26, 27, 28, 26, 26, 26])) := by kernel_rfl
set_option maxRecDepth 100000 in
theorem bpr_0000111110111 (a : Bd) (b : Bd) (q : Int) (n : Int) (d : Int) : evR (ctxLp Try.prog numI eqBP libBP fnsBP []) Try.f4 [(bA a), (bA b), (.w (.one (.int .i64 q))), (.w (.one (.int .i64 n))), (.w (.one (.int .i64 d)))] [false, false, false, false, true, true, true, true, true, false, true, true, true] = some (AV.w (AW.one (AC.bool ((scaB a n d).lo == 0 && ((scaB a n d).hi == 0 && ((scaB a n d).u == true && true))))), (pickL [(chkB a != 0, false), (a.u, false), (i64B a.lo, true), (i64B a.hi, true), (chkB b != 0, false), (b.u, false), (i64B b.lo, true), (i64B b.hi, true), (i64B q, true), (true, true), (decide (q ≥ 1), true), (decide (a.lo < 0) == decide (a.lo < 0), true), (decide (b.lo < 0) == decide (b.lo < 0), true), (szB a.lo, true), (szB b.lo, true), (decide (b.hi < 0) == decide (b.hi < 0), true), (szB b.hi, true), (decide (a.hi < 0) == decide (a.hi < 0), true), (szB a.hi, true), (okM a b q, true), (cmpI b.lo 0 == cmpI b.hi 0, true), (cmpI b.lo 0 != 0, true), (decide (q < 0) == decide (q < 0), true), (szB q, true), (okZ (zm (a.lo * q)) (zm (b.lo)) && okZ (zm (a.lo * q)) (zm (b.hi)) && okZ (zm (a.hi * q)) (zm (b.lo)) && okZ (zm (a.hi * q)) (zm (b.hi)), true), (decide (d ≥ 1), true), (decide (n ≥ -1152921504606846976), true), (decide (n ≤ 1152921504606846976), false), ((mulB a b q).lo == (rM a b q).lo && ((mulB a b q).hi == (rM a b q).hi && ((mulB a b q).u == (rM a b q).u && true)), true), ((divB a b q).lo == (rD a b q).lo && ((divB a b q).hi == (rD a b q).hi && ((divB a b q).u == (rD a b q).u && true)), true), (i64B n, true), (i64B d, true)] [0, 0, 0, 1, 2, 3, 4, 4, 4, 5, 6, 7, 8, 9, 9, 9, 9, 9, 10, 11, 12, 13, 14, 11, 15, 13, 16, 17, 12, 18, 14, 17, 15, 18, 16, 19, 12, 15, 20, 20, 12, 20, 20, 21, 11, 22, 13, 23, 11, 22, 13, 23, 17, 22, 18, 23, 17, 22, 18, 23, 24, 9, 9, 9, 25, 25, 25, 26, 26, 26, 27, 9, 9, 9, 9, 8, 9, 9, 9, 28, 28, 28, 28, 8, 28, 28, 28, 29, 29, 29, 29, 30, 31, 29, 29, 29])) := by kernel_rfl
set_option maxRecDepth 100000 in
theorem bpr_001111111 (a : Bd) (b : Bd) (q : Int) (n : Int) (d : Int) : evR (ctxLp Try.prog numI eqBP libBP fnsBP []) Try.f4 [(bA a), (bA b), (.w (.one (.int .i64 q))), (.w (.one (.int .i64 n))), (.w (.one (.int .i64 d)))] [false, false, true, true, true, true, true, true, true] = some (AV.w (AW.one (AC.bool ((scaB a n d).lo == (rS a n d).lo && ((scaB a n d).hi == (rS a n d).hi && ((scaB a n d).u == (rS a n d).u && true))))), (pickL [(chkB a != 0, false), (a.u, false), (i64B a.lo, true), (i64B a.hi, true), (chkB b != 0, true), (true, true), (i64B q, true), (false, false), (decide (d ≥ 1), true), (decide (n ≥ -1152921504606846976), true), (decide (n ≤ 1152921504606846976), true), (i64B n, true), (decide (a.lo < 0) == decide (a.lo < 0), true), (decide (n < 0) == decide (n < 0), true), (szB a.lo, true), (szB n, true), (decide (a.hi < 0) == decide (a.hi < 0), true), (szB a.hi, true), (i64B d, true), (okZ (zm (a.lo * n)) (zm (d)) && okZ (zm (a.hi * n)) (zm (d)), true), ((mulB a b q).lo == 0 && ((mulB a b q).hi == 0 && ((mulB a b q).u == true && true)), true), ((divB a b q).lo == 0 && ((divB a b q).hi == 0 && ((divB a b q).u == true && true)), true)] [0, 0, 0, 1, 2, 3, 4, 4, 4, 5, 6, 5, 5, 7, 7, 7, 7, 5, 5, 5, 8, 8, 8, 9, 9, 9, 10, 11, 12, 13, 14, 15, 11, 16, 13, 17, 15, 18, 18, 19, 5, 5, 5, 5, 6, 5, 5, 5, 20, 20, 20, 20, 6, 20, 20, 20, 21, 21, 21, 21, 11, 18, 21, 21, 21])) := by kernel_rfl
set_option maxRecDepth 100000 in
theorem bpr_0001111111 (a : Bd) (b : Bd) (q : Int) (n : Int) (d : Int) : evR (ctxLp Try.prog numI eqBP libBP fnsBP []) Try.f4 [(bA a), (bA b), (.w (.one (.int .i64 q))), (.w (.one (.int .i64 n))), (.w (.one (.int .i64 d)))] [false, false, false, true, true, true, true, true, true, true] = some (AV.w (AW.one (AC.bool ((scaB a n d).lo == (rS a n d).lo && ((scaB a n d).hi == (rS a n d).hi && ((scaB a n d).u == (rS a n d).u && true))))), (pickL [(chkB a != 0, false), (a.u, false), (i64B a.lo, true), (i64B a.hi, true), (chkB b != 0, false), (b.u, true), (i64B q, true), (true, true), (false, false), (decide (d ≥ 1), true), (decide (n ≥ -1152921504606846976), true), (decide (n ≤ 1152921504606846976), true), (i64B n, true), (decide (a.lo < 0) == decide (a.lo < 0), true), (decide (n < 0) == decide (n < 0), true), (szB a.lo, true), (szB n, true), (decide (a.hi < 0) == decide (a.hi < 0), true), (szB a.hi, true), (i64B d, true), (okZ (zm (a.lo * n)) (zm (d)) && okZ (zm (a.hi * n)) (zm (d)), true), ((mulB a b q).lo == 0 && ((mulB a b q).hi == 0 && ((mulB a b q).u == true && true)), true), ((divB a b q).lo == 0 && ((divB a b q).hi == 0 && ((divB a b q).u == true && true)), true)] [0, 0, 0, 1, 2, 3, 4, 4, 4, 5, 6, 7, 7, 8, 8, 8, 8, 7, 7, 7, 9, 9, 9, 10, 10, 10, 11, 12, 13, 14, 15, 16, 12, 17, 14, 18, 16, 19, 19, 20, 7, 7, 7, 7, 6, 7, 7, 7, 21, 21, 21, 21, 6, 21, 21, 21, 22, 22, 22, 22, 12, 19, 22, 22, 22])) := by kernel_rfl
set_option maxRecDepth 100000 in
theorem bpr_00000111111 (a : Bd) (b : Bd) (q : Int) (n : Int) (d : Int) : evR (ctxLp Try.prog numI eqBP libBP fnsBP []) Try.f4 [(bA a), (bA b), (.w (.one (.int .i64 q))), (.w (.one (.int .i64 n))), (.w (.one (.int .i64 d)))] [false, false, false, false, false, true, true, true, true, true, true] = some (AV.w (AW.one (AC.bool ((scaB a n d).lo == (rS a n d).lo && ((scaB a n d).hi == (rS a n d).hi && ((scaB a n d).u == (rS a n d).u && true))))), (pickL [(chkB a != 0, false), (a.u, false), (i64B a.lo, true), (i64B a.hi, true), (chkB b != 0, false), (b.u, false), (i64B b.lo, true), (i64B b.hi, true), (i64B q, true), (true, true), (decide (q ≥ 1), false), (decide (d ≥ 1), true), (decide (n ≥ -1152921504606846976), true), (decide (n ≤ 1152921504606846976), true), (i64B n, true), (decide (a.lo < 0) == decide (a.lo < 0), true), (decide (n < 0) == decide (n < 0), true), (szB a.lo, true), (szB n, true), (decide (a.hi < 0) == decide (a.hi < 0), true), (szB a.hi, true), (i64B d, true), (okZ (zm (a.lo * n)) (zm (d)) && okZ (zm (a.hi * n)) (zm (d)), true), ((mulB a b q).lo == 0 && ((mulB a b q).hi == 0 && ((mulB a b q).u == true && true)), true), ((divB a b q).lo == 0 && ((divB a b q).hi == 0 && ((divB a b q).u == true && true)), true)] [0, 0, 0, 1, 2, 3, 4, 4, 4, 5, 6, 7, 8, 9, 9, 9, 9, 9, 10, 9, 9, 9, 11, 11, 11, 12, 12, 12, 13, 14, 15, 16, 17, 18, 14, 19, 16, 20, 18, 21, 21, 22, 9, 9, 9, 9, 8, 9, 9, 9, 23, 23, 23, 23, 8, 23, 23, 23, 24, 24, 24, 24, 14, 21, 24, 24, 24])) := by kernel_rfl
set_option maxRecDepth 100000 in
theorem bpr_000010111111 (a : Bd) (b : Bd) (q : Int) (n : Int) (d : Int) : evR (ctxLp Try.prog numI eqBP libBP fnsBP []) Try.f4 [(bA a), (bA b), (.w (.one (.int .i64 q))), (.w (.one (.int .i64 n))), (.w (.one (.int .i64 d)))] [false, false, false, false, true, false, true, true, true, true, true, true] = some (AV.w (AW.one (AC.bool ((scaB a n d).lo == (rS a n d).lo && ((scaB a n d).hi == (rS a n d).hi && ((scaB a n d).u == (rS a n d).u && true))))), (pickL [(chkB a != 0, false), (a.u, false), (i64B a.lo, true), (i64B a.hi, true), (chkB b != 0, false), (b.u, false), (i64B b.lo, true), (i64B b.hi, true), (i64B q, true), (true, true), (decide (q ≥ 1), true), (decide (a.lo < 0) == decide (a.lo < 0), true), (decide (b.lo < 0) == decide (b.lo < 0), true), (szB a.lo, true), (szB b.lo, true), (decide (b.hi < 0) == decide (b.hi < 0), true), (szB b.hi, true), (decide (a.hi < 0) == decide (a.hi < 0), true), (szB a.hi, true), (okM a b q, true), (cmpI b.lo 0 == cmpI b.hi 0, false), (false, false), (decide (d ≥ 1), true), (decide (n ≥ -1152921504606846976), true), (decide (n ≤ 1152921504606846976), true), (i64B n, true), (decide (n < 0) == decide (n < 0), true), (szB n, true), (i64B d, true), (okZ (zm (a.lo * n)) (zm (d)) && okZ (zm (a.hi * n)) (zm (d)), true), ((mulB a b q).lo == (rM a b q).lo && ((mulB a b q).hi == (rM a b q).hi && ((mulB a b q).u == (rM a b q).u && true)), true), ((divB a b q).lo == 0 && ((divB a b q).hi == 0 && ((divB a b q).u == true && true)), true)] [0, 0, 0, 1, 2, 3, 4, 4, 4, 5, 6, 7, 8, 9, 9, 9, 9, 9, 10, 11, 12, 13, 14, 11, 15, 13, 16, 17, 12, 18, 14, 17, 15, 18, 16, 19, 12, 15, 20, 20, 20, 20, 21, 9, 9, 9, 22, 22, 22, 23, 23, 23, 24, 25, 11, 26, 13, 27, 25, 17, 26, 18, 27, 28, 28, 29, 9, 9, 9, 9, 8, 9, 9, 9, 30, 30, 30, 30, 8, 30, 30, 30, 31, 31, 31, 31, 25, 28, 31, 31, 31])) := by kernel_rfl
set_option maxRecDepth 100000 in
theorem bpr_0000110111111 (a : Bd) (b : Bd) (q : Int) (n : Int) (d : Int) : evR (ctxLp Try.prog numI eqBP libBP fnsBP []) Try.f4 [(bA a), (bA b), (.w (.one (.int .i64 q))), (.w (.one (.int .i64 n))), (.w (.one (.int .i64 d)))] [false, false, false, false, true, true, false, true, true, true, true, true, true] = some (AV.w (AW.one (AC.bool ((scaB a n d).lo == (rS a n d).lo && ((scaB a n d).hi == (rS a n d).hi && ((scaB a n d).u == (rS a n d).u && true))))), (pickL [(chkB a != 0, false), (a.u, false), (i64B a.lo, true), (i64B a.hi, true), (chkB b != 0, false), (b.u, false), (i64B b.lo, true), (i64B b.hi, true), (i64B q, true), (true, true), (decide (q ≥ 1), true), (decide (a.lo < 0) == decide (a.lo < 0), true), (decide (b.lo < 0) == decide (b.lo < 0), true), (szB a.lo, true), (szB b.lo, true), (decide (b.hi < 0) == decide (b.hi < 0), true), (szB b.hi, true), (decide (a.hi < 0) == decide (a.hi < 0), true), (szB a.hi, true), (okM a b q, true), (cmpI b.lo 0 == cmpI b.hi 0, true), (cmpI b.lo 0 != 0, false), (decide (d ≥ 1), true), (decide (n ≥ -1152921504606846976), true), (decide (n ≤ 1152921504606846976), true), (i64B n, true), (decide (n < 0) == decide (n < 0), true), (szB n, true), (i64B d, true), (okZ (zm (a.lo * n)) (zm (d)) && okZ (zm (a.hi * n)) (zm (d)), true), ((mulB a b q).lo == (rM a b q).lo && ((mulB a b q).hi == (rM a b q).hi && ((mulB a b q).u == (rM a b q).u && true)), true), ((divB a b q).lo == 0 && ((divB a b q).hi == 0 && ((divB a b q).u == true && true)), true)] [0, 0, 0, 1, 2, 3, 4, 4, 4, 5, 6, 7, 8, 9, 9, 9, 9, 9, 10, 11, 12, 13, 14, 11, 15, 13, 16, 17, 12, 18, 14, 17, 15, 18, 16, 19, 12, 15, 20, 20, 12, 20, 20, 21, 9, 9, 9, 22, 22, 22, 23, 23, 23, 24, 25, 11, 26, 13, 27, 25, 17, 26, 18, 27, 28, 28, 29, 9, 9, 9, 9, 8, 9, 9, 9, 30, 30, 30, 30, 8, 30, 30, 30, 31, 31, 31, 31, 25, 28, 31, 31, 31])) := by kernel_rfl
set_option maxRecDepth 100000 in
theorem bpr_0000111111111 (a : Bd) (b : Bd) (q : Int) (n : Int) (d : Int) : evR (ctxLp Try.prog numI eqBP libBP fnsBP []) Try.f4 [(bA a), (bA b), (.w (.one (.int .i64 q))), (.w (.one (.int .i64 n))), (.w (.one (.int .i64 d)))] [false, false, false, false, true, true, true, true, true, true, true, true, true] = some (AV.w (AW.one (AC.bool ((scaB a n d).lo == (rS a n d).lo && ((scaB a n d).hi == (rS a n d).hi && ((scaB a n d).u == (rS a n d).u && true))))), (pickL [(chkB a != 0, false), (a.u, false), (i64B a.lo, true), (i64B a.hi, true), (chkB b != 0, false), (b.u, false), (i64B b.lo, true), (i64B b.hi, true), (i64B q, true), (true, true), (decide (q ≥ 1), true), (decide (a.lo < 0) == decide (a.lo < 0), true), (decide (b.lo < 0) == decide (b.lo < 0), true), (szB a.lo, true), (szB b.lo, true), (decide (b.hi < 0) == decide (b.hi < 0), true), (szB b.hi, true), (decide (a.hi < 0) == decide (a.hi < 0), true), (szB a.hi, true), (okM a b q, true), (cmpI b.lo 0 == cmpI b.hi 0, true), (cmpI b.lo 0 != 0, true), (decide (q < 0) == decide (q < 0), true), (szB q, true), (okZ (zm (a.lo * q)) (zm (b.lo)) && okZ (zm (a.lo * q)) (zm (b.hi)) && okZ (zm (a.hi * q)) (zm (b.lo)) && okZ (zm (a.hi * q)) (zm (b.hi)), true), (decide (d ≥ 1), true), (decide (n ≥ -1152921504606846976), true), (decide (n ≤ 1152921504606846976), true), (i64B n, true), (decide (n < 0) == decide (n < 0), true), (szB n, true), (i64B d, true), (okZ (zm (a.lo * n)) (zm (d)) && okZ (zm (a.hi * n)) (zm (d)), true), ((mulB a b q).lo == (rM a b q).lo && ((mulB a b q).hi == (rM a b q).hi && ((mulB a b q).u == (rM a b q).u && true)), true), ((divB a b q).lo == (rD a b q).lo && ((divB a b q).hi == (rD a b q).hi && ((divB a b q).u == (rD a b q).u && true)), true)] [0, 0, 0, 1, 2, 3, 4, 4, 4, 5, 6, 7, 8, 9, 9, 9, 9, 9, 10, 11, 12, 13, 14, 11, 15, 13, 16, 17, 12, 18, 14, 17, 15, 18, 16, 19, 12, 15, 20, 20, 12, 20, 20, 21, 11, 22, 13, 23, 11, 22, 13, 23, 17, 22, 18, 23, 17, 22, 18, 23, 24, 9, 9, 9, 25, 25, 25, 26, 26, 26, 27, 28, 11, 29, 13, 30, 28, 17, 29, 18, 30, 31, 31, 32, 9, 9, 9, 9, 8, 9, 9, 9, 33, 33, 33, 33, 8, 33, 33, 33, 34, 34, 34, 34, 28, 31, 34, 34, 34])) := by kernel_rfl
theorem mul20 {x y : Int} (hx : i64B x = true) (hy : i64B y = true) : Dl 20 (x * y) := ((Dl.i64 hx).mul (Dl.i64 hy)).le (by omega)
theorem inB_no {n : Int} (h : ¬ (-1152921504606846976 ≤ n ∧ n ≤ 1152921504606846976)) : inB n = false := by
  cases k : inB n with
  | false => rfl
  | true => exact absurd (inB_iff.1 k) h
set_option maxRecDepth 100000 in
theorem bpr_w0 (a : Bd) (b : Bd) (q : Int) (n : Int) (d : Int) (W : World) (hq : i64B q = true) (hn : i64B n = true) (hd : i64B d = true) (k0 : (chkB a != 0) = true) (k1 : (chkB b != 0) = true) : Calls Try.prog 4 #[bV a, bV b, .int .i64 q, .int .i64 n, .int .i64 d] W fun e w' => e = .returned (.bool true) ∧ Below W.heap.size W w' := by
  have L := bpr_11111 a b q n d
  have ka : knB a = false := kn_bad k0
  have kb : knB b = false := kn_bad k1
  have q7 := (Dl.i64 hq).le (show 4 ≤ 20 by omega)
  have n7 := (Dl.i64 hn).le (show 4 ≤ 20 by omega)
  have d7 := (Dl.i64 hd).le (show 4 ≤ 20 by omega)
  have eM := mul_no (a := a) (b := b) (q := q) (.inl ka)
  have eD := div_no (a := a) (b := b) (q := q) (.inl ka)
  have eS := sca_no' (a := a) (n := n) (d := d) (.inl ka)
  have V : ((scaB a n d).lo == 0 && ((scaB a n d).hi == 0 && ((scaB a n d).u == true && true))) = true := by
    rw [eS]; first | rfl | simp
  have p1 : (true) = true := by
    rfl
  have p3 : (i64B q) = true := by
    first | with_reducible assumption | decide
  have p4 : (false) = false := by
    rfl
  have p5 : ((mulB a b q).lo == 0 && ((mulB a b q).hi == 0 && ((mulB a b q).u == true && true))) = true := by
    rw [eM]; first | rfl | simp
  have p6 : ((divB a b q).lo == 0 && ((divB a b q).hi == 0 && ((divB a b q).u == true && true))) = true := by
    rw [eD]; first | rfl | simp
  have p7 : (i64B n) = true := by
    first | with_reducible assumption | decide
  have p8 : (i64B d) = true := by
    first | with_reducible assumption | decide
  exact evR_calls (I := numI) (v := .bool true) (ctxLp_ok libBP_ok eqBP_ok fnsBP_ok (fun _ _ _ => lps_nil)) (by kernel_rfl) Try.func4 rfl lps_nil L rfl (all2_R (.cons rfl (.cons rfl (.cons rfl (.cons rfl (.cons rfl .nil)))))) (congrArg (fun b => some (Value.bool b)) V) _ (Nat.zero_le _) (pickL_ok (cd_cons k0 (cd_cons p1 (cd_cons k1 (cd_cons p3 (cd_cons p4 (cd_cons p5 (cd_cons p6 (cd_cons p7 (cd_cons p8 cd_nil))))))))) _)
set_option maxRecDepth 100000 in
theorem bpr_w1 (a : Bd) (b : Bd) (q : Int) (n : Int) (d : Int) (W : World) (hq : i64B q = true) (hn : i64B n = true) (hd : i64B d = true) (k0 : (chkB a != 0) = true) (k1 : (chkB b != 0) = false) (k2 : (b.u) = true) : Calls Try.prog 4 #[bV a, bV b, .int .i64 q, .int .i64 n, .int .i64 d] W fun e w' => e = .returned (.bool true) ∧ Below W.heap.size W w' := by
  have L := bpr_101111 a b q n d
  have ka : knB a = false := kn_bad k0
  have kb : knB b = false := kn_u k2
  have q7 := (Dl.i64 hq).le (show 4 ≤ 20 by omega)
  have n7 := (Dl.i64 hn).le (show 4 ≤ 20 by omega)
  have d7 := (Dl.i64 hd).le (show 4 ≤ 20 by omega)
  have eM := mul_no (a := a) (b := b) (q := q) (.inl ka)
  have eD := div_no (a := a) (b := b) (q := q) (.inl ka)
  have eS := sca_no' (a := a) (n := n) (d := d) (.inl ka)
  have V : ((scaB a n d).lo == 0 && ((scaB a n d).hi == 0 && ((scaB a n d).u == true && true))) = true := by
    rw [eS]; first | rfl | simp
  have p1 : (true) = true := by
    rfl
  have p4 : (i64B q) = true := by
    first | with_reducible assumption | decide
  have p5 : (false) = false := by
    rfl
  have p6 : ((mulB a b q).lo == 0 && ((mulB a b q).hi == 0 && ((mulB a b q).u == true && true))) = true := by
    rw [eM]; first | rfl | simp
  have p7 : ((divB a b q).lo == 0 && ((divB a b q).hi == 0 && ((divB a b q).u == true && true))) = true := by
    rw [eD]; first | rfl | simp
  have p8 : (i64B n) = true := by
    first | with_reducible assumption | decide
  have p9 : (i64B d) = true := by
    first | with_reducible assumption | decide
  exact evR_calls (I := numI) (v := .bool true) (ctxLp_ok libBP_ok eqBP_ok fnsBP_ok (fun _ _ _ => lps_nil)) (by kernel_rfl) Try.func4 rfl lps_nil L rfl (all2_R (.cons rfl (.cons rfl (.cons rfl (.cons rfl (.cons rfl .nil)))))) (congrArg (fun b => some (Value.bool b)) V) _ (Nat.zero_le _) (pickL_ok (cd_cons k0 (cd_cons p1 (cd_cons k1 (cd_cons k2 (cd_cons p4 (cd_cons p5 (cd_cons p6 (cd_cons p7 (cd_cons p8 (cd_cons p9 cd_nil)))))))))) _)
set_option maxRecDepth 100000 in
theorem bpr_w2 (a : Bd) (b : Bd) (q : Int) (n : Int) (d : Int) (W : World) (hq : i64B q = true) (hn : i64B n = true) (hd : i64B d = true) (k0 : (chkB a != 0) = true) (k1 : (chkB b != 0) = false) (k2 : (b.u) = false) : Calls Try.prog 4 #[bV a, bV b, .int .i64 q, .int .i64 n, .int .i64 d] W fun e w' => e = .returned (.bool true) ∧ Below W.heap.size W w' := by
  have L := bpr_100111 a b q n d
  have ka : knB a = false := kn_bad k0
  have kb : knB b = true := kn_ok k1 k2
  obtain ⟨bu, b1, b2, b3⟩ := knB_iff.1 kb
  obtain ⟨b4, b5⟩ := kn64 kb
  have b6 := (Dl.i64 b4).le (show 4 ≤ 20 by omega)
  have b7 := (Dl.i64 b5).le (show 4 ≤ 20 by omega)
  have q7 := (Dl.i64 hq).le (show 4 ≤ 20 by omega)
  have n7 := (Dl.i64 hn).le (show 4 ≤ 20 by omega)
  have d7 := (Dl.i64 hd).le (show 4 ≤ 20 by omega)
  have eM := mul_no (a := a) (b := b) (q := q) (.inl ka)
  have eD := div_no (a := a) (b := b) (q := q) (.inl ka)
  have eS := sca_no' (a := a) (n := n) (d := d) (.inl ka)
  have V : ((scaB a n d).lo == 0 && ((scaB a n d).hi == 0 && ((scaB a n d).u == true && true))) = true := by
    rw [eS]; first | rfl | simp
  have p1 : (true) = true := by
    rfl
  have p4 : (i64B b.lo) = true := by
    first | with_reducible assumption | decide
  have p5 : (i64B b.hi) = true := by
    first | with_reducible assumption | decide
  have p6 : (i64B q) = true := by
    first | with_reducible assumption | decide
  have p7 : (false) = false := by
    rfl
  have p8 : ((mulB a b q).lo == 0 && ((mulB a b q).hi == 0 && ((mulB a b q).u == true && true))) = true := by
    rw [eM]; first | rfl | simp
  have p9 : ((divB a b q).lo == 0 && ((divB a b q).hi == 0 && ((divB a b q).u == true && true))) = true := by
    rw [eD]; first | rfl | simp
  have p10 : (i64B n) = true := by
    first | with_reducible assumption | decide
  have p11 : (i64B d) = true := by
    first | with_reducible assumption | decide
  exact evR_calls (I := numI) (v := .bool true) (ctxLp_ok libBP_ok eqBP_ok fnsBP_ok (fun _ _ _ => lps_nil)) (by kernel_rfl) Try.func4 rfl lps_nil L rfl (all2_R (.cons rfl (.cons rfl (.cons rfl (.cons rfl (.cons rfl .nil)))))) (congrArg (fun b => some (Value.bool b)) V) _ (Nat.zero_le _) (pickL_ok (cd_cons k0 (cd_cons p1 (cd_cons k1 (cd_cons k2 (cd_cons p4 (cd_cons p5 (cd_cons p6 (cd_cons p7 (cd_cons p8 (cd_cons p9 (cd_cons p10 (cd_cons p11 cd_nil)))))))))))) _)
set_option maxRecDepth 100000 in
theorem bpr_w3 (a : Bd) (b : Bd) (q : Int) (n : Int) (d : Int) (W : World) (hq : i64B q = true) (hn : i64B n = true) (hd : i64B d = true) (k0 : (chkB a != 0) = false) (k3 : (a.u) = true) (k4 : (chkB b != 0) = true) : Calls Try.prog 4 #[bV a, bV b, .int .i64 q, .int .i64 n, .int .i64 d] W fun e w' => e = .returned (.bool true) ∧ Below W.heap.size W w' := by
  have L := bpr_011111 a b q n d
  have ka : knB a = false := kn_u k3
  have kb : knB b = false := kn_bad k4
  have q7 := (Dl.i64 hq).le (show 4 ≤ 20 by omega)
  have n7 := (Dl.i64 hn).le (show 4 ≤ 20 by omega)
  have d7 := (Dl.i64 hd).le (show 4 ≤ 20 by omega)
  have eM := mul_no (a := a) (b := b) (q := q) (.inl ka)
  have eD := div_no (a := a) (b := b) (q := q) (.inl ka)
  have eS := sca_no' (a := a) (n := n) (d := d) (.inl ka)
  have V : ((scaB a n d).lo == 0 && ((scaB a n d).hi == 0 && ((scaB a n d).u == true && true))) = true := by
    rw [eS]; first | rfl | simp
  have p3 : (true) = true := by
    rfl
  have p4 : (i64B q) = true := by
    first | with_reducible assumption | decide
  have p5 : (false) = false := by
    rfl
  have p6 : ((mulB a b q).lo == 0 && ((mulB a b q).hi == 0 && ((mulB a b q).u == true && true))) = true := by
    rw [eM]; first | rfl | simp
  have p7 : ((divB a b q).lo == 0 && ((divB a b q).hi == 0 && ((divB a b q).u == true && true))) = true := by
    rw [eD]; first | rfl | simp
  have p8 : (i64B n) = true := by
    first | with_reducible assumption | decide
  have p9 : (i64B d) = true := by
    first | with_reducible assumption | decide
  exact evR_calls (I := numI) (v := .bool true) (ctxLp_ok libBP_ok eqBP_ok fnsBP_ok (fun _ _ _ => lps_nil)) (by kernel_rfl) Try.func4 rfl lps_nil L rfl (all2_R (.cons rfl (.cons rfl (.cons rfl (.cons rfl (.cons rfl .nil)))))) (congrArg (fun b => some (Value.bool b)) V) _ (Nat.zero_le _) (pickL_ok (cd_cons k0 (cd_cons k3 (cd_cons k4 (cd_cons p3 (cd_cons p4 (cd_cons p5 (cd_cons p6 (cd_cons p7 (cd_cons p8 (cd_cons p9 cd_nil)))))))))) _)
set_option maxRecDepth 100000 in
theorem bpr_w4 (a : Bd) (b : Bd) (q : Int) (n : Int) (d : Int) (W : World) (hq : i64B q = true) (hn : i64B n = true) (hd : i64B d = true) (k0 : (chkB a != 0) = false) (k3 : (a.u) = true) (k4 : (chkB b != 0) = false) (k5 : (b.u) = true) : Calls Try.prog 4 #[bV a, bV b, .int .i64 q, .int .i64 n, .int .i64 d] W fun e w' => e = .returned (.bool true) ∧ Below W.heap.size W w' := by
  have L := bpr_0101111 a b q n d
  have ka : knB a = false := kn_u k3
  have kb : knB b = false := kn_u k5
  have q7 := (Dl.i64 hq).le (show 4 ≤ 20 by omega)
  have n7 := (Dl.i64 hn).le (show 4 ≤ 20 by omega)
  have d7 := (Dl.i64 hd).le (show 4 ≤ 20 by omega)
  have eM := mul_no (a := a) (b := b) (q := q) (.inl ka)
  have eD := div_no (a := a) (b := b) (q := q) (.inl ka)
  have eS := sca_no' (a := a) (n := n) (d := d) (.inl ka)
  have V : ((scaB a n d).lo == 0 && ((scaB a n d).hi == 0 && ((scaB a n d).u == true && true))) = true := by
    rw [eS]; first | rfl | simp
  have p4 : (i64B q) = true := by
    first | with_reducible assumption | decide
  have p5 : (false) = false := by
    rfl
  have p6 : (true) = true := by
    rfl
  have p7 : ((mulB a b q).lo == 0 && ((mulB a b q).hi == 0 && ((mulB a b q).u == true && true))) = true := by
    rw [eM]; first | rfl | simp
  have p8 : ((divB a b q).lo == 0 && ((divB a b q).hi == 0 && ((divB a b q).u == true && true))) = true := by
    rw [eD]; first | rfl | simp
  have p9 : (i64B n) = true := by
    first | with_reducible assumption | decide
  have p10 : (i64B d) = true := by
    first | with_reducible assumption | decide
  exact evR_calls (I := numI) (v := .bool true) (ctxLp_ok libBP_ok eqBP_ok fnsBP_ok (fun _ _ _ => lps_nil)) (by kernel_rfl) Try.func4 rfl lps_nil L rfl (all2_R (.cons rfl (.cons rfl (.cons rfl (.cons rfl (.cons rfl .nil)))))) (congrArg (fun b => some (Value.bool b)) V) _ (Nat.zero_le _) (pickL_ok (cd_cons k0 (cd_cons k3 (cd_cons k4 (cd_cons k5 (cd_cons p4 (cd_cons p5 (cd_cons p6 (cd_cons p7 (cd_cons p8 (cd_cons p9 (cd_cons p10 cd_nil))))))))))) _)
set_option maxRecDepth 100000 in
theorem bpr_w5 (a : Bd) (b : Bd) (q : Int) (n : Int) (d : Int) (W : World) (hq : i64B q = true) (hn : i64B n = true) (hd : i64B d = true) (k0 : (chkB a != 0) = false) (k3 : (a.u) = true) (k4 : (chkB b != 0) = false) (k5 : (b.u) = false) : Calls Try.prog 4 #[bV a, bV b, .int .i64 q, .int .i64 n, .int .i64 d] W fun e w' => e = .returned (.bool true) ∧ Below W.heap.size W w' := by
  have L := bpr_0100111 a b q n d
  have ka : knB a = false := kn_u k3
  have kb : knB b = true := kn_ok k4 k5
  obtain ⟨bu, b1, b2, b3⟩ := knB_iff.1 kb
  obtain ⟨b4, b5⟩ := kn64 kb
  have b6 := (Dl.i64 b4).le (show 4 ≤ 20 by omega)
  have b7 := (Dl.i64 b5).le (show 4 ≤ 20 by omega)
  have q7 := (Dl.i64 hq).le (show 4 ≤ 20 by omega)
  have n7 := (Dl.i64 hn).le (show 4 ≤ 20 by omega)
  have d7 := (Dl.i64 hd).le (show 4 ≤ 20 by omega)
  have eM := mul_no (a := a) (b := b) (q := q) (.inl ka)
  have eD := div_no (a := a) (b := b) (q := q) (.inl ka)
  have eS := sca_no' (a := a) (n := n) (d := d) (.inl ka)
  have V : ((scaB a n d).lo == 0 && ((scaB a n d).hi == 0 && ((scaB a n d).u == true && true))) = true := by
    rw [eS]; first | rfl | simp
  have p4 : (i64B b.lo) = true := by
    first | with_reducible assumption | decide
  have p5 : (i64B b.hi) = true := by
    first | with_reducible assumption | decide
  have p6 : (i64B q) = true := by
    first | with_reducible assumption | decide
  have p7 : (false) = false := by
    rfl
  have p8 : (true) = true := by
    rfl
  have p9 : ((mulB a b q).lo == 0 && ((mulB a b q).hi == 0 && ((mulB a b q).u == true && true))) = true := by
    rw [eM]; first | rfl | simp
  have p10 : ((divB a b q).lo == 0 && ((divB a b q).hi == 0 && ((divB a b q).u == true && true))) = true := by
    rw [eD]; first | rfl | simp
  have p11 : (i64B n) = true := by
    first | with_reducible assumption | decide
  have p12 : (i64B d) = true := by
    first | with_reducible assumption | decide
  exact evR_calls (I := numI) (v := .bool true) (ctxLp_ok libBP_ok eqBP_ok fnsBP_ok (fun _ _ _ => lps_nil)) (by kernel_rfl) Try.func4 rfl lps_nil L rfl (all2_R (.cons rfl (.cons rfl (.cons rfl (.cons rfl (.cons rfl .nil)))))) (congrArg (fun b => some (Value.bool b)) V) _ (Nat.zero_le _) (pickL_ok (cd_cons k0 (cd_cons k3 (cd_cons k4 (cd_cons k5 (cd_cons p4 (cd_cons p5 (cd_cons p6 (cd_cons p7 (cd_cons p8 (cd_cons p9 (cd_cons p10 (cd_cons p11 (cd_cons p12 cd_nil))))))))))))) _)
set_option maxRecDepth 100000 in
theorem bpr_w6 (a : Bd) (b : Bd) (q : Int) (n : Int) (d : Int) (W : World) (hq : i64B q = true) (hn : i64B n = true) (hd : i64B d = true) (k0 : (chkB a != 0) = false) (k3 : (a.u) = false) (k6 : (chkB b != 0) = true) (k7 : (decide (d ≥ 1)) = true) (k8 : (decide (n ≥ -1152921504606846976)) = true) (k9 : (decide (n ≤ 1152921504606846976)) = true) : Calls Try.prog 4 #[bV a, bV b, .int .i64 q, .int .i64 n, .int .i64 d] W fun e w' => e = .returned (.bool true) ∧ Below W.heap.size W w' := by
  have L := bpr_001111111 a b q n d
  have ka : knB a = true := kn_ok k0 k3
  obtain ⟨au, a1, a2, a3⟩ := knB_iff.1 ka
  obtain ⟨a4, a5⟩ := kn64 ka
  have a6 := (Dl.i64 a4).le (show 4 ≤ 20 by omega)
  have a7 := (Dl.i64 a5).le (show 4 ≤ 20 by omega)
  have kb : knB b = false := kn_bad k6
  have q7 := (Dl.i64 hq).le (show 4 ≤ 20 by omega)
  have n7 := (Dl.i64 hn).le (show 4 ≤ 20 by omega)
  have d7 := (Dl.i64 hd).le (show 4 ≤ 20 by omega)
  have eM := mul_no (a := a) (b := b) (q := q) (.inr (.inl kb))
  have eD := div_no (a := a) (b := b) (q := q) (.inr (.inr (has_kn kb)))
  have d1 : 1 ≤ d := by have := of_decide_eq_true k7; omega
  have n1 : inB n = true := inB_iff.2 ⟨by have := of_decide_eq_true k8; omega, of_decide_eq_true k9⟩
  have eS : scaB a n d = rS a n d := sca_ra ka n1 d1
  have oS : (okZ (zm (a.lo * n)) (zm (d)) && okZ (zm (a.hi * n)) (zm (d))) = true := by
    simp only [Bool.and_eq_true]
    exact ⟨zm_ok (by omega) (mul20 a4 hn) d7, zm_ok (by omega) (mul20 a5 hn) d7⟩
  have V : ((scaB a n d).lo == (rS a n d).lo && ((scaB a n d).hi == (rS a n d).hi && ((scaB a n d).u == (rS a n d).u && true))) = true := by
    rw [eS]; first | rfl | simp
  have p2 : (i64B a.lo) = true := by
    first | with_reducible assumption | decide
  have p3 : (i64B a.hi) = true := by
    first | with_reducible assumption | decide
  have p5 : (true) = true := by
    rfl
  have p6 : (i64B q) = true := by
    first | with_reducible assumption | decide
  have p7 : (false) = false := by
    rfl
  have p11 : (i64B n) = true := by
    first | with_reducible assumption | decide
  have p12 : (decide (a.lo < 0) == decide (a.lo < 0)) = true := by
    first | exact eqB _ | exact beq_self_eq_true _
  have p13 : (decide (n < 0) == decide (n < 0)) = true := by
    first | exact eqB _ | exact beq_self_eq_true _
  have p14 : (szB a.lo) = true := by
    exact Dl.sz (k := 20) (by with_reducible assumption) (by omega)
  have p15 : (szB n) = true := by
    exact Dl.sz (k := 20) (by with_reducible assumption) (by omega)
  have p16 : (decide (a.hi < 0) == decide (a.hi < 0)) = true := by
    first | exact eqB _ | exact beq_self_eq_true _
  have p17 : (szB a.hi) = true := by
    exact Dl.sz (k := 20) (by with_reducible assumption) (by omega)
  have p18 : (i64B d) = true := by
    first | with_reducible assumption | decide
  have p19 : (okZ (zm (a.lo * n)) (zm (d)) && okZ (zm (a.hi * n)) (zm (d))) = true := by
    exact oS
  have p20 : ((mulB a b q).lo == 0 && ((mulB a b q).hi == 0 && ((mulB a b q).u == true && true))) = true := by
    rw [eM]; first | rfl | simp
  have p21 : ((divB a b q).lo == 0 && ((divB a b q).hi == 0 && ((divB a b q).u == true && true))) = true := by
    rw [eD]; first | rfl | simp
  exact evR_calls (I := numI) (v := .bool true) (ctxLp_ok libBP_ok eqBP_ok fnsBP_ok (fun _ _ _ => lps_nil)) (by kernel_rfl) Try.func4 rfl lps_nil L rfl (all2_R (.cons rfl (.cons rfl (.cons rfl (.cons rfl (.cons rfl .nil)))))) (congrArg (fun b => some (Value.bool b)) V) _ (Nat.zero_le _) (pickL_ok (cd_cons k0 (cd_cons k3 (cd_cons p2 (cd_cons p3 (cd_cons k6 (cd_cons p5 (cd_cons p6 (cd_cons p7 (cd_cons k7 (cd_cons k8 (cd_cons k9 (cd_cons p11 (cd_cons p12 (cd_cons p13 (cd_cons p14 (cd_cons p15 (cd_cons p16 (cd_cons p17 (cd_cons p18 (cd_cons p19 (cd_cons p20 (cd_cons p21 cd_nil)))))))))))))))))))))) _)
set_option maxRecDepth 100000 in
theorem bpr_w7 (a : Bd) (b : Bd) (q : Int) (n : Int) (d : Int) (W : World) (hq : i64B q = true) (hn : i64B n = true) (hd : i64B d = true) (k0 : (chkB a != 0) = false) (k3 : (a.u) = false) (k6 : (chkB b != 0) = true) (k7 : (decide (d ≥ 1)) = true) (k8 : (decide (n ≥ -1152921504606846976)) = true) (k9 : (decide (n ≤ 1152921504606846976)) = false) : Calls Try.prog 4 #[bV a, bV b, .int .i64 q, .int .i64 n, .int .i64 d] W fun e w' => e = .returned (.bool true) ∧ Below W.heap.size W w' := by
  have L := bpr_001110111 a b q n d
  have ka : knB a = true := kn_ok k0 k3
  obtain ⟨au, a1, a2, a3⟩ := knB_iff.1 ka
  obtain ⟨a4, a5⟩ := kn64 ka
  have a6 := (Dl.i64 a4).le (show 4 ≤ 20 by omega)
  have a7 := (Dl.i64 a5).le (show 4 ≤ 20 by omega)
  have kb : knB b = false := kn_bad k6
  have q7 := (Dl.i64 hq).le (show 4 ≤ 20 by omega)
  have n7 := (Dl.i64 hn).le (show 4 ≤ 20 by omega)
  have d7 := (Dl.i64 hd).le (show 4 ≤ 20 by omega)
  have eM := mul_no (a := a) (b := b) (q := q) (.inr (.inl kb))
  have eD := div_no (a := a) (b := b) (q := q) (.inr (.inr (has_kn kb)))
  have eS := sca_no' (a := a) (n := n) (d := d) (.inr (.inl (inB_no (by have := of_decide_eq_false k9; omega))))
  have V : ((scaB a n d).lo == 0 && ((scaB a n d).hi == 0 && ((scaB a n d).u == true && true))) = true := by
    rw [eS]; first | rfl | simp
  have p2 : (i64B a.lo) = true := by
    first | with_reducible assumption | decide
  have p3 : (i64B a.hi) = true := by
    first | with_reducible assumption | decide
  have p5 : (true) = true := by
    rfl
  have p6 : (i64B q) = true := by
    first | with_reducible assumption | decide
  have p7 : (false) = false := by
    rfl
  have p11 : ((mulB a b q).lo == 0 && ((mulB a b q).hi == 0 && ((mulB a b q).u == true && true))) = true := by
    rw [eM]; first | rfl | simp
  have p12 : ((divB a b q).lo == 0 && ((divB a b q).hi == 0 && ((divB a b q).u == true && true))) = true := by
    rw [eD]; first | rfl | simp
  have p13 : (i64B n) = true := by
    first | with_reducible assumption | decide
  have p14 : (i64B d) = true := by
    first | with_reducible assumption | decide
  exact evR_calls (I := numI) (v := .bool true) (ctxLp_ok libBP_ok eqBP_ok fnsBP_ok (fun _ _ _ => lps_nil)) (by kernel_rfl) Try.func4 rfl lps_nil L rfl (all2_R (.cons rfl (.cons rfl (.cons rfl (.cons rfl (.cons rfl .nil)))))) (congrArg (fun b => some (Value.bool b)) V) _ (Nat.zero_le _) (pickL_ok (cd_cons k0 (cd_cons k3 (cd_cons p2 (cd_cons p3 (cd_cons k6 (cd_cons p5 (cd_cons p6 (cd_cons p7 (cd_cons k7 (cd_cons k8 (cd_cons k9 (cd_cons p11 (cd_cons p12 (cd_cons p13 (cd_cons p14 cd_nil))))))))))))))) _)
set_option maxRecDepth 100000 in
theorem bpr_w8 (a : Bd) (b : Bd) (q : Int) (n : Int) (d : Int) (W : World) (hq : i64B q = true) (hn : i64B n = true) (hd : i64B d = true) (k0 : (chkB a != 0) = false) (k3 : (a.u) = false) (k6 : (chkB b != 0) = true) (k7 : (decide (d ≥ 1)) = true) (k8 : (decide (n ≥ -1152921504606846976)) = false) : Calls Try.prog 4 #[bV a, bV b, .int .i64 q, .int .i64 n, .int .i64 d] W fun e w' => e = .returned (.bool true) ∧ Below W.heap.size W w' := by
  have L := bpr_00110111 a b q n d
  have ka : knB a = true := kn_ok k0 k3
  obtain ⟨au, a1, a2, a3⟩ := knB_iff.1 ka
  obtain ⟨a4, a5⟩ := kn64 ka
  have a6 := (Dl.i64 a4).le (show 4 ≤ 20 by omega)
  have a7 := (Dl.i64 a5).le (show 4 ≤ 20 by omega)
  have kb : knB b = false := kn_bad k6
  have q7 := (Dl.i64 hq).le (show 4 ≤ 20 by omega)
  have n7 := (Dl.i64 hn).le (show 4 ≤ 20 by omega)
  have d7 := (Dl.i64 hd).le (show 4 ≤ 20 by omega)
  have eM := mul_no (a := a) (b := b) (q := q) (.inr (.inl kb))
  have eD := div_no (a := a) (b := b) (q := q) (.inr (.inr (has_kn kb)))
  have eS := sca_no' (a := a) (n := n) (d := d) (.inr (.inl (inB_no (by have := of_decide_eq_false k8; omega))))
  have V : ((scaB a n d).lo == 0 && ((scaB a n d).hi == 0 && ((scaB a n d).u == true && true))) = true := by
    rw [eS]; first | rfl | simp
  have p2 : (i64B a.lo) = true := by
    first | with_reducible assumption | decide
  have p3 : (i64B a.hi) = true := by
    first | with_reducible assumption | decide
  have p5 : (true) = true := by
    rfl
  have p6 : (i64B q) = true := by
    first | with_reducible assumption | decide
  have p7 : (false) = false := by
    rfl
  have p10 : ((mulB a b q).lo == 0 && ((mulB a b q).hi == 0 && ((mulB a b q).u == true && true))) = true := by
    rw [eM]; first | rfl | simp
  have p11 : ((divB a b q).lo == 0 && ((divB a b q).hi == 0 && ((divB a b q).u == true && true))) = true := by
    rw [eD]; first | rfl | simp
  have p12 : (i64B n) = true := by
    first | with_reducible assumption | decide
  have p13 : (i64B d) = true := by
    first | with_reducible assumption | decide
  exact evR_calls (I := numI) (v := .bool true) (ctxLp_ok libBP_ok eqBP_ok fnsBP_ok (fun _ _ _ => lps_nil)) (by kernel_rfl) Try.func4 rfl lps_nil L rfl (all2_R (.cons rfl (.cons rfl (.cons rfl (.cons rfl (.cons rfl .nil)))))) (congrArg (fun b => some (Value.bool b)) V) _ (Nat.zero_le _) (pickL_ok (cd_cons k0 (cd_cons k3 (cd_cons p2 (cd_cons p3 (cd_cons k6 (cd_cons p5 (cd_cons p6 (cd_cons p7 (cd_cons k7 (cd_cons k8 (cd_cons p10 (cd_cons p11 (cd_cons p12 (cd_cons p13 cd_nil)))))))))))))) _)
set_option maxRecDepth 100000 in
theorem bpr_w9 (a : Bd) (b : Bd) (q : Int) (n : Int) (d : Int) (W : World) (hq : i64B q = true) (hn : i64B n = true) (hd : i64B d = true) (k0 : (chkB a != 0) = false) (k3 : (a.u) = false) (k6 : (chkB b != 0) = true) (k7 : (decide (d ≥ 1)) = false) : Calls Try.prog 4 #[bV a, bV b, .int .i64 q, .int .i64 n, .int .i64 d] W fun e w' => e = .returned (.bool true) ∧ Below W.heap.size W w' := by
  have L := bpr_0010111 a b q n d
  have ka : knB a = true := kn_ok k0 k3
  obtain ⟨au, a1, a2, a3⟩ := knB_iff.1 ka
  obtain ⟨a4, a5⟩ := kn64 ka
  have a6 := (Dl.i64 a4).le (show 4 ≤ 20 by omega)
  have a7 := (Dl.i64 a5).le (show 4 ≤ 20 by omega)
  have kb : knB b = false := kn_bad k6
  have q7 := (Dl.i64 hq).le (show 4 ≤ 20 by omega)
  have n7 := (Dl.i64 hn).le (show 4 ≤ 20 by omega)
  have d7 := (Dl.i64 hd).le (show 4 ≤ 20 by omega)
  have eM := mul_no (a := a) (b := b) (q := q) (.inr (.inl kb))
  have eD := div_no (a := a) (b := b) (q := q) (.inr (.inr (has_kn kb)))
  have eS := sca_no' (a := a) (n := n) (d := d) (.inr (.inr (by have := of_decide_eq_false k7; omega)))
  have V : ((scaB a n d).lo == 0 && ((scaB a n d).hi == 0 && ((scaB a n d).u == true && true))) = true := by
    rw [eS]; first | rfl | simp
  have p2 : (i64B a.lo) = true := by
    first | with_reducible assumption | decide
  have p3 : (i64B a.hi) = true := by
    first | with_reducible assumption | decide
  have p5 : (true) = true := by
    rfl
  have p6 : (i64B q) = true := by
    first | with_reducible assumption | decide
  have p7 : (false) = false := by
    rfl
  have p9 : ((mulB a b q).lo == 0 && ((mulB a b q).hi == 0 && ((mulB a b q).u == true && true))) = true := by
    rw [eM]; first | rfl | simp
  have p10 : ((divB a b q).lo == 0 && ((divB a b q).hi == 0 && ((divB a b q).u == true && true))) = true := by
    rw [eD]; first | rfl | simp
  have p11 : (i64B n) = true := by
    first | with_reducible assumption | decide
  have p12 : (i64B d) = true := by
    first | with_reducible assumption | decide
  exact evR_calls (I := numI) (v := .bool true) (ctxLp_ok libBP_ok eqBP_ok fnsBP_ok (fun _ _ _ => lps_nil)) (by kernel_rfl) Try.func4 rfl lps_nil L rfl (all2_R (.cons rfl (.cons rfl (.cons rfl (.cons rfl (.cons rfl .nil)))))) (congrArg (fun b => some (Value.bool b)) V) _ (Nat.zero_le _) (pickL_ok (cd_cons k0 (cd_cons k3 (cd_cons p2 (cd_cons p3 (cd_cons k6 (cd_cons p5 (cd_cons p6 (cd_cons p7 (cd_cons k7 (cd_cons p9 (cd_cons p10 (cd_cons p11 (cd_cons p12 cd_nil))))))))))))) _)
set_option maxRecDepth 100000 in
theorem bpr_w10 (a : Bd) (b : Bd) (q : Int) (n : Int) (d : Int) (W : World) (hq : i64B q = true) (hn : i64B n = true) (hd : i64B d = true) (k0 : (chkB a != 0) = false) (k3 : (a.u) = false) (k6 : (chkB b != 0) = false) (k10 : (b.u) = true) (k11 : (decide (d ≥ 1)) = true) (k12 : (decide (n ≥ -1152921504606846976)) = true) (k13 : (decide (n ≤ 1152921504606846976)) = true) : Calls Try.prog 4 #[bV a, bV b, .int .i64 q, .int .i64 n, .int .i64 d] W fun e w' => e = .returned (.bool true) ∧ Below W.heap.size W w' := by
  have L := bpr_0001111111 a b q n d
  have ka : knB a = true := kn_ok k0 k3
  obtain ⟨au, a1, a2, a3⟩ := knB_iff.1 ka
  obtain ⟨a4, a5⟩ := kn64 ka
  have a6 := (Dl.i64 a4).le (show 4 ≤ 20 by omega)
  have a7 := (Dl.i64 a5).le (show 4 ≤ 20 by omega)
  have kb : knB b = false := kn_u k10
  have q7 := (Dl.i64 hq).le (show 4 ≤ 20 by omega)
  have n7 := (Dl.i64 hn).le (show 4 ≤ 20 by omega)
  have d7 := (Dl.i64 hd).le (show 4 ≤ 20 by omega)
  have eM := mul_no (a := a) (b := b) (q := q) (.inr (.inl kb))
  have eD := div_no (a := a) (b := b) (q := q) (.inr (.inr (has_kn kb)))
  have d1 : 1 ≤ d := by have := of_decide_eq_true k11; omega
  have n1 : inB n = true := inB_iff.2 ⟨by have := of_decide_eq_true k12; omega, of_decide_eq_true k13⟩
  have eS : scaB a n d = rS a n d := sca_ra ka n1 d1
  have oS : (okZ (zm (a.lo * n)) (zm (d)) && okZ (zm (a.hi * n)) (zm (d))) = true := by
    simp only [Bool.and_eq_true]
    exact ⟨zm_ok (by omega) (mul20 a4 hn) d7, zm_ok (by omega) (mul20 a5 hn) d7⟩
  have V : ((scaB a n d).lo == (rS a n d).lo && ((scaB a n d).hi == (rS a n d).hi && ((scaB a n d).u == (rS a n d).u && true))) = true := by
    rw [eS]; first | rfl | simp
  have p2 : (i64B a.lo) = true := by
    first | with_reducible assumption | decide
  have p3 : (i64B a.hi) = true := by
    first | with_reducible assumption | decide
  have p6 : (i64B q) = true := by
    first | with_reducible assumption | decide
  have p7 : (true) = true := by
    rfl
  have p8 : (false) = false := by
    rfl
  have p12 : (i64B n) = true := by
    first | with_reducible assumption | decide
  have p13 : (decide (a.lo < 0) == decide (a.lo < 0)) = true := by
    first | exact eqB _ | exact beq_self_eq_true _
  have p14 : (decide (n < 0) == decide (n < 0)) = true := by
    first | exact eqB _ | exact beq_self_eq_true _
  have p15 : (szB a.lo) = true := by
    exact Dl.sz (k := 20) (by with_reducible assumption) (by omega)
  have p16 : (szB n) = true := by
    exact Dl.sz (k := 20) (by with_reducible assumption) (by omega)
  have p17 : (decide (a.hi < 0) == decide (a.hi < 0)) = true := by
    first | exact eqB _ | exact beq_self_eq_true _
  have p18 : (szB a.hi) = true := by
    exact Dl.sz (k := 20) (by with_reducible assumption) (by omega)
  have p19 : (i64B d) = true := by
    first | with_reducible assumption | decide
  have p20 : (okZ (zm (a.lo * n)) (zm (d)) && okZ (zm (a.hi * n)) (zm (d))) = true := by
    exact oS
  have p21 : ((mulB a b q).lo == 0 && ((mulB a b q).hi == 0 && ((mulB a b q).u == true && true))) = true := by
    rw [eM]; first | rfl | simp
  have p22 : ((divB a b q).lo == 0 && ((divB a b q).hi == 0 && ((divB a b q).u == true && true))) = true := by
    rw [eD]; first | rfl | simp
  exact evR_calls (I := numI) (v := .bool true) (ctxLp_ok libBP_ok eqBP_ok fnsBP_ok (fun _ _ _ => lps_nil)) (by kernel_rfl) Try.func4 rfl lps_nil L rfl (all2_R (.cons rfl (.cons rfl (.cons rfl (.cons rfl (.cons rfl .nil)))))) (congrArg (fun b => some (Value.bool b)) V) _ (Nat.zero_le _) (pickL_ok (cd_cons k0 (cd_cons k3 (cd_cons p2 (cd_cons p3 (cd_cons k6 (cd_cons k10 (cd_cons p6 (cd_cons p7 (cd_cons p8 (cd_cons k11 (cd_cons k12 (cd_cons k13 (cd_cons p12 (cd_cons p13 (cd_cons p14 (cd_cons p15 (cd_cons p16 (cd_cons p17 (cd_cons p18 (cd_cons p19 (cd_cons p20 (cd_cons p21 (cd_cons p22 cd_nil))))))))))))))))))))))) _)
set_option maxRecDepth 100000 in
theorem bpr_w11 (a : Bd) (b : Bd) (q : Int) (n : Int) (d : Int) (W : World) (hq : i64B q = true) (hn : i64B n = true) (hd : i64B d = true) (k0 : (chkB a != 0) = false) (k3 : (a.u) = false) (k6 : (chkB b != 0) = false) (k10 : (b.u) = true) (k11 : (decide (d ≥ 1)) = true) (k12 : (decide (n ≥ -1152921504606846976)) = true) (k13 : (decide (n ≤ 1152921504606846976)) = false) : Calls Try.prog 4 #[bV a, bV b, .int .i64 q, .int .i64 n, .int .i64 d] W fun e w' => e = .returned (.bool true) ∧ Below W.heap.size W w' := by
  have L := bpr_0001110111 a b q n d
  have ka : knB a = true := kn_ok k0 k3
  obtain ⟨au, a1, a2, a3⟩ := knB_iff.1 ka
  obtain ⟨a4, a5⟩ := kn64 ka
  have a6 := (Dl.i64 a4).le (show 4 ≤ 20 by omega)
  have a7 := (Dl.i64 a5).le (show 4 ≤ 20 by omega)
  have kb : knB b = false := kn_u k10
  have q7 := (Dl.i64 hq).le (show 4 ≤ 20 by omega)
  have n7 := (Dl.i64 hn).le (show 4 ≤ 20 by omega)
  have d7 := (Dl.i64 hd).le (show 4 ≤ 20 by omega)
  have eM := mul_no (a := a) (b := b) (q := q) (.inr (.inl kb))
  have eD := div_no (a := a) (b := b) (q := q) (.inr (.inr (has_kn kb)))
  have eS := sca_no' (a := a) (n := n) (d := d) (.inr (.inl (inB_no (by have := of_decide_eq_false k13; omega))))
  have V : ((scaB a n d).lo == 0 && ((scaB a n d).hi == 0 && ((scaB a n d).u == true && true))) = true := by
    rw [eS]; first | rfl | simp
  have p2 : (i64B a.lo) = true := by
    first | with_reducible assumption | decide
  have p3 : (i64B a.hi) = true := by
    first | with_reducible assumption | decide
  have p6 : (i64B q) = true := by
    first | with_reducible assumption | decide
  have p7 : (true) = true := by
    rfl
  have p8 : (false) = false := by
    rfl
  have p12 : ((mulB a b q).lo == 0 && ((mulB a b q).hi == 0 && ((mulB a b q).u == true && true))) = true := by
    rw [eM]; first | rfl | simp
  have p13 : ((divB a b q).lo == 0 && ((divB a b q).hi == 0 && ((divB a b q).u == true && true))) = true := by
    rw [eD]; first | rfl | simp
  have p14 : (i64B n) = true := by
    first | with_reducible assumption | decide
  have p15 : (i64B d) = true := by
    first | with_reducible assumption | decide
  exact evR_calls (I := numI) (v := .bool true) (ctxLp_ok libBP_ok eqBP_ok fnsBP_ok (fun _ _ _ => lps_nil)) (by kernel_rfl) Try.func4 rfl lps_nil L rfl (all2_R (.cons rfl (.cons rfl (.cons rfl (.cons rfl (.cons rfl .nil)))))) (congrArg (fun b => some (Value.bool b)) V) _ (Nat.zero_le _) (pickL_ok (cd_cons k0 (cd_cons k3 (cd_cons p2 (cd_cons p3 (cd_cons k6 (cd_cons k10 (cd_cons p6 (cd_cons p7 (cd_cons p8 (cd_cons k11 (cd_cons k12 (cd_cons k13 (cd_cons p12 (cd_cons p13 (cd_cons p14 (cd_cons p15 cd_nil)))))))))))))))) _)
set_option maxRecDepth 100000 in
theorem bpr_w12 (a : Bd) (b : Bd) (q : Int) (n : Int) (d : Int) (W : World) (hq : i64B q = true) (hn : i64B n = true) (hd : i64B d = true) (k0 : (chkB a != 0) = false) (k3 : (a.u) = false) (k6 : (chkB b != 0) = false) (k10 : (b.u) = true) (k11 : (decide (d ≥ 1)) = true) (k12 : (decide (n ≥ -1152921504606846976)) = false) : Calls Try.prog 4 #[bV a, bV b, .int .i64 q, .int .i64 n, .int .i64 d] W fun e w' => e = .returned (.bool true) ∧ Below W.heap.size W w' := by
  have L := bpr_000110111 a b q n d
  have ka : knB a = true := kn_ok k0 k3
  obtain ⟨au, a1, a2, a3⟩ := knB_iff.1 ka
  obtain ⟨a4, a5⟩ := kn64 ka
  have a6 := (Dl.i64 a4).le (show 4 ≤ 20 by omega)
  have a7 := (Dl.i64 a5).le (show 4 ≤ 20 by omega)
  have kb : knB b = false := kn_u k10
  have q7 := (Dl.i64 hq).le (show 4 ≤ 20 by omega)
  have n7 := (Dl.i64 hn).le (show 4 ≤ 20 by omega)
  have d7 := (Dl.i64 hd).le (show 4 ≤ 20 by omega)
  have eM := mul_no (a := a) (b := b) (q := q) (.inr (.inl kb))
  have eD := div_no (a := a) (b := b) (q := q) (.inr (.inr (has_kn kb)))
  have eS := sca_no' (a := a) (n := n) (d := d) (.inr (.inl (inB_no (by have := of_decide_eq_false k12; omega))))
  have V : ((scaB a n d).lo == 0 && ((scaB a n d).hi == 0 && ((scaB a n d).u == true && true))) = true := by
    rw [eS]; first | rfl | simp
  have p2 : (i64B a.lo) = true := by
    first | with_reducible assumption | decide
  have p3 : (i64B a.hi) = true := by
    first | with_reducible assumption | decide
  have p6 : (i64B q) = true := by
    first | with_reducible assumption | decide
  have p7 : (true) = true := by
    rfl
  have p8 : (false) = false := by
    rfl
  have p11 : ((mulB a b q).lo == 0 && ((mulB a b q).hi == 0 && ((mulB a b q).u == true && true))) = true := by
    rw [eM]; first | rfl | simp
  have p12 : ((divB a b q).lo == 0 && ((divB a b q).hi == 0 && ((divB a b q).u == true && true))) = true := by
    rw [eD]; first | rfl | simp
  have p13 : (i64B n) = true := by
    first | with_reducible assumption | decide
  have p14 : (i64B d) = true := by
    first | with_reducible assumption | decide
  exact evR_calls (I := numI) (v := .bool true) (ctxLp_ok libBP_ok eqBP_ok fnsBP_ok (fun _ _ _ => lps_nil)) (by kernel_rfl) Try.func4 rfl lps_nil L rfl (all2_R (.cons rfl (.cons rfl (.cons rfl (.cons rfl (.cons rfl .nil)))))) (congrArg (fun b => some (Value.bool b)) V) _ (Nat.zero_le _) (pickL_ok (cd_cons k0 (cd_cons k3 (cd_cons p2 (cd_cons p3 (cd_cons k6 (cd_cons k10 (cd_cons p6 (cd_cons p7 (cd_cons p8 (cd_cons k11 (cd_cons k12 (cd_cons p11 (cd_cons p12 (cd_cons p13 (cd_cons p14 cd_nil))))))))))))))) _)
set_option maxRecDepth 100000 in
theorem bpr_w13 (a : Bd) (b : Bd) (q : Int) (n : Int) (d : Int) (W : World) (hq : i64B q = true) (hn : i64B n = true) (hd : i64B d = true) (k0 : (chkB a != 0) = false) (k3 : (a.u) = false) (k6 : (chkB b != 0) = false) (k10 : (b.u) = true) (k11 : (decide (d ≥ 1)) = false) : Calls Try.prog 4 #[bV a, bV b, .int .i64 q, .int .i64 n, .int .i64 d] W fun e w' => e = .returned (.bool true) ∧ Below W.heap.size W w' := by
  have L := bpr_00010111 a b q n d
  have ka : knB a = true := kn_ok k0 k3
  obtain ⟨au, a1, a2, a3⟩ := knB_iff.1 ka
  obtain ⟨a4, a5⟩ := kn64 ka
  have a6 := (Dl.i64 a4).le (show 4 ≤ 20 by omega)
  have a7 := (Dl.i64 a5).le (show 4 ≤ 20 by omega)
  have kb : knB b = false := kn_u k10
  have q7 := (Dl.i64 hq).le (show 4 ≤ 20 by omega)
  have n7 := (Dl.i64 hn).le (show 4 ≤ 20 by omega)
  have d7 := (Dl.i64 hd).le (show 4 ≤ 20 by omega)
  have eM := mul_no (a := a) (b := b) (q := q) (.inr (.inl kb))
  have eD := div_no (a := a) (b := b) (q := q) (.inr (.inr (has_kn kb)))
  have eS := sca_no' (a := a) (n := n) (d := d) (.inr (.inr (by have := of_decide_eq_false k11; omega)))
  have V : ((scaB a n d).lo == 0 && ((scaB a n d).hi == 0 && ((scaB a n d).u == true && true))) = true := by
    rw [eS]; first | rfl | simp
  have p2 : (i64B a.lo) = true := by
    first | with_reducible assumption | decide
  have p3 : (i64B a.hi) = true := by
    first | with_reducible assumption | decide
  have p6 : (i64B q) = true := by
    first | with_reducible assumption | decide
  have p7 : (true) = true := by
    rfl
  have p8 : (false) = false := by
    rfl
  have p10 : ((mulB a b q).lo == 0 && ((mulB a b q).hi == 0 && ((mulB a b q).u == true && true))) = true := by
    rw [eM]; first | rfl | simp
  have p11 : ((divB a b q).lo == 0 && ((divB a b q).hi == 0 && ((divB a b q).u == true && true))) = true := by
    rw [eD]; first | rfl | simp
  have p12 : (i64B n) = true := by
    first | with_reducible assumption | decide
  have p13 : (i64B d) = true := by
    first | with_reducible assumption | decide
  exact evR_calls (I := numI) (v := .bool true) (ctxLp_ok libBP_ok eqBP_ok fnsBP_ok (fun _ _ _ => lps_nil)) (by kernel_rfl) Try.func4 rfl lps_nil L rfl (all2_R (.cons rfl (.cons rfl (.cons rfl (.cons rfl (.cons rfl .nil)))))) (congrArg (fun b => some (Value.bool b)) V) _ (Nat.zero_le _) (pickL_ok (cd_cons k0 (cd_cons k3 (cd_cons p2 (cd_cons p3 (cd_cons k6 (cd_cons k10 (cd_cons p6 (cd_cons p7 (cd_cons p8 (cd_cons k11 (cd_cons p10 (cd_cons p11 (cd_cons p12 (cd_cons p13 cd_nil)))))))))))))) _)
set_option maxRecDepth 100000 in
theorem bpr_w14 (a : Bd) (b : Bd) (q : Int) (n : Int) (d : Int) (W : World) (hq : i64B q = true) (hn : i64B n = true) (hd : i64B d = true) (k0 : (chkB a != 0) = false) (k3 : (a.u) = false) (k6 : (chkB b != 0) = false) (k10 : (b.u) = false) (k14 : (decide (q ≥ 1)) = true) (k15 : (cmpI b.lo 0 == cmpI b.hi 0) = true) (k16 : (cmpI b.lo 0 != 0) = true) (k17 : (decide (d ≥ 1)) = true) (k18 : (decide (n ≥ -1152921504606846976)) = true) (k19 : (decide (n ≤ 1152921504606846976)) = true) : Calls Try.prog 4 #[bV a, bV b, .int .i64 q, .int .i64 n, .int .i64 d] W fun e w' => e = .returned (.bool true) ∧ Below W.heap.size W w' := by
  have L := bpr_0000111111111 a b q n d
  have ka : knB a = true := kn_ok k0 k3
  obtain ⟨au, a1, a2, a3⟩ := knB_iff.1 ka
  obtain ⟨a4, a5⟩ := kn64 ka
  have a6 := (Dl.i64 a4).le (show 4 ≤ 20 by omega)
  have a7 := (Dl.i64 a5).le (show 4 ≤ 20 by omega)
  have kb : knB b = true := kn_ok k6 k10
  obtain ⟨bu, b1, b2, b3⟩ := knB_iff.1 kb
  obtain ⟨b4, b5⟩ := kn64 kb
  have b6 := (Dl.i64 b4).le (show 4 ≤ 20 by omega)
  have b7 := (Dl.i64 b5).le (show 4 ≤ 20 by omega)
  have q7 := (Dl.i64 hq).le (show 4 ≤ 20 by omega)
  have n7 := (Dl.i64 hn).le (show 4 ≤ 20 by omega)
  have d7 := (Dl.i64 hd).le (show 4 ≤ 20 by omega)
  have q1 : 1 ≤ q := by have := of_decide_eq_true k14; omega
  have eM : mulB a b q = rM a b q := mul_ra ka kb q1
  have oM : (okM a b q) = true := by
    show (okZ (zm (a.lo * b.lo)) (zm (q)) && okZ (zm (a.lo * b.hi)) (zm (q)) && okZ (zm (a.hi * b.lo)) (zm (q)) && okZ (zm (a.hi * b.hi)) (zm (q))) = true
    simp only [Bool.and_eq_true]
    exact ⟨⟨⟨zm_ok (by omega) (mul20 a4 b4) q7, zm_ok (by omega) (mul20 a4 b5) q7⟩, zm_ok (by omega) (mul20 a5 b4) q7⟩, zm_ok (by omega) (mul20 a5 b5) q7⟩
  have hs := sg_nz kb k15 k16
  have eD : divB a b q = rD a b q := div_ra ka kb q1 hs
  have oD : (okZ (zm (a.lo * q)) (zm (b.lo)) && okZ (zm (a.lo * q)) (zm (b.hi)) && okZ (zm (a.hi * q)) (zm (b.lo)) && okZ (zm (a.hi * q)) (zm (b.hi))) = true := by
    simp only [Bool.and_eq_true]
    exact ⟨⟨⟨zm_ok (by omega) (mul20 a4 hq) b6, zm_ok (by omega) (mul20 a4 hq) b7⟩, zm_ok (by omega) (mul20 a5 hq) b6⟩, zm_ok (by omega) (mul20 a5 hq) b7⟩
  have d1 : 1 ≤ d := by have := of_decide_eq_true k17; omega
  have n1 : inB n = true := inB_iff.2 ⟨by have := of_decide_eq_true k18; omega, of_decide_eq_true k19⟩
  have eS : scaB a n d = rS a n d := sca_ra ka n1 d1
  have oS : (okZ (zm (a.lo * n)) (zm (d)) && okZ (zm (a.hi * n)) (zm (d))) = true := by
    simp only [Bool.and_eq_true]
    exact ⟨zm_ok (by omega) (mul20 a4 hn) d7, zm_ok (by omega) (mul20 a5 hn) d7⟩
  have V : ((scaB a n d).lo == (rS a n d).lo && ((scaB a n d).hi == (rS a n d).hi && ((scaB a n d).u == (rS a n d).u && true))) = true := by
    rw [eS]; first | rfl | simp
  have p2 : (i64B a.lo) = true := by
    first | with_reducible assumption | decide
  have p3 : (i64B a.hi) = true := by
    first | with_reducible assumption | decide
  have p6 : (i64B b.lo) = true := by
    first | with_reducible assumption | decide
  have p7 : (i64B b.hi) = true := by
    first | with_reducible assumption | decide
  have p8 : (i64B q) = true := by
    first | with_reducible assumption | decide
  have p9 : (true) = true := by
    rfl
  have p11 : (decide (a.lo < 0) == decide (a.lo < 0)) = true := by
    first | exact eqB _ | exact beq_self_eq_true _
  have p12 : (decide (b.lo < 0) == decide (b.lo < 0)) = true := by
    first | exact eqB _ | exact beq_self_eq_true _
  have p13 : (szB a.lo) = true := by
    exact Dl.sz (k := 20) (by with_reducible assumption) (by omega)
  have p14 : (szB b.lo) = true := by
    exact Dl.sz (k := 20) (by with_reducible assumption) (by omega)
  have p15 : (decide (b.hi < 0) == decide (b.hi < 0)) = true := by
    first | exact eqB _ | exact beq_self_eq_true _
  have p16 : (szB b.hi) = true := by
    exact Dl.sz (k := 20) (by with_reducible assumption) (by omega)
  have p17 : (decide (a.hi < 0) == decide (a.hi < 0)) = true := by
    first | exact eqB _ | exact beq_self_eq_true _
  have p18 : (szB a.hi) = true := by
    exact Dl.sz (k := 20) (by with_reducible assumption) (by omega)
  have p19 : (okM a b q) = true := by
    exact oM
  have p22 : (decide (q < 0) == decide (q < 0)) = true := by
    first | exact eqB _ | exact beq_self_eq_true _
  have p23 : (szB q) = true := by
    exact Dl.sz (k := 20) (by with_reducible assumption) (by omega)
  have p24 : (okZ (zm (a.lo * q)) (zm (b.lo)) && okZ (zm (a.lo * q)) (zm (b.hi)) && okZ (zm (a.hi * q)) (zm (b.lo)) && okZ (zm (a.hi * q)) (zm (b.hi))) = true := by
    exact oD
  have p28 : (i64B n) = true := by
    first | with_reducible assumption | decide
  have p29 : (decide (n < 0) == decide (n < 0)) = true := by
    first | exact eqB _ | exact beq_self_eq_true _
  have p30 : (szB n) = true := by
    exact Dl.sz (k := 20) (by with_reducible assumption) (by omega)
  have p31 : (i64B d) = true := by
    first | with_reducible assumption | decide
  have p32 : (okZ (zm (a.lo * n)) (zm (d)) && okZ (zm (a.hi * n)) (zm (d))) = true := by
    exact oS
  have p33 : ((mulB a b q).lo == (rM a b q).lo && ((mulB a b q).hi == (rM a b q).hi && ((mulB a b q).u == (rM a b q).u && true))) = true := by
    rw [eM]; first | rfl | simp
  have p34 : ((divB a b q).lo == (rD a b q).lo && ((divB a b q).hi == (rD a b q).hi && ((divB a b q).u == (rD a b q).u && true))) = true := by
    rw [eD]; first | rfl | simp
  exact evR_calls (I := numI) (v := .bool true) (ctxLp_ok libBP_ok eqBP_ok fnsBP_ok (fun _ _ _ => lps_nil)) (by kernel_rfl) Try.func4 rfl lps_nil L rfl (all2_R (.cons rfl (.cons rfl (.cons rfl (.cons rfl (.cons rfl .nil)))))) (congrArg (fun b => some (Value.bool b)) V) _ (Nat.zero_le _) (pickL_ok (cd_cons k0 (cd_cons k3 (cd_cons p2 (cd_cons p3 (cd_cons k6 (cd_cons k10 (cd_cons p6 (cd_cons p7 (cd_cons p8 (cd_cons p9 (cd_cons k14 (cd_cons p11 (cd_cons p12 (cd_cons p13 (cd_cons p14 (cd_cons p15 (cd_cons p16 (cd_cons p17 (cd_cons p18 (cd_cons p19 (cd_cons k15 (cd_cons k16 (cd_cons p22 (cd_cons p23 (cd_cons p24 (cd_cons k17 (cd_cons k18 (cd_cons k19 (cd_cons p28 (cd_cons p29 (cd_cons p30 (cd_cons p31 (cd_cons p32 (cd_cons p33 (cd_cons p34 cd_nil))))))))))))))))))))))))))))))))))) _)
set_option maxRecDepth 100000 in
theorem bpr_w15 (a : Bd) (b : Bd) (q : Int) (n : Int) (d : Int) (W : World) (hq : i64B q = true) (hn : i64B n = true) (hd : i64B d = true) (k0 : (chkB a != 0) = false) (k3 : (a.u) = false) (k6 : (chkB b != 0) = false) (k10 : (b.u) = false) (k14 : (decide (q ≥ 1)) = true) (k15 : (cmpI b.lo 0 == cmpI b.hi 0) = true) (k16 : (cmpI b.lo 0 != 0) = true) (k17 : (decide (d ≥ 1)) = true) (k18 : (decide (n ≥ -1152921504606846976)) = true) (k19 : (decide (n ≤ 1152921504606846976)) = false) : Calls Try.prog 4 #[bV a, bV b, .int .i64 q, .int .i64 n, .int .i64 d] W fun e w' => e = .returned (.bool true) ∧ Below W.heap.size W w' := by
  have L := bpr_0000111110111 a b q n d
  have ka : knB a = true := kn_ok k0 k3
  obtain ⟨au, a1, a2, a3⟩ := knB_iff.1 ka
  obtain ⟨a4, a5⟩ := kn64 ka
  have a6 := (Dl.i64 a4).le (show 4 ≤ 20 by omega)
  have a7 := (Dl.i64 a5).le (show 4 ≤ 20 by omega)
  have kb : knB b = true := kn_ok k6 k10
  obtain ⟨bu, b1, b2, b3⟩ := knB_iff.1 kb
  obtain ⟨b4, b5⟩ := kn64 kb
  have b6 := (Dl.i64 b4).le (show 4 ≤ 20 by omega)
  have b7 := (Dl.i64 b5).le (show 4 ≤ 20 by omega)
  have q7 := (Dl.i64 hq).le (show 4 ≤ 20 by omega)
  have n7 := (Dl.i64 hn).le (show 4 ≤ 20 by omega)
  have d7 := (Dl.i64 hd).le (show 4 ≤ 20 by omega)
  have q1 : 1 ≤ q := by have := of_decide_eq_true k14; omega
  have eM : mulB a b q = rM a b q := mul_ra ka kb q1
  have oM : (okM a b q) = true := by
    show (okZ (zm (a.lo * b.lo)) (zm (q)) && okZ (zm (a.lo * b.hi)) (zm (q)) && okZ (zm (a.hi * b.lo)) (zm (q)) && okZ (zm (a.hi * b.hi)) (zm (q))) = true
    simp only [Bool.and_eq_true]
    exact ⟨⟨⟨zm_ok (by omega) (mul20 a4 b4) q7, zm_ok (by omega) (mul20 a4 b5) q7⟩, zm_ok (by omega) (mul20 a5 b4) q7⟩, zm_ok (by omega) (mul20 a5 b5) q7⟩
  have hs := sg_nz kb k15 k16
  have eD : divB a b q = rD a b q := div_ra ka kb q1 hs
  have oD : (okZ (zm (a.lo * q)) (zm (b.lo)) && okZ (zm (a.lo * q)) (zm (b.hi)) && okZ (zm (a.hi * q)) (zm (b.lo)) && okZ (zm (a.hi * q)) (zm (b.hi))) = true := by
    simp only [Bool.and_eq_true]
    exact ⟨⟨⟨zm_ok (by omega) (mul20 a4 hq) b6, zm_ok (by omega) (mul20 a4 hq) b7⟩, zm_ok (by omega) (mul20 a5 hq) b6⟩, zm_ok (by omega) (mul20 a5 hq) b7⟩
  have eS := sca_no' (a := a) (n := n) (d := d) (.inr (.inl (inB_no (by have := of_decide_eq_false k19; omega))))
  have V : ((scaB a n d).lo == 0 && ((scaB a n d).hi == 0 && ((scaB a n d).u == true && true))) = true := by
    rw [eS]; first | rfl | simp
  have p2 : (i64B a.lo) = true := by
    first | with_reducible assumption | decide
  have p3 : (i64B a.hi) = true := by
    first | with_reducible assumption | decide
  have p6 : (i64B b.lo) = true := by
    first | with_reducible assumption | decide
  have p7 : (i64B b.hi) = true := by
    first | with_reducible assumption | decide
  have p8 : (i64B q) = true := by
    first | with_reducible assumption | decide
  have p9 : (true) = true := by
    rfl
  have p11 : (decide (a.lo < 0) == decide (a.lo < 0)) = true := by
    first | exact eqB _ | exact beq_self_eq_true _
  have p12 : (decide (b.lo < 0) == decide (b.lo < 0)) = true := by
    first | exact eqB _ | exact beq_self_eq_true _
  have p13 : (szB a.lo) = true := by
    exact Dl.sz (k := 20) (by with_reducible assumption) (by omega)
  have p14 : (szB b.lo) = true := by
    exact Dl.sz (k := 20) (by with_reducible assumption) (by omega)
  have p15 : (decide (b.hi < 0) == decide (b.hi < 0)) = true := by
    first | exact eqB _ | exact beq_self_eq_true _
  have p16 : (szB b.hi) = true := by
    exact Dl.sz (k := 20) (by with_reducible assumption) (by omega)
  have p17 : (decide (a.hi < 0) == decide (a.hi < 0)) = true := by
    first | exact eqB _ | exact beq_self_eq_true _
  have p18 : (szB a.hi) = true := by
    exact Dl.sz (k := 20) (by with_reducible assumption) (by omega)
  have p19 : (okM a b q) = true := by
    exact oM
  have p22 : (decide (q < 0) == decide (q < 0)) = true := by
    first | exact eqB _ | exact beq_self_eq_true _
  have p23 : (szB q) = true := by
    exact Dl.sz (k := 20) (by with_reducible assumption) (by omega)
  have p24 : (okZ (zm (a.lo * q)) (zm (b.lo)) && okZ (zm (a.lo * q)) (zm (b.hi)) && okZ (zm (a.hi * q)) (zm (b.lo)) && okZ (zm (a.hi * q)) (zm (b.hi))) = true := by
    exact oD
  have p28 : ((mulB a b q).lo == (rM a b q).lo && ((mulB a b q).hi == (rM a b q).hi && ((mulB a b q).u == (rM a b q).u && true))) = true := by
    rw [eM]; first | rfl | simp
  have p29 : ((divB a b q).lo == (rD a b q).lo && ((divB a b q).hi == (rD a b q).hi && ((divB a b q).u == (rD a b q).u && true))) = true := by
    rw [eD]; first | rfl | simp
  have p30 : (i64B n) = true := by
    first | with_reducible assumption | decide
  have p31 : (i64B d) = true := by
    first | with_reducible assumption | decide
  exact evR_calls (I := numI) (v := .bool true) (ctxLp_ok libBP_ok eqBP_ok fnsBP_ok (fun _ _ _ => lps_nil)) (by kernel_rfl) Try.func4 rfl lps_nil L rfl (all2_R (.cons rfl (.cons rfl (.cons rfl (.cons rfl (.cons rfl .nil)))))) (congrArg (fun b => some (Value.bool b)) V) _ (Nat.zero_le _) (pickL_ok (cd_cons k0 (cd_cons k3 (cd_cons p2 (cd_cons p3 (cd_cons k6 (cd_cons k10 (cd_cons p6 (cd_cons p7 (cd_cons p8 (cd_cons p9 (cd_cons k14 (cd_cons p11 (cd_cons p12 (cd_cons p13 (cd_cons p14 (cd_cons p15 (cd_cons p16 (cd_cons p17 (cd_cons p18 (cd_cons p19 (cd_cons k15 (cd_cons k16 (cd_cons p22 (cd_cons p23 (cd_cons p24 (cd_cons k17 (cd_cons k18 (cd_cons k19 (cd_cons p28 (cd_cons p29 (cd_cons p30 (cd_cons p31 cd_nil)))))))))))))))))))))))))))))))) _)
set_option maxRecDepth 100000 in
theorem bpr_w16 (a : Bd) (b : Bd) (q : Int) (n : Int) (d : Int) (W : World) (hq : i64B q = true) (hn : i64B n = true) (hd : i64B d = true) (k0 : (chkB a != 0) = false) (k3 : (a.u) = false) (k6 : (chkB b != 0) = false) (k10 : (b.u) = false) (k14 : (decide (q ≥ 1)) = true) (k15 : (cmpI b.lo 0 == cmpI b.hi 0) = true) (k16 : (cmpI b.lo 0 != 0) = true) (k17 : (decide (d ≥ 1)) = true) (k18 : (decide (n ≥ -1152921504606846976)) = false) : Calls Try.prog 4 #[bV a, bV b, .int .i64 q, .int .i64 n, .int .i64 d] W fun e w' => e = .returned (.bool true) ∧ Below W.heap.size W w' := by
  have L := bpr_000011110111 a b q n d
  have ka : knB a = true := kn_ok k0 k3
  obtain ⟨au, a1, a2, a3⟩ := knB_iff.1 ka
  obtain ⟨a4, a5⟩ := kn64 ka
  have a6 := (Dl.i64 a4).le (show 4 ≤ 20 by omega)
  have a7 := (Dl.i64 a5).le (show 4 ≤ 20 by omega)
  have kb : knB b = true := kn_ok k6 k10
  obtain ⟨bu, b1, b2, b3⟩ := knB_iff.1 kb
  obtain ⟨b4, b5⟩ := kn64 kb
  have b6 := (Dl.i64 b4).le (show 4 ≤ 20 by omega)
  have b7 := (Dl.i64 b5).le (show 4 ≤ 20 by omega)
  have q7 := (Dl.i64 hq).le (show 4 ≤ 20 by omega)
  have n7 := (Dl.i64 hn).le (show 4 ≤ 20 by omega)
  have d7 := (Dl.i64 hd).le (show 4 ≤ 20 by omega)
  have q1 : 1 ≤ q := by have := of_decide_eq_true k14; omega
  have eM : mulB a b q = rM a b q := mul_ra ka kb q1
  have oM : (okM a b q) = true := by
    show (okZ (zm (a.lo * b.lo)) (zm (q)) && okZ (zm (a.lo * b.hi)) (zm (q)) && okZ (zm (a.hi * b.lo)) (zm (q)) && okZ (zm (a.hi * b.hi)) (zm (q))) = true
    simp only [Bool.and_eq_true]
    exact ⟨⟨⟨zm_ok (by omega) (mul20 a4 b4) q7, zm_ok (by omega) (mul20 a4 b5) q7⟩, zm_ok (by omega) (mul20 a5 b4) q7⟩, zm_ok (by omega) (mul20 a5 b5) q7⟩
  have hs := sg_nz kb k15 k16
  have eD : divB a b q = rD a b q := div_ra ka kb q1 hs
  have oD : (okZ (zm (a.lo * q)) (zm (b.lo)) && okZ (zm (a.lo * q)) (zm (b.hi)) && okZ (zm (a.hi * q)) (zm (b.lo)) && okZ (zm (a.hi * q)) (zm (b.hi))) = true := by
    simp only [Bool.and_eq_true]
    exact ⟨⟨⟨zm_ok (by omega) (mul20 a4 hq) b6, zm_ok (by omega) (mul20 a4 hq) b7⟩, zm_ok (by omega) (mul20 a5 hq) b6⟩, zm_ok (by omega) (mul20 a5 hq) b7⟩
  have eS := sca_no' (a := a) (n := n) (d := d) (.inr (.inl (inB_no (by have := of_decide_eq_false k18; omega))))
  have V : ((scaB a n d).lo == 0 && ((scaB a n d).hi == 0 && ((scaB a n d).u == true && true))) = true := by
    rw [eS]; first | rfl | simp
  have p2 : (i64B a.lo) = true := by
    first | with_reducible assumption | decide
  have p3 : (i64B a.hi) = true := by
    first | with_reducible assumption | decide
  have p6 : (i64B b.lo) = true := by
    first | with_reducible assumption | decide
  have p7 : (i64B b.hi) = true := by
    first | with_reducible assumption | decide
  have p8 : (i64B q) = true := by
    first | with_reducible assumption | decide
  have p9 : (true) = true := by
    rfl
  have p11 : (decide (a.lo < 0) == decide (a.lo < 0)) = true := by
    first | exact eqB _ | exact beq_self_eq_true _
  have p12 : (decide (b.lo < 0) == decide (b.lo < 0)) = true := by
    first | exact eqB _ | exact beq_self_eq_true _
  have p13 : (szB a.lo) = true := by
    exact Dl.sz (k := 20) (by with_reducible assumption) (by omega)
  have p14 : (szB b.lo) = true := by
    exact Dl.sz (k := 20) (by with_reducible assumption) (by omega)
  have p15 : (decide (b.hi < 0) == decide (b.hi < 0)) = true := by
    first | exact eqB _ | exact beq_self_eq_true _
  have p16 : (szB b.hi) = true := by
    exact Dl.sz (k := 20) (by with_reducible assumption) (by omega)
  have p17 : (decide (a.hi < 0) == decide (a.hi < 0)) = true := by
    first | exact eqB _ | exact beq_self_eq_true _
  have p18 : (szB a.hi) = true := by
    exact Dl.sz (k := 20) (by with_reducible assumption) (by omega)
  have p19 : (okM a b q) = true := by
    exact oM
  have p22 : (decide (q < 0) == decide (q < 0)) = true := by
    first | exact eqB _ | exact beq_self_eq_true _
  have p23 : (szB q) = true := by
    exact Dl.sz (k := 20) (by with_reducible assumption) (by omega)
  have p24 : (okZ (zm (a.lo * q)) (zm (b.lo)) && okZ (zm (a.lo * q)) (zm (b.hi)) && okZ (zm (a.hi * q)) (zm (b.lo)) && okZ (zm (a.hi * q)) (zm (b.hi))) = true := by
    exact oD
  have p27 : (false) = false := by
    rfl
  have p28 : ((mulB a b q).lo == (rM a b q).lo && ((mulB a b q).hi == (rM a b q).hi && ((mulB a b q).u == (rM a b q).u && true))) = true := by
    rw [eM]; first | rfl | simp
  have p29 : ((divB a b q).lo == (rD a b q).lo && ((divB a b q).hi == (rD a b q).hi && ((divB a b q).u == (rD a b q).u && true))) = true := by
    rw [eD]; first | rfl | simp
  have p30 : (i64B n) = true := by
    first | with_reducible assumption | decide
  have p31 : (i64B d) = true := by
    first | with_reducible assumption | decide
  exact evR_calls (I := numI) (v := .bool true) (ctxLp_ok libBP_ok eqBP_ok fnsBP_ok (fun _ _ _ => lps_nil)) (by kernel_rfl) Try.func4 rfl lps_nil L rfl (all2_R (.cons rfl (.cons rfl (.cons rfl (.cons rfl (.cons rfl .nil)))))) (congrArg (fun b => some (Value.bool b)) V) _ (Nat.zero_le _) (pickL_ok (cd_cons k0 (cd_cons k3 (cd_cons p2 (cd_cons p3 (cd_cons k6 (cd_cons k10 (cd_cons p6 (cd_cons p7 (cd_cons p8 (cd_cons p9 (cd_cons k14 (cd_cons p11 (cd_cons p12 (cd_cons p13 (cd_cons p14 (cd_cons p15 (cd_cons p16 (cd_cons p17 (cd_cons p18 (cd_cons p19 (cd_cons k15 (cd_cons k16 (cd_cons p22 (cd_cons p23 (cd_cons p24 (cd_cons k17 (cd_cons k18 (cd_cons p27 (cd_cons p28 (cd_cons p29 (cd_cons p30 (cd_cons p31 cd_nil)))))))))))))))))))))))))))))))) _)
set_option maxRecDepth 100000 in
theorem bpr_w17 (a : Bd) (b : Bd) (q : Int) (n : Int) (d : Int) (W : World) (hq : i64B q = true) (hn : i64B n = true) (hd : i64B d = true) (k0 : (chkB a != 0) = false) (k3 : (a.u) = false) (k6 : (chkB b != 0) = false) (k10 : (b.u) = false) (k14 : (decide (q ≥ 1)) = true) (k15 : (cmpI b.lo 0 == cmpI b.hi 0) = true) (k16 : (cmpI b.lo 0 != 0) = true) (k17 : (decide (d ≥ 1)) = false) : Calls Try.prog 4 #[bV a, bV b, .int .i64 q, .int .i64 n, .int .i64 d] W fun e w' => e = .returned (.bool true) ∧ Below W.heap.size W w' := by
  have L := bpr_00001110111 a b q n d
  have ka : knB a = true := kn_ok k0 k3
  obtain ⟨au, a1, a2, a3⟩ := knB_iff.1 ka
  obtain ⟨a4, a5⟩ := kn64 ka
  have a6 := (Dl.i64 a4).le (show 4 ≤ 20 by omega)
  have a7 := (Dl.i64 a5).le (show 4 ≤ 20 by omega)
  have kb : knB b = true := kn_ok k6 k10
  obtain ⟨bu, b1, b2, b3⟩ := knB_iff.1 kb
  obtain ⟨b4, b5⟩ := kn64 kb
  have b6 := (Dl.i64 b4).le (show 4 ≤ 20 by omega)
  have b7 := (Dl.i64 b5).le (show 4 ≤ 20 by omega)
  have q7 := (Dl.i64 hq).le (show 4 ≤ 20 by omega)
  have n7 := (Dl.i64 hn).le (show 4 ≤ 20 by omega)
  have d7 := (Dl.i64 hd).le (show 4 ≤ 20 by omega)
  have q1 : 1 ≤ q := by have := of_decide_eq_true k14; omega
  have eM : mulB a b q = rM a b q := mul_ra ka kb q1
  have oM : (okM a b q) = true := by
    show (okZ (zm (a.lo * b.lo)) (zm (q)) && okZ (zm (a.lo * b.hi)) (zm (q)) && okZ (zm (a.hi * b.lo)) (zm (q)) && okZ (zm (a.hi * b.hi)) (zm (q))) = true
    simp only [Bool.and_eq_true]
    exact ⟨⟨⟨zm_ok (by omega) (mul20 a4 b4) q7, zm_ok (by omega) (mul20 a4 b5) q7⟩, zm_ok (by omega) (mul20 a5 b4) q7⟩, zm_ok (by omega) (mul20 a5 b5) q7⟩
  have hs := sg_nz kb k15 k16
  have eD : divB a b q = rD a b q := div_ra ka kb q1 hs
  have oD : (okZ (zm (a.lo * q)) (zm (b.lo)) && okZ (zm (a.lo * q)) (zm (b.hi)) && okZ (zm (a.hi * q)) (zm (b.lo)) && okZ (zm (a.hi * q)) (zm (b.hi))) = true := by
    simp only [Bool.and_eq_true]
    exact ⟨⟨⟨zm_ok (by omega) (mul20 a4 hq) b6, zm_ok (by omega) (mul20 a4 hq) b7⟩, zm_ok (by omega) (mul20 a5 hq) b6⟩, zm_ok (by omega) (mul20 a5 hq) b7⟩
  have eS := sca_no' (a := a) (n := n) (d := d) (.inr (.inr (by have := of_decide_eq_false k17; omega)))
  have V : ((scaB a n d).lo == 0 && ((scaB a n d).hi == 0 && ((scaB a n d).u == true && true))) = true := by
    rw [eS]; first | rfl | simp
  have p2 : (i64B a.lo) = true := by
    first | with_reducible assumption | decide
  have p3 : (i64B a.hi) = true := by
    first | with_reducible assumption | decide
  have p6 : (i64B b.lo) = true := by
    first | with_reducible assumption | decide
  have p7 : (i64B b.hi) = true := by
    first | with_reducible assumption | decide
  have p8 : (i64B q) = true := by
    first | with_reducible assumption | decide
  have p9 : (true) = true := by
    rfl
  have p11 : (decide (a.lo < 0) == decide (a.lo < 0)) = true := by
    first | exact eqB _ | exact beq_self_eq_true _
  have p12 : (decide (b.lo < 0) == decide (b.lo < 0)) = true := by
    first | exact eqB _ | exact beq_self_eq_true _
  have p13 : (szB a.lo) = true := by
    exact Dl.sz (k := 20) (by with_reducible assumption) (by omega)
  have p14 : (szB b.lo) = true := by
    exact Dl.sz (k := 20) (by with_reducible assumption) (by omega)
  have p15 : (decide (b.hi < 0) == decide (b.hi < 0)) = true := by
    first | exact eqB _ | exact beq_self_eq_true _
  have p16 : (szB b.hi) = true := by
    exact Dl.sz (k := 20) (by with_reducible assumption) (by omega)
  have p17 : (decide (a.hi < 0) == decide (a.hi < 0)) = true := by
    first | exact eqB _ | exact beq_self_eq_true _
  have p18 : (szB a.hi) = true := by
    exact Dl.sz (k := 20) (by with_reducible assumption) (by omega)
  have p19 : (okM a b q) = true := by
    exact oM
  have p22 : (decide (q < 0) == decide (q < 0)) = true := by
    first | exact eqB _ | exact beq_self_eq_true _
  have p23 : (szB q) = true := by
    exact Dl.sz (k := 20) (by with_reducible assumption) (by omega)
  have p24 : (okZ (zm (a.lo * q)) (zm (b.lo)) && okZ (zm (a.lo * q)) (zm (b.hi)) && okZ (zm (a.hi * q)) (zm (b.lo)) && okZ (zm (a.hi * q)) (zm (b.hi))) = true := by
    exact oD
  have p26 : (false) = false := by
    rfl
  have p27 : ((mulB a b q).lo == (rM a b q).lo && ((mulB a b q).hi == (rM a b q).hi && ((mulB a b q).u == (rM a b q).u && true))) = true := by
    rw [eM]; first | rfl | simp
  have p28 : ((divB a b q).lo == (rD a b q).lo && ((divB a b q).hi == (rD a b q).hi && ((divB a b q).u == (rD a b q).u && true))) = true := by
    rw [eD]; first | rfl | simp
  have p29 : (i64B n) = true := by
    first | with_reducible assumption | decide
  have p30 : (i64B d) = true := by
    first | with_reducible assumption | decide
  exact evR_calls (I := numI) (v := .bool true) (ctxLp_ok libBP_ok eqBP_ok fnsBP_ok (fun _ _ _ => lps_nil)) (by kernel_rfl) Try.func4 rfl lps_nil L rfl (all2_R (.cons rfl (.cons rfl (.cons rfl (.cons rfl (.cons rfl .nil)))))) (congrArg (fun b => some (Value.bool b)) V) _ (Nat.zero_le _) (pickL_ok (cd_cons k0 (cd_cons k3 (cd_cons p2 (cd_cons p3 (cd_cons k6 (cd_cons k10 (cd_cons p6 (cd_cons p7 (cd_cons p8 (cd_cons p9 (cd_cons k14 (cd_cons p11 (cd_cons p12 (cd_cons p13 (cd_cons p14 (cd_cons p15 (cd_cons p16 (cd_cons p17 (cd_cons p18 (cd_cons p19 (cd_cons k15 (cd_cons k16 (cd_cons p22 (cd_cons p23 (cd_cons p24 (cd_cons k17 (cd_cons p26 (cd_cons p27 (cd_cons p28 (cd_cons p29 (cd_cons p30 cd_nil))))))))))))))))))))))))))))))) _)
set_option maxRecDepth 100000 in
theorem bpr_w18 (a : Bd) (b : Bd) (q : Int) (n : Int) (d : Int) (W : World) (hq : i64B q = true) (hn : i64B n = true) (hd : i64B d = true) (k0 : (chkB a != 0) = false) (k3 : (a.u) = false) (k6 : (chkB b != 0) = false) (k10 : (b.u) = false) (k14 : (decide (q ≥ 1)) = true) (k15 : (cmpI b.lo 0 == cmpI b.hi 0) = true) (k16 : (cmpI b.lo 0 != 0) = false) (k20 : (decide (d ≥ 1)) = true) (k21 : (decide (n ≥ -1152921504606846976)) = true) (k22 : (decide (n ≤ 1152921504606846976)) = true) : Calls Try.prog 4 #[bV a, bV b, .int .i64 q, .int .i64 n, .int .i64 d] W fun e w' => e = .returned (.bool true) ∧ Below W.heap.size W w' := by
  have L := bpr_0000110111111 a b q n d
  have ka : knB a = true := kn_ok k0 k3
  obtain ⟨au, a1, a2, a3⟩ := knB_iff.1 ka
  obtain ⟨a4, a5⟩ := kn64 ka
  have a6 := (Dl.i64 a4).le (show 4 ≤ 20 by omega)
  have a7 := (Dl.i64 a5).le (show 4 ≤ 20 by omega)
  have kb : knB b = true := kn_ok k6 k10
  obtain ⟨bu, b1, b2, b3⟩ := knB_iff.1 kb
  obtain ⟨b4, b5⟩ := kn64 kb
  have b6 := (Dl.i64 b4).le (show 4 ≤ 20 by omega)
  have b7 := (Dl.i64 b5).le (show 4 ≤ 20 by omega)
  have q7 := (Dl.i64 hq).le (show 4 ≤ 20 by omega)
  have n7 := (Dl.i64 hn).le (show 4 ≤ 20 by omega)
  have d7 := (Dl.i64 hd).le (show 4 ≤ 20 by omega)
  have q1 : 1 ≤ q := by have := of_decide_eq_true k14; omega
  have eM : mulB a b q = rM a b q := mul_ra ka kb q1
  have oM : (okM a b q) = true := by
    show (okZ (zm (a.lo * b.lo)) (zm (q)) && okZ (zm (a.lo * b.hi)) (zm (q)) && okZ (zm (a.hi * b.lo)) (zm (q)) && okZ (zm (a.hi * b.hi)) (zm (q))) = true
    simp only [Bool.and_eq_true]
    exact ⟨⟨⟨zm_ok (by omega) (mul20 a4 b4) q7, zm_ok (by omega) (mul20 a4 b5) q7⟩, zm_ok (by omega) (mul20 a5 b4) q7⟩, zm_ok (by omega) (mul20 a5 b5) q7⟩
  have eD := div_no (a := a) (q := q) (.inr (.inr (has_sg kb (.inr k16))))
  have d1 : 1 ≤ d := by have := of_decide_eq_true k20; omega
  have n1 : inB n = true := inB_iff.2 ⟨by have := of_decide_eq_true k21; omega, of_decide_eq_true k22⟩
  have eS : scaB a n d = rS a n d := sca_ra ka n1 d1
  have oS : (okZ (zm (a.lo * n)) (zm (d)) && okZ (zm (a.hi * n)) (zm (d))) = true := by
    simp only [Bool.and_eq_true]
    exact ⟨zm_ok (by omega) (mul20 a4 hn) d7, zm_ok (by omega) (mul20 a5 hn) d7⟩
  have V : ((scaB a n d).lo == (rS a n d).lo && ((scaB a n d).hi == (rS a n d).hi && ((scaB a n d).u == (rS a n d).u && true))) = true := by
    rw [eS]; first | rfl | simp
  have p2 : (i64B a.lo) = true := by
    first | with_reducible assumption | decide
  have p3 : (i64B a.hi) = true := by
    first | with_reducible assumption | decide
  have p6 : (i64B b.lo) = true := by
    first | with_reducible assumption | decide
  have p7 : (i64B b.hi) = true := by
    first | with_reducible assumption | decide
  have p8 : (i64B q) = true := by
    first | with_reducible assumption | decide
  have p9 : (true) = true := by
    rfl
  have p11 : (decide (a.lo < 0) == decide (a.lo < 0)) = true := by
    first | exact eqB _ | exact beq_self_eq_true _
  have p12 : (decide (b.lo < 0) == decide (b.lo < 0)) = true := by
    first | exact eqB _ | exact beq_self_eq_true _
  have p13 : (szB a.lo) = true := by
    exact Dl.sz (k := 20) (by with_reducible assumption) (by omega)
  have p14 : (szB b.lo) = true := by
    exact Dl.sz (k := 20) (by with_reducible assumption) (by omega)
  have p15 : (decide (b.hi < 0) == decide (b.hi < 0)) = true := by
    first | exact eqB _ | exact beq_self_eq_true _
  have p16 : (szB b.hi) = true := by
    exact Dl.sz (k := 20) (by with_reducible assumption) (by omega)
  have p17 : (decide (a.hi < 0) == decide (a.hi < 0)) = true := by
    first | exact eqB _ | exact beq_self_eq_true _
  have p18 : (szB a.hi) = true := by
    exact Dl.sz (k := 20) (by with_reducible assumption) (by omega)
  have p19 : (okM a b q) = true := by
    exact oM
  have p25 : (i64B n) = true := by
    first | with_reducible assumption | decide
  have p26 : (decide (n < 0) == decide (n < 0)) = true := by
    first | exact eqB _ | exact beq_self_eq_true _
  have p27 : (szB n) = true := by
    exact Dl.sz (k := 20) (by with_reducible assumption) (by omega)
  have p28 : (i64B d) = true := by
    first | with_reducible assumption | decide
  have p29 : (okZ (zm (a.lo * n)) (zm (d)) && okZ (zm (a.hi * n)) (zm (d))) = true := by
    exact oS
  have p30 : ((mulB a b q).lo == (rM a b q).lo && ((mulB a b q).hi == (rM a b q).hi && ((mulB a b q).u == (rM a b q).u && true))) = true := by
    rw [eM]; first | rfl | simp
  have p31 : ((divB a b q).lo == 0 && ((divB a b q).hi == 0 && ((divB a b q).u == true && true))) = true := by
    rw [eD]; first | rfl | simp
  exact evR_calls (I := numI) (v := .bool true) (ctxLp_ok libBP_ok eqBP_ok fnsBP_ok (fun _ _ _ => lps_nil)) (by kernel_rfl) Try.func4 rfl lps_nil L rfl (all2_R (.cons rfl (.cons rfl (.cons rfl (.cons rfl (.cons rfl .nil)))))) (congrArg (fun b => some (Value.bool b)) V) _ (Nat.zero_le _) (pickL_ok (cd_cons k0 (cd_cons k3 (cd_cons p2 (cd_cons p3 (cd_cons k6 (cd_cons k10 (cd_cons p6 (cd_cons p7 (cd_cons p8 (cd_cons p9 (cd_cons k14 (cd_cons p11 (cd_cons p12 (cd_cons p13 (cd_cons p14 (cd_cons p15 (cd_cons p16 (cd_cons p17 (cd_cons p18 (cd_cons p19 (cd_cons k15 (cd_cons k16 (cd_cons k20 (cd_cons k21 (cd_cons k22 (cd_cons p25 (cd_cons p26 (cd_cons p27 (cd_cons p28 (cd_cons p29 (cd_cons p30 (cd_cons p31 cd_nil)))))))))))))))))))))))))))))))) _)
set_option maxRecDepth 100000 in
theorem bpr_w19 (a : Bd) (b : Bd) (q : Int) (n : Int) (d : Int) (W : World) (hq : i64B q = true) (hn : i64B n = true) (hd : i64B d = true) (k0 : (chkB a != 0) = false) (k3 : (a.u) = false) (k6 : (chkB b != 0) = false) (k10 : (b.u) = false) (k14 : (decide (q ≥ 1)) = true) (k15 : (cmpI b.lo 0 == cmpI b.hi 0) = true) (k16 : (cmpI b.lo 0 != 0) = false) (k20 : (decide (d ≥ 1)) = true) (k21 : (decide (n ≥ -1152921504606846976)) = true) (k22 : (decide (n ≤ 1152921504606846976)) = false) : Calls Try.prog 4 #[bV a, bV b, .int .i64 q, .int .i64 n, .int .i64 d] W fun e w' => e = .returned (.bool true) ∧ Below W.heap.size W w' := by
  have L := bpr_0000110110111 a b q n d
  have ka : knB a = true := kn_ok k0 k3
  obtain ⟨au, a1, a2, a3⟩ := knB_iff.1 ka
  obtain ⟨a4, a5⟩ := kn64 ka
  have a6 := (Dl.i64 a4).le (show 4 ≤ 20 by omega)
  have a7 := (Dl.i64 a5).le (show 4 ≤ 20 by omega)
  have kb : knB b = true := kn_ok k6 k10
  obtain ⟨bu, b1, b2, b3⟩ := knB_iff.1 kb
  obtain ⟨b4, b5⟩ := kn64 kb
  have b6 := (Dl.i64 b4).le (show 4 ≤ 20 by omega)
  have b7 := (Dl.i64 b5).le (show 4 ≤ 20 by omega)
  have q7 := (Dl.i64 hq).le (show 4 ≤ 20 by omega)
  have n7 := (Dl.i64 hn).le (show 4 ≤ 20 by omega)
  have d7 := (Dl.i64 hd).le (show 4 ≤ 20 by omega)
  have q1 : 1 ≤ q := by have := of_decide_eq_true k14; omega
  have eM : mulB a b q = rM a b q := mul_ra ka kb q1
  have oM : (okM a b q) = true := by
    show (okZ (zm (a.lo * b.lo)) (zm (q)) && okZ (zm (a.lo * b.hi)) (zm (q)) && okZ (zm (a.hi * b.lo)) (zm (q)) && okZ (zm (a.hi * b.hi)) (zm (q))) = true
    simp only [Bool.and_eq_true]
    exact ⟨⟨⟨zm_ok (by omega) (mul20 a4 b4) q7, zm_ok (by omega) (mul20 a4 b5) q7⟩, zm_ok (by omega) (mul20 a5 b4) q7⟩, zm_ok (by omega) (mul20 a5 b5) q7⟩
  have eD := div_no (a := a) (q := q) (.inr (.inr (has_sg kb (.inr k16))))
  have eS := sca_no' (a := a) (n := n) (d := d) (.inr (.inl (inB_no (by have := of_decide_eq_false k22; omega))))
  have V : ((scaB a n d).lo == 0 && ((scaB a n d).hi == 0 && ((scaB a n d).u == true && true))) = true := by
    rw [eS]; first | rfl | simp
  have p2 : (i64B a.lo) = true := by
    first | with_reducible assumption | decide
  have p3 : (i64B a.hi) = true := by
    first | with_reducible assumption | decide
  have p6 : (i64B b.lo) = true := by
    first | with_reducible assumption | decide
  have p7 : (i64B b.hi) = true := by
    first | with_reducible assumption | decide
  have p8 : (i64B q) = true := by
    first | with_reducible assumption | decide
  have p9 : (true) = true := by
    rfl
  have p11 : (decide (a.lo < 0) == decide (a.lo < 0)) = true := by
    first | exact eqB _ | exact beq_self_eq_true _
  have p12 : (decide (b.lo < 0) == decide (b.lo < 0)) = true := by
    first | exact eqB _ | exact beq_self_eq_true _
  have p13 : (szB a.lo) = true := by
    exact Dl.sz (k := 20) (by with_reducible assumption) (by omega)
  have p14 : (szB b.lo) = true := by
    exact Dl.sz (k := 20) (by with_reducible assumption) (by omega)
  have p15 : (decide (b.hi < 0) == decide (b.hi < 0)) = true := by
    first | exact eqB _ | exact beq_self_eq_true _
  have p16 : (szB b.hi) = true := by
    exact Dl.sz (k := 20) (by with_reducible assumption) (by omega)
  have p17 : (decide (a.hi < 0) == decide (a.hi < 0)) = true := by
    first | exact eqB _ | exact beq_self_eq_true _
  have p18 : (szB a.hi) = true := by
    exact Dl.sz (k := 20) (by with_reducible assumption) (by omega)
  have p19 : (okM a b q) = true := by
    exact oM
  have p25 : ((mulB a b q).lo == (rM a b q).lo && ((mulB a b q).hi == (rM a b q).hi && ((mulB a b q).u == (rM a b q).u && true))) = true := by
    rw [eM]; first | rfl | simp
  have p26 : ((divB a b q).lo == 0 && ((divB a b q).hi == 0 && ((divB a b q).u == true && true))) = true := by
    rw [eD]; first | rfl | simp
  have p27 : (i64B n) = true := by
    first | with_reducible assumption | decide
  have p28 : (i64B d) = true := by
    first | with_reducible assumption | decide
  exact evR_calls (I := numI) (v := .bool true) (ctxLp_ok libBP_ok eqBP_ok fnsBP_ok (fun _ _ _ => lps_nil)) (by kernel_rfl) Try.func4 rfl lps_nil L rfl (all2_R (.cons rfl (.cons rfl (.cons rfl (.cons rfl (.cons rfl .nil)))))) (congrArg (fun b => some (Value.bool b)) V) _ (Nat.zero_le _) (pickL_ok (cd_cons k0 (cd_cons k3 (cd_cons p2 (cd_cons p3 (cd_cons k6 (cd_cons k10 (cd_cons p6 (cd_cons p7 (cd_cons p8 (cd_cons p9 (cd_cons k14 (cd_cons p11 (cd_cons p12 (cd_cons p13 (cd_cons p14 (cd_cons p15 (cd_cons p16 (cd_cons p17 (cd_cons p18 (cd_cons p19 (cd_cons k15 (cd_cons k16 (cd_cons k20 (cd_cons k21 (cd_cons k22 (cd_cons p25 (cd_cons p26 (cd_cons p27 (cd_cons p28 cd_nil))))))))))))))))))))))))))))) _)
set_option maxRecDepth 100000 in
theorem bpr_w20 (a : Bd) (b : Bd) (q : Int) (n : Int) (d : Int) (W : World) (hq : i64B q = true) (hn : i64B n = true) (hd : i64B d = true) (k0 : (chkB a != 0) = false) (k3 : (a.u) = false) (k6 : (chkB b != 0) = false) (k10 : (b.u) = false) (k14 : (decide (q ≥ 1)) = true) (k15 : (cmpI b.lo 0 == cmpI b.hi 0) = true) (k16 : (cmpI b.lo 0 != 0) = false) (k20 : (decide (d ≥ 1)) = true) (k21 : (decide (n ≥ -1152921504606846976)) = false) : Calls Try.prog 4 #[bV a, bV b, .int .i64 q, .int .i64 n, .int .i64 d] W fun e w' => e = .returned (.bool true) ∧ Below W.heap.size W w' := by
  have L := bpr_000011010111 a b q n d
  have ka : knB a = true := kn_ok k0 k3
  obtain ⟨au, a1, a2, a3⟩ := knB_iff.1 ka
  obtain ⟨a4, a5⟩ := kn64 ka
  have a6 := (Dl.i64 a4).le (show 4 ≤ 20 by omega)
  have a7 := (Dl.i64 a5).le (show 4 ≤ 20 by omega)
  have kb : knB b = true := kn_ok k6 k10
  obtain ⟨bu, b1, b2, b3⟩ := knB_iff.1 kb
  obtain ⟨b4, b5⟩ := kn64 kb
  have b6 := (Dl.i64 b4).le (show 4 ≤ 20 by omega)
  have b7 := (Dl.i64 b5).le (show 4 ≤ 20 by omega)
  have q7 := (Dl.i64 hq).le (show 4 ≤ 20 by omega)
  have n7 := (Dl.i64 hn).le (show 4 ≤ 20 by omega)
  have d7 := (Dl.i64 hd).le (show 4 ≤ 20 by omega)
  have q1 : 1 ≤ q := by have := of_decide_eq_true k14; omega
  have eM : mulB a b q = rM a b q := mul_ra ka kb q1
  have oM : (okM a b q) = true := by
    show (okZ (zm (a.lo * b.lo)) (zm (q)) && okZ (zm (a.lo * b.hi)) (zm (q)) && okZ (zm (a.hi * b.lo)) (zm (q)) && okZ (zm (a.hi * b.hi)) (zm (q))) = true
    simp only [Bool.and_eq_true]
    exact ⟨⟨⟨zm_ok (by omega) (mul20 a4 b4) q7, zm_ok (by omega) (mul20 a4 b5) q7⟩, zm_ok (by omega) (mul20 a5 b4) q7⟩, zm_ok (by omega) (mul20 a5 b5) q7⟩
  have eD := div_no (a := a) (q := q) (.inr (.inr (has_sg kb (.inr k16))))
  have eS := sca_no' (a := a) (n := n) (d := d) (.inr (.inl (inB_no (by have := of_decide_eq_false k21; omega))))
  have V : ((scaB a n d).lo == 0 && ((scaB a n d).hi == 0 && ((scaB a n d).u == true && true))) = true := by
    rw [eS]; first | rfl | simp
  have p2 : (i64B a.lo) = true := by
    first | with_reducible assumption | decide
  have p3 : (i64B a.hi) = true := by
    first | with_reducible assumption | decide
  have p6 : (i64B b.lo) = true := by
    first | with_reducible assumption | decide
  have p7 : (i64B b.hi) = true := by
    first | with_reducible assumption | decide
  have p8 : (i64B q) = true := by
    first | with_reducible assumption | decide
  have p9 : (true) = true := by
    rfl
  have p11 : (decide (a.lo < 0) == decide (a.lo < 0)) = true := by
    first | exact eqB _ | exact beq_self_eq_true _
  have p12 : (decide (b.lo < 0) == decide (b.lo < 0)) = true := by
    first | exact eqB _ | exact beq_self_eq_true _
  have p13 : (szB a.lo) = true := by
    exact Dl.sz (k := 20) (by with_reducible assumption) (by omega)
  have p14 : (szB b.lo) = true := by
    exact Dl.sz (k := 20) (by with_reducible assumption) (by omega)
  have p15 : (decide (b.hi < 0) == decide (b.hi < 0)) = true := by
    first | exact eqB _ | exact beq_self_eq_true _
  have p16 : (szB b.hi) = true := by
    exact Dl.sz (k := 20) (by with_reducible assumption) (by omega)
  have p17 : (decide (a.hi < 0) == decide (a.hi < 0)) = true := by
    first | exact eqB _ | exact beq_self_eq_true _
  have p18 : (szB a.hi) = true := by
    exact Dl.sz (k := 20) (by with_reducible assumption) (by omega)
  have p19 : (okM a b q) = true := by
    exact oM
  have p24 : (false) = false := by
    rfl
  have p25 : ((mulB a b q).lo == (rM a b q).lo && ((mulB a b q).hi == (rM a b q).hi && ((mulB a b q).u == (rM a b q).u && true))) = true := by
    rw [eM]; first | rfl | simp
  have p26 : ((divB a b q).lo == 0 && ((divB a b q).hi == 0 && ((divB a b q).u == true && true))) = true := by
    rw [eD]; first | rfl | simp
  have p27 : (i64B n) = true := by
    first | with_reducible assumption | decide
  have p28 : (i64B d) = true := by
    first | with_reducible assumption | decide
  exact evR_calls (I := numI) (v := .bool true) (ctxLp_ok libBP_ok eqBP_ok fnsBP_ok (fun _ _ _ => lps_nil)) (by kernel_rfl) Try.func4 rfl lps_nil L rfl (all2_R (.cons rfl (.cons rfl (.cons rfl (.cons rfl (.cons rfl .nil)))))) (congrArg (fun b => some (Value.bool b)) V) _ (Nat.zero_le _) (pickL_ok (cd_cons k0 (cd_cons k3 (cd_cons p2 (cd_cons p3 (cd_cons k6 (cd_cons k10 (cd_cons p6 (cd_cons p7 (cd_cons p8 (cd_cons p9 (cd_cons k14 (cd_cons p11 (cd_cons p12 (cd_cons p13 (cd_cons p14 (cd_cons p15 (cd_cons p16 (cd_cons p17 (cd_cons p18 (cd_cons p19 (cd_cons k15 (cd_cons k16 (cd_cons k20 (cd_cons k21 (cd_cons p24 (cd_cons p25 (cd_cons p26 (cd_cons p27 (cd_cons p28 cd_nil))))))))))))))))))))))))))))) _)
set_option maxRecDepth 100000 in
theorem bpr_w21 (a : Bd) (b : Bd) (q : Int) (n : Int) (d : Int) (W : World) (hq : i64B q = true) (hn : i64B n = true) (hd : i64B d = true) (k0 : (chkB a != 0) = false) (k3 : (a.u) = false) (k6 : (chkB b != 0) = false) (k10 : (b.u) = false) (k14 : (decide (q ≥ 1)) = true) (k15 : (cmpI b.lo 0 == cmpI b.hi 0) = true) (k16 : (cmpI b.lo 0 != 0) = false) (k20 : (decide (d ≥ 1)) = false) : Calls Try.prog 4 #[bV a, bV b, .int .i64 q, .int .i64 n, .int .i64 d] W fun e w' => e = .returned (.bool true) ∧ Below W.heap.size W w' := by
  have L := bpr_00001100111 a b q n d
  have ka : knB a = true := kn_ok k0 k3
  obtain ⟨au, a1, a2, a3⟩ := knB_iff.1 ka
  obtain ⟨a4, a5⟩ := kn64 ka
  have a6 := (Dl.i64 a4).le (show 4 ≤ 20 by omega)
  have a7 := (Dl.i64 a5).le (show 4 ≤ 20 by omega)
  have kb : knB b = true := kn_ok k6 k10
  obtain ⟨bu, b1, b2, b3⟩ := knB_iff.1 kb
  obtain ⟨b4, b5⟩ := kn64 kb
  have b6 := (Dl.i64 b4).le (show 4 ≤ 20 by omega)
  have b7 := (Dl.i64 b5).le (show 4 ≤ 20 by omega)
  have q7 := (Dl.i64 hq).le (show 4 ≤ 20 by omega)
  have n7 := (Dl.i64 hn).le (show 4 ≤ 20 by omega)
  have d7 := (Dl.i64 hd).le (show 4 ≤ 20 by omega)
  have q1 : 1 ≤ q := by have := of_decide_eq_true k14; omega
  have eM : mulB a b q = rM a b q := mul_ra ka kb q1
  have oM : (okM a b q) = true := by
    show (okZ (zm (a.lo * b.lo)) (zm (q)) && okZ (zm (a.lo * b.hi)) (zm (q)) && okZ (zm (a.hi * b.lo)) (zm (q)) && okZ (zm (a.hi * b.hi)) (zm (q))) = true
    simp only [Bool.and_eq_true]
    exact ⟨⟨⟨zm_ok (by omega) (mul20 a4 b4) q7, zm_ok (by omega) (mul20 a4 b5) q7⟩, zm_ok (by omega) (mul20 a5 b4) q7⟩, zm_ok (by omega) (mul20 a5 b5) q7⟩
  have eD := div_no (a := a) (q := q) (.inr (.inr (has_sg kb (.inr k16))))
  have eS := sca_no' (a := a) (n := n) (d := d) (.inr (.inr (by have := of_decide_eq_false k20; omega)))
  have V : ((scaB a n d).lo == 0 && ((scaB a n d).hi == 0 && ((scaB a n d).u == true && true))) = true := by
    rw [eS]; first | rfl | simp
  have p2 : (i64B a.lo) = true := by
    first | with_reducible assumption | decide
  have p3 : (i64B a.hi) = true := by
    first | with_reducible assumption | decide
  have p6 : (i64B b.lo) = true := by
    first | with_reducible assumption | decide
  have p7 : (i64B b.hi) = true := by
    first | with_reducible assumption | decide
  have p8 : (i64B q) = true := by
    first | with_reducible assumption | decide
  have p9 : (true) = true := by
    rfl
  have p11 : (decide (a.lo < 0) == decide (a.lo < 0)) = true := by
    first | exact eqB _ | exact beq_self_eq_true _
  have p12 : (decide (b.lo < 0) == decide (b.lo < 0)) = true := by
    first | exact eqB _ | exact beq_self_eq_true _
  have p13 : (szB a.lo) = true := by
    exact Dl.sz (k := 20) (by with_reducible assumption) (by omega)
  have p14 : (szB b.lo) = true := by
    exact Dl.sz (k := 20) (by with_reducible assumption) (by omega)
  have p15 : (decide (b.hi < 0) == decide (b.hi < 0)) = true := by
    first | exact eqB _ | exact beq_self_eq_true _
  have p16 : (szB b.hi) = true := by
    exact Dl.sz (k := 20) (by with_reducible assumption) (by omega)
  have p17 : (decide (a.hi < 0) == decide (a.hi < 0)) = true := by
    first | exact eqB _ | exact beq_self_eq_true _
  have p18 : (szB a.hi) = true := by
    exact Dl.sz (k := 20) (by with_reducible assumption) (by omega)
  have p19 : (okM a b q) = true := by
    exact oM
  have p23 : (false) = false := by
    rfl
  have p24 : ((mulB a b q).lo == (rM a b q).lo && ((mulB a b q).hi == (rM a b q).hi && ((mulB a b q).u == (rM a b q).u && true))) = true := by
    rw [eM]; first | rfl | simp
  have p25 : ((divB a b q).lo == 0 && ((divB a b q).hi == 0 && ((divB a b q).u == true && true))) = true := by
    rw [eD]; first | rfl | simp
  have p26 : (i64B n) = true := by
    first | with_reducible assumption | decide
  have p27 : (i64B d) = true := by
    first | with_reducible assumption | decide
  exact evR_calls (I := numI) (v := .bool true) (ctxLp_ok libBP_ok eqBP_ok fnsBP_ok (fun _ _ _ => lps_nil)) (by kernel_rfl) Try.func4 rfl lps_nil L rfl (all2_R (.cons rfl (.cons rfl (.cons rfl (.cons rfl (.cons rfl .nil)))))) (congrArg (fun b => some (Value.bool b)) V) _ (Nat.zero_le _) (pickL_ok (cd_cons k0 (cd_cons k3 (cd_cons p2 (cd_cons p3 (cd_cons k6 (cd_cons k10 (cd_cons p6 (cd_cons p7 (cd_cons p8 (cd_cons p9 (cd_cons k14 (cd_cons p11 (cd_cons p12 (cd_cons p13 (cd_cons p14 (cd_cons p15 (cd_cons p16 (cd_cons p17 (cd_cons p18 (cd_cons p19 (cd_cons k15 (cd_cons k16 (cd_cons k20 (cd_cons p23 (cd_cons p24 (cd_cons p25 (cd_cons p26 (cd_cons p27 cd_nil)))))))))))))))))))))))))))) _)
set_option maxRecDepth 100000 in
theorem bpr_w22 (a : Bd) (b : Bd) (q : Int) (n : Int) (d : Int) (W : World) (hq : i64B q = true) (hn : i64B n = true) (hd : i64B d = true) (k0 : (chkB a != 0) = false) (k3 : (a.u) = false) (k6 : (chkB b != 0) = false) (k10 : (b.u) = false) (k14 : (decide (q ≥ 1)) = true) (k15 : (cmpI b.lo 0 == cmpI b.hi 0) = false) (k23 : (decide (d ≥ 1)) = true) (k24 : (decide (n ≥ -1152921504606846976)) = true) (k25 : (decide (n ≤ 1152921504606846976)) = true) : Calls Try.prog 4 #[bV a, bV b, .int .i64 q, .int .i64 n, .int .i64 d] W fun e w' => e = .returned (.bool true) ∧ Below W.heap.size W w' := by
  have L := bpr_000010111111 a b q n d
  have ka : knB a = true := kn_ok k0 k3
  obtain ⟨au, a1, a2, a3⟩ := knB_iff.1 ka
  obtain ⟨a4, a5⟩ := kn64 ka
  have a6 := (Dl.i64 a4).le (show 4 ≤ 20 by omega)
  have a7 := (Dl.i64 a5).le (show 4 ≤ 20 by omega)
  have kb : knB b = true := kn_ok k6 k10
  obtain ⟨bu, b1, b2, b3⟩ := knB_iff.1 kb
  obtain ⟨b4, b5⟩ := kn64 kb
  have b6 := (Dl.i64 b4).le (show 4 ≤ 20 by omega)
  have b7 := (Dl.i64 b5).le (show 4 ≤ 20 by omega)
  have q7 := (Dl.i64 hq).le (show 4 ≤ 20 by omega)
  have n7 := (Dl.i64 hn).le (show 4 ≤ 20 by omega)
  have d7 := (Dl.i64 hd).le (show 4 ≤ 20 by omega)
  have q1 : 1 ≤ q := by have := of_decide_eq_true k14; omega
  have eM : mulB a b q = rM a b q := mul_ra ka kb q1
  have oM : (okM a b q) = true := by
    show (okZ (zm (a.lo * b.lo)) (zm (q)) && okZ (zm (a.lo * b.hi)) (zm (q)) && okZ (zm (a.hi * b.lo)) (zm (q)) && okZ (zm (a.hi * b.hi)) (zm (q))) = true
    simp only [Bool.and_eq_true]
    exact ⟨⟨⟨zm_ok (by omega) (mul20 a4 b4) q7, zm_ok (by omega) (mul20 a4 b5) q7⟩, zm_ok (by omega) (mul20 a5 b4) q7⟩, zm_ok (by omega) (mul20 a5 b5) q7⟩
  have eD := div_no (a := a) (q := q) (.inr (.inr (has_sg kb (.inl k15))))
  have d1 : 1 ≤ d := by have := of_decide_eq_true k23; omega
  have n1 : inB n = true := inB_iff.2 ⟨by have := of_decide_eq_true k24; omega, of_decide_eq_true k25⟩
  have eS : scaB a n d = rS a n d := sca_ra ka n1 d1
  have oS : (okZ (zm (a.lo * n)) (zm (d)) && okZ (zm (a.hi * n)) (zm (d))) = true := by
    simp only [Bool.and_eq_true]
    exact ⟨zm_ok (by omega) (mul20 a4 hn) d7, zm_ok (by omega) (mul20 a5 hn) d7⟩
  have V : ((scaB a n d).lo == (rS a n d).lo && ((scaB a n d).hi == (rS a n d).hi && ((scaB a n d).u == (rS a n d).u && true))) = true := by
    rw [eS]; first | rfl | simp
  have p2 : (i64B a.lo) = true := by
    first | with_reducible assumption | decide
  have p3 : (i64B a.hi) = true := by
    first | with_reducible assumption | decide
  have p6 : (i64B b.lo) = true := by
    first | with_reducible assumption | decide
  have p7 : (i64B b.hi) = true := by
    first | with_reducible assumption | decide
  have p8 : (i64B q) = true := by
    first | with_reducible assumption | decide
  have p9 : (true) = true := by
    rfl
  have p11 : (decide (a.lo < 0) == decide (a.lo < 0)) = true := by
    first | exact eqB _ | exact beq_self_eq_true _
  have p12 : (decide (b.lo < 0) == decide (b.lo < 0)) = true := by
    first | exact eqB _ | exact beq_self_eq_true _
  have p13 : (szB a.lo) = true := by
    exact Dl.sz (k := 20) (by with_reducible assumption) (by omega)
  have p14 : (szB b.lo) = true := by
    exact Dl.sz (k := 20) (by with_reducible assumption) (by omega)
  have p15 : (decide (b.hi < 0) == decide (b.hi < 0)) = true := by
    first | exact eqB _ | exact beq_self_eq_true _
  have p16 : (szB b.hi) = true := by
    exact Dl.sz (k := 20) (by with_reducible assumption) (by omega)
  have p17 : (decide (a.hi < 0) == decide (a.hi < 0)) = true := by
    first | exact eqB _ | exact beq_self_eq_true _
  have p18 : (szB a.hi) = true := by
    exact Dl.sz (k := 20) (by with_reducible assumption) (by omega)
  have p19 : (okM a b q) = true := by
    exact oM
  have p21 : (false) = false := by
    rfl
  have p25 : (i64B n) = true := by
    first | with_reducible assumption | decide
  have p26 : (decide (n < 0) == decide (n < 0)) = true := by
    first | exact eqB _ | exact beq_self_eq_true _
  have p27 : (szB n) = true := by
    exact Dl.sz (k := 20) (by with_reducible assumption) (by omega)
  have p28 : (i64B d) = true := by
    first | with_reducible assumption | decide
  have p29 : (okZ (zm (a.lo * n)) (zm (d)) && okZ (zm (a.hi * n)) (zm (d))) = true := by
    exact oS
  have p30 : ((mulB a b q).lo == (rM a b q).lo && ((mulB a b q).hi == (rM a b q).hi && ((mulB a b q).u == (rM a b q).u && true))) = true := by
    rw [eM]; first | rfl | simp
  have p31 : ((divB a b q).lo == 0 && ((divB a b q).hi == 0 && ((divB a b q).u == true && true))) = true := by
    rw [eD]; first | rfl | simp
  exact evR_calls (I := numI) (v := .bool true) (ctxLp_ok libBP_ok eqBP_ok fnsBP_ok (fun _ _ _ => lps_nil)) (by kernel_rfl) Try.func4 rfl lps_nil L rfl (all2_R (.cons rfl (.cons rfl (.cons rfl (.cons rfl (.cons rfl .nil)))))) (congrArg (fun b => some (Value.bool b)) V) _ (Nat.zero_le _) (pickL_ok (cd_cons k0 (cd_cons k3 (cd_cons p2 (cd_cons p3 (cd_cons k6 (cd_cons k10 (cd_cons p6 (cd_cons p7 (cd_cons p8 (cd_cons p9 (cd_cons k14 (cd_cons p11 (cd_cons p12 (cd_cons p13 (cd_cons p14 (cd_cons p15 (cd_cons p16 (cd_cons p17 (cd_cons p18 (cd_cons p19 (cd_cons k15 (cd_cons p21 (cd_cons k23 (cd_cons k24 (cd_cons k25 (cd_cons p25 (cd_cons p26 (cd_cons p27 (cd_cons p28 (cd_cons p29 (cd_cons p30 (cd_cons p31 cd_nil)))))))))))))))))))))))))))))))) _)
set_option maxRecDepth 100000 in
theorem bpr_w23 (a : Bd) (b : Bd) (q : Int) (n : Int) (d : Int) (W : World) (hq : i64B q = true) (hn : i64B n = true) (hd : i64B d = true) (k0 : (chkB a != 0) = false) (k3 : (a.u) = false) (k6 : (chkB b != 0) = false) (k10 : (b.u) = false) (k14 : (decide (q ≥ 1)) = true) (k15 : (cmpI b.lo 0 == cmpI b.hi 0) = false) (k23 : (decide (d ≥ 1)) = true) (k24 : (decide (n ≥ -1152921504606846976)) = true) (k25 : (decide (n ≤ 1152921504606846976)) = false) : Calls Try.prog 4 #[bV a, bV b, .int .i64 q, .int .i64 n, .int .i64 d] W fun e w' => e = .returned (.bool true) ∧ Below W.heap.size W w' := by
  have L := bpr_000010110111 a b q n d
  have ka : knB a = true := kn_ok k0 k3
  obtain ⟨au, a1, a2, a3⟩ := knB_iff.1 ka
  obtain ⟨a4, a5⟩ := kn64 ka
  have a6 := (Dl.i64 a4).le (show 4 ≤ 20 by omega)
  have a7 := (Dl.i64 a5).le (show 4 ≤ 20 by omega)
  have kb : knB b = true := kn_ok k6 k10
  obtain ⟨bu, b1, b2, b3⟩ := knB_iff.1 kb
  obtain ⟨b4, b5⟩ := kn64 kb
  have b6 := (Dl.i64 b4).le (show 4 ≤ 20 by omega)
  have b7 := (Dl.i64 b5).le (show 4 ≤ 20 by omega)
  have q7 := (Dl.i64 hq).le (show 4 ≤ 20 by omega)
  have n7 := (Dl.i64 hn).le (show 4 ≤ 20 by omega)
  have d7 := (Dl.i64 hd).le (show 4 ≤ 20 by omega)
  have q1 : 1 ≤ q := by have := of_decide_eq_true k14; omega
  have eM : mulB a b q = rM a b q := mul_ra ka kb q1
  have oM : (okM a b q) = true := by
    show (okZ (zm (a.lo * b.lo)) (zm (q)) && okZ (zm (a.lo * b.hi)) (zm (q)) && okZ (zm (a.hi * b.lo)) (zm (q)) && okZ (zm (a.hi * b.hi)) (zm (q))) = true
    simp only [Bool.and_eq_true]
    exact ⟨⟨⟨zm_ok (by omega) (mul20 a4 b4) q7, zm_ok (by omega) (mul20 a4 b5) q7⟩, zm_ok (by omega) (mul20 a5 b4) q7⟩, zm_ok (by omega) (mul20 a5 b5) q7⟩
  have eD := div_no (a := a) (q := q) (.inr (.inr (has_sg kb (.inl k15))))
  have eS := sca_no' (a := a) (n := n) (d := d) (.inr (.inl (inB_no (by have := of_decide_eq_false k25; omega))))
  have V : ((scaB a n d).lo == 0 && ((scaB a n d).hi == 0 && ((scaB a n d).u == true && true))) = true := by
    rw [eS]; first | rfl | simp
  have p2 : (i64B a.lo) = true := by
    first | with_reducible assumption | decide
  have p3 : (i64B a.hi) = true := by
    first | with_reducible assumption | decide
  have p6 : (i64B b.lo) = true := by
    first | with_reducible assumption | decide
  have p7 : (i64B b.hi) = true := by
    first | with_reducible assumption | decide
  have p8 : (i64B q) = true := by
    first | with_reducible assumption | decide
  have p9 : (true) = true := by
    rfl
  have p11 : (decide (a.lo < 0) == decide (a.lo < 0)) = true := by
    first | exact eqB _ | exact beq_self_eq_true _
  have p12 : (decide (b.lo < 0) == decide (b.lo < 0)) = true := by
    first | exact eqB _ | exact beq_self_eq_true _
  have p13 : (szB a.lo) = true := by
    exact Dl.sz (k := 20) (by with_reducible assumption) (by omega)
  have p14 : (szB b.lo) = true := by
    exact Dl.sz (k := 20) (by with_reducible assumption) (by omega)
  have p15 : (decide (b.hi < 0) == decide (b.hi < 0)) = true := by
    first | exact eqB _ | exact beq_self_eq_true _
  have p16 : (szB b.hi) = true := by
    exact Dl.sz (k := 20) (by with_reducible assumption) (by omega)
  have p17 : (decide (a.hi < 0) == decide (a.hi < 0)) = true := by
    first | exact eqB _ | exact beq_self_eq_true _
  have p18 : (szB a.hi) = true := by
    exact Dl.sz (k := 20) (by with_reducible assumption) (by omega)
  have p19 : (okM a b q) = true := by
    exact oM
  have p21 : (false) = false := by
    rfl
  have p25 : ((mulB a b q).lo == (rM a b q).lo && ((mulB a b q).hi == (rM a b q).hi && ((mulB a b q).u == (rM a b q).u && true))) = true := by
    rw [eM]; first | rfl | simp
  have p26 : ((divB a b q).lo == 0 && ((divB a b q).hi == 0 && ((divB a b q).u == true && true))) = true := by
    rw [eD]; first | rfl | simp
  have p27 : (i64B n) = true := by
    first | with_reducible assumption | decide
  have p28 : (i64B d) = true := by
    first | with_reducible assumption | decide
  exact evR_calls (I := numI) (v := .bool true) (ctxLp_ok libBP_ok eqBP_ok fnsBP_ok (fun _ _ _ => lps_nil)) (by kernel_rfl) Try.func4 rfl lps_nil L rfl (all2_R (.cons rfl (.cons rfl (.cons rfl (.cons rfl (.cons rfl .nil)))))) (congrArg (fun b => some (Value.bool b)) V) _ (Nat.zero_le _) (pickL_ok (cd_cons k0 (cd_cons k3 (cd_cons p2 (cd_cons p3 (cd_cons k6 (cd_cons k10 (cd_cons p6 (cd_cons p7 (cd_cons p8 (cd_cons p9 (cd_cons k14 (cd_cons p11 (cd_cons p12 (cd_cons p13 (cd_cons p14 (cd_cons p15 (cd_cons p16 (cd_cons p17 (cd_cons p18 (cd_cons p19 (cd_cons k15 (cd_cons p21 (cd_cons k23 (cd_cons k24 (cd_cons k25 (cd_cons p25 (cd_cons p26 (cd_cons p27 (cd_cons p28 cd_nil))))))))))))))))))))))))))))) _)
set_option maxRecDepth 100000 in
theorem bpr_w24 (a : Bd) (b : Bd) (q : Int) (n : Int) (d : Int) (W : World) (hq : i64B q = true) (hn : i64B n = true) (hd : i64B d = true) (k0 : (chkB a != 0) = false) (k3 : (a.u) = false) (k6 : (chkB b != 0) = false) (k10 : (b.u) = false) (k14 : (decide (q ≥ 1)) = true) (k15 : (cmpI b.lo 0 == cmpI b.hi 0) = false) (k23 : (decide (d ≥ 1)) = true) (k24 : (decide (n ≥ -1152921504606846976)) = false) : Calls Try.prog 4 #[bV a, bV b, .int .i64 q, .int .i64 n, .int .i64 d] W fun e w' => e = .returned (.bool true) ∧ Below W.heap.size W w' := by
  have L := bpr_00001010111 a b q n d
  have ka : knB a = true := kn_ok k0 k3
  obtain ⟨au, a1, a2, a3⟩ := knB_iff.1 ka
  obtain ⟨a4, a5⟩ := kn64 ka
  have a6 := (Dl.i64 a4).le (show 4 ≤ 20 by omega)
  have a7 := (Dl.i64 a5).le (show 4 ≤ 20 by omega)
  have kb : knB b = true := kn_ok k6 k10
  obtain ⟨bu, b1, b2, b3⟩ := knB_iff.1 kb
  obtain ⟨b4, b5⟩ := kn64 kb
  have b6 := (Dl.i64 b4).le (show 4 ≤ 20 by omega)
  have b7 := (Dl.i64 b5).le (show 4 ≤ 20 by omega)
  have q7 := (Dl.i64 hq).le (show 4 ≤ 20 by omega)
  have n7 := (Dl.i64 hn).le (show 4 ≤ 20 by omega)
  have d7 := (Dl.i64 hd).le (show 4 ≤ 20 by omega)
  have q1 : 1 ≤ q := by have := of_decide_eq_true k14; omega
  have eM : mulB a b q = rM a b q := mul_ra ka kb q1
  have oM : (okM a b q) = true := by
    show (okZ (zm (a.lo * b.lo)) (zm (q)) && okZ (zm (a.lo * b.hi)) (zm (q)) && okZ (zm (a.hi * b.lo)) (zm (q)) && okZ (zm (a.hi * b.hi)) (zm (q))) = true
    simp only [Bool.and_eq_true]
    exact ⟨⟨⟨zm_ok (by omega) (mul20 a4 b4) q7, zm_ok (by omega) (mul20 a4 b5) q7⟩, zm_ok (by omega) (mul20 a5 b4) q7⟩, zm_ok (by omega) (mul20 a5 b5) q7⟩
  have eD := div_no (a := a) (q := q) (.inr (.inr (has_sg kb (.inl k15))))
  have eS := sca_no' (a := a) (n := n) (d := d) (.inr (.inl (inB_no (by have := of_decide_eq_false k24; omega))))
  have V : ((scaB a n d).lo == 0 && ((scaB a n d).hi == 0 && ((scaB a n d).u == true && true))) = true := by
    rw [eS]; first | rfl | simp
  have p2 : (i64B a.lo) = true := by
    first | with_reducible assumption | decide
  have p3 : (i64B a.hi) = true := by
    first | with_reducible assumption | decide
  have p6 : (i64B b.lo) = true := by
    first | with_reducible assumption | decide
  have p7 : (i64B b.hi) = true := by
    first | with_reducible assumption | decide
  have p8 : (i64B q) = true := by
    first | with_reducible assumption | decide
  have p9 : (true) = true := by
    rfl
  have p11 : (decide (a.lo < 0) == decide (a.lo < 0)) = true := by
    first | exact eqB _ | exact beq_self_eq_true _
  have p12 : (decide (b.lo < 0) == decide (b.lo < 0)) = true := by
    first | exact eqB _ | exact beq_self_eq_true _
  have p13 : (szB a.lo) = true := by
    exact Dl.sz (k := 20) (by with_reducible assumption) (by omega)
  have p14 : (szB b.lo) = true := by
    exact Dl.sz (k := 20) (by with_reducible assumption) (by omega)
  have p15 : (decide (b.hi < 0) == decide (b.hi < 0)) = true := by
    first | exact eqB _ | exact beq_self_eq_true _
  have p16 : (szB b.hi) = true := by
    exact Dl.sz (k := 20) (by with_reducible assumption) (by omega)
  have p17 : (decide (a.hi < 0) == decide (a.hi < 0)) = true := by
    first | exact eqB _ | exact beq_self_eq_true _
  have p18 : (szB a.hi) = true := by
    exact Dl.sz (k := 20) (by with_reducible assumption) (by omega)
  have p19 : (okM a b q) = true := by
    exact oM
  have p21 : (false) = false := by
    rfl
  have p24 : ((mulB a b q).lo == (rM a b q).lo && ((mulB a b q).hi == (rM a b q).hi && ((mulB a b q).u == (rM a b q).u && true))) = true := by
    rw [eM]; first | rfl | simp
  have p25 : ((divB a b q).lo == 0 && ((divB a b q).hi == 0 && ((divB a b q).u == true && true))) = true := by
    rw [eD]; first | rfl | simp
  have p26 : (i64B n) = true := by
    first | with_reducible assumption | decide
  have p27 : (i64B d) = true := by
    first | with_reducible assumption | decide
  exact evR_calls (I := numI) (v := .bool true) (ctxLp_ok libBP_ok eqBP_ok fnsBP_ok (fun _ _ _ => lps_nil)) (by kernel_rfl) Try.func4 rfl lps_nil L rfl (all2_R (.cons rfl (.cons rfl (.cons rfl (.cons rfl (.cons rfl .nil)))))) (congrArg (fun b => some (Value.bool b)) V) _ (Nat.zero_le _) (pickL_ok (cd_cons k0 (cd_cons k3 (cd_cons p2 (cd_cons p3 (cd_cons k6 (cd_cons k10 (cd_cons p6 (cd_cons p7 (cd_cons p8 (cd_cons p9 (cd_cons k14 (cd_cons p11 (cd_cons p12 (cd_cons p13 (cd_cons p14 (cd_cons p15 (cd_cons p16 (cd_cons p17 (cd_cons p18 (cd_cons p19 (cd_cons k15 (cd_cons p21 (cd_cons k23 (cd_cons k24 (cd_cons p24 (cd_cons p25 (cd_cons p26 (cd_cons p27 cd_nil)))))))))))))))))))))))))))) _)
set_option maxRecDepth 100000 in
theorem bpr_w25 (a : Bd) (b : Bd) (q : Int) (n : Int) (d : Int) (W : World) (hq : i64B q = true) (hn : i64B n = true) (hd : i64B d = true) (k0 : (chkB a != 0) = false) (k3 : (a.u) = false) (k6 : (chkB b != 0) = false) (k10 : (b.u) = false) (k14 : (decide (q ≥ 1)) = true) (k15 : (cmpI b.lo 0 == cmpI b.hi 0) = false) (k23 : (decide (d ≥ 1)) = false) : Calls Try.prog 4 #[bV a, bV b, .int .i64 q, .int .i64 n, .int .i64 d] W fun e w' => e = .returned (.bool true) ∧ Below W.heap.size W w' := by
  have L := bpr_0000100111 a b q n d
  have ka : knB a = true := kn_ok k0 k3
  obtain ⟨au, a1, a2, a3⟩ := knB_iff.1 ka
  obtain ⟨a4, a5⟩ := kn64 ka
  have a6 := (Dl.i64 a4).le (show 4 ≤ 20 by omega)
  have a7 := (Dl.i64 a5).le (show 4 ≤ 20 by omega)
  have kb : knB b = true := kn_ok k6 k10
  obtain ⟨bu, b1, b2, b3⟩ := knB_iff.1 kb
  obtain ⟨b4, b5⟩ := kn64 kb
  have b6 := (Dl.i64 b4).le (show 4 ≤ 20 by omega)
  have b7 := (Dl.i64 b5).le (show 4 ≤ 20 by omega)
  have q7 := (Dl.i64 hq).le (show 4 ≤ 20 by omega)
  have n7 := (Dl.i64 hn).le (show 4 ≤ 20 by omega)
  have d7 := (Dl.i64 hd).le (show 4 ≤ 20 by omega)
  have q1 : 1 ≤ q := by have := of_decide_eq_true k14; omega
  have eM : mulB a b q = rM a b q := mul_ra ka kb q1
  have oM : (okM a b q) = true := by
    show (okZ (zm (a.lo * b.lo)) (zm (q)) && okZ (zm (a.lo * b.hi)) (zm (q)) && okZ (zm (a.hi * b.lo)) (zm (q)) && okZ (zm (a.hi * b.hi)) (zm (q))) = true
    simp only [Bool.and_eq_true]
    exact ⟨⟨⟨zm_ok (by omega) (mul20 a4 b4) q7, zm_ok (by omega) (mul20 a4 b5) q7⟩, zm_ok (by omega) (mul20 a5 b4) q7⟩, zm_ok (by omega) (mul20 a5 b5) q7⟩
  have eD := div_no (a := a) (q := q) (.inr (.inr (has_sg kb (.inl k15))))
  have eS := sca_no' (a := a) (n := n) (d := d) (.inr (.inr (by have := of_decide_eq_false k23; omega)))
  have V : ((scaB a n d).lo == 0 && ((scaB a n d).hi == 0 && ((scaB a n d).u == true && true))) = true := by
    rw [eS]; first | rfl | simp
  have p2 : (i64B a.lo) = true := by
    first | with_reducible assumption | decide
  have p3 : (i64B a.hi) = true := by
    first | with_reducible assumption | decide
  have p6 : (i64B b.lo) = true := by
    first | with_reducible assumption | decide
  have p7 : (i64B b.hi) = true := by
    first | with_reducible assumption | decide
  have p8 : (i64B q) = true := by
    first | with_reducible assumption | decide
  have p9 : (true) = true := by
    rfl
  have p11 : (decide (a.lo < 0) == decide (a.lo < 0)) = true := by
    first | exact eqB _ | exact beq_self_eq_true _
  have p12 : (decide (b.lo < 0) == decide (b.lo < 0)) = true := by
    first | exact eqB _ | exact beq_self_eq_true _
  have p13 : (szB a.lo) = true := by
    exact Dl.sz (k := 20) (by with_reducible assumption) (by omega)
  have p14 : (szB b.lo) = true := by
    exact Dl.sz (k := 20) (by with_reducible assumption) (by omega)
  have p15 : (decide (b.hi < 0) == decide (b.hi < 0)) = true := by
    first | exact eqB _ | exact beq_self_eq_true _
  have p16 : (szB b.hi) = true := by
    exact Dl.sz (k := 20) (by with_reducible assumption) (by omega)
  have p17 : (decide (a.hi < 0) == decide (a.hi < 0)) = true := by
    first | exact eqB _ | exact beq_self_eq_true _
  have p18 : (szB a.hi) = true := by
    exact Dl.sz (k := 20) (by with_reducible assumption) (by omega)
  have p19 : (okM a b q) = true := by
    exact oM
  have p21 : (false) = false := by
    rfl
  have p23 : ((mulB a b q).lo == (rM a b q).lo && ((mulB a b q).hi == (rM a b q).hi && ((mulB a b q).u == (rM a b q).u && true))) = true := by
    rw [eM]; first | rfl | simp
  have p24 : ((divB a b q).lo == 0 && ((divB a b q).hi == 0 && ((divB a b q).u == true && true))) = true := by
    rw [eD]; first | rfl | simp
  have p25 : (i64B n) = true := by
    first | with_reducible assumption | decide
  have p26 : (i64B d) = true := by
    first | with_reducible assumption | decide
  exact evR_calls (I := numI) (v := .bool true) (ctxLp_ok libBP_ok eqBP_ok fnsBP_ok (fun _ _ _ => lps_nil)) (by kernel_rfl) Try.func4 rfl lps_nil L rfl (all2_R (.cons rfl (.cons rfl (.cons rfl (.cons rfl (.cons rfl .nil)))))) (congrArg (fun b => some (Value.bool b)) V) _ (Nat.zero_le _) (pickL_ok (cd_cons k0 (cd_cons k3 (cd_cons p2 (cd_cons p3 (cd_cons k6 (cd_cons k10 (cd_cons p6 (cd_cons p7 (cd_cons p8 (cd_cons p9 (cd_cons k14 (cd_cons p11 (cd_cons p12 (cd_cons p13 (cd_cons p14 (cd_cons p15 (cd_cons p16 (cd_cons p17 (cd_cons p18 (cd_cons p19 (cd_cons k15 (cd_cons p21 (cd_cons k23 (cd_cons p23 (cd_cons p24 (cd_cons p25 (cd_cons p26 cd_nil))))))))))))))))))))))))))) _)
set_option maxRecDepth 100000 in
theorem bpr_w26 (a : Bd) (b : Bd) (q : Int) (n : Int) (d : Int) (W : World) (hq : i64B q = true) (hn : i64B n = true) (hd : i64B d = true) (k0 : (chkB a != 0) = false) (k3 : (a.u) = false) (k6 : (chkB b != 0) = false) (k10 : (b.u) = false) (k14 : (decide (q ≥ 1)) = false) (k26 : (decide (d ≥ 1)) = true) (k27 : (decide (n ≥ -1152921504606846976)) = true) (k28 : (decide (n ≤ 1152921504606846976)) = true) : Calls Try.prog 4 #[bV a, bV b, .int .i64 q, .int .i64 n, .int .i64 d] W fun e w' => e = .returned (.bool true) ∧ Below W.heap.size W w' := by
  have L := bpr_00000111111 a b q n d
  have ka : knB a = true := kn_ok k0 k3
  obtain ⟨au, a1, a2, a3⟩ := knB_iff.1 ka
  obtain ⟨a4, a5⟩ := kn64 ka
  have a6 := (Dl.i64 a4).le (show 4 ≤ 20 by omega)
  have a7 := (Dl.i64 a5).le (show 4 ≤ 20 by omega)
  have kb : knB b = true := kn_ok k6 k10
  obtain ⟨bu, b1, b2, b3⟩ := knB_iff.1 kb
  obtain ⟨b4, b5⟩ := kn64 kb
  have b6 := (Dl.i64 b4).le (show 4 ≤ 20 by omega)
  have b7 := (Dl.i64 b5).le (show 4 ≤ 20 by omega)
  have q7 := (Dl.i64 hq).le (show 4 ≤ 20 by omega)
  have n7 := (Dl.i64 hn).le (show 4 ≤ 20 by omega)
  have d7 := (Dl.i64 hd).le (show 4 ≤ 20 by omega)
  have eM := mul_no (a := a) (b := b) (q := q) (.inr (.inr (by have := of_decide_eq_false k14; omega)))
  have eD := div_no (a := a) (b := b) (q := q) (.inr (.inl (by have := of_decide_eq_false k14; omega)))
  have d1 : 1 ≤ d := by have := of_decide_eq_true k26; omega
  have n1 : inB n = true := inB_iff.2 ⟨by have := of_decide_eq_true k27; omega, of_decide_eq_true k28⟩
  have eS : scaB a n d = rS a n d := sca_ra ka n1 d1
  have oS : (okZ (zm (a.lo * n)) (zm (d)) && okZ (zm (a.hi * n)) (zm (d))) = true := by
    simp only [Bool.and_eq_true]
    exact ⟨zm_ok (by omega) (mul20 a4 hn) d7, zm_ok (by omega) (mul20 a5 hn) d7⟩
  have V : ((scaB a n d).lo == (rS a n d).lo && ((scaB a n d).hi == (rS a n d).hi && ((scaB a n d).u == (rS a n d).u && true))) = true := by
    rw [eS]; first | rfl | simp
  have p2 : (i64B a.lo) = true := by
    first | with_reducible assumption | decide
  have p3 : (i64B a.hi) = true := by
    first | with_reducible assumption | decide
  have p6 : (i64B b.lo) = true := by
    first | with_reducible assumption | decide
  have p7 : (i64B b.hi) = true := by
    first | with_reducible assumption | decide
  have p8 : (i64B q) = true := by
    first | with_reducible assumption | decide
  have p9 : (true) = true := by
    rfl
  have p14 : (i64B n) = true := by
    first | with_reducible assumption | decide
  have p15 : (decide (a.lo < 0) == decide (a.lo < 0)) = true := by
    first | exact eqB _ | exact beq_self_eq_true _
  have p16 : (decide (n < 0) == decide (n < 0)) = true := by
    first | exact eqB _ | exact beq_self_eq_true _
  have p17 : (szB a.lo) = true := by
    exact Dl.sz (k := 20) (by with_reducible assumption) (by omega)
  have p18 : (szB n) = true := by
    exact Dl.sz (k := 20) (by with_reducible assumption) (by omega)
  have p19 : (decide (a.hi < 0) == decide (a.hi < 0)) = true := by
    first | exact eqB _ | exact beq_self_eq_true _
  have p20 : (szB a.hi) = true := by
    exact Dl.sz (k := 20) (by with_reducible assumption) (by omega)
  have p21 : (i64B d) = true := by
    first | with_reducible assumption | decide
  have p22 : (okZ (zm (a.lo * n)) (zm (d)) && okZ (zm (a.hi * n)) (zm (d))) = true := by
    exact oS
  have p23 : ((mulB a b q).lo == 0 && ((mulB a b q).hi == 0 && ((mulB a b q).u == true && true))) = true := by
    rw [eM]; first | rfl | simp
  have p24 : ((divB a b q).lo == 0 && ((divB a b q).hi == 0 && ((divB a b q).u == true && true))) = true := by
    rw [eD]; first | rfl | simp
  exact evR_calls (I := numI) (v := .bool true) (ctxLp_ok libBP_ok eqBP_ok fnsBP_ok (fun _ _ _ => lps_nil)) (by kernel_rfl) Try.func4 rfl lps_nil L rfl (all2_R (.cons rfl (.cons rfl (.cons rfl (.cons rfl (.cons rfl .nil)))))) (congrArg (fun b => some (Value.bool b)) V) _ (Nat.zero_le _) (pickL_ok (cd_cons k0 (cd_cons k3 (cd_cons p2 (cd_cons p3 (cd_cons k6 (cd_cons k10 (cd_cons p6 (cd_cons p7 (cd_cons p8 (cd_cons p9 (cd_cons k14 (cd_cons k26 (cd_cons k27 (cd_cons k28 (cd_cons p14 (cd_cons p15 (cd_cons p16 (cd_cons p17 (cd_cons p18 (cd_cons p19 (cd_cons p20 (cd_cons p21 (cd_cons p22 (cd_cons p23 (cd_cons p24 cd_nil))))))))))))))))))))))))) _)
set_option maxRecDepth 100000 in
theorem bpr_w27 (a : Bd) (b : Bd) (q : Int) (n : Int) (d : Int) (W : World) (hq : i64B q = true) (hn : i64B n = true) (hd : i64B d = true) (k0 : (chkB a != 0) = false) (k3 : (a.u) = false) (k6 : (chkB b != 0) = false) (k10 : (b.u) = false) (k14 : (decide (q ≥ 1)) = false) (k26 : (decide (d ≥ 1)) = true) (k27 : (decide (n ≥ -1152921504606846976)) = true) (k28 : (decide (n ≤ 1152921504606846976)) = false) : Calls Try.prog 4 #[bV a, bV b, .int .i64 q, .int .i64 n, .int .i64 d] W fun e w' => e = .returned (.bool true) ∧ Below W.heap.size W w' := by
  have L := bpr_00000110111 a b q n d
  have ka : knB a = true := kn_ok k0 k3
  obtain ⟨au, a1, a2, a3⟩ := knB_iff.1 ka
  obtain ⟨a4, a5⟩ := kn64 ka
  have a6 := (Dl.i64 a4).le (show 4 ≤ 20 by omega)
  have a7 := (Dl.i64 a5).le (show 4 ≤ 20 by omega)
  have kb : knB b = true := kn_ok k6 k10
  obtain ⟨bu, b1, b2, b3⟩ := knB_iff.1 kb
  obtain ⟨b4, b5⟩ := kn64 kb
  have b6 := (Dl.i64 b4).le (show 4 ≤ 20 by omega)
  have b7 := (Dl.i64 b5).le (show 4 ≤ 20 by omega)
  have q7 := (Dl.i64 hq).le (show 4 ≤ 20 by omega)
  have n7 := (Dl.i64 hn).le (show 4 ≤ 20 by omega)
  have d7 := (Dl.i64 hd).le (show 4 ≤ 20 by omega)
  have eM := mul_no (a := a) (b := b) (q := q) (.inr (.inr (by have := of_decide_eq_false k14; omega)))
  have eD := div_no (a := a) (b := b) (q := q) (.inr (.inl (by have := of_decide_eq_false k14; omega)))
  have eS := sca_no' (a := a) (n := n) (d := d) (.inr (.inl (inB_no (by have := of_decide_eq_false k28; omega))))
  have V : ((scaB a n d).lo == 0 && ((scaB a n d).hi == 0 && ((scaB a n d).u == true && true))) = true := by
    rw [eS]; first | rfl | simp
  have p2 : (i64B a.lo) = true := by
    first | with_reducible assumption | decide
  have p3 : (i64B a.hi) = true := by
    first | with_reducible assumption | decide
  have p6 : (i64B b.lo) = true := by
    first | with_reducible assumption | decide
  have p7 : (i64B b.hi) = true := by
    first | with_reducible assumption | decide
  have p8 : (i64B q) = true := by
    first | with_reducible assumption | decide
  have p9 : (true) = true := by
    rfl
  have p14 : ((mulB a b q).lo == 0 && ((mulB a b q).hi == 0 && ((mulB a b q).u == true && true))) = true := by
    rw [eM]; first | rfl | simp
  have p15 : ((divB a b q).lo == 0 && ((divB a b q).hi == 0 && ((divB a b q).u == true && true))) = true := by
    rw [eD]; first | rfl | simp
  have p16 : (i64B n) = true := by
    first | with_reducible assumption | decide
  have p17 : (i64B d) = true := by
    first | with_reducible assumption | decide
  exact evR_calls (I := numI) (v := .bool true) (ctxLp_ok libBP_ok eqBP_ok fnsBP_ok (fun _ _ _ => lps_nil)) (by kernel_rfl) Try.func4 rfl lps_nil L rfl (all2_R (.cons rfl (.cons rfl (.cons rfl (.cons rfl (.cons rfl .nil)))))) (congrArg (fun b => some (Value.bool b)) V) _ (Nat.zero_le _) (pickL_ok (cd_cons k0 (cd_cons k3 (cd_cons p2 (cd_cons p3 (cd_cons k6 (cd_cons k10 (cd_cons p6 (cd_cons p7 (cd_cons p8 (cd_cons p9 (cd_cons k14 (cd_cons k26 (cd_cons k27 (cd_cons k28 (cd_cons p14 (cd_cons p15 (cd_cons p16 (cd_cons p17 cd_nil)))))))))))))))))) _)
set_option maxRecDepth 100000 in
theorem bpr_w28 (a : Bd) (b : Bd) (q : Int) (n : Int) (d : Int) (W : World) (hq : i64B q = true) (hn : i64B n = true) (hd : i64B d = true) (k0 : (chkB a != 0) = false) (k3 : (a.u) = false) (k6 : (chkB b != 0) = false) (k10 : (b.u) = false) (k14 : (decide (q ≥ 1)) = false) (k26 : (decide (d ≥ 1)) = true) (k27 : (decide (n ≥ -1152921504606846976)) = false) : Calls Try.prog 4 #[bV a, bV b, .int .i64 q, .int .i64 n, .int .i64 d] W fun e w' => e = .returned (.bool true) ∧ Below W.heap.size W w' := by
  have L := bpr_0000010111 a b q n d
  have ka : knB a = true := kn_ok k0 k3
  obtain ⟨au, a1, a2, a3⟩ := knB_iff.1 ka
  obtain ⟨a4, a5⟩ := kn64 ka
  have a6 := (Dl.i64 a4).le (show 4 ≤ 20 by omega)
  have a7 := (Dl.i64 a5).le (show 4 ≤ 20 by omega)
  have kb : knB b = true := kn_ok k6 k10
  obtain ⟨bu, b1, b2, b3⟩ := knB_iff.1 kb
  obtain ⟨b4, b5⟩ := kn64 kb
  have b6 := (Dl.i64 b4).le (show 4 ≤ 20 by omega)
  have b7 := (Dl.i64 b5).le (show 4 ≤ 20 by omega)
  have q7 := (Dl.i64 hq).le (show 4 ≤ 20 by omega)
  have n7 := (Dl.i64 hn).le (show 4 ≤ 20 by omega)
  have d7 := (Dl.i64 hd).le (show 4 ≤ 20 by omega)
  have eM := mul_no (a := a) (b := b) (q := q) (.inr (.inr (by have := of_decide_eq_false k14; omega)))
  have eD := div_no (a := a) (b := b) (q := q) (.inr (.inl (by have := of_decide_eq_false k14; omega)))
  have eS := sca_no' (a := a) (n := n) (d := d) (.inr (.inl (inB_no (by have := of_decide_eq_false k27; omega))))
  have V : ((scaB a n d).lo == 0 && ((scaB a n d).hi == 0 && ((scaB a n d).u == true && true))) = true := by
    rw [eS]; first | rfl | simp
  have p2 : (i64B a.lo) = true := by
    first | with_reducible assumption | decide
  have p3 : (i64B a.hi) = true := by
    first | with_reducible assumption | decide
  have p6 : (i64B b.lo) = true := by
    first | with_reducible assumption | decide
  have p7 : (i64B b.hi) = true := by
    first | with_reducible assumption | decide
  have p8 : (i64B q) = true := by
    first | with_reducible assumption | decide
  have p9 : (true) = true := by
    rfl
  have p13 : (false) = false := by
    rfl
  have p14 : ((mulB a b q).lo == 0 && ((mulB a b q).hi == 0 && ((mulB a b q).u == true && true))) = true := by
    rw [eM]; first | rfl | simp
  have p15 : ((divB a b q).lo == 0 && ((divB a b q).hi == 0 && ((divB a b q).u == true && true))) = true := by
    rw [eD]; first | rfl | simp
  have p16 : (i64B n) = true := by
    first | with_reducible assumption | decide
  have p17 : (i64B d) = true := by
    first | with_reducible assumption | decide
  exact evR_calls (I := numI) (v := .bool true) (ctxLp_ok libBP_ok eqBP_ok fnsBP_ok (fun _ _ _ => lps_nil)) (by kernel_rfl) Try.func4 rfl lps_nil L rfl (all2_R (.cons rfl (.cons rfl (.cons rfl (.cons rfl (.cons rfl .nil)))))) (congrArg (fun b => some (Value.bool b)) V) _ (Nat.zero_le _) (pickL_ok (cd_cons k0 (cd_cons k3 (cd_cons p2 (cd_cons p3 (cd_cons k6 (cd_cons k10 (cd_cons p6 (cd_cons p7 (cd_cons p8 (cd_cons p9 (cd_cons k14 (cd_cons k26 (cd_cons k27 (cd_cons p13 (cd_cons p14 (cd_cons p15 (cd_cons p16 (cd_cons p17 cd_nil)))))))))))))))))) _)
set_option maxRecDepth 100000 in
theorem bpr_w29 (a : Bd) (b : Bd) (q : Int) (n : Int) (d : Int) (W : World) (hq : i64B q = true) (hn : i64B n = true) (hd : i64B d = true) (k0 : (chkB a != 0) = false) (k3 : (a.u) = false) (k6 : (chkB b != 0) = false) (k10 : (b.u) = false) (k14 : (decide (q ≥ 1)) = false) (k26 : (decide (d ≥ 1)) = false) : Calls Try.prog 4 #[bV a, bV b, .int .i64 q, .int .i64 n, .int .i64 d] W fun e w' => e = .returned (.bool true) ∧ Below W.heap.size W w' := by
  have L := bpr_000000111 a b q n d
  have ka : knB a = true := kn_ok k0 k3
  obtain ⟨au, a1, a2, a3⟩ := knB_iff.1 ka
  obtain ⟨a4, a5⟩ := kn64 ka
  have a6 := (Dl.i64 a4).le (show 4 ≤ 20 by omega)
  have a7 := (Dl.i64 a5).le (show 4 ≤ 20 by omega)
  have kb : knB b = true := kn_ok k6 k10
  obtain ⟨bu, b1, b2, b3⟩ := knB_iff.1 kb
  obtain ⟨b4, b5⟩ := kn64 kb
  have b6 := (Dl.i64 b4).le (show 4 ≤ 20 by omega)
  have b7 := (Dl.i64 b5).le (show 4 ≤ 20 by omega)
  have q7 := (Dl.i64 hq).le (show 4 ≤ 20 by omega)
  have n7 := (Dl.i64 hn).le (show 4 ≤ 20 by omega)
  have d7 := (Dl.i64 hd).le (show 4 ≤ 20 by omega)
  have eM := mul_no (a := a) (b := b) (q := q) (.inr (.inr (by have := of_decide_eq_false k14; omega)))
  have eD := div_no (a := a) (b := b) (q := q) (.inr (.inl (by have := of_decide_eq_false k14; omega)))
  have eS := sca_no' (a := a) (n := n) (d := d) (.inr (.inr (by have := of_decide_eq_false k26; omega)))
  have V : ((scaB a n d).lo == 0 && ((scaB a n d).hi == 0 && ((scaB a n d).u == true && true))) = true := by
    rw [eS]; first | rfl | simp
  have p2 : (i64B a.lo) = true := by
    first | with_reducible assumption | decide
  have p3 : (i64B a.hi) = true := by
    first | with_reducible assumption | decide
  have p6 : (i64B b.lo) = true := by
    first | with_reducible assumption | decide
  have p7 : (i64B b.hi) = true := by
    first | with_reducible assumption | decide
  have p8 : (i64B q) = true := by
    first | with_reducible assumption | decide
  have p9 : (true) = true := by
    rfl
  have p12 : (false) = false := by
    rfl
  have p13 : ((mulB a b q).lo == 0 && ((mulB a b q).hi == 0 && ((mulB a b q).u == true && true))) = true := by
    rw [eM]; first | rfl | simp
  have p14 : ((divB a b q).lo == 0 && ((divB a b q).hi == 0 && ((divB a b q).u == true && true))) = true := by
    rw [eD]; first | rfl | simp
  have p15 : (i64B n) = true := by
    first | with_reducible assumption | decide
  have p16 : (i64B d) = true := by
    first | with_reducible assumption | decide
  exact evR_calls (I := numI) (v := .bool true) (ctxLp_ok libBP_ok eqBP_ok fnsBP_ok (fun _ _ _ => lps_nil)) (by kernel_rfl) Try.func4 rfl lps_nil L rfl (all2_R (.cons rfl (.cons rfl (.cons rfl (.cons rfl (.cons rfl .nil)))))) (congrArg (fun b => some (Value.bool b)) V) _ (Nat.zero_le _) (pickL_ok (cd_cons k0 (cd_cons k3 (cd_cons p2 (cd_cons p3 (cd_cons k6 (cd_cons k10 (cd_cons p6 (cd_cons p7 (cd_cons p8 (cd_cons p9 (cd_cons k14 (cd_cons k26 (cd_cons p12 (cd_cons p13 (cd_cons p14 (cd_cons p15 (cd_cons p16 cd_nil))))))))))))))))) _)
set_option maxRecDepth 100000 in
theorem bpr_law (a : Bd) (b : Bd) (q : Int) (n : Int) (d : Int) (W : World) (hq : i64B q = true) (hn : i64B n = true) (hd : i64B d = true) : Calls Try.prog 4 #[bV a, bV b, .int .i64 q, .int .i64 n, .int .i64 d] W fun e w' => e = .returned (.bool true) ∧ Below W.heap.size W w' := by
  cases k0 : (chkB a != 0) with
  | true =>
    cases k1 : (chkB b != 0) with
    | true =>
      exact bpr_w0 a b q n d W hq hn hd k0 k1
    | false =>
      cases k2 : (b.u) with
      | true =>
        exact bpr_w1 a b q n d W hq hn hd k0 k1 k2
      | false =>
        exact bpr_w2 a b q n d W hq hn hd k0 k1 k2
  | false =>
    cases k3 : (a.u) with
    | true =>
      cases k4 : (chkB b != 0) with
      | true =>
        exact bpr_w3 a b q n d W hq hn hd k0 k3 k4
      | false =>
        cases k5 : (b.u) with
        | true =>
          exact bpr_w4 a b q n d W hq hn hd k0 k3 k4 k5
        | false =>
          exact bpr_w5 a b q n d W hq hn hd k0 k3 k4 k5
    | false =>
      cases k6 : (chkB b != 0) with
      | true =>
        cases k7 : (decide (d ≥ 1)) with
        | true =>
          cases k8 : (decide (n ≥ -1152921504606846976)) with
          | true =>
            cases k9 : (decide (n ≤ 1152921504606846976)) with
            | true =>
              exact bpr_w6 a b q n d W hq hn hd k0 k3 k6 k7 k8 k9
            | false =>
              exact bpr_w7 a b q n d W hq hn hd k0 k3 k6 k7 k8 k9
          | false =>
            exact bpr_w8 a b q n d W hq hn hd k0 k3 k6 k7 k8
        | false =>
          exact bpr_w9 a b q n d W hq hn hd k0 k3 k6 k7
      | false =>
        cases k10 : (b.u) with
        | true =>
          cases k11 : (decide (d ≥ 1)) with
          | true =>
            cases k12 : (decide (n ≥ -1152921504606846976)) with
            | true =>
              cases k13 : (decide (n ≤ 1152921504606846976)) with
              | true =>
                exact bpr_w10 a b q n d W hq hn hd k0 k3 k6 k10 k11 k12 k13
              | false =>
                exact bpr_w11 a b q n d W hq hn hd k0 k3 k6 k10 k11 k12 k13
            | false =>
              exact bpr_w12 a b q n d W hq hn hd k0 k3 k6 k10 k11 k12
          | false =>
            exact bpr_w13 a b q n d W hq hn hd k0 k3 k6 k10 k11
        | false =>
          cases k14 : (decide (q ≥ 1)) with
          | true =>
            cases k15 : (cmpI b.lo 0 == cmpI b.hi 0) with
            | true =>
              cases k16 : (cmpI b.lo 0 != 0) with
              | true =>
                cases k17 : (decide (d ≥ 1)) with
                | true =>
                  cases k18 : (decide (n ≥ -1152921504606846976)) with
                  | true =>
                    cases k19 : (decide (n ≤ 1152921504606846976)) with
                    | true =>
                      exact bpr_w14 a b q n d W hq hn hd k0 k3 k6 k10 k14 k15 k16 k17 k18 k19
                    | false =>
                      exact bpr_w15 a b q n d W hq hn hd k0 k3 k6 k10 k14 k15 k16 k17 k18 k19
                  | false =>
                    exact bpr_w16 a b q n d W hq hn hd k0 k3 k6 k10 k14 k15 k16 k17 k18
                | false =>
                  exact bpr_w17 a b q n d W hq hn hd k0 k3 k6 k10 k14 k15 k16 k17
              | false =>
                cases k20 : (decide (d ≥ 1)) with
                | true =>
                  cases k21 : (decide (n ≥ -1152921504606846976)) with
                  | true =>
                    cases k22 : (decide (n ≤ 1152921504606846976)) with
                    | true =>
                      exact bpr_w18 a b q n d W hq hn hd k0 k3 k6 k10 k14 k15 k16 k20 k21 k22
                    | false =>
                      exact bpr_w19 a b q n d W hq hn hd k0 k3 k6 k10 k14 k15 k16 k20 k21 k22
                  | false =>
                    exact bpr_w20 a b q n d W hq hn hd k0 k3 k6 k10 k14 k15 k16 k20 k21
                | false =>
                  exact bpr_w21 a b q n d W hq hn hd k0 k3 k6 k10 k14 k15 k16 k20
            | false =>
              cases k23 : (decide (d ≥ 1)) with
              | true =>
                cases k24 : (decide (n ≥ -1152921504606846976)) with
                | true =>
                  cases k25 : (decide (n ≤ 1152921504606846976)) with
                  | true =>
                    exact bpr_w22 a b q n d W hq hn hd k0 k3 k6 k10 k14 k15 k23 k24 k25
                  | false =>
                    exact bpr_w23 a b q n d W hq hn hd k0 k3 k6 k10 k14 k15 k23 k24 k25
                | false =>
                  exact bpr_w24 a b q n d W hq hn hd k0 k3 k6 k10 k14 k15 k23 k24
              | false =>
                exact bpr_w25 a b q n d W hq hn hd k0 k3 k6 k10 k14 k15 k23
          | false =>
            cases k26 : (decide (d ≥ 1)) with
            | true =>
              cases k27 : (decide (n ≥ -1152921504606846976)) with
              | true =>
                cases k28 : (decide (n ≤ 1152921504606846976)) with
                | true =>
                  exact bpr_w26 a b q n d W hq hn hd k0 k3 k6 k10 k14 k26 k27 k28
                | false =>
                  exact bpr_w27 a b q n d W hq hn hd k0 k3 k6 k10 k14 k26 k27 k28
              | false =>
                exact bpr_w28 a b q n d W hq hn hd k0 k3 k6 k10 k14 k26 k27
            | false =>
              exact bpr_w29 a b q n d W hq hn hd k0 k3 k6 k10 k14 k26
theorem i64_ok {x : Int} (h : okK (some .i64) x) : i64B x = true := i64B_iff.2 (okK_i64 h)
theorem bpr_walk (W : World) (al : Int) (hal : okK (some .i64) al) (ah : Int) (hah : okK (some .i64) ah) (au : Bool) (bl : Int) (hbl : okK (some .i64) bl) (bh : Int) (hbh : okK (some .i64) bh) (bu : Bool) (q : Int) (hq : okK (some .i64) q) (n : Int) (hn : okK (some .i64) n) (d : Int) (hd : okK (some .i64) d) :
    Calls Try.prog 4 #[.agg #[.int .i64 al, .int .i64 ah, .bool au], .agg #[.int .i64 bl, .int .i64 bh, .bool bu], .int .i64 q, .int .i64 n, .int .i64 d] W fun e w' => e = .returned (.bool true) ∧ Below W.heap.size W w' :=
  bpr_law ⟨al, ah, au⟩ ⟨bl, bh, bu⟩ q n d W (i64_ok hq) (i64_ok hn) (i64_ok hd)
end
end Go.Proofs.Ytfhidjldmopbgaa.AtBr

