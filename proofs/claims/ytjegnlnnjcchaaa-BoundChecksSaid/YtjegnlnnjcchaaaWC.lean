/-
  The walk of the law BoundChecks.
  Conditions: the numbers of the arguments are int64.
-/
import Derived.Test.YtjegnlnnjcchaaaBR
import Derived.Test.YtjegnlnnjcchaaaZK
import Derived.Test.YtjegnlnnjcchaaaGO
set_option linter.unusedVariables false
set_option linter.unusedSimpArgs false
namespace Go.Proofs.Ytjegnlnnjcchaaa.AtBr
open Ev Go.RowKit Go.Shelf Zd Wd
open Go.Proofs.Ytjegnlnnjcchaaa
noncomputable section

noncomputable abbrev libAs : List (Nat × FnSp Empty) := [(20, sp1 dBd (fun b => bA (normB b)) (fun _ => []))]
theorem libAs_ok : LibOk Try.prog noFacts (lib1 libAs) := (lib1_cons (sp1_ok fun b _ => ⟨_, rfl, norm_pl b⟩) Try.call20 (lib1_nil _ _))
theorem norm_in (b : Bd) : IntKind.i64.wrap (normB b).lo = (normB b).lo ∧ IntKind.i64.wrap (normB b).hi = (normB b).hi := by
  unfold normB
  cases k : knB b with
  | true =>
    obtain ⟨_, h1, h2, h3⟩ := knB_iff.1 k
    exact ⟨by simp only [cond_true]; rw [IntKind.wrap_i64]; omega, by simp only [cond_true]; rw [IntKind.wrap_i64]; omega⟩
  | false => exact ⟨rfl, rfl⟩
set_option maxRecDepth 100000 in
theorem as_l0 (a : Bd) : evR (ctxOf Try.prog noFacts (fun _ => false) libAs) Try.f24 [(bA a)] [] = some (AV.w (AW.agg [AC.int IntKind.i64 (normB a).lo, AC.int IntKind.i64 (normB a).hi, AC.bool (normB a).u]), []) := by kernel_rfl
set_option maxRecDepth 100000 in
theorem as_t (a : Bd) : Pl Try.prog 24 [bV a] (AV.get ((AV.w (AW.agg [AC.int IntKind.i64 (normB a).lo, AC.int IntKind.i64 (normB a).hi, AC.bool (normB a).u])) : AV Empty)) :=
  (pl_leaf rfl (ctxOf_ok libAs_ok (eq_none _)) (by kernel_rfl) Try.func24 rfl (as_l0 a) rfl (all2_R (.cons rfl .nil)) rfl cd_nil)
theorem as_pl (a : Bd)  : Pl Try.prog 24 [bV a] (bV (normB a)) := by
  refine Eq.mp (congrArg (Pl _ _ _) ?_) (as_t a)
  rfl
abbrev eqBoundChecks : TypeId → Bool := fun t => Nat.beq t 24 || Nat.beq t 44
noncomputable abbrev libBoundChecks : List (Nat × FnSp Nm) := [(16, sp0 (aBool true)), (17, sp1 dBd (fun b => aInt .i64 (chkB b)) (fun _ => [])), (19, sp0 (bA noneB)), (20, sp1 dBd (fun b => bA (normB b)) (fun _ => [])), (21, sp2 (dInt .i64) (dInt .i64) (fun x y => bA (ofB x y)) (fun _ _ => [])), (23, sp1 (dInt .i64) (fun x => bA (ofB x x)) (fun _ => [])), (25, sp2 dBd (dInt .i64) (fun b x => aBool (hasB b x)) (fun _ _ => [])), (26, sp2 dBd dBd (fun a b => aBool (insB a b)) (fun _ _ => [])), (27, sp2 dBd dBd (fun a b => aInt .i64 (cmpB a b)) (fun _ _ => [])), (14, sp1 dBd (fun a => .tup [.one (.int .i64 (widV a)), .one (.bool (knB a))]) (fun _ => [])), (15, nfn nI), (22, factSp gBd), (18, sp1 dBd (fun b => aInt .i64 (chkB b)) (fun _ => [])), (13, nfn nCmp), (24, sp1 dBd (fun b => bA (normB b)) (fun _ => []))]
noncomputable abbrev fnsBoundChecks : List (Nat × Func) := [(12, Try.f12)]
theorem eqBoundChecks_ok : EqOk Try.prog (tabOf Try.prog) eqBoundChecks := eq_of fun t ht => by
  have ht : (Nat.beq t 24 || Nat.beq t 44) = true := ht
  simp only [Bool.or_eq_true] at ht
  rcases ht with ht | ht
  · have := Nat.eq_of_beq_eq_true ht
    subst this
    exact ⟨by kernel_rfl, by kernel_rfl, by kernel_rfl⟩
  · have := Nat.eq_of_beq_eq_true ht
    subst this
    exact ⟨by kernel_rfl, by kernel_rfl, by kernel_rfl⟩
theorem libBoundChecks_ok : LibOk Try.prog numI (lib1 libBoundChecks) := (lib1_cons (sp0_ok rfl bounds_pl) Try.call16 (lib1_cons (sp1_ok fun b _ => ⟨_, rfl, check_pl b⟩) Try.call17 (lib1_cons (sp0_ok rfl none_pl) Try.call19 (lib1_cons (sp1_ok fun b _ => ⟨_, rfl, norm_pl b⟩) Try.call20 (lib1_cons (sp2_ok fun x y _ => ⟨_, rfl, of_pl x y⟩) Try.call21 (lib1_cons (sp1_ok fun x _ => ⟨_, rfl, exact_pl x⟩) Try.call23 (lib1_cons (sp2_ok fun b x _ => ⟨_, rfl, has_pl b x⟩) Try.call25 (lib1_cons (sp2_ok fun a b _ => ⟨_, rfl, inside_pl a b⟩) Try.call26 (lib1_cons (sp2_ok fun a b _ => ⟨_, rfl, cmp_pl a b⟩) Try.call27 (lib1_cons (sp1_ok fun a _ => ⟨_, rfl, width_pl a⟩) Try.call14 (lib1_cons nI_ok Try.call15 (lib1_cons bdt_ok Try.call22 (lib1_cons (sp1_ok fun b _ => ⟨_, rfl, bte_pl b⟩) Try.call18 (lib1_cons nCmp_ok Try.call13 (lib1_cons (sp1_ok fun b _ => ⟨_, rfl, as_pl b⟩) Try.call24 (lib1_nil _ _))))))))))))))))
theorem fnsBoundChecks_ok : FnsOk Try.prog fnsBoundChecks := (fns_cons Try.func12 rfl Try.call12 (fns_nil _))
theorem kn_bad {b : Bd} (h : (chkB b != 0) = true) : knB b = false := by
  cases k : knB b with
  | false => rfl
  | true =>
    obtain ⟨h1, h2, h3, h4⟩ := knB_iff.1 k
    have : chkB b = 0 := by
      unfold chkB inB
      rw [h1, decide_eq_true (show -1152921504606846976 ≤ b.lo by omega), decide_eq_true (show b.lo ≤ 1152921504606846976 by omega), decide_eq_true (show -1152921504606846976 ≤ b.hi by omega), decide_eq_true (show b.hi ≤ 1152921504606846976 by omega), decide_eq_false (show ¬ b.lo > b.hi by omega)]
      rfl
    rw [this] at h; simp at h
theorem kn_u {b : Bd} (h : b.u = true) : knB b = false := by unfold knB; rw [h]; rfl
theorem kn_ok {b : Bd} (h : (chkB b != 0) = false) (hu : b.u = false) : knB b = true := by
  have h : chkB b = 0 := by simpa using h
  unfold chkB at h
  unfold knB
  rw [hu] at h ⊢
  simp only [Bool.false_and, cond_false, Bool.not_false, Bool.true_and] at h ⊢
  cases h1 : (inB b.lo && inB b.hi) with
  | false => rw [h1] at h; cases h
  | true =>
    rw [h1] at h
    simp only [Bool.not_true, cond_false] at h
    by_cases h2 : b.lo > b.hi
    · rw [decide_eq_true h2] at h; cases h
    · rw [decide_eq_true (show b.lo ≤ b.hi by omega)]; rfl
theorem cmp_le0 (a b : Int) : decide (cmpI a b ≤ 0) = decide (a ≤ b) := by
  have := cmp_gt a b
  by_cases h : a ≤ b
  · rw [decide_eq_false (show ¬ b < a by omega)] at this
    have := of_decide_eq_false this
    rw [decide_eq_true h, decide_eq_true (by omega)]
  · rw [decide_eq_true (show b < a by omega)] at this
    have := of_decide_eq_true this
    rw [decide_eq_false h, decide_eq_false (by omega)]
theorem cmp_ge0 (a b : Int) : decide (cmpI a b ≥ 0) = decide (b ≤ a) := by
  have := cmp_lt' a b
  by_cases h : a < b
  · rw [decide_eq_true h] at this
    have := of_decide_eq_true this
    rw [decide_eq_false (show ¬ b ≤ a by omega), decide_eq_false (by omega)]
  · rw [decide_eq_false h] at this
    have := of_decide_eq_false this
    rw [decide_eq_true (show b ≤ a by omega), decide_eq_true (by omega)]
theorem i64_kn {b : Bd} (h : knB b = true) : i64B b.lo = true ∧ i64B b.hi = true := by
  obtain ⟨_, h1, h2, h3⟩ := knB_iff.1 h
  exact ⟨i64B_iff.2 ⟨by omega, by omega⟩, i64B_iff.2 ⟨by omega, by omega⟩⟩
set_option maxRecDepth 100000 in
theorem boundChecks_010011111111111 (a : Bd) (b : Bd) (v : Int) (w : Int) : evR (ctxLp Try.prog numI eqBoundChecks libBoundChecks fnsBoundChecks []) Try.f3 [(bA a), (bA b), (.w (.one (.int .i64 v))), (.w (.one (.int .i64 w)))] [false, true, false, false, true, true, true, true, true, true, true, true, true, true, true] = some (AV.w (AW.one (AC.bool (knB a == false))), (pickL [(chkB a != 0, false), (a.u, true), (chkB b != 0, false), (b.u, false), (i64B b.lo, true), (i64B b.hi, true), (false, false), (i64B v, true), (true, true), (chkB a == chkB a, true), (noneB.lo == 0 && (noneB.hi == 0 && (noneB.u == true && true)), true), ((normB a).lo == 0 && ((normB a).hi == 0 && ((normB a).u == true && true)), true), (i64B w, true), (decide (v < 0) == decide (v < 0), true), (decide (w < 0) == decide (w < 0), true), (szB v, true), (szB w, true), ((ofB v w).lo == (ofB v w).lo && ((ofB v w).hi == (ofB v w).hi && ((ofB v w).u == (ofB v w).u && true)), true), ((ofB v v).lo == (ofB v v).lo && ((ofB v v).hi == (ofB v v).hi && ((ofB v v).u == (ofB v v).u && true)), true), (!false, true), (hasB a v == true, true), (!true, false), (insB a b == false, true), (cmpB a b == 0, true), (widV a == 0, true)] [0, 0, 0, 1, 2, 2, 2, 3, 4, 5, 6, 6, 6, 6, 6, 6, 6, 6, 6, 6, 6, 6, 6, 6, 6, 6, 6, 7, 8, 8, 8, 8, 8, 8, 9, 9, 9, 9, 10, 10, 10, 10, 10, 11, 11, 11, 11, 11, 11, 12, 11, 13, 14, 15, 16, 11, 11, 17, 17, 17, 17, 17, 13, 13, 15, 15, 17, 17, 18, 18, 18, 18, 18, 18, 18, 18, 18, 18, 18, 11, 11, 11, 11, 11, 11, 19, 19, 19, 19, 19, 19, 11, 19, 11, 11, 20, 20, 20, 20, 20, 20, 21, 21, 6, 6, 6, 6, 21, 6, 21, 6, 6, 6, 6, 21, 6, 20, 21, 20, 20, 22, 22, 22, 22, 22, 22, 23, 23, 23, 23, 24, 24, 24, 24])) := by kernel_rfl
set_option maxRecDepth 100000 in
theorem boundChecks_10011111111111 (a : Bd) (b : Bd) (v : Int) (w : Int) : evR (ctxLp Try.prog numI eqBoundChecks libBoundChecks fnsBoundChecks []) Try.f3 [(bA a), (bA b), (.w (.one (.int .i64 v))), (.w (.one (.int .i64 w)))] [true, false, false, true, true, true, true, true, true, true, true, true, true, true] = some (AV.w (AW.one (AC.bool (knB a == false))), (pickL [(chkB a != 0, true), (true, true), (chkB b != 0, false), (b.u, false), (i64B b.lo, true), (i64B b.hi, true), (false, false), (i64B v, true), (chkB a == chkB a, true), (noneB.lo == 0 && (noneB.hi == 0 && (noneB.u == true && true)), true), ((normB a).lo == 0 && ((normB a).hi == 0 && ((normB a).u == true && true)), true), (i64B w, true), (decide (v < 0) == decide (v < 0), true), (decide (w < 0) == decide (w < 0), true), (szB v, true), (szB w, true), ((ofB v w).lo == (ofB v w).lo && ((ofB v w).hi == (ofB v w).hi && ((ofB v w).u == (ofB v w).u && true)), true), ((ofB v v).lo == (ofB v v).lo && ((ofB v v).hi == (ofB v v).hi && ((ofB v v).u == (ofB v v).u && true)), true), (!false, true), (hasB a v == true, true), (!true, false), (insB a b == false, true), (cmpB a b == 0, true), (widV a == 0, true)] [0, 0, 0, 1, 2, 2, 2, 3, 4, 5, 6, 6, 6, 6, 6, 6, 6, 6, 6, 6, 6, 6, 6, 6, 6, 6, 6, 7, 1, 1, 1, 1, 1, 1, 8, 8, 8, 8, 9, 9, 9, 9, 9, 10, 10, 10, 10, 10, 10, 11, 10, 12, 13, 14, 15, 10, 10, 16, 16, 16, 16, 16, 12, 12, 14, 14, 16, 16, 17, 17, 17, 17, 17, 17, 17, 17, 17, 17, 17, 10, 10, 10, 10, 10, 10, 18, 18, 18, 18, 18, 18, 10, 18, 10, 10, 19, 19, 19, 19, 19, 19, 20, 20, 6, 6, 6, 6, 20, 6, 20, 6, 6, 6, 6, 20, 6, 19, 20, 19, 19, 21, 21, 21, 21, 21, 21, 22, 22, 22, 22, 23, 23, 23, 23])) := by kernel_rfl
set_option maxRecDepth 100000 in
theorem boundChecks_0000001111111011111 (a : Bd) (b : Bd) (v : Int) (w : Int) : evR (ctxLp Try.prog numI eqBoundChecks libBoundChecks fnsBoundChecks []) Try.f3 [(bA a), (bA b), (.w (.one (.int .i64 v))), (.w (.one (.int .i64 w)))] [false, false, false, false, false, false, true, true, true, true, true, true, true, false, true, true, true, true, true] = some (AV.w (AW.one (AC.bool (knB a == true))), (pickL [(chkB a != 0, false), (a.u, false), (i64B a.lo, true), (i64B a.hi, true), (chkB b != 0, false), (b.u, false), (i64B b.lo, true), (i64B b.hi, true), (true, true), (decide (a.hi < 0) == decide (a.hi < 0), true), (decide (b.lo < 0) == decide (b.lo < 0), true), (szB a.hi, true), (szB b.lo, true), (decide (cmpI a.hi b.lo < 0), false), (decide (a.lo < 0) == decide (a.lo < 0), true), (decide (b.hi < 0) == decide (b.hi < 0), true), (szB a.lo, true), (szB b.hi, true), (decide (cmpI a.lo b.hi > 0), false), (i64B v, true), (chkB a == chkB a, true), (noneB.lo == 0 && (noneB.hi == 0 && (noneB.u == true && true)), true), ((normB a).lo == a.lo && ((normB a).hi == a.hi && ((normB a).u == a.u && true)), true), (i64B w, true), (decide (v < 0) == decide (v < 0), true), (decide (w < 0) == decide (w < 0), true), (szB v, true), (szB w, true), ((ofB v w).lo == (ofB v w).lo && ((ofB v w).hi == (ofB v w).hi && ((ofB v w).u == (ofB v w).u && true)), true), ((ofB v v).lo == (ofB v v).lo && ((ofB v v).hi == (ofB v v).hi && ((ofB v v).u == (ofB v v).u && true)), true), (!true, false), (decide (cmpI a.lo v ≤ 0), false), (hasB a v == false, true), (decide (cmpI a.lo b.lo ≥ 0), true), (insB a b == decide (cmpI a.hi b.hi ≤ 0), true), (cmpB a b == 0, true), (widV a == IntKind.i64.wrap (a.hi - a.lo), true)] [0, 0, 0, 1, 2, 3, 4, 4, 4, 5, 6, 7, 8, 8, 8, 8, 8, 8, 9, 10, 11, 12, 8, 8, 13, 8, 8, 8, 8, 8, 14, 15, 16, 17, 8, 8, 18, 19, 8, 8, 8, 8, 8, 8, 20, 20, 20, 20, 21, 21, 21, 21, 21, 22, 22, 22, 22, 22, 22, 23, 22, 24, 25, 26, 27, 22, 22, 28, 28, 28, 28, 28, 24, 24, 26, 26, 28, 28, 29, 29, 29, 29, 29, 29, 29, 29, 29, 29, 29, 22, 22, 22, 22, 22, 22, 30, 30, 30, 14, 24, 16, 26, 30, 30, 31, 31, 31, 31, 30, 31, 22, 30, 22, 22, 32, 32, 32, 32, 32, 32, 30, 30, 8, 8, 8, 14, 10, 16, 12, 8, 30, 8, 30, 33, 33, 33, 9, 15, 11, 17, 33, 30, 33, 32, 30, 32, 32, 34, 34, 34, 34, 34, 34, 35, 35, 35, 35, 36, 36, 36, 36])) := by kernel_rfl
set_option maxRecDepth 100000 in
theorem boundChecks_0000001111111111111 (a : Bd) (b : Bd) (v : Int) (w : Int) : evR (ctxLp Try.prog numI eqBoundChecks libBoundChecks fnsBoundChecks []) Try.f3 [(bA a), (bA b), (.w (.one (.int .i64 v))), (.w (.one (.int .i64 w)))] [false, false, false, false, false, false, true, true, true, true, true, true, true, true, true, true, true, true, true] = some (AV.w (AW.one (AC.bool (knB a == true))), (pickL [(chkB a != 0, false), (a.u, false), (i64B a.lo, true), (i64B a.hi, true), (chkB b != 0, false), (b.u, false), (i64B b.lo, true), (i64B b.hi, true), (true, true), (decide (a.hi < 0) == decide (a.hi < 0), true), (decide (b.lo < 0) == decide (b.lo < 0), true), (szB a.hi, true), (szB b.lo, true), (decide (cmpI a.hi b.lo < 0), false), (decide (a.lo < 0) == decide (a.lo < 0), true), (decide (b.hi < 0) == decide (b.hi < 0), true), (szB a.lo, true), (szB b.hi, true), (decide (cmpI a.lo b.hi > 0), false), (i64B v, true), (chkB a == chkB a, true), (noneB.lo == 0 && (noneB.hi == 0 && (noneB.u == true && true)), true), ((normB a).lo == a.lo && ((normB a).hi == a.hi && ((normB a).u == a.u && true)), true), (i64B w, true), (decide (v < 0) == decide (v < 0), true), (decide (w < 0) == decide (w < 0), true), (szB v, true), (szB w, true), ((ofB v w).lo == (ofB v w).lo && ((ofB v w).hi == (ofB v w).hi && ((ofB v w).u == (ofB v w).u && true)), true), ((ofB v v).lo == (ofB v v).lo && ((ofB v v).hi == (ofB v v).hi && ((ofB v v).u == (ofB v v).u && true)), true), (!true, false), (decide (cmpI a.lo v ≤ 0), true), (hasB a v == decide (cmpI a.hi v ≥ 0), true), (decide (cmpI a.lo b.lo ≥ 0), true), (insB a b == decide (cmpI a.hi b.hi ≤ 0), true), (cmpB a b == 0, true), (widV a == IntKind.i64.wrap (a.hi - a.lo), true)] [0, 0, 0, 1, 2, 3, 4, 4, 4, 5, 6, 7, 8, 8, 8, 8, 8, 8, 9, 10, 11, 12, 8, 8, 13, 8, 8, 8, 8, 8, 14, 15, 16, 17, 8, 8, 18, 19, 8, 8, 8, 8, 8, 8, 20, 20, 20, 20, 21, 21, 21, 21, 21, 22, 22, 22, 22, 22, 22, 23, 22, 24, 25, 26, 27, 22, 22, 28, 28, 28, 28, 28, 24, 24, 26, 26, 28, 28, 29, 29, 29, 29, 29, 29, 29, 29, 29, 29, 29, 22, 22, 22, 22, 22, 22, 30, 30, 30, 14, 24, 16, 26, 30, 30, 31, 31, 31, 9, 24, 11, 26, 31, 30, 31, 22, 30, 22, 22, 32, 32, 32, 32, 32, 32, 30, 30, 8, 8, 8, 14, 10, 16, 12, 8, 30, 8, 30, 33, 33, 33, 9, 15, 11, 17, 33, 30, 33, 32, 30, 32, 32, 34, 34, 34, 34, 34, 34, 35, 35, 35, 35, 36, 36, 36, 36])) := by kernel_rfl
set_option maxRecDepth 100000 in
theorem boundChecks_0000011111111011111 (a : Bd) (b : Bd) (v : Int) (w : Int) : evR (ctxLp Try.prog numI eqBoundChecks libBoundChecks fnsBoundChecks []) Try.f3 [(bA a), (bA b), (.w (.one (.int .i64 v))), (.w (.one (.int .i64 w)))] [false, false, false, false, false, true, true, true, true, true, true, true, true, false, true, true, true, true, true] = some (AV.w (AW.one (AC.bool (knB a == true))), (pickL [(chkB a != 0, false), (a.u, false), (i64B a.lo, true), (i64B a.hi, true), (chkB b != 0, false), (b.u, false), (i64B b.lo, true), (i64B b.hi, true), (true, true), (decide (a.hi < 0) == decide (a.hi < 0), true), (decide (b.lo < 0) == decide (b.lo < 0), true), (szB a.hi, true), (szB b.lo, true), (decide (cmpI a.hi b.lo < 0), false), (decide (a.lo < 0) == decide (a.lo < 0), true), (decide (b.hi < 0) == decide (b.hi < 0), true), (szB a.lo, true), (szB b.hi, true), (decide (cmpI a.lo b.hi > 0), true), (i64B v, true), (chkB a == chkB a, true), (noneB.lo == 0 && (noneB.hi == 0 && (noneB.u == true && true)), true), ((normB a).lo == a.lo && ((normB a).hi == a.hi && ((normB a).u == a.u && true)), true), (i64B w, true), (decide (v < 0) == decide (v < 0), true), (decide (w < 0) == decide (w < 0), true), (szB v, true), (szB w, true), ((ofB v w).lo == (ofB v w).lo && ((ofB v w).hi == (ofB v w).hi && ((ofB v w).u == (ofB v w).u && true)), true), ((ofB v v).lo == (ofB v v).lo && ((ofB v v).hi == (ofB v v).hi && ((ofB v v).u == (ofB v v).u && true)), true), (!true, false), (decide (cmpI a.lo v ≤ 0), false), (hasB a v == false, true), (decide (cmpI a.lo b.lo ≥ 0), true), (insB a b == decide (cmpI a.hi b.hi ≤ 0), true), (cmpB a b == 1, true), (widV a == IntKind.i64.wrap (a.hi - a.lo), true)] [0, 0, 0, 1, 2, 3, 4, 4, 4, 5, 6, 7, 8, 8, 8, 8, 8, 8, 9, 10, 11, 12, 8, 8, 13, 8, 8, 8, 8, 8, 14, 15, 16, 17, 8, 8, 18, 19, 8, 8, 8, 8, 8, 8, 20, 20, 20, 20, 21, 21, 21, 21, 21, 22, 22, 22, 22, 22, 22, 23, 22, 24, 25, 26, 27, 22, 22, 28, 28, 28, 28, 28, 24, 24, 26, 26, 28, 28, 29, 29, 29, 29, 29, 29, 29, 29, 29, 29, 29, 22, 22, 22, 22, 22, 22, 30, 30, 30, 14, 24, 16, 26, 30, 30, 31, 31, 31, 31, 30, 31, 22, 30, 22, 22, 32, 32, 32, 32, 32, 32, 30, 30, 8, 8, 8, 14, 10, 16, 12, 8, 30, 8, 30, 33, 33, 33, 9, 15, 11, 17, 33, 30, 33, 32, 30, 32, 32, 34, 34, 34, 34, 34, 34, 35, 35, 35, 35, 36, 36, 36, 36])) := by kernel_rfl
set_option maxRecDepth 100000 in
theorem boundChecks_0000101111111110111 (a : Bd) (b : Bd) (v : Int) (w : Int) : evR (ctxLp Try.prog numI eqBoundChecks libBoundChecks fnsBoundChecks []) Try.f3 [(bA a), (bA b), (.w (.one (.int .i64 v))), (.w (.one (.int .i64 w)))] [false, false, false, false, true, false, true, true, true, true, true, true, true, true, true, false, true, true, true] = some (AV.w (AW.one (AC.bool (knB a == true))), (pickL [(chkB a != 0, false), (a.u, false), (i64B a.lo, true), (i64B a.hi, true), (chkB b != 0, false), (b.u, false), (i64B b.lo, true), (i64B b.hi, true), (true, true), (decide (a.hi < 0) == decide (a.hi < 0), true), (decide (b.lo < 0) == decide (b.lo < 0), true), (szB a.hi, true), (szB b.lo, true), (decide (cmpI a.hi b.lo < 0), true), (decide (a.lo < 0) == decide (a.lo < 0), true), (decide (b.hi < 0) == decide (b.hi < 0), true), (szB a.lo, true), (szB b.hi, true), (decide (cmpI a.lo b.hi > 0), false), (i64B v, true), (chkB a == chkB a, true), (noneB.lo == 0 && (noneB.hi == 0 && (noneB.u == true && true)), true), ((normB a).lo == a.lo && ((normB a).hi == a.hi && ((normB a).u == a.u && true)), true), (i64B w, true), (decide (v < 0) == decide (v < 0), true), (decide (w < 0) == decide (w < 0), true), (szB v, true), (szB w, true), ((ofB v w).lo == (ofB v w).lo && ((ofB v w).hi == (ofB v w).hi && ((ofB v w).u == (ofB v w).u && true)), true), ((ofB v v).lo == (ofB v v).lo && ((ofB v v).hi == (ofB v v).hi && ((ofB v v).u == (ofB v v).u && true)), true), (!true, false), (decide (cmpI a.lo v ≤ 0), true), (hasB a v == decide (cmpI a.hi v ≥ 0), true), (decide (cmpI a.lo b.lo ≥ 0), false), (insB a b == false, true), (cmpB a b == -1, true), (widV a == IntKind.i64.wrap (a.hi - a.lo), true)] [0, 0, 0, 1, 2, 3, 4, 4, 4, 5, 6, 7, 8, 8, 8, 8, 8, 8, 9, 10, 11, 12, 8, 8, 13, 8, 8, 8, 8, 8, 14, 15, 16, 17, 8, 8, 18, 19, 8, 8, 8, 8, 8, 8, 20, 20, 20, 20, 21, 21, 21, 21, 21, 22, 22, 22, 22, 22, 22, 23, 22, 24, 25, 26, 27, 22, 22, 28, 28, 28, 28, 28, 24, 24, 26, 26, 28, 28, 29, 29, 29, 29, 29, 29, 29, 29, 29, 29, 29, 22, 22, 22, 22, 22, 22, 30, 30, 30, 14, 24, 16, 26, 30, 30, 31, 31, 31, 9, 24, 11, 26, 31, 30, 31, 22, 30, 22, 22, 32, 32, 32, 32, 32, 32, 30, 30, 8, 8, 8, 14, 10, 16, 12, 8, 30, 8, 30, 33, 33, 33, 33, 30, 33, 32, 30, 32, 32, 34, 34, 34, 34, 34, 34, 35, 35, 35, 35, 36, 36, 36, 36])) := by kernel_rfl
set_option maxRecDepth 100000 in
theorem boundChecks_0000001111111010111 (a : Bd) (b : Bd) (v : Int) (w : Int) : evR (ctxLp Try.prog numI eqBoundChecks libBoundChecks fnsBoundChecks []) Try.f3 [(bA a), (bA b), (.w (.one (.int .i64 v))), (.w (.one (.int .i64 w)))] [false, false, false, false, false, false, true, true, true, true, true, true, true, false, true, false, true, true, true] = some (AV.w (AW.one (AC.bool (knB a == true))), (pickL [(chkB a != 0, false), (a.u, false), (i64B a.lo, true), (i64B a.hi, true), (chkB b != 0, false), (b.u, false), (i64B b.lo, true), (i64B b.hi, true), (true, true), (decide (a.hi < 0) == decide (a.hi < 0), true), (decide (b.lo < 0) == decide (b.lo < 0), true), (szB a.hi, true), (szB b.lo, true), (decide (cmpI a.hi b.lo < 0), false), (decide (a.lo < 0) == decide (a.lo < 0), true), (decide (b.hi < 0) == decide (b.hi < 0), true), (szB a.lo, true), (szB b.hi, true), (decide (cmpI a.lo b.hi > 0), false), (i64B v, true), (chkB a == chkB a, true), (noneB.lo == 0 && (noneB.hi == 0 && (noneB.u == true && true)), true), ((normB a).lo == a.lo && ((normB a).hi == a.hi && ((normB a).u == a.u && true)), true), (i64B w, true), (decide (v < 0) == decide (v < 0), true), (decide (w < 0) == decide (w < 0), true), (szB v, true), (szB w, true), ((ofB v w).lo == (ofB v w).lo && ((ofB v w).hi == (ofB v w).hi && ((ofB v w).u == (ofB v w).u && true)), true), ((ofB v v).lo == (ofB v v).lo && ((ofB v v).hi == (ofB v v).hi && ((ofB v v).u == (ofB v v).u && true)), true), (!true, false), (decide (cmpI a.lo v ≤ 0), false), (hasB a v == false, true), (decide (cmpI a.lo b.lo ≥ 0), false), (insB a b == false, true), (cmpB a b == 0, true), (widV a == IntKind.i64.wrap (a.hi - a.lo), true)] [0, 0, 0, 1, 2, 3, 4, 4, 4, 5, 6, 7, 8, 8, 8, 8, 8, 8, 9, 10, 11, 12, 8, 8, 13, 8, 8, 8, 8, 8, 14, 15, 16, 17, 8, 8, 18, 19, 8, 8, 8, 8, 8, 8, 20, 20, 20, 20, 21, 21, 21, 21, 21, 22, 22, 22, 22, 22, 22, 23, 22, 24, 25, 26, 27, 22, 22, 28, 28, 28, 28, 28, 24, 24, 26, 26, 28, 28, 29, 29, 29, 29, 29, 29, 29, 29, 29, 29, 29, 22, 22, 22, 22, 22, 22, 30, 30, 30, 14, 24, 16, 26, 30, 30, 31, 31, 31, 31, 30, 31, 22, 30, 22, 22, 32, 32, 32, 32, 32, 32, 30, 30, 8, 8, 8, 14, 10, 16, 12, 8, 30, 8, 30, 33, 33, 33, 33, 30, 33, 32, 30, 32, 32, 34, 34, 34, 34, 34, 34, 35, 35, 35, 35, 36, 36, 36, 36])) := by kernel_rfl
set_option maxRecDepth 100000 in
theorem boundChecks_0000001111111110111 (a : Bd) (b : Bd) (v : Int) (w : Int) : evR (ctxLp Try.prog numI eqBoundChecks libBoundChecks fnsBoundChecks []) Try.f3 [(bA a), (bA b), (.w (.one (.int .i64 v))), (.w (.one (.int .i64 w)))] [false, false, false, false, false, false, true, true, true, true, true, true, true, true, true, false, true, true, true] = some (AV.w (AW.one (AC.bool (knB a == true))), (pickL [(chkB a != 0, false), (a.u, false), (i64B a.lo, true), (i64B a.hi, true), (chkB b != 0, false), (b.u, false), (i64B b.lo, true), (i64B b.hi, true), (true, true), (decide (a.hi < 0) == decide (a.hi < 0), true), (decide (b.lo < 0) == decide (b.lo < 0), true), (szB a.hi, true), (szB b.lo, true), (decide (cmpI a.hi b.lo < 0), false), (decide (a.lo < 0) == decide (a.lo < 0), true), (decide (b.hi < 0) == decide (b.hi < 0), true), (szB a.lo, true), (szB b.hi, true), (decide (cmpI a.lo b.hi > 0), false), (i64B v, true), (chkB a == chkB a, true), (noneB.lo == 0 && (noneB.hi == 0 && (noneB.u == true && true)), true), ((normB a).lo == a.lo && ((normB a).hi == a.hi && ((normB a).u == a.u && true)), true), (i64B w, true), (decide (v < 0) == decide (v < 0), true), (decide (w < 0) == decide (w < 0), true), (szB v, true), (szB w, true), ((ofB v w).lo == (ofB v w).lo && ((ofB v w).hi == (ofB v w).hi && ((ofB v w).u == (ofB v w).u && true)), true), ((ofB v v).lo == (ofB v v).lo && ((ofB v v).hi == (ofB v v).hi && ((ofB v v).u == (ofB v v).u && true)), true), (!true, false), (decide (cmpI a.lo v ≤ 0), true), (hasB a v == decide (cmpI a.hi v ≥ 0), true), (decide (cmpI a.lo b.lo ≥ 0), false), (insB a b == false, true), (cmpB a b == 0, true), (widV a == IntKind.i64.wrap (a.hi - a.lo), true)] [0, 0, 0, 1, 2, 3, 4, 4, 4, 5, 6, 7, 8, 8, 8, 8, 8, 8, 9, 10, 11, 12, 8, 8, 13, 8, 8, 8, 8, 8, 14, 15, 16, 17, 8, 8, 18, 19, 8, 8, 8, 8, 8, 8, 20, 20, 20, 20, 21, 21, 21, 21, 21, 22, 22, 22, 22, 22, 22, 23, 22, 24, 25, 26, 27, 22, 22, 28, 28, 28, 28, 28, 24, 24, 26, 26, 28, 28, 29, 29, 29, 29, 29, 29, 29, 29, 29, 29, 29, 22, 22, 22, 22, 22, 22, 30, 30, 30, 14, 24, 16, 26, 30, 30, 31, 31, 31, 9, 24, 11, 26, 31, 30, 31, 22, 30, 22, 22, 32, 32, 32, 32, 32, 32, 30, 30, 8, 8, 8, 14, 10, 16, 12, 8, 30, 8, 30, 33, 33, 33, 33, 30, 33, 32, 30, 32, 32, 34, 34, 34, 34, 34, 34, 35, 35, 35, 35, 36, 36, 36, 36])) := by kernel_rfl
set_option maxRecDepth 100000 in
theorem boundChecks_0001111111101111 (a : Bd) (b : Bd) (v : Int) (w : Int) : evR (ctxLp Try.prog numI eqBoundChecks libBoundChecks fnsBoundChecks []) Try.f3 [(bA a), (bA b), (.w (.one (.int .i64 v))), (.w (.one (.int .i64 w)))] [false, false, false, true, true, true, true, true, true, true, true, false, true, true, true, true] = some (AV.w (AW.one (AC.bool (knB a == true))), (pickL [(chkB a != 0, false), (a.u, false), (i64B a.lo, true), (i64B a.hi, true), (chkB b != 0, false), (b.u, true), (true, true), (false, false), (i64B v, true), (chkB a == chkB a, true), (noneB.lo == 0 && (noneB.hi == 0 && (noneB.u == true && true)), true), ((normB a).lo == a.lo && ((normB a).hi == a.hi && ((normB a).u == a.u && true)), true), (i64B w, true), (decide (v < 0) == decide (v < 0), true), (decide (w < 0) == decide (w < 0), true), (szB v, true), (szB w, true), ((ofB v w).lo == (ofB v w).lo && ((ofB v w).hi == (ofB v w).hi && ((ofB v w).u == (ofB v w).u && true)), true), ((ofB v v).lo == (ofB v v).lo && ((ofB v v).hi == (ofB v v).hi && ((ofB v v).u == (ofB v v).u && true)), true), (!true, false), (decide (a.lo < 0) == decide (a.lo < 0), true), (szB a.lo, true), (decide (cmpI a.lo v ≤ 0), false), (hasB a v == false, true), (!false, true), (insB a b == true, true), (cmpB a b == 0, true), (widV a == IntKind.i64.wrap (a.hi - a.lo), true)] [0, 0, 0, 1, 2, 3, 4, 4, 4, 5, 6, 6, 6, 7, 7, 7, 7, 7, 7, 6, 6, 7, 7, 7, 7, 7, 7, 8, 6, 6, 6, 6, 6, 6, 9, 9, 9, 9, 10, 10, 10, 10, 10, 11, 11, 11, 11, 11, 11, 12, 11, 13, 14, 15, 16, 11, 11, 17, 17, 17, 17, 17, 13, 13, 15, 15, 17, 17, 18, 18, 18, 18, 18, 18, 18, 18, 18, 18, 18, 11, 11, 11, 11, 11, 11, 19, 19, 19, 20, 13, 21, 15, 19, 19, 22, 22, 22, 22, 19, 22, 11, 19, 11, 11, 23, 23, 23, 23, 23, 23, 24, 24, 24, 24, 24, 23, 24, 23, 23, 25, 25, 25, 25, 25, 25, 26, 26, 26, 26, 27, 27, 27, 27])) := by kernel_rfl
set_option maxRecDepth 100000 in
theorem boundChecks_0001111111111111 (a : Bd) (b : Bd) (v : Int) (w : Int) : evR (ctxLp Try.prog numI eqBoundChecks libBoundChecks fnsBoundChecks []) Try.f3 [(bA a), (bA b), (.w (.one (.int .i64 v))), (.w (.one (.int .i64 w)))] [false, false, false, true, true, true, true, true, true, true, true, true, true, true, true, true] = some (AV.w (AW.one (AC.bool (knB a == true))), (pickL [(chkB a != 0, false), (a.u, false), (i64B a.lo, true), (i64B a.hi, true), (chkB b != 0, false), (b.u, true), (true, true), (false, false), (i64B v, true), (chkB a == chkB a, true), (noneB.lo == 0 && (noneB.hi == 0 && (noneB.u == true && true)), true), ((normB a).lo == a.lo && ((normB a).hi == a.hi && ((normB a).u == a.u && true)), true), (i64B w, true), (decide (v < 0) == decide (v < 0), true), (decide (w < 0) == decide (w < 0), true), (szB v, true), (szB w, true), ((ofB v w).lo == (ofB v w).lo && ((ofB v w).hi == (ofB v w).hi && ((ofB v w).u == (ofB v w).u && true)), true), ((ofB v v).lo == (ofB v v).lo && ((ofB v v).hi == (ofB v v).hi && ((ofB v v).u == (ofB v v).u && true)), true), (!true, false), (decide (a.lo < 0) == decide (a.lo < 0), true), (szB a.lo, true), (decide (cmpI a.lo v ≤ 0), true), (decide (a.hi < 0) == decide (a.hi < 0), true), (szB a.hi, true), (hasB a v == decide (cmpI a.hi v ≥ 0), true), (!false, true), (insB a b == true, true), (cmpB a b == 0, true), (widV a == IntKind.i64.wrap (a.hi - a.lo), true)] [0, 0, 0, 1, 2, 3, 4, 4, 4, 5, 6, 6, 6, 7, 7, 7, 7, 7, 7, 6, 6, 7, 7, 7, 7, 7, 7, 8, 6, 6, 6, 6, 6, 6, 9, 9, 9, 9, 10, 10, 10, 10, 10, 11, 11, 11, 11, 11, 11, 12, 11, 13, 14, 15, 16, 11, 11, 17, 17, 17, 17, 17, 13, 13, 15, 15, 17, 17, 18, 18, 18, 18, 18, 18, 18, 18, 18, 18, 18, 11, 11, 11, 11, 11, 11, 19, 19, 19, 20, 13, 21, 15, 19, 19, 22, 22, 22, 23, 13, 24, 15, 22, 19, 22, 11, 19, 11, 11, 25, 25, 25, 25, 25, 25, 26, 26, 26, 26, 26, 25, 26, 25, 25, 27, 27, 27, 27, 27, 27, 28, 28, 28, 28, 29, 29, 29, 29])) := by kernel_rfl
set_option maxRecDepth 100000 in
theorem boundChecks_001111111101111 (a : Bd) (b : Bd) (v : Int) (w : Int) : evR (ctxLp Try.prog numI eqBoundChecks libBoundChecks fnsBoundChecks []) Try.f3 [(bA a), (bA b), (.w (.one (.int .i64 v))), (.w (.one (.int .i64 w)))] [false, false, true, true, true, true, true, true, true, true, false, true, true, true, true] = some (AV.w (AW.one (AC.bool (knB a == true))), (pickL [(chkB a != 0, false), (a.u, false), (i64B a.lo, true), (i64B a.hi, true), (chkB b != 0, true), (true, true), (false, false), (i64B v, true), (chkB a == chkB a, true), (noneB.lo == 0 && (noneB.hi == 0 && (noneB.u == true && true)), true), ((normB a).lo == a.lo && ((normB a).hi == a.hi && ((normB a).u == a.u && true)), true), (i64B w, true), (decide (v < 0) == decide (v < 0), true), (decide (w < 0) == decide (w < 0), true), (szB v, true), (szB w, true), ((ofB v w).lo == (ofB v w).lo && ((ofB v w).hi == (ofB v w).hi && ((ofB v w).u == (ofB v w).u && true)), true), ((ofB v v).lo == (ofB v v).lo && ((ofB v v).hi == (ofB v v).hi && ((ofB v v).u == (ofB v v).u && true)), true), (!true, false), (decide (a.lo < 0) == decide (a.lo < 0), true), (szB a.lo, true), (decide (cmpI a.lo v ≤ 0), false), (hasB a v == false, true), (!false, true), (insB a b == true, true), (cmpB a b == 0, true), (widV a == IntKind.i64.wrap (a.hi - a.lo), true)] [0, 0, 0, 1, 2, 3, 4, 4, 4, 5, 5, 5, 5, 6, 6, 6, 6, 6, 6, 5, 5, 6, 6, 6, 6, 6, 6, 7, 5, 5, 5, 5, 5, 5, 8, 8, 8, 8, 9, 9, 9, 9, 9, 10, 10, 10, 10, 10, 10, 11, 10, 12, 13, 14, 15, 10, 10, 16, 16, 16, 16, 16, 12, 12, 14, 14, 16, 16, 17, 17, 17, 17, 17, 17, 17, 17, 17, 17, 17, 10, 10, 10, 10, 10, 10, 18, 18, 18, 19, 12, 20, 14, 18, 18, 21, 21, 21, 21, 18, 21, 10, 18, 10, 10, 22, 22, 22, 22, 22, 22, 23, 23, 23, 23, 23, 22, 23, 22, 22, 24, 24, 24, 24, 24, 24, 25, 25, 25, 25, 26, 26, 26, 26])) := by kernel_rfl
set_option maxRecDepth 100000 in
theorem boundChecks_001111111111111 (a : Bd) (b : Bd) (v : Int) (w : Int) : evR (ctxLp Try.prog numI eqBoundChecks libBoundChecks fnsBoundChecks []) Try.f3 [(bA a), (bA b), (.w (.one (.int .i64 v))), (.w (.one (.int .i64 w)))] [false, false, true, true, true, true, true, true, true, true, true, true, true, true, true] = some (AV.w (AW.one (AC.bool (knB a == true))), (pickL [(chkB a != 0, false), (a.u, false), (i64B a.lo, true), (i64B a.hi, true), (chkB b != 0, true), (true, true), (false, false), (i64B v, true), (chkB a == chkB a, true), (noneB.lo == 0 && (noneB.hi == 0 && (noneB.u == true && true)), true), ((normB a).lo == a.lo && ((normB a).hi == a.hi && ((normB a).u == a.u && true)), true), (i64B w, true), (decide (v < 0) == decide (v < 0), true), (decide (w < 0) == decide (w < 0), true), (szB v, true), (szB w, true), ((ofB v w).lo == (ofB v w).lo && ((ofB v w).hi == (ofB v w).hi && ((ofB v w).u == (ofB v w).u && true)), true), ((ofB v v).lo == (ofB v v).lo && ((ofB v v).hi == (ofB v v).hi && ((ofB v v).u == (ofB v v).u && true)), true), (!true, false), (decide (a.lo < 0) == decide (a.lo < 0), true), (szB a.lo, true), (decide (cmpI a.lo v ≤ 0), true), (decide (a.hi < 0) == decide (a.hi < 0), true), (szB a.hi, true), (hasB a v == decide (cmpI a.hi v ≥ 0), true), (!false, true), (insB a b == true, true), (cmpB a b == 0, true), (widV a == IntKind.i64.wrap (a.hi - a.lo), true)] [0, 0, 0, 1, 2, 3, 4, 4, 4, 5, 5, 5, 5, 6, 6, 6, 6, 6, 6, 5, 5, 6, 6, 6, 6, 6, 6, 7, 5, 5, 5, 5, 5, 5, 8, 8, 8, 8, 9, 9, 9, 9, 9, 10, 10, 10, 10, 10, 10, 11, 10, 12, 13, 14, 15, 10, 10, 16, 16, 16, 16, 16, 12, 12, 14, 14, 16, 16, 17, 17, 17, 17, 17, 17, 17, 17, 17, 17, 17, 10, 10, 10, 10, 10, 10, 18, 18, 18, 19, 12, 20, 14, 18, 18, 21, 21, 21, 22, 12, 23, 14, 21, 18, 21, 10, 18, 10, 10, 24, 24, 24, 24, 24, 24, 25, 25, 25, 25, 25, 24, 25, 24, 24, 26, 26, 26, 26, 26, 26, 27, 27, 27, 27, 28, 28, 28, 28])) := by kernel_rfl
set_option maxRecDepth 100000 in
theorem boundChecks_0000101111111010111 (a : Bd) (b : Bd) (v : Int) (w : Int) : evR (ctxLp Try.prog numI eqBoundChecks libBoundChecks fnsBoundChecks []) Try.f3 [(bA a), (bA b), (.w (.one (.int .i64 v))), (.w (.one (.int .i64 w)))] [false, false, false, false, true, false, true, true, true, true, true, true, true, false, true, false, true, true, true] = some (AV.w (AW.one (AC.bool (knB a == true))), (pickL [(chkB a != 0, false), (a.u, false), (i64B a.lo, true), (i64B a.hi, true), (chkB b != 0, false), (b.u, false), (i64B b.lo, true), (i64B b.hi, true), (true, true), (decide (a.hi < 0) == decide (a.hi < 0), true), (decide (b.lo < 0) == decide (b.lo < 0), true), (szB a.hi, true), (szB b.lo, true), (decide (cmpI a.hi b.lo < 0), true), (decide (a.lo < 0) == decide (a.lo < 0), true), (decide (b.hi < 0) == decide (b.hi < 0), true), (szB a.lo, true), (szB b.hi, true), (decide (cmpI a.lo b.hi > 0), false), (i64B v, true), (chkB a == chkB a, true), (noneB.lo == 0 && (noneB.hi == 0 && (noneB.u == true && true)), true), ((normB a).lo == a.lo && ((normB a).hi == a.hi && ((normB a).u == a.u && true)), true), (i64B w, true), (decide (v < 0) == decide (v < 0), true), (decide (w < 0) == decide (w < 0), true), (szB v, true), (szB w, true), ((ofB v w).lo == (ofB v w).lo && ((ofB v w).hi == (ofB v w).hi && ((ofB v w).u == (ofB v w).u && true)), true), ((ofB v v).lo == (ofB v v).lo && ((ofB v v).hi == (ofB v v).hi && ((ofB v v).u == (ofB v v).u && true)), true), (!true, false), (decide (cmpI a.lo v ≤ 0), false), (hasB a v == false, true), (decide (cmpI a.lo b.lo ≥ 0), false), (insB a b == false, true), (cmpB a b == -1, true), (widV a == IntKind.i64.wrap (a.hi - a.lo), true)] [0, 0, 0, 1, 2, 3, 4, 4, 4, 5, 6, 7, 8, 8, 8, 8, 8, 8, 9, 10, 11, 12, 8, 8, 13, 8, 8, 8, 8, 8, 14, 15, 16, 17, 8, 8, 18, 19, 8, 8, 8, 8, 8, 8, 20, 20, 20, 20, 21, 21, 21, 21, 21, 22, 22, 22, 22, 22, 22, 23, 22, 24, 25, 26, 27, 22, 22, 28, 28, 28, 28, 28, 24, 24, 26, 26, 28, 28, 29, 29, 29, 29, 29, 29, 29, 29, 29, 29, 29, 22, 22, 22, 22, 22, 22, 30, 30, 30, 14, 24, 16, 26, 30, 30, 31, 31, 31, 31, 30, 31, 22, 30, 22, 22, 32, 32, 32, 32, 32, 32, 30, 30, 8, 8, 8, 14, 10, 16, 12, 8, 30, 8, 30, 33, 33, 33, 33, 30, 33, 32, 30, 32, 32, 34, 34, 34, 34, 34, 34, 35, 35, 35, 35, 36, 36, 36, 36])) := by kernel_rfl
set_option maxRecDepth 100000 in
theorem boundChecks_0000011111111111111 (a : Bd) (b : Bd) (v : Int) (w : Int) : evR (ctxLp Try.prog numI eqBoundChecks libBoundChecks fnsBoundChecks []) Try.f3 [(bA a), (bA b), (.w (.one (.int .i64 v))), (.w (.one (.int .i64 w)))] [false, false, false, false, false, true, true, true, true, true, true, true, true, true, true, true, true, true, true] = some (AV.w (AW.one (AC.bool (knB a == true))), (pickL [(chkB a != 0, false), (a.u, false), (i64B a.lo, true), (i64B a.hi, true), (chkB b != 0, false), (b.u, false), (i64B b.lo, true), (i64B b.hi, true), (true, true), (decide (a.hi < 0) == decide (a.hi < 0), true), (decide (b.lo < 0) == decide (b.lo < 0), true), (szB a.hi, true), (szB b.lo, true), (decide (cmpI a.hi b.lo < 0), false), (decide (a.lo < 0) == decide (a.lo < 0), true), (decide (b.hi < 0) == decide (b.hi < 0), true), (szB a.lo, true), (szB b.hi, true), (decide (cmpI a.lo b.hi > 0), true), (i64B v, true), (chkB a == chkB a, true), (noneB.lo == 0 && (noneB.hi == 0 && (noneB.u == true && true)), true), ((normB a).lo == a.lo && ((normB a).hi == a.hi && ((normB a).u == a.u && true)), true), (i64B w, true), (decide (v < 0) == decide (v < 0), true), (decide (w < 0) == decide (w < 0), true), (szB v, true), (szB w, true), ((ofB v w).lo == (ofB v w).lo && ((ofB v w).hi == (ofB v w).hi && ((ofB v w).u == (ofB v w).u && true)), true), ((ofB v v).lo == (ofB v v).lo && ((ofB v v).hi == (ofB v v).hi && ((ofB v v).u == (ofB v v).u && true)), true), (!true, false), (decide (cmpI a.lo v ≤ 0), true), (hasB a v == decide (cmpI a.hi v ≥ 0), true), (decide (cmpI a.lo b.lo ≥ 0), true), (insB a b == decide (cmpI a.hi b.hi ≤ 0), true), (cmpB a b == 1, true), (widV a == IntKind.i64.wrap (a.hi - a.lo), true)] [0, 0, 0, 1, 2, 3, 4, 4, 4, 5, 6, 7, 8, 8, 8, 8, 8, 8, 9, 10, 11, 12, 8, 8, 13, 8, 8, 8, 8, 8, 14, 15, 16, 17, 8, 8, 18, 19, 8, 8, 8, 8, 8, 8, 20, 20, 20, 20, 21, 21, 21, 21, 21, 22, 22, 22, 22, 22, 22, 23, 22, 24, 25, 26, 27, 22, 22, 28, 28, 28, 28, 28, 24, 24, 26, 26, 28, 28, 29, 29, 29, 29, 29, 29, 29, 29, 29, 29, 29, 22, 22, 22, 22, 22, 22, 30, 30, 30, 14, 24, 16, 26, 30, 30, 31, 31, 31, 9, 24, 11, 26, 31, 30, 31, 22, 30, 22, 22, 32, 32, 32, 32, 32, 32, 30, 30, 8, 8, 8, 14, 10, 16, 12, 8, 30, 8, 30, 33, 33, 33, 9, 15, 11, 17, 33, 30, 33, 32, 30, 32, 32, 34, 34, 34, 34, 34, 34, 35, 35, 35, 35, 36, 36, 36, 36])) := by kernel_rfl
set_option maxRecDepth 100000 in
theorem boundChecks_010111111111111 (a : Bd) (b : Bd) (v : Int) (w : Int) : evR (ctxLp Try.prog numI eqBoundChecks libBoundChecks fnsBoundChecks []) Try.f3 [(bA a), (bA b), (.w (.one (.int .i64 v))), (.w (.one (.int .i64 w)))] [false, true, false, true, true, true, true, true, true, true, true, true, true, true, true] = some (AV.w (AW.one (AC.bool (knB a == false))), (pickL [(chkB a != 0, false), (a.u, true), (chkB b != 0, false), (b.u, true), (false, false), (i64B v, true), (true, true), (chkB a == chkB a, true), (noneB.lo == 0 && (noneB.hi == 0 && (noneB.u == true && true)), true), ((normB a).lo == 0 && ((normB a).hi == 0 && ((normB a).u == true && true)), true), (i64B w, true), (decide (v < 0) == decide (v < 0), true), (decide (w < 0) == decide (w < 0), true), (szB v, true), (szB w, true), ((ofB v w).lo == (ofB v w).lo && ((ofB v w).hi == (ofB v w).hi && ((ofB v w).u == (ofB v w).u && true)), true), ((ofB v v).lo == (ofB v v).lo && ((ofB v v).hi == (ofB v v).hi && ((ofB v v).u == (ofB v v).u && true)), true), (!false, true), (hasB a v == true, true), (insB a b == true, true), (cmpB a b == 0, true), (widV a == 0, true)] [0, 0, 0, 1, 2, 2, 2, 3, 4, 4, 4, 4, 4, 4, 4, 4, 4, 4, 4, 4, 4, 4, 4, 4, 4, 5, 6, 6, 6, 6, 6, 6, 7, 7, 7, 7, 8, 8, 8, 8, 8, 9, 9, 9, 9, 9, 9, 10, 9, 11, 12, 13, 14, 9, 9, 15, 15, 15, 15, 15, 11, 11, 13, 13, 15, 15, 16, 16, 16, 16, 16, 16, 16, 16, 16, 16, 16, 9, 9, 9, 9, 9, 9, 17, 17, 17, 17, 17, 17, 9, 17, 9, 9, 18, 18, 18, 18, 18, 18, 17, 17, 17, 17, 17, 18, 17, 18, 18, 19, 19, 19, 19, 19, 19, 20, 20, 20, 20, 21, 21, 21, 21])) := by kernel_rfl
set_option maxRecDepth 100000 in
theorem boundChecks_01111111111111 (a : Bd) (b : Bd) (v : Int) (w : Int) : evR (ctxLp Try.prog numI eqBoundChecks libBoundChecks fnsBoundChecks []) Try.f3 [(bA a), (bA b), (.w (.one (.int .i64 v))), (.w (.one (.int .i64 w)))] [false, true, true, true, true, true, true, true, true, true, true, true, true, true] = some (AV.w (AW.one (AC.bool (knB a == false))), (pickL [(chkB a != 0, false), (a.u, true), (chkB b != 0, true), (true, true), (false, false), (i64B v, true), (chkB a == chkB a, true), (noneB.lo == 0 && (noneB.hi == 0 && (noneB.u == true && true)), true), ((normB a).lo == 0 && ((normB a).hi == 0 && ((normB a).u == true && true)), true), (i64B w, true), (decide (v < 0) == decide (v < 0), true), (decide (w < 0) == decide (w < 0), true), (szB v, true), (szB w, true), ((ofB v w).lo == (ofB v w).lo && ((ofB v w).hi == (ofB v w).hi && ((ofB v w).u == (ofB v w).u && true)), true), ((ofB v v).lo == (ofB v v).lo && ((ofB v v).hi == (ofB v v).hi && ((ofB v v).u == (ofB v v).u && true)), true), (!false, true), (hasB a v == true, true), (insB a b == true, true), (cmpB a b == 0, true), (widV a == 0, true)] [0, 0, 0, 1, 2, 2, 2, 3, 4, 4, 4, 4, 4, 4, 4, 4, 4, 4, 4, 4, 4, 4, 4, 4, 4, 5, 3, 3, 3, 3, 3, 3, 6, 6, 6, 6, 7, 7, 7, 7, 7, 8, 8, 8, 8, 8, 8, 9, 8, 10, 11, 12, 13, 8, 8, 14, 14, 14, 14, 14, 10, 10, 12, 12, 14, 14, 15, 15, 15, 15, 15, 15, 15, 15, 15, 15, 15, 8, 8, 8, 8, 8, 8, 16, 16, 16, 16, 16, 16, 8, 16, 8, 8, 17, 17, 17, 17, 17, 17, 16, 16, 16, 16, 16, 17, 16, 17, 17, 18, 18, 18, 18, 18, 18, 19, 19, 19, 19, 20, 20, 20, 20])) := by kernel_rfl
set_option maxRecDepth 100000 in
theorem boundChecks_10111111111111 (a : Bd) (b : Bd) (v : Int) (w : Int) : evR (ctxLp Try.prog numI eqBoundChecks libBoundChecks fnsBoundChecks []) Try.f3 [(bA a), (bA b), (.w (.one (.int .i64 v))), (.w (.one (.int .i64 w)))] [true, false, true, true, true, true, true, true, true, true, true, true, true, true] = some (AV.w (AW.one (AC.bool (knB a == false))), (pickL [(chkB a != 0, true), (true, true), (chkB b != 0, false), (b.u, true), (false, false), (i64B v, true), (chkB a == chkB a, true), (noneB.lo == 0 && (noneB.hi == 0 && (noneB.u == true && true)), true), ((normB a).lo == 0 && ((normB a).hi == 0 && ((normB a).u == true && true)), true), (i64B w, true), (decide (v < 0) == decide (v < 0), true), (decide (w < 0) == decide (w < 0), true), (szB v, true), (szB w, true), ((ofB v w).lo == (ofB v w).lo && ((ofB v w).hi == (ofB v w).hi && ((ofB v w).u == (ofB v w).u && true)), true), ((ofB v v).lo == (ofB v v).lo && ((ofB v v).hi == (ofB v v).hi && ((ofB v v).u == (ofB v v).u && true)), true), (!false, true), (hasB a v == true, true), (insB a b == true, true), (cmpB a b == 0, true), (widV a == 0, true)] [0, 0, 0, 1, 2, 2, 2, 3, 4, 4, 4, 4, 4, 4, 4, 4, 4, 4, 4, 4, 4, 4, 4, 4, 4, 5, 1, 1, 1, 1, 1, 1, 6, 6, 6, 6, 7, 7, 7, 7, 7, 8, 8, 8, 8, 8, 8, 9, 8, 10, 11, 12, 13, 8, 8, 14, 14, 14, 14, 14, 10, 10, 12, 12, 14, 14, 15, 15, 15, 15, 15, 15, 15, 15, 15, 15, 15, 8, 8, 8, 8, 8, 8, 16, 16, 16, 16, 16, 16, 8, 16, 8, 8, 17, 17, 17, 17, 17, 17, 16, 16, 16, 16, 16, 17, 16, 17, 17, 18, 18, 18, 18, 18, 18, 19, 19, 19, 19, 20, 20, 20, 20])) := by kernel_rfl
set_option maxRecDepth 100000 in
theorem boundChecks_1111111111111 (a : Bd) (b : Bd) (v : Int) (w : Int) : evR (ctxLp Try.prog numI eqBoundChecks libBoundChecks fnsBoundChecks []) Try.f3 [(bA a), (bA b), (.w (.one (.int .i64 v))), (.w (.one (.int .i64 w)))] [true, true, true, true, true, true, true, true, true, true, true, true, true] = some (AV.w (AW.one (AC.bool (knB a == false))), (pickL [(chkB a != 0, true), (true, true), (chkB b != 0, true), (false, false), (i64B v, true), (chkB a == chkB a, true), (noneB.lo == 0 && (noneB.hi == 0 && (noneB.u == true && true)), true), ((normB a).lo == 0 && ((normB a).hi == 0 && ((normB a).u == true && true)), true), (i64B w, true), (decide (v < 0) == decide (v < 0), true), (decide (w < 0) == decide (w < 0), true), (szB v, true), (szB w, true), ((ofB v w).lo == (ofB v w).lo && ((ofB v w).hi == (ofB v w).hi && ((ofB v w).u == (ofB v w).u && true)), true), ((ofB v v).lo == (ofB v v).lo && ((ofB v v).hi == (ofB v v).hi && ((ofB v v).u == (ofB v v).u && true)), true), (!false, true), (hasB a v == true, true), (insB a b == true, true), (cmpB a b == 0, true), (widV a == 0, true)] [0, 0, 0, 1, 2, 2, 2, 1, 3, 3, 3, 3, 3, 3, 3, 3, 3, 3, 3, 3, 3, 3, 3, 3, 3, 4, 1, 1, 1, 1, 1, 1, 5, 5, 5, 5, 6, 6, 6, 6, 6, 7, 7, 7, 7, 7, 7, 8, 7, 9, 10, 11, 12, 7, 7, 13, 13, 13, 13, 13, 9, 9, 11, 11, 13, 13, 14, 14, 14, 14, 14, 14, 14, 14, 14, 14, 14, 7, 7, 7, 7, 7, 7, 15, 15, 15, 15, 15, 15, 7, 15, 7, 7, 16, 16, 16, 16, 16, 16, 15, 15, 15, 15, 15, 16, 15, 16, 16, 17, 17, 17, 17, 17, 17, 18, 18, 18, 18, 19, 19, 19, 19])) := by kernel_rfl
set_option maxRecDepth 100000 in
theorem boundChecks_w0 (a : Bd) (b : Bd) (v : Int) (w : Int) (W : World) (hv : i64B v = true) (hw : i64B w = true) (k0 : (chkB a != 0) = true) (k1 : (chkB b != 0) = true) : Calls Try.prog 3 #[bV a, bV b, .int .i64 v, .int .i64 w] W fun e w' => e = .returned (.bool true) ∧ Below W.heap.size W w' := by
  have L := boundChecks_1111111111111 a b v w
  have ka : knB a = false := kn_bad k0
  have kb : knB b = false := kn_bad k1
  have v7 := Dl.i64 hv
  have w7 := Dl.i64 hw
  have V : (knB a == false) = true := by
    simp [hasB, insB, widV, normB, meetO, noneB, cmp_lt', cmp_gt, cmp_le0, cmp_ge0, cmpB, ka, kb]
    all_goals omega
  have p1 : (true) = true := by
    rfl
  have p3 : (false) = false := by
    rfl
  have p4 : (i64B v) = true := by
    first | with_reducible assumption | decide
  have p5 : (chkB a == chkB a) = true := by
    first | exact eqB _ | exact beq_self_eq_true _
  have p6 : (noneB.lo == 0 && (noneB.hi == 0 && (noneB.u == true && true))) = true := by
    have e : noneB = (⟨0, 0, true⟩ : Bd) := by
      simp only [minB, maxB, hullB, absB, meetB, normB, rootB, noneB, ka, kb, Bool.and_true, Bool.true_and, Bool.false_and, Bool.and_false, Bool.not_true, Bool.not_false, cond_true, cond_false]
    rw [e]; simp
  have p7 : ((normB a).lo == 0 && ((normB a).hi == 0 && ((normB a).u == true && true))) = true := by
    have e : (normB a) = (⟨0, 0, true⟩ : Bd) := by
      simp only [minB, maxB, hullB, absB, meetB, normB, rootB, noneB, ka, kb, Bool.and_true, Bool.true_and, Bool.false_and, Bool.and_false, Bool.not_true, Bool.not_false, cond_true, cond_false]
    rw [e]; simp
  have p8 : (i64B w) = true := by
    first | with_reducible assumption | decide
  have p9 : (decide (v < 0) == decide (v < 0)) = true := by
    first | exact eqB _ | exact beq_self_eq_true _
  have p10 : (decide (w < 0) == decide (w < 0)) = true := by
    first | exact eqB _ | exact beq_self_eq_true _
  have p11 : (szB v) = true := by
    exact Dl.sz (k := 60) (by first | exact Dl.le (by with_reducible assumption) (by omega) | (refine Dl.le (of_dl (by with_reducible assumption) (by with_reducible assumption)) (by omega)) | (refine Dl.le (of_dl (Dl.abs (by with_reducible assumption)) (Dl.abs (by with_reducible assumption))) (by omega)) | (refine Dl.le (Dl.abs (by with_reducible assumption)) (by omega)) | (refine Dl.le (Dl.mul (by with_reducible assumption) (by with_reducible assumption)) (by omega))) (by omega)
  have p12 : (szB w) = true := by
    exact Dl.sz (k := 60) (by first | exact Dl.le (by with_reducible assumption) (by omega) | (refine Dl.le (of_dl (by with_reducible assumption) (by with_reducible assumption)) (by omega)) | (refine Dl.le (of_dl (Dl.abs (by with_reducible assumption)) (Dl.abs (by with_reducible assumption))) (by omega)) | (refine Dl.le (Dl.abs (by with_reducible assumption)) (by omega)) | (refine Dl.le (Dl.mul (by with_reducible assumption) (by with_reducible assumption)) (by omega))) (by omega)
  have p13 : ((ofB v w).lo == (ofB v w).lo && ((ofB v w).hi == (ofB v w).hi && ((ofB v w).u == (ofB v w).u && true))) = true := by
    have e : (ofB v w) = ((ofB v w) : Bd) := by
      simp only [minB, maxB, hullB, absB, meetB, normB, rootB, noneB, ka, kb, Bool.and_true, Bool.true_and, Bool.false_and, Bool.and_false, Bool.not_true, Bool.not_false, cond_true, cond_false]
    rw [e]; simp
  have p14 : ((ofB v v).lo == (ofB v v).lo && ((ofB v v).hi == (ofB v v).hi && ((ofB v v).u == (ofB v v).u && true))) = true := by
    have e : (ofB v v) = ((ofB v v) : Bd) := by
      simp only [minB, maxB, hullB, absB, meetB, normB, rootB, noneB, ka, kb, Bool.and_true, Bool.true_and, Bool.false_and, Bool.and_false, Bool.not_true, Bool.not_false, cond_true, cond_false]
    rw [e]; simp
  have p15 : (!false) = true := by
    rfl
  have p16 : (hasB a v == true) = true := by
    simp [hasB, insB, widV, normB, meetO, noneB, cmp_lt', cmp_gt, cmp_le0, cmp_ge0, cmpB, ka, kb]
    all_goals omega
  have p17 : (insB a b == true) = true := by
    simp [hasB, insB, widV, normB, meetO, noneB, cmp_lt', cmp_gt, cmp_le0, cmp_ge0, cmpB, ka, kb]
    all_goals omega
  have p18 : (cmpB a b == 0) = true := by
    simp [hasB, insB, widV, normB, meetO, noneB, cmp_lt', cmp_gt, cmp_le0, cmp_ge0, cmpB, ka, kb]
    all_goals omega
  have p19 : (widV a == 0) = true := by
    simp [hasB, insB, widV, normB, meetO, noneB, cmp_lt', cmp_gt, cmp_le0, cmp_ge0, cmpB, ka, kb]
    all_goals omega
  exact evR_calls (I := numI) (v := .bool true) (ctxLp_ok libBoundChecks_ok eqBoundChecks_ok fnsBoundChecks_ok (fun _ _ _ => lps_nil)) (by kernel_rfl) Try.func3 rfl lps_nil L rfl (all2_R (.cons rfl (.cons rfl (.cons rfl (.cons rfl .nil))))) (congrArg (fun b => some (Value.bool b)) V) _ (Nat.zero_le _) (pickL_ok (cd_cons k0 (cd_cons p1 (cd_cons k1 (cd_cons p3 (cd_cons p4 (cd_cons p5 (cd_cons p6 (cd_cons p7 (cd_cons p8 (cd_cons p9 (cd_cons p10 (cd_cons p11 (cd_cons p12 (cd_cons p13 (cd_cons p14 (cd_cons p15 (cd_cons p16 (cd_cons p17 (cd_cons p18 (cd_cons p19 cd_nil)))))))))))))))))))) _)
set_option maxRecDepth 100000 in
theorem boundChecks_w1 (a : Bd) (b : Bd) (v : Int) (w : Int) (W : World) (hv : i64B v = true) (hw : i64B w = true) (k0 : (chkB a != 0) = true) (k1 : (chkB b != 0) = false) (k2 : (b.u) = true) : Calls Try.prog 3 #[bV a, bV b, .int .i64 v, .int .i64 w] W fun e w' => e = .returned (.bool true) ∧ Below W.heap.size W w' := by
  have L := boundChecks_10111111111111 a b v w
  have ka : knB a = false := kn_bad k0
  have kb : knB b = false := kn_u k2
  have v7 := Dl.i64 hv
  have w7 := Dl.i64 hw
  have V : (knB a == false) = true := by
    simp [hasB, insB, widV, normB, meetO, noneB, cmp_lt', cmp_gt, cmp_le0, cmp_ge0, cmpB, ka, kb]
    all_goals omega
  have p1 : (true) = true := by
    rfl
  have p4 : (false) = false := by
    rfl
  have p5 : (i64B v) = true := by
    first | with_reducible assumption | decide
  have p6 : (chkB a == chkB a) = true := by
    first | exact eqB _ | exact beq_self_eq_true _
  have p7 : (noneB.lo == 0 && (noneB.hi == 0 && (noneB.u == true && true))) = true := by
    have e : noneB = (⟨0, 0, true⟩ : Bd) := by
      simp only [minB, maxB, hullB, absB, meetB, normB, rootB, noneB, ka, kb, Bool.and_true, Bool.true_and, Bool.false_and, Bool.and_false, Bool.not_true, Bool.not_false, cond_true, cond_false]
    rw [e]; simp
  have p8 : ((normB a).lo == 0 && ((normB a).hi == 0 && ((normB a).u == true && true))) = true := by
    have e : (normB a) = (⟨0, 0, true⟩ : Bd) := by
      simp only [minB, maxB, hullB, absB, meetB, normB, rootB, noneB, ka, kb, Bool.and_true, Bool.true_and, Bool.false_and, Bool.and_false, Bool.not_true, Bool.not_false, cond_true, cond_false]
    rw [e]; simp
  have p9 : (i64B w) = true := by
    first | with_reducible assumption | decide
  have p10 : (decide (v < 0) == decide (v < 0)) = true := by
    first | exact eqB _ | exact beq_self_eq_true _
  have p11 : (decide (w < 0) == decide (w < 0)) = true := by
    first | exact eqB _ | exact beq_self_eq_true _
  have p12 : (szB v) = true := by
    exact Dl.sz (k := 60) (by first | exact Dl.le (by with_reducible assumption) (by omega) | (refine Dl.le (of_dl (by with_reducible assumption) (by with_reducible assumption)) (by omega)) | (refine Dl.le (of_dl (Dl.abs (by with_reducible assumption)) (Dl.abs (by with_reducible assumption))) (by omega)) | (refine Dl.le (Dl.abs (by with_reducible assumption)) (by omega)) | (refine Dl.le (Dl.mul (by with_reducible assumption) (by with_reducible assumption)) (by omega))) (by omega)
  have p13 : (szB w) = true := by
    exact Dl.sz (k := 60) (by first | exact Dl.le (by with_reducible assumption) (by omega) | (refine Dl.le (of_dl (by with_reducible assumption) (by with_reducible assumption)) (by omega)) | (refine Dl.le (of_dl (Dl.abs (by with_reducible assumption)) (Dl.abs (by with_reducible assumption))) (by omega)) | (refine Dl.le (Dl.abs (by with_reducible assumption)) (by omega)) | (refine Dl.le (Dl.mul (by with_reducible assumption) (by with_reducible assumption)) (by omega))) (by omega)
  have p14 : ((ofB v w).lo == (ofB v w).lo && ((ofB v w).hi == (ofB v w).hi && ((ofB v w).u == (ofB v w).u && true))) = true := by
    have e : (ofB v w) = ((ofB v w) : Bd) := by
      simp only [minB, maxB, hullB, absB, meetB, normB, rootB, noneB, ka, kb, Bool.and_true, Bool.true_and, Bool.false_and, Bool.and_false, Bool.not_true, Bool.not_false, cond_true, cond_false]
    rw [e]; simp
  have p15 : ((ofB v v).lo == (ofB v v).lo && ((ofB v v).hi == (ofB v v).hi && ((ofB v v).u == (ofB v v).u && true))) = true := by
    have e : (ofB v v) = ((ofB v v) : Bd) := by
      simp only [minB, maxB, hullB, absB, meetB, normB, rootB, noneB, ka, kb, Bool.and_true, Bool.true_and, Bool.false_and, Bool.and_false, Bool.not_true, Bool.not_false, cond_true, cond_false]
    rw [e]; simp
  have p16 : (!false) = true := by
    rfl
  have p17 : (hasB a v == true) = true := by
    simp [hasB, insB, widV, normB, meetO, noneB, cmp_lt', cmp_gt, cmp_le0, cmp_ge0, cmpB, ka, kb]
    all_goals omega
  have p18 : (insB a b == true) = true := by
    simp [hasB, insB, widV, normB, meetO, noneB, cmp_lt', cmp_gt, cmp_le0, cmp_ge0, cmpB, ka, kb]
    all_goals omega
  have p19 : (cmpB a b == 0) = true := by
    simp [hasB, insB, widV, normB, meetO, noneB, cmp_lt', cmp_gt, cmp_le0, cmp_ge0, cmpB, ka, kb]
    all_goals omega
  have p20 : (widV a == 0) = true := by
    simp [hasB, insB, widV, normB, meetO, noneB, cmp_lt', cmp_gt, cmp_le0, cmp_ge0, cmpB, ka, kb]
    all_goals omega
  exact evR_calls (I := numI) (v := .bool true) (ctxLp_ok libBoundChecks_ok eqBoundChecks_ok fnsBoundChecks_ok (fun _ _ _ => lps_nil)) (by kernel_rfl) Try.func3 rfl lps_nil L rfl (all2_R (.cons rfl (.cons rfl (.cons rfl (.cons rfl .nil))))) (congrArg (fun b => some (Value.bool b)) V) _ (Nat.zero_le _) (pickL_ok (cd_cons k0 (cd_cons p1 (cd_cons k1 (cd_cons k2 (cd_cons p4 (cd_cons p5 (cd_cons p6 (cd_cons p7 (cd_cons p8 (cd_cons p9 (cd_cons p10 (cd_cons p11 (cd_cons p12 (cd_cons p13 (cd_cons p14 (cd_cons p15 (cd_cons p16 (cd_cons p17 (cd_cons p18 (cd_cons p19 (cd_cons p20 cd_nil))))))))))))))))))))) _)
set_option maxRecDepth 100000 in
theorem boundChecks_w2 (a : Bd) (b : Bd) (v : Int) (w : Int) (W : World) (hv : i64B v = true) (hw : i64B w = true) (k0 : (chkB a != 0) = true) (k1 : (chkB b != 0) = false) (k2 : (b.u) = false) : Calls Try.prog 3 #[bV a, bV b, .int .i64 v, .int .i64 w] W fun e w' => e = .returned (.bool true) ∧ Below W.heap.size W w' := by
  have L := boundChecks_10011111111111 a b v w
  have ka : knB a = false := kn_bad k0
  have kb : knB b = true := kn_ok k1 k2
  obtain ⟨bu, b1, b2, b3⟩ := knB_iff.1 kb
  obtain ⟨b4, b5⟩ := i64_kn kb
  have b6 := Dl.i64 b4
  have b7 := Dl.i64 b5
  have v7 := Dl.i64 hv
  have w7 := Dl.i64 hw
  have V : (knB a == false) = true := by
    simp [hasB, insB, widV, normB, meetO, noneB, cmp_lt', cmp_gt, cmp_le0, cmp_ge0, cmpB, ka, kb]
    all_goals omega
  have p1 : (true) = true := by
    rfl
  have p4 : (i64B b.lo) = true := by
    first | with_reducible assumption | decide
  have p5 : (i64B b.hi) = true := by
    first | with_reducible assumption | decide
  have p6 : (false) = false := by
    rfl
  have p7 : (i64B v) = true := by
    first | with_reducible assumption | decide
  have p8 : (chkB a == chkB a) = true := by
    first | exact eqB _ | exact beq_self_eq_true _
  have p9 : (noneB.lo == 0 && (noneB.hi == 0 && (noneB.u == true && true))) = true := by
    have e : noneB = (⟨0, 0, true⟩ : Bd) := by
      simp only [minB, maxB, hullB, absB, meetB, normB, rootB, noneB, ka, kb, Bool.and_true, Bool.true_and, Bool.false_and, Bool.and_false, Bool.not_true, Bool.not_false, cond_true, cond_false]
    rw [e]; simp
  have p10 : ((normB a).lo == 0 && ((normB a).hi == 0 && ((normB a).u == true && true))) = true := by
    have e : (normB a) = (⟨0, 0, true⟩ : Bd) := by
      simp only [minB, maxB, hullB, absB, meetB, normB, rootB, noneB, ka, kb, Bool.and_true, Bool.true_and, Bool.false_and, Bool.and_false, Bool.not_true, Bool.not_false, cond_true, cond_false]
    rw [e]; simp
  have p11 : (i64B w) = true := by
    first | with_reducible assumption | decide
  have p12 : (decide (v < 0) == decide (v < 0)) = true := by
    first | exact eqB _ | exact beq_self_eq_true _
  have p13 : (decide (w < 0) == decide (w < 0)) = true := by
    first | exact eqB _ | exact beq_self_eq_true _
  have p14 : (szB v) = true := by
    exact Dl.sz (k := 60) (by first | exact Dl.le (by with_reducible assumption) (by omega) | (refine Dl.le (of_dl (by with_reducible assumption) (by with_reducible assumption)) (by omega)) | (refine Dl.le (of_dl (Dl.abs (by with_reducible assumption)) (Dl.abs (by with_reducible assumption))) (by omega)) | (refine Dl.le (Dl.abs (by with_reducible assumption)) (by omega)) | (refine Dl.le (Dl.mul (by with_reducible assumption) (by with_reducible assumption)) (by omega))) (by omega)
  have p15 : (szB w) = true := by
    exact Dl.sz (k := 60) (by first | exact Dl.le (by with_reducible assumption) (by omega) | (refine Dl.le (of_dl (by with_reducible assumption) (by with_reducible assumption)) (by omega)) | (refine Dl.le (of_dl (Dl.abs (by with_reducible assumption)) (Dl.abs (by with_reducible assumption))) (by omega)) | (refine Dl.le (Dl.abs (by with_reducible assumption)) (by omega)) | (refine Dl.le (Dl.mul (by with_reducible assumption) (by with_reducible assumption)) (by omega))) (by omega)
  have p16 : ((ofB v w).lo == (ofB v w).lo && ((ofB v w).hi == (ofB v w).hi && ((ofB v w).u == (ofB v w).u && true))) = true := by
    have e : (ofB v w) = ((ofB v w) : Bd) := by
      simp only [minB, maxB, hullB, absB, meetB, normB, rootB, noneB, ka, kb, Bool.and_true, Bool.true_and, Bool.false_and, Bool.and_false, Bool.not_true, Bool.not_false, cond_true, cond_false]
    rw [e]; simp
  have p17 : ((ofB v v).lo == (ofB v v).lo && ((ofB v v).hi == (ofB v v).hi && ((ofB v v).u == (ofB v v).u && true))) = true := by
    have e : (ofB v v) = ((ofB v v) : Bd) := by
      simp only [minB, maxB, hullB, absB, meetB, normB, rootB, noneB, ka, kb, Bool.and_true, Bool.true_and, Bool.false_and, Bool.and_false, Bool.not_true, Bool.not_false, cond_true, cond_false]
    rw [e]; simp
  have p18 : (!false) = true := by
    rfl
  have p19 : (hasB a v == true) = true := by
    simp [hasB, insB, widV, normB, meetO, noneB, cmp_lt', cmp_gt, cmp_le0, cmp_ge0, cmpB, ka, kb]
    all_goals omega
  have p20 : (!true) = false := by
    rfl
  have p21 : (insB a b == false) = true := by
    simp [hasB, insB, widV, normB, meetO, noneB, cmp_lt', cmp_gt, cmp_le0, cmp_ge0, cmpB, ka, kb]
    all_goals omega
  have p22 : (cmpB a b == 0) = true := by
    simp [hasB, insB, widV, normB, meetO, noneB, cmp_lt', cmp_gt, cmp_le0, cmp_ge0, cmpB, ka, kb]
    all_goals omega
  have p23 : (widV a == 0) = true := by
    simp [hasB, insB, widV, normB, meetO, noneB, cmp_lt', cmp_gt, cmp_le0, cmp_ge0, cmpB, ka, kb]
    all_goals omega
  exact evR_calls (I := numI) (v := .bool true) (ctxLp_ok libBoundChecks_ok eqBoundChecks_ok fnsBoundChecks_ok (fun _ _ _ => lps_nil)) (by kernel_rfl) Try.func3 rfl lps_nil L rfl (all2_R (.cons rfl (.cons rfl (.cons rfl (.cons rfl .nil))))) (congrArg (fun b => some (Value.bool b)) V) _ (Nat.zero_le _) (pickL_ok (cd_cons k0 (cd_cons p1 (cd_cons k1 (cd_cons k2 (cd_cons p4 (cd_cons p5 (cd_cons p6 (cd_cons p7 (cd_cons p8 (cd_cons p9 (cd_cons p10 (cd_cons p11 (cd_cons p12 (cd_cons p13 (cd_cons p14 (cd_cons p15 (cd_cons p16 (cd_cons p17 (cd_cons p18 (cd_cons p19 (cd_cons p20 (cd_cons p21 (cd_cons p22 (cd_cons p23 cd_nil)))))))))))))))))))))))) _)
set_option maxRecDepth 100000 in
theorem boundChecks_w3 (a : Bd) (b : Bd) (v : Int) (w : Int) (W : World) (hv : i64B v = true) (hw : i64B w = true) (k0 : (chkB a != 0) = false) (k3 : (a.u) = true) (k4 : (chkB b != 0) = true) : Calls Try.prog 3 #[bV a, bV b, .int .i64 v, .int .i64 w] W fun e w' => e = .returned (.bool true) ∧ Below W.heap.size W w' := by
  have L := boundChecks_01111111111111 a b v w
  have ka : knB a = false := kn_u k3
  have kb : knB b = false := kn_bad k4
  have v7 := Dl.i64 hv
  have w7 := Dl.i64 hw
  have V : (knB a == false) = true := by
    simp [hasB, insB, widV, normB, meetO, noneB, cmp_lt', cmp_gt, cmp_le0, cmp_ge0, cmpB, ka, kb]
    all_goals omega
  have p3 : (true) = true := by
    rfl
  have p4 : (false) = false := by
    rfl
  have p5 : (i64B v) = true := by
    first | with_reducible assumption | decide
  have p6 : (chkB a == chkB a) = true := by
    first | exact eqB _ | exact beq_self_eq_true _
  have p7 : (noneB.lo == 0 && (noneB.hi == 0 && (noneB.u == true && true))) = true := by
    have e : noneB = (⟨0, 0, true⟩ : Bd) := by
      simp only [minB, maxB, hullB, absB, meetB, normB, rootB, noneB, ka, kb, Bool.and_true, Bool.true_and, Bool.false_and, Bool.and_false, Bool.not_true, Bool.not_false, cond_true, cond_false]
    rw [e]; simp
  have p8 : ((normB a).lo == 0 && ((normB a).hi == 0 && ((normB a).u == true && true))) = true := by
    have e : (normB a) = (⟨0, 0, true⟩ : Bd) := by
      simp only [minB, maxB, hullB, absB, meetB, normB, rootB, noneB, ka, kb, Bool.and_true, Bool.true_and, Bool.false_and, Bool.and_false, Bool.not_true, Bool.not_false, cond_true, cond_false]
    rw [e]; simp
  have p9 : (i64B w) = true := by
    first | with_reducible assumption | decide
  have p10 : (decide (v < 0) == decide (v < 0)) = true := by
    first | exact eqB _ | exact beq_self_eq_true _
  have p11 : (decide (w < 0) == decide (w < 0)) = true := by
    first | exact eqB _ | exact beq_self_eq_true _
  have p12 : (szB v) = true := by
    exact Dl.sz (k := 60) (by first | exact Dl.le (by with_reducible assumption) (by omega) | (refine Dl.le (of_dl (by with_reducible assumption) (by with_reducible assumption)) (by omega)) | (refine Dl.le (of_dl (Dl.abs (by with_reducible assumption)) (Dl.abs (by with_reducible assumption))) (by omega)) | (refine Dl.le (Dl.abs (by with_reducible assumption)) (by omega)) | (refine Dl.le (Dl.mul (by with_reducible assumption) (by with_reducible assumption)) (by omega))) (by omega)
  have p13 : (szB w) = true := by
    exact Dl.sz (k := 60) (by first | exact Dl.le (by with_reducible assumption) (by omega) | (refine Dl.le (of_dl (by with_reducible assumption) (by with_reducible assumption)) (by omega)) | (refine Dl.le (of_dl (Dl.abs (by with_reducible assumption)) (Dl.abs (by with_reducible assumption))) (by omega)) | (refine Dl.le (Dl.abs (by with_reducible assumption)) (by omega)) | (refine Dl.le (Dl.mul (by with_reducible assumption) (by with_reducible assumption)) (by omega))) (by omega)
  have p14 : ((ofB v w).lo == (ofB v w).lo && ((ofB v w).hi == (ofB v w).hi && ((ofB v w).u == (ofB v w).u && true))) = true := by
    have e : (ofB v w) = ((ofB v w) : Bd) := by
      simp only [minB, maxB, hullB, absB, meetB, normB, rootB, noneB, ka, kb, Bool.and_true, Bool.true_and, Bool.false_and, Bool.and_false, Bool.not_true, Bool.not_false, cond_true, cond_false]
    rw [e]; simp
  have p15 : ((ofB v v).lo == (ofB v v).lo && ((ofB v v).hi == (ofB v v).hi && ((ofB v v).u == (ofB v v).u && true))) = true := by
    have e : (ofB v v) = ((ofB v v) : Bd) := by
      simp only [minB, maxB, hullB, absB, meetB, normB, rootB, noneB, ka, kb, Bool.and_true, Bool.true_and, Bool.false_and, Bool.and_false, Bool.not_true, Bool.not_false, cond_true, cond_false]
    rw [e]; simp
  have p16 : (!false) = true := by
    rfl
  have p17 : (hasB a v == true) = true := by
    simp [hasB, insB, widV, normB, meetO, noneB, cmp_lt', cmp_gt, cmp_le0, cmp_ge0, cmpB, ka, kb]
    all_goals omega
  have p18 : (insB a b == true) = true := by
    simp [hasB, insB, widV, normB, meetO, noneB, cmp_lt', cmp_gt, cmp_le0, cmp_ge0, cmpB, ka, kb]
    all_goals omega
  have p19 : (cmpB a b == 0) = true := by
    simp [hasB, insB, widV, normB, meetO, noneB, cmp_lt', cmp_gt, cmp_le0, cmp_ge0, cmpB, ka, kb]
    all_goals omega
  have p20 : (widV a == 0) = true := by
    simp [hasB, insB, widV, normB, meetO, noneB, cmp_lt', cmp_gt, cmp_le0, cmp_ge0, cmpB, ka, kb]
    all_goals omega
  exact evR_calls (I := numI) (v := .bool true) (ctxLp_ok libBoundChecks_ok eqBoundChecks_ok fnsBoundChecks_ok (fun _ _ _ => lps_nil)) (by kernel_rfl) Try.func3 rfl lps_nil L rfl (all2_R (.cons rfl (.cons rfl (.cons rfl (.cons rfl .nil))))) (congrArg (fun b => some (Value.bool b)) V) _ (Nat.zero_le _) (pickL_ok (cd_cons k0 (cd_cons k3 (cd_cons k4 (cd_cons p3 (cd_cons p4 (cd_cons p5 (cd_cons p6 (cd_cons p7 (cd_cons p8 (cd_cons p9 (cd_cons p10 (cd_cons p11 (cd_cons p12 (cd_cons p13 (cd_cons p14 (cd_cons p15 (cd_cons p16 (cd_cons p17 (cd_cons p18 (cd_cons p19 (cd_cons p20 cd_nil))))))))))))))))))))) _)
set_option maxRecDepth 100000 in
theorem boundChecks_w4 (a : Bd) (b : Bd) (v : Int) (w : Int) (W : World) (hv : i64B v = true) (hw : i64B w = true) (k0 : (chkB a != 0) = false) (k3 : (a.u) = true) (k4 : (chkB b != 0) = false) (k5 : (b.u) = true) : Calls Try.prog 3 #[bV a, bV b, .int .i64 v, .int .i64 w] W fun e w' => e = .returned (.bool true) ∧ Below W.heap.size W w' := by
  have L := boundChecks_010111111111111 a b v w
  have ka : knB a = false := kn_u k3
  have kb : knB b = false := kn_u k5
  have v7 := Dl.i64 hv
  have w7 := Dl.i64 hw
  have V : (knB a == false) = true := by
    simp [hasB, insB, widV, normB, meetO, noneB, cmp_lt', cmp_gt, cmp_le0, cmp_ge0, cmpB, ka, kb]
    all_goals omega
  have p4 : (false) = false := by
    rfl
  have p5 : (i64B v) = true := by
    first | with_reducible assumption | decide
  have p6 : (true) = true := by
    rfl
  have p7 : (chkB a == chkB a) = true := by
    first | exact eqB _ | exact beq_self_eq_true _
  have p8 : (noneB.lo == 0 && (noneB.hi == 0 && (noneB.u == true && true))) = true := by
    have e : noneB = (⟨0, 0, true⟩ : Bd) := by
      simp only [minB, maxB, hullB, absB, meetB, normB, rootB, noneB, ka, kb, Bool.and_true, Bool.true_and, Bool.false_and, Bool.and_false, Bool.not_true, Bool.not_false, cond_true, cond_false]
    rw [e]; simp
  have p9 : ((normB a).lo == 0 && ((normB a).hi == 0 && ((normB a).u == true && true))) = true := by
    have e : (normB a) = (⟨0, 0, true⟩ : Bd) := by
      simp only [minB, maxB, hullB, absB, meetB, normB, rootB, noneB, ka, kb, Bool.and_true, Bool.true_and, Bool.false_and, Bool.and_false, Bool.not_true, Bool.not_false, cond_true, cond_false]
    rw [e]; simp
  have p10 : (i64B w) = true := by
    first | with_reducible assumption | decide
  have p11 : (decide (v < 0) == decide (v < 0)) = true := by
    first | exact eqB _ | exact beq_self_eq_true _
  have p12 : (decide (w < 0) == decide (w < 0)) = true := by
    first | exact eqB _ | exact beq_self_eq_true _
  have p13 : (szB v) = true := by
    exact Dl.sz (k := 60) (by first | exact Dl.le (by with_reducible assumption) (by omega) | (refine Dl.le (of_dl (by with_reducible assumption) (by with_reducible assumption)) (by omega)) | (refine Dl.le (of_dl (Dl.abs (by with_reducible assumption)) (Dl.abs (by with_reducible assumption))) (by omega)) | (refine Dl.le (Dl.abs (by with_reducible assumption)) (by omega)) | (refine Dl.le (Dl.mul (by with_reducible assumption) (by with_reducible assumption)) (by omega))) (by omega)
  have p14 : (szB w) = true := by
    exact Dl.sz (k := 60) (by first | exact Dl.le (by with_reducible assumption) (by omega) | (refine Dl.le (of_dl (by with_reducible assumption) (by with_reducible assumption)) (by omega)) | (refine Dl.le (of_dl (Dl.abs (by with_reducible assumption)) (Dl.abs (by with_reducible assumption))) (by omega)) | (refine Dl.le (Dl.abs (by with_reducible assumption)) (by omega)) | (refine Dl.le (Dl.mul (by with_reducible assumption) (by with_reducible assumption)) (by omega))) (by omega)
  have p15 : ((ofB v w).lo == (ofB v w).lo && ((ofB v w).hi == (ofB v w).hi && ((ofB v w).u == (ofB v w).u && true))) = true := by
    have e : (ofB v w) = ((ofB v w) : Bd) := by
      simp only [minB, maxB, hullB, absB, meetB, normB, rootB, noneB, ka, kb, Bool.and_true, Bool.true_and, Bool.false_and, Bool.and_false, Bool.not_true, Bool.not_false, cond_true, cond_false]
    rw [e]; simp
  have p16 : ((ofB v v).lo == (ofB v v).lo && ((ofB v v).hi == (ofB v v).hi && ((ofB v v).u == (ofB v v).u && true))) = true := by
    have e : (ofB v v) = ((ofB v v) : Bd) := by
      simp only [minB, maxB, hullB, absB, meetB, normB, rootB, noneB, ka, kb, Bool.and_true, Bool.true_and, Bool.false_and, Bool.and_false, Bool.not_true, Bool.not_false, cond_true, cond_false]
    rw [e]; simp
  have p17 : (!false) = true := by
    rfl
  have p18 : (hasB a v == true) = true := by
    simp [hasB, insB, widV, normB, meetO, noneB, cmp_lt', cmp_gt, cmp_le0, cmp_ge0, cmpB, ka, kb]
    all_goals omega
  have p19 : (insB a b == true) = true := by
    simp [hasB, insB, widV, normB, meetO, noneB, cmp_lt', cmp_gt, cmp_le0, cmp_ge0, cmpB, ka, kb]
    all_goals omega
  have p20 : (cmpB a b == 0) = true := by
    simp [hasB, insB, widV, normB, meetO, noneB, cmp_lt', cmp_gt, cmp_le0, cmp_ge0, cmpB, ka, kb]
    all_goals omega
  have p21 : (widV a == 0) = true := by
    simp [hasB, insB, widV, normB, meetO, noneB, cmp_lt', cmp_gt, cmp_le0, cmp_ge0, cmpB, ka, kb]
    all_goals omega
  exact evR_calls (I := numI) (v := .bool true) (ctxLp_ok libBoundChecks_ok eqBoundChecks_ok fnsBoundChecks_ok (fun _ _ _ => lps_nil)) (by kernel_rfl) Try.func3 rfl lps_nil L rfl (all2_R (.cons rfl (.cons rfl (.cons rfl (.cons rfl .nil))))) (congrArg (fun b => some (Value.bool b)) V) _ (Nat.zero_le _) (pickL_ok (cd_cons k0 (cd_cons k3 (cd_cons k4 (cd_cons k5 (cd_cons p4 (cd_cons p5 (cd_cons p6 (cd_cons p7 (cd_cons p8 (cd_cons p9 (cd_cons p10 (cd_cons p11 (cd_cons p12 (cd_cons p13 (cd_cons p14 (cd_cons p15 (cd_cons p16 (cd_cons p17 (cd_cons p18 (cd_cons p19 (cd_cons p20 (cd_cons p21 cd_nil)))))))))))))))))))))) _)
set_option maxRecDepth 100000 in
theorem boundChecks_w5 (a : Bd) (b : Bd) (v : Int) (w : Int) (W : World) (hv : i64B v = true) (hw : i64B w = true) (k0 : (chkB a != 0) = false) (k3 : (a.u) = true) (k4 : (chkB b != 0) = false) (k5 : (b.u) = false) : Calls Try.prog 3 #[bV a, bV b, .int .i64 v, .int .i64 w] W fun e w' => e = .returned (.bool true) ∧ Below W.heap.size W w' := by
  have L := boundChecks_010011111111111 a b v w
  have ka : knB a = false := kn_u k3
  have kb : knB b = true := kn_ok k4 k5
  obtain ⟨bu, b1, b2, b3⟩ := knB_iff.1 kb
  obtain ⟨b4, b5⟩ := i64_kn kb
  have b6 := Dl.i64 b4
  have b7 := Dl.i64 b5
  have v7 := Dl.i64 hv
  have w7 := Dl.i64 hw
  have V : (knB a == false) = true := by
    simp [hasB, insB, widV, normB, meetO, noneB, cmp_lt', cmp_gt, cmp_le0, cmp_ge0, cmpB, ka, kb]
    all_goals omega
  have p4 : (i64B b.lo) = true := by
    first | with_reducible assumption | decide
  have p5 : (i64B b.hi) = true := by
    first | with_reducible assumption | decide
  have p6 : (false) = false := by
    rfl
  have p7 : (i64B v) = true := by
    first | with_reducible assumption | decide
  have p8 : (true) = true := by
    rfl
  have p9 : (chkB a == chkB a) = true := by
    first | exact eqB _ | exact beq_self_eq_true _
  have p10 : (noneB.lo == 0 && (noneB.hi == 0 && (noneB.u == true && true))) = true := by
    have e : noneB = (⟨0, 0, true⟩ : Bd) := by
      simp only [minB, maxB, hullB, absB, meetB, normB, rootB, noneB, ka, kb, Bool.and_true, Bool.true_and, Bool.false_and, Bool.and_false, Bool.not_true, Bool.not_false, cond_true, cond_false]
    rw [e]; simp
  have p11 : ((normB a).lo == 0 && ((normB a).hi == 0 && ((normB a).u == true && true))) = true := by
    have e : (normB a) = (⟨0, 0, true⟩ : Bd) := by
      simp only [minB, maxB, hullB, absB, meetB, normB, rootB, noneB, ka, kb, Bool.and_true, Bool.true_and, Bool.false_and, Bool.and_false, Bool.not_true, Bool.not_false, cond_true, cond_false]
    rw [e]; simp
  have p12 : (i64B w) = true := by
    first | with_reducible assumption | decide
  have p13 : (decide (v < 0) == decide (v < 0)) = true := by
    first | exact eqB _ | exact beq_self_eq_true _
  have p14 : (decide (w < 0) == decide (w < 0)) = true := by
    first | exact eqB _ | exact beq_self_eq_true _
  have p15 : (szB v) = true := by
    exact Dl.sz (k := 60) (by first | exact Dl.le (by with_reducible assumption) (by omega) | (refine Dl.le (of_dl (by with_reducible assumption) (by with_reducible assumption)) (by omega)) | (refine Dl.le (of_dl (Dl.abs (by with_reducible assumption)) (Dl.abs (by with_reducible assumption))) (by omega)) | (refine Dl.le (Dl.abs (by with_reducible assumption)) (by omega)) | (refine Dl.le (Dl.mul (by with_reducible assumption) (by with_reducible assumption)) (by omega))) (by omega)
  have p16 : (szB w) = true := by
    exact Dl.sz (k := 60) (by first | exact Dl.le (by with_reducible assumption) (by omega) | (refine Dl.le (of_dl (by with_reducible assumption) (by with_reducible assumption)) (by omega)) | (refine Dl.le (of_dl (Dl.abs (by with_reducible assumption)) (Dl.abs (by with_reducible assumption))) (by omega)) | (refine Dl.le (Dl.abs (by with_reducible assumption)) (by omega)) | (refine Dl.le (Dl.mul (by with_reducible assumption) (by with_reducible assumption)) (by omega))) (by omega)
  have p17 : ((ofB v w).lo == (ofB v w).lo && ((ofB v w).hi == (ofB v w).hi && ((ofB v w).u == (ofB v w).u && true))) = true := by
    have e : (ofB v w) = ((ofB v w) : Bd) := by
      simp only [minB, maxB, hullB, absB, meetB, normB, rootB, noneB, ka, kb, Bool.and_true, Bool.true_and, Bool.false_and, Bool.and_false, Bool.not_true, Bool.not_false, cond_true, cond_false]
    rw [e]; simp
  have p18 : ((ofB v v).lo == (ofB v v).lo && ((ofB v v).hi == (ofB v v).hi && ((ofB v v).u == (ofB v v).u && true))) = true := by
    have e : (ofB v v) = ((ofB v v) : Bd) := by
      simp only [minB, maxB, hullB, absB, meetB, normB, rootB, noneB, ka, kb, Bool.and_true, Bool.true_and, Bool.false_and, Bool.and_false, Bool.not_true, Bool.not_false, cond_true, cond_false]
    rw [e]; simp
  have p19 : (!false) = true := by
    rfl
  have p20 : (hasB a v == true) = true := by
    simp [hasB, insB, widV, normB, meetO, noneB, cmp_lt', cmp_gt, cmp_le0, cmp_ge0, cmpB, ka, kb]
    all_goals omega
  have p21 : (!true) = false := by
    rfl
  have p22 : (insB a b == false) = true := by
    simp [hasB, insB, widV, normB, meetO, noneB, cmp_lt', cmp_gt, cmp_le0, cmp_ge0, cmpB, ka, kb]
    all_goals omega
  have p23 : (cmpB a b == 0) = true := by
    simp [hasB, insB, widV, normB, meetO, noneB, cmp_lt', cmp_gt, cmp_le0, cmp_ge0, cmpB, ka, kb]
    all_goals omega
  have p24 : (widV a == 0) = true := by
    simp [hasB, insB, widV, normB, meetO, noneB, cmp_lt', cmp_gt, cmp_le0, cmp_ge0, cmpB, ka, kb]
    all_goals omega
  exact evR_calls (I := numI) (v := .bool true) (ctxLp_ok libBoundChecks_ok eqBoundChecks_ok fnsBoundChecks_ok (fun _ _ _ => lps_nil)) (by kernel_rfl) Try.func3 rfl lps_nil L rfl (all2_R (.cons rfl (.cons rfl (.cons rfl (.cons rfl .nil))))) (congrArg (fun b => some (Value.bool b)) V) _ (Nat.zero_le _) (pickL_ok (cd_cons k0 (cd_cons k3 (cd_cons k4 (cd_cons k5 (cd_cons p4 (cd_cons p5 (cd_cons p6 (cd_cons p7 (cd_cons p8 (cd_cons p9 (cd_cons p10 (cd_cons p11 (cd_cons p12 (cd_cons p13 (cd_cons p14 (cd_cons p15 (cd_cons p16 (cd_cons p17 (cd_cons p18 (cd_cons p19 (cd_cons p20 (cd_cons p21 (cd_cons p22 (cd_cons p23 (cd_cons p24 cd_nil))))))))))))))))))))))))) _)
set_option maxRecDepth 100000 in
theorem boundChecks_w6 (a : Bd) (b : Bd) (v : Int) (w : Int) (W : World) (hv : i64B v = true) (hw : i64B w = true) (k0 : (chkB a != 0) = false) (k3 : (a.u) = false) (k6 : (chkB b != 0) = true) (k7 : (decide (cmpI a.lo v ≤ 0)) = true) : Calls Try.prog 3 #[bV a, bV b, .int .i64 v, .int .i64 w] W fun e w' => e = .returned (.bool true) ∧ Below W.heap.size W w' := by
  have L := boundChecks_001111111111111 a b v w
  have ka : knB a = true := kn_ok k0 k3
  obtain ⟨au, a1, a2, a3⟩ := knB_iff.1 ka
  obtain ⟨a4, a5⟩ := i64_kn ka
  have a6 := Dl.i64 a4
  have a7 := Dl.i64 a5
  have kb : knB b = false := kn_bad k6
  have v7 := Dl.i64 hv
  have w7 := Dl.i64 hw
  have d3 := k7
  rw [cmp_le0] at d3
  have d3 := of_decide_eq_true d3
  have aw : IntKind.i64.wrap (a.hi - a.lo) = a.hi - a.lo := by rw [IntKind.wrap_i64]; omega
  have V : (knB a == true) = true := by
    simp [hasB, insB, widV, normB, meetO, noneB, cmp_lt', cmp_gt, cmp_le0, cmp_ge0, cmpB, aw, d3, ka, kb]
    all_goals omega
  have p2 : (i64B a.lo) = true := by
    first | with_reducible assumption | decide
  have p3 : (i64B a.hi) = true := by
    first | with_reducible assumption | decide
  have p5 : (true) = true := by
    rfl
  have p6 : (false) = false := by
    rfl
  have p7 : (i64B v) = true := by
    first | with_reducible assumption | decide
  have p8 : (chkB a == chkB a) = true := by
    first | exact eqB _ | exact beq_self_eq_true _
  have p9 : (noneB.lo == 0 && (noneB.hi == 0 && (noneB.u == true && true))) = true := by
    have e : noneB = (⟨0, 0, true⟩ : Bd) := by
      simp only [minB, maxB, hullB, absB, meetB, normB, rootB, noneB, ka, kb, Bool.and_true, Bool.true_and, Bool.false_and, Bool.and_false, Bool.not_true, Bool.not_false, cond_true, cond_false]
    rw [e]; simp
  have p10 : ((normB a).lo == a.lo && ((normB a).hi == a.hi && ((normB a).u == a.u && true))) = true := by
    have e : (normB a) = (a : Bd) := by
      simp only [minB, maxB, hullB, absB, meetB, normB, rootB, noneB, ka, kb, Bool.and_true, Bool.true_and, Bool.false_and, Bool.and_false, Bool.not_true, Bool.not_false, cond_true, cond_false]
    rw [e]; simp
  have p11 : (i64B w) = true := by
    first | with_reducible assumption | decide
  have p12 : (decide (v < 0) == decide (v < 0)) = true := by
    first | exact eqB _ | exact beq_self_eq_true _
  have p13 : (decide (w < 0) == decide (w < 0)) = true := by
    first | exact eqB _ | exact beq_self_eq_true _
  have p14 : (szB v) = true := by
    exact Dl.sz (k := 60) (by first | exact Dl.le (by with_reducible assumption) (by omega) | (refine Dl.le (of_dl (by with_reducible assumption) (by with_reducible assumption)) (by omega)) | (refine Dl.le (of_dl (Dl.abs (by with_reducible assumption)) (Dl.abs (by with_reducible assumption))) (by omega)) | (refine Dl.le (Dl.abs (by with_reducible assumption)) (by omega)) | (refine Dl.le (Dl.mul (by with_reducible assumption) (by with_reducible assumption)) (by omega))) (by omega)
  have p15 : (szB w) = true := by
    exact Dl.sz (k := 60) (by first | exact Dl.le (by with_reducible assumption) (by omega) | (refine Dl.le (of_dl (by with_reducible assumption) (by with_reducible assumption)) (by omega)) | (refine Dl.le (of_dl (Dl.abs (by with_reducible assumption)) (Dl.abs (by with_reducible assumption))) (by omega)) | (refine Dl.le (Dl.abs (by with_reducible assumption)) (by omega)) | (refine Dl.le (Dl.mul (by with_reducible assumption) (by with_reducible assumption)) (by omega))) (by omega)
  have p16 : ((ofB v w).lo == (ofB v w).lo && ((ofB v w).hi == (ofB v w).hi && ((ofB v w).u == (ofB v w).u && true))) = true := by
    have e : (ofB v w) = ((ofB v w) : Bd) := by
      simp only [minB, maxB, hullB, absB, meetB, normB, rootB, noneB, ka, kb, Bool.and_true, Bool.true_and, Bool.false_and, Bool.and_false, Bool.not_true, Bool.not_false, cond_true, cond_false]
    rw [e]; simp
  have p17 : ((ofB v v).lo == (ofB v v).lo && ((ofB v v).hi == (ofB v v).hi && ((ofB v v).u == (ofB v v).u && true))) = true := by
    have e : (ofB v v) = ((ofB v v) : Bd) := by
      simp only [minB, maxB, hullB, absB, meetB, normB, rootB, noneB, ka, kb, Bool.and_true, Bool.true_and, Bool.false_and, Bool.and_false, Bool.not_true, Bool.not_false, cond_true, cond_false]
    rw [e]; simp
  have p18 : (!true) = false := by
    rfl
  have p19 : (decide (a.lo < 0) == decide (a.lo < 0)) = true := by
    first | exact eqB _ | exact beq_self_eq_true _
  have p20 : (szB a.lo) = true := by
    exact Dl.sz (k := 60) (by first | exact Dl.le (by with_reducible assumption) (by omega) | (refine Dl.le (of_dl (by with_reducible assumption) (by with_reducible assumption)) (by omega)) | (refine Dl.le (of_dl (Dl.abs (by with_reducible assumption)) (Dl.abs (by with_reducible assumption))) (by omega)) | (refine Dl.le (Dl.abs (by with_reducible assumption)) (by omega)) | (refine Dl.le (Dl.mul (by with_reducible assumption) (by with_reducible assumption)) (by omega))) (by omega)
  have p22 : (decide (a.hi < 0) == decide (a.hi < 0)) = true := by
    first | exact eqB _ | exact beq_self_eq_true _
  have p23 : (szB a.hi) = true := by
    exact Dl.sz (k := 60) (by first | exact Dl.le (by with_reducible assumption) (by omega) | (refine Dl.le (of_dl (by with_reducible assumption) (by with_reducible assumption)) (by omega)) | (refine Dl.le (of_dl (Dl.abs (by with_reducible assumption)) (Dl.abs (by with_reducible assumption))) (by omega)) | (refine Dl.le (Dl.abs (by with_reducible assumption)) (by omega)) | (refine Dl.le (Dl.mul (by with_reducible assumption) (by with_reducible assumption)) (by omega))) (by omega)
  have p24 : (hasB a v == decide (cmpI a.hi v ≥ 0)) = true := by
    simp [hasB, insB, widV, normB, meetO, noneB, cmp_lt', cmp_gt, cmp_le0, cmp_ge0, cmpB, aw, d3, ka, kb]
    all_goals omega
  have p25 : (!false) = true := by
    rfl
  have p26 : (insB a b == true) = true := by
    simp [hasB, insB, widV, normB, meetO, noneB, cmp_lt', cmp_gt, cmp_le0, cmp_ge0, cmpB, aw, d3, ka, kb]
    all_goals omega
  have p27 : (cmpB a b == 0) = true := by
    simp [hasB, insB, widV, normB, meetO, noneB, cmp_lt', cmp_gt, cmp_le0, cmp_ge0, cmpB, aw, d3, ka, kb]
    all_goals omega
  have p28 : (widV a == IntKind.i64.wrap (a.hi - a.lo)) = true := by
    simp [hasB, insB, widV, normB, meetO, noneB, cmp_lt', cmp_gt, cmp_le0, cmp_ge0, cmpB, aw, d3, ka, kb]
    all_goals omega
  exact evR_calls (I := numI) (v := .bool true) (ctxLp_ok libBoundChecks_ok eqBoundChecks_ok fnsBoundChecks_ok (fun _ _ _ => lps_nil)) (by kernel_rfl) Try.func3 rfl lps_nil L rfl (all2_R (.cons rfl (.cons rfl (.cons rfl (.cons rfl .nil))))) (congrArg (fun b => some (Value.bool b)) V) _ (Nat.zero_le _) (pickL_ok (cd_cons k0 (cd_cons k3 (cd_cons p2 (cd_cons p3 (cd_cons k6 (cd_cons p5 (cd_cons p6 (cd_cons p7 (cd_cons p8 (cd_cons p9 (cd_cons p10 (cd_cons p11 (cd_cons p12 (cd_cons p13 (cd_cons p14 (cd_cons p15 (cd_cons p16 (cd_cons p17 (cd_cons p18 (cd_cons p19 (cd_cons p20 (cd_cons k7 (cd_cons p22 (cd_cons p23 (cd_cons p24 (cd_cons p25 (cd_cons p26 (cd_cons p27 (cd_cons p28 cd_nil))))))))))))))))))))))))))))) _)
set_option maxRecDepth 100000 in
theorem boundChecks_w7 (a : Bd) (b : Bd) (v : Int) (w : Int) (W : World) (hv : i64B v = true) (hw : i64B w = true) (k0 : (chkB a != 0) = false) (k3 : (a.u) = false) (k6 : (chkB b != 0) = true) (k7 : (decide (cmpI a.lo v ≤ 0)) = false) : Calls Try.prog 3 #[bV a, bV b, .int .i64 v, .int .i64 w] W fun e w' => e = .returned (.bool true) ∧ Below W.heap.size W w' := by
  have L := boundChecks_001111111101111 a b v w
  have ka : knB a = true := kn_ok k0 k3
  obtain ⟨au, a1, a2, a3⟩ := knB_iff.1 ka
  obtain ⟨a4, a5⟩ := i64_kn ka
  have a6 := Dl.i64 a4
  have a7 := Dl.i64 a5
  have kb : knB b = false := kn_bad k6
  have v7 := Dl.i64 hv
  have w7 := Dl.i64 hw
  have d3 := k7
  rw [cmp_le0] at d3
  have d3 := of_decide_eq_false d3
  have aw : IntKind.i64.wrap (a.hi - a.lo) = a.hi - a.lo := by rw [IntKind.wrap_i64]; omega
  have V : (knB a == true) = true := by
    simp [hasB, insB, widV, normB, meetO, noneB, cmp_lt', cmp_gt, cmp_le0, cmp_ge0, cmpB, aw, d3, ka, kb]
    all_goals omega
  have p2 : (i64B a.lo) = true := by
    first | with_reducible assumption | decide
  have p3 : (i64B a.hi) = true := by
    first | with_reducible assumption | decide
  have p5 : (true) = true := by
    rfl
  have p6 : (false) = false := by
    rfl
  have p7 : (i64B v) = true := by
    first | with_reducible assumption | decide
  have p8 : (chkB a == chkB a) = true := by
    first | exact eqB _ | exact beq_self_eq_true _
  have p9 : (noneB.lo == 0 && (noneB.hi == 0 && (noneB.u == true && true))) = true := by
    have e : noneB = (⟨0, 0, true⟩ : Bd) := by
      simp only [minB, maxB, hullB, absB, meetB, normB, rootB, noneB, ka, kb, Bool.and_true, Bool.true_and, Bool.false_and, Bool.and_false, Bool.not_true, Bool.not_false, cond_true, cond_false]
    rw [e]; simp
  have p10 : ((normB a).lo == a.lo && ((normB a).hi == a.hi && ((normB a).u == a.u && true))) = true := by
    have e : (normB a) = (a : Bd) := by
      simp only [minB, maxB, hullB, absB, meetB, normB, rootB, noneB, ka, kb, Bool.and_true, Bool.true_and, Bool.false_and, Bool.and_false, Bool.not_true, Bool.not_false, cond_true, cond_false]
    rw [e]; simp
  have p11 : (i64B w) = true := by
    first | with_reducible assumption | decide
  have p12 : (decide (v < 0) == decide (v < 0)) = true := by
    first | exact eqB _ | exact beq_self_eq_true _
  have p13 : (decide (w < 0) == decide (w < 0)) = true := by
    first | exact eqB _ | exact beq_self_eq_true _
  have p14 : (szB v) = true := by
    exact Dl.sz (k := 60) (by first | exact Dl.le (by with_reducible assumption) (by omega) | (refine Dl.le (of_dl (by with_reducible assumption) (by with_reducible assumption)) (by omega)) | (refine Dl.le (of_dl (Dl.abs (by with_reducible assumption)) (Dl.abs (by with_reducible assumption))) (by omega)) | (refine Dl.le (Dl.abs (by with_reducible assumption)) (by omega)) | (refine Dl.le (Dl.mul (by with_reducible assumption) (by with_reducible assumption)) (by omega))) (by omega)
  have p15 : (szB w) = true := by
    exact Dl.sz (k := 60) (by first | exact Dl.le (by with_reducible assumption) (by omega) | (refine Dl.le (of_dl (by with_reducible assumption) (by with_reducible assumption)) (by omega)) | (refine Dl.le (of_dl (Dl.abs (by with_reducible assumption)) (Dl.abs (by with_reducible assumption))) (by omega)) | (refine Dl.le (Dl.abs (by with_reducible assumption)) (by omega)) | (refine Dl.le (Dl.mul (by with_reducible assumption) (by with_reducible assumption)) (by omega))) (by omega)
  have p16 : ((ofB v w).lo == (ofB v w).lo && ((ofB v w).hi == (ofB v w).hi && ((ofB v w).u == (ofB v w).u && true))) = true := by
    have e : (ofB v w) = ((ofB v w) : Bd) := by
      simp only [minB, maxB, hullB, absB, meetB, normB, rootB, noneB, ka, kb, Bool.and_true, Bool.true_and, Bool.false_and, Bool.and_false, Bool.not_true, Bool.not_false, cond_true, cond_false]
    rw [e]; simp
  have p17 : ((ofB v v).lo == (ofB v v).lo && ((ofB v v).hi == (ofB v v).hi && ((ofB v v).u == (ofB v v).u && true))) = true := by
    have e : (ofB v v) = ((ofB v v) : Bd) := by
      simp only [minB, maxB, hullB, absB, meetB, normB, rootB, noneB, ka, kb, Bool.and_true, Bool.true_and, Bool.false_and, Bool.and_false, Bool.not_true, Bool.not_false, cond_true, cond_false]
    rw [e]; simp
  have p18 : (!true) = false := by
    rfl
  have p19 : (decide (a.lo < 0) == decide (a.lo < 0)) = true := by
    first | exact eqB _ | exact beq_self_eq_true _
  have p20 : (szB a.lo) = true := by
    exact Dl.sz (k := 60) (by first | exact Dl.le (by with_reducible assumption) (by omega) | (refine Dl.le (of_dl (by with_reducible assumption) (by with_reducible assumption)) (by omega)) | (refine Dl.le (of_dl (Dl.abs (by with_reducible assumption)) (Dl.abs (by with_reducible assumption))) (by omega)) | (refine Dl.le (Dl.abs (by with_reducible assumption)) (by omega)) | (refine Dl.le (Dl.mul (by with_reducible assumption) (by with_reducible assumption)) (by omega))) (by omega)
  have p22 : (hasB a v == false) = true := by
    simp [hasB, insB, widV, normB, meetO, noneB, cmp_lt', cmp_gt, cmp_le0, cmp_ge0, cmpB, aw, d3, ka, kb]
    all_goals omega
  have p23 : (!false) = true := by
    rfl
  have p24 : (insB a b == true) = true := by
    simp [hasB, insB, widV, normB, meetO, noneB, cmp_lt', cmp_gt, cmp_le0, cmp_ge0, cmpB, aw, d3, ka, kb]
    all_goals omega
  have p25 : (cmpB a b == 0) = true := by
    simp [hasB, insB, widV, normB, meetO, noneB, cmp_lt', cmp_gt, cmp_le0, cmp_ge0, cmpB, aw, d3, ka, kb]
    all_goals omega
  have p26 : (widV a == IntKind.i64.wrap (a.hi - a.lo)) = true := by
    simp [hasB, insB, widV, normB, meetO, noneB, cmp_lt', cmp_gt, cmp_le0, cmp_ge0, cmpB, aw, d3, ka, kb]
    all_goals omega
  exact evR_calls (I := numI) (v := .bool true) (ctxLp_ok libBoundChecks_ok eqBoundChecks_ok fnsBoundChecks_ok (fun _ _ _ => lps_nil)) (by kernel_rfl) Try.func3 rfl lps_nil L rfl (all2_R (.cons rfl (.cons rfl (.cons rfl (.cons rfl .nil))))) (congrArg (fun b => some (Value.bool b)) V) _ (Nat.zero_le _) (pickL_ok (cd_cons k0 (cd_cons k3 (cd_cons p2 (cd_cons p3 (cd_cons k6 (cd_cons p5 (cd_cons p6 (cd_cons p7 (cd_cons p8 (cd_cons p9 (cd_cons p10 (cd_cons p11 (cd_cons p12 (cd_cons p13 (cd_cons p14 (cd_cons p15 (cd_cons p16 (cd_cons p17 (cd_cons p18 (cd_cons p19 (cd_cons p20 (cd_cons k7 (cd_cons p22 (cd_cons p23 (cd_cons p24 (cd_cons p25 (cd_cons p26 cd_nil))))))))))))))))))))))))))) _)
set_option maxRecDepth 100000 in
theorem boundChecks_w8 (a : Bd) (b : Bd) (v : Int) (w : Int) (W : World) (hv : i64B v = true) (hw : i64B w = true) (k0 : (chkB a != 0) = false) (k3 : (a.u) = false) (k6 : (chkB b != 0) = false) (k8 : (b.u) = true) (k9 : (decide (cmpI a.lo v ≤ 0)) = true) : Calls Try.prog 3 #[bV a, bV b, .int .i64 v, .int .i64 w] W fun e w' => e = .returned (.bool true) ∧ Below W.heap.size W w' := by
  have L := boundChecks_0001111111111111 a b v w
  have ka : knB a = true := kn_ok k0 k3
  obtain ⟨au, a1, a2, a3⟩ := knB_iff.1 ka
  obtain ⟨a4, a5⟩ := i64_kn ka
  have a6 := Dl.i64 a4
  have a7 := Dl.i64 a5
  have kb : knB b = false := kn_u k8
  have v7 := Dl.i64 hv
  have w7 := Dl.i64 hw
  have d4 := k9
  rw [cmp_le0] at d4
  have d4 := of_decide_eq_true d4
  have aw : IntKind.i64.wrap (a.hi - a.lo) = a.hi - a.lo := by rw [IntKind.wrap_i64]; omega
  have V : (knB a == true) = true := by
    simp [hasB, insB, widV, normB, meetO, noneB, cmp_lt', cmp_gt, cmp_le0, cmp_ge0, cmpB, aw, d4, ka, kb]
    all_goals omega
  have p2 : (i64B a.lo) = true := by
    first | with_reducible assumption | decide
  have p3 : (i64B a.hi) = true := by
    first | with_reducible assumption | decide
  have p6 : (true) = true := by
    rfl
  have p7 : (false) = false := by
    rfl
  have p8 : (i64B v) = true := by
    first | with_reducible assumption | decide
  have p9 : (chkB a == chkB a) = true := by
    first | exact eqB _ | exact beq_self_eq_true _
  have p10 : (noneB.lo == 0 && (noneB.hi == 0 && (noneB.u == true && true))) = true := by
    have e : noneB = (⟨0, 0, true⟩ : Bd) := by
      simp only [minB, maxB, hullB, absB, meetB, normB, rootB, noneB, ka, kb, Bool.and_true, Bool.true_and, Bool.false_and, Bool.and_false, Bool.not_true, Bool.not_false, cond_true, cond_false]
    rw [e]; simp
  have p11 : ((normB a).lo == a.lo && ((normB a).hi == a.hi && ((normB a).u == a.u && true))) = true := by
    have e : (normB a) = (a : Bd) := by
      simp only [minB, maxB, hullB, absB, meetB, normB, rootB, noneB, ka, kb, Bool.and_true, Bool.true_and, Bool.false_and, Bool.and_false, Bool.not_true, Bool.not_false, cond_true, cond_false]
    rw [e]; simp
  have p12 : (i64B w) = true := by
    first | with_reducible assumption | decide
  have p13 : (decide (v < 0) == decide (v < 0)) = true := by
    first | exact eqB _ | exact beq_self_eq_true _
  have p14 : (decide (w < 0) == decide (w < 0)) = true := by
    first | exact eqB _ | exact beq_self_eq_true _
  have p15 : (szB v) = true := by
    exact Dl.sz (k := 60) (by first | exact Dl.le (by with_reducible assumption) (by omega) | (refine Dl.le (of_dl (by with_reducible assumption) (by with_reducible assumption)) (by omega)) | (refine Dl.le (of_dl (Dl.abs (by with_reducible assumption)) (Dl.abs (by with_reducible assumption))) (by omega)) | (refine Dl.le (Dl.abs (by with_reducible assumption)) (by omega)) | (refine Dl.le (Dl.mul (by with_reducible assumption) (by with_reducible assumption)) (by omega))) (by omega)
  have p16 : (szB w) = true := by
    exact Dl.sz (k := 60) (by first | exact Dl.le (by with_reducible assumption) (by omega) | (refine Dl.le (of_dl (by with_reducible assumption) (by with_reducible assumption)) (by omega)) | (refine Dl.le (of_dl (Dl.abs (by with_reducible assumption)) (Dl.abs (by with_reducible assumption))) (by omega)) | (refine Dl.le (Dl.abs (by with_reducible assumption)) (by omega)) | (refine Dl.le (Dl.mul (by with_reducible assumption) (by with_reducible assumption)) (by omega))) (by omega)
  have p17 : ((ofB v w).lo == (ofB v w).lo && ((ofB v w).hi == (ofB v w).hi && ((ofB v w).u == (ofB v w).u && true))) = true := by
    have e : (ofB v w) = ((ofB v w) : Bd) := by
      simp only [minB, maxB, hullB, absB, meetB, normB, rootB, noneB, ka, kb, Bool.and_true, Bool.true_and, Bool.false_and, Bool.and_false, Bool.not_true, Bool.not_false, cond_true, cond_false]
    rw [e]; simp
  have p18 : ((ofB v v).lo == (ofB v v).lo && ((ofB v v).hi == (ofB v v).hi && ((ofB v v).u == (ofB v v).u && true))) = true := by
    have e : (ofB v v) = ((ofB v v) : Bd) := by
      simp only [minB, maxB, hullB, absB, meetB, normB, rootB, noneB, ka, kb, Bool.and_true, Bool.true_and, Bool.false_and, Bool.and_false, Bool.not_true, Bool.not_false, cond_true, cond_false]
    rw [e]; simp
  have p19 : (!true) = false := by
    rfl
  have p20 : (decide (a.lo < 0) == decide (a.lo < 0)) = true := by
    first | exact eqB _ | exact beq_self_eq_true _
  have p21 : (szB a.lo) = true := by
    exact Dl.sz (k := 60) (by first | exact Dl.le (by with_reducible assumption) (by omega) | (refine Dl.le (of_dl (by with_reducible assumption) (by with_reducible assumption)) (by omega)) | (refine Dl.le (of_dl (Dl.abs (by with_reducible assumption)) (Dl.abs (by with_reducible assumption))) (by omega)) | (refine Dl.le (Dl.abs (by with_reducible assumption)) (by omega)) | (refine Dl.le (Dl.mul (by with_reducible assumption) (by with_reducible assumption)) (by omega))) (by omega)
  have p23 : (decide (a.hi < 0) == decide (a.hi < 0)) = true := by
    first | exact eqB _ | exact beq_self_eq_true _
  have p24 : (szB a.hi) = true := by
    exact Dl.sz (k := 60) (by first | exact Dl.le (by with_reducible assumption) (by omega) | (refine Dl.le (of_dl (by with_reducible assumption) (by with_reducible assumption)) (by omega)) | (refine Dl.le (of_dl (Dl.abs (by with_reducible assumption)) (Dl.abs (by with_reducible assumption))) (by omega)) | (refine Dl.le (Dl.abs (by with_reducible assumption)) (by omega)) | (refine Dl.le (Dl.mul (by with_reducible assumption) (by with_reducible assumption)) (by omega))) (by omega)
  have p25 : (hasB a v == decide (cmpI a.hi v ≥ 0)) = true := by
    simp [hasB, insB, widV, normB, meetO, noneB, cmp_lt', cmp_gt, cmp_le0, cmp_ge0, cmpB, aw, d4, ka, kb]
    all_goals omega
  have p26 : (!false) = true := by
    rfl
  have p27 : (insB a b == true) = true := by
    simp [hasB, insB, widV, normB, meetO, noneB, cmp_lt', cmp_gt, cmp_le0, cmp_ge0, cmpB, aw, d4, ka, kb]
    all_goals omega
  have p28 : (cmpB a b == 0) = true := by
    simp [hasB, insB, widV, normB, meetO, noneB, cmp_lt', cmp_gt, cmp_le0, cmp_ge0, cmpB, aw, d4, ka, kb]
    all_goals omega
  have p29 : (widV a == IntKind.i64.wrap (a.hi - a.lo)) = true := by
    simp [hasB, insB, widV, normB, meetO, noneB, cmp_lt', cmp_gt, cmp_le0, cmp_ge0, cmpB, aw, d4, ka, kb]
    all_goals omega
  exact evR_calls (I := numI) (v := .bool true) (ctxLp_ok libBoundChecks_ok eqBoundChecks_ok fnsBoundChecks_ok (fun _ _ _ => lps_nil)) (by kernel_rfl) Try.func3 rfl lps_nil L rfl (all2_R (.cons rfl (.cons rfl (.cons rfl (.cons rfl .nil))))) (congrArg (fun b => some (Value.bool b)) V) _ (Nat.zero_le _) (pickL_ok (cd_cons k0 (cd_cons k3 (cd_cons p2 (cd_cons p3 (cd_cons k6 (cd_cons k8 (cd_cons p6 (cd_cons p7 (cd_cons p8 (cd_cons p9 (cd_cons p10 (cd_cons p11 (cd_cons p12 (cd_cons p13 (cd_cons p14 (cd_cons p15 (cd_cons p16 (cd_cons p17 (cd_cons p18 (cd_cons p19 (cd_cons p20 (cd_cons p21 (cd_cons k9 (cd_cons p23 (cd_cons p24 (cd_cons p25 (cd_cons p26 (cd_cons p27 (cd_cons p28 (cd_cons p29 cd_nil)))))))))))))))))))))))))))))) _)
set_option maxRecDepth 100000 in
theorem boundChecks_w9 (a : Bd) (b : Bd) (v : Int) (w : Int) (W : World) (hv : i64B v = true) (hw : i64B w = true) (k0 : (chkB a != 0) = false) (k3 : (a.u) = false) (k6 : (chkB b != 0) = false) (k8 : (b.u) = true) (k9 : (decide (cmpI a.lo v ≤ 0)) = false) : Calls Try.prog 3 #[bV a, bV b, .int .i64 v, .int .i64 w] W fun e w' => e = .returned (.bool true) ∧ Below W.heap.size W w' := by
  have L := boundChecks_0001111111101111 a b v w
  have ka : knB a = true := kn_ok k0 k3
  obtain ⟨au, a1, a2, a3⟩ := knB_iff.1 ka
  obtain ⟨a4, a5⟩ := i64_kn ka
  have a6 := Dl.i64 a4
  have a7 := Dl.i64 a5
  have kb : knB b = false := kn_u k8
  have v7 := Dl.i64 hv
  have w7 := Dl.i64 hw
  have d4 := k9
  rw [cmp_le0] at d4
  have d4 := of_decide_eq_false d4
  have aw : IntKind.i64.wrap (a.hi - a.lo) = a.hi - a.lo := by rw [IntKind.wrap_i64]; omega
  have V : (knB a == true) = true := by
    simp [hasB, insB, widV, normB, meetO, noneB, cmp_lt', cmp_gt, cmp_le0, cmp_ge0, cmpB, aw, d4, ka, kb]
    all_goals omega
  have p2 : (i64B a.lo) = true := by
    first | with_reducible assumption | decide
  have p3 : (i64B a.hi) = true := by
    first | with_reducible assumption | decide
  have p6 : (true) = true := by
    rfl
  have p7 : (false) = false := by
    rfl
  have p8 : (i64B v) = true := by
    first | with_reducible assumption | decide
  have p9 : (chkB a == chkB a) = true := by
    first | exact eqB _ | exact beq_self_eq_true _
  have p10 : (noneB.lo == 0 && (noneB.hi == 0 && (noneB.u == true && true))) = true := by
    have e : noneB = (⟨0, 0, true⟩ : Bd) := by
      simp only [minB, maxB, hullB, absB, meetB, normB, rootB, noneB, ka, kb, Bool.and_true, Bool.true_and, Bool.false_and, Bool.and_false, Bool.not_true, Bool.not_false, cond_true, cond_false]
    rw [e]; simp
  have p11 : ((normB a).lo == a.lo && ((normB a).hi == a.hi && ((normB a).u == a.u && true))) = true := by
    have e : (normB a) = (a : Bd) := by
      simp only [minB, maxB, hullB, absB, meetB, normB, rootB, noneB, ka, kb, Bool.and_true, Bool.true_and, Bool.false_and, Bool.and_false, Bool.not_true, Bool.not_false, cond_true, cond_false]
    rw [e]; simp
  have p12 : (i64B w) = true := by
    first | with_reducible assumption | decide
  have p13 : (decide (v < 0) == decide (v < 0)) = true := by
    first | exact eqB _ | exact beq_self_eq_true _
  have p14 : (decide (w < 0) == decide (w < 0)) = true := by
    first | exact eqB _ | exact beq_self_eq_true _
  have p15 : (szB v) = true := by
    exact Dl.sz (k := 60) (by first | exact Dl.le (by with_reducible assumption) (by omega) | (refine Dl.le (of_dl (by with_reducible assumption) (by with_reducible assumption)) (by omega)) | (refine Dl.le (of_dl (Dl.abs (by with_reducible assumption)) (Dl.abs (by with_reducible assumption))) (by omega)) | (refine Dl.le (Dl.abs (by with_reducible assumption)) (by omega)) | (refine Dl.le (Dl.mul (by with_reducible assumption) (by with_reducible assumption)) (by omega))) (by omega)
  have p16 : (szB w) = true := by
    exact Dl.sz (k := 60) (by first | exact Dl.le (by with_reducible assumption) (by omega) | (refine Dl.le (of_dl (by with_reducible assumption) (by with_reducible assumption)) (by omega)) | (refine Dl.le (of_dl (Dl.abs (by with_reducible assumption)) (Dl.abs (by with_reducible assumption))) (by omega)) | (refine Dl.le (Dl.abs (by with_reducible assumption)) (by omega)) | (refine Dl.le (Dl.mul (by with_reducible assumption) (by with_reducible assumption)) (by omega))) (by omega)
  have p17 : ((ofB v w).lo == (ofB v w).lo && ((ofB v w).hi == (ofB v w).hi && ((ofB v w).u == (ofB v w).u && true))) = true := by
    have e : (ofB v w) = ((ofB v w) : Bd) := by
      simp only [minB, maxB, hullB, absB, meetB, normB, rootB, noneB, ka, kb, Bool.and_true, Bool.true_and, Bool.false_and, Bool.and_false, Bool.not_true, Bool.not_false, cond_true, cond_false]
    rw [e]; simp
  have p18 : ((ofB v v).lo == (ofB v v).lo && ((ofB v v).hi == (ofB v v).hi && ((ofB v v).u == (ofB v v).u && true))) = true := by
    have e : (ofB v v) = ((ofB v v) : Bd) := by
      simp only [minB, maxB, hullB, absB, meetB, normB, rootB, noneB, ka, kb, Bool.and_true, Bool.true_and, Bool.false_and, Bool.and_false, Bool.not_true, Bool.not_false, cond_true, cond_false]
    rw [e]; simp
  have p19 : (!true) = false := by
    rfl
  have p20 : (decide (a.lo < 0) == decide (a.lo < 0)) = true := by
    first | exact eqB _ | exact beq_self_eq_true _
  have p21 : (szB a.lo) = true := by
    exact Dl.sz (k := 60) (by first | exact Dl.le (by with_reducible assumption) (by omega) | (refine Dl.le (of_dl (by with_reducible assumption) (by with_reducible assumption)) (by omega)) | (refine Dl.le (of_dl (Dl.abs (by with_reducible assumption)) (Dl.abs (by with_reducible assumption))) (by omega)) | (refine Dl.le (Dl.abs (by with_reducible assumption)) (by omega)) | (refine Dl.le (Dl.mul (by with_reducible assumption) (by with_reducible assumption)) (by omega))) (by omega)
  have p23 : (hasB a v == false) = true := by
    simp [hasB, insB, widV, normB, meetO, noneB, cmp_lt', cmp_gt, cmp_le0, cmp_ge0, cmpB, aw, d4, ka, kb]
    all_goals omega
  have p24 : (!false) = true := by
    rfl
  have p25 : (insB a b == true) = true := by
    simp [hasB, insB, widV, normB, meetO, noneB, cmp_lt', cmp_gt, cmp_le0, cmp_ge0, cmpB, aw, d4, ka, kb]
    all_goals omega
  have p26 : (cmpB a b == 0) = true := by
    simp [hasB, insB, widV, normB, meetO, noneB, cmp_lt', cmp_gt, cmp_le0, cmp_ge0, cmpB, aw, d4, ka, kb]
    all_goals omega
  have p27 : (widV a == IntKind.i64.wrap (a.hi - a.lo)) = true := by
    simp [hasB, insB, widV, normB, meetO, noneB, cmp_lt', cmp_gt, cmp_le0, cmp_ge0, cmpB, aw, d4, ka, kb]
    all_goals omega
  exact evR_calls (I := numI) (v := .bool true) (ctxLp_ok libBoundChecks_ok eqBoundChecks_ok fnsBoundChecks_ok (fun _ _ _ => lps_nil)) (by kernel_rfl) Try.func3 rfl lps_nil L rfl (all2_R (.cons rfl (.cons rfl (.cons rfl (.cons rfl .nil))))) (congrArg (fun b => some (Value.bool b)) V) _ (Nat.zero_le _) (pickL_ok (cd_cons k0 (cd_cons k3 (cd_cons p2 (cd_cons p3 (cd_cons k6 (cd_cons k8 (cd_cons p6 (cd_cons p7 (cd_cons p8 (cd_cons p9 (cd_cons p10 (cd_cons p11 (cd_cons p12 (cd_cons p13 (cd_cons p14 (cd_cons p15 (cd_cons p16 (cd_cons p17 (cd_cons p18 (cd_cons p19 (cd_cons p20 (cd_cons p21 (cd_cons k9 (cd_cons p23 (cd_cons p24 (cd_cons p25 (cd_cons p26 (cd_cons p27 cd_nil)))))))))))))))))))))))))))) _)
set_option maxRecDepth 100000 in
theorem boundChecks_w10 (a : Bd) (b : Bd) (v : Int) (w : Int) (W : World) (hv : i64B v = true) (hw : i64B w = true) (k0 : (chkB a != 0) = false) (k3 : (a.u) = false) (k6 : (chkB b != 0) = false) (k8 : (b.u) = false) (k10 : (decide (cmpI a.hi b.lo < 0)) = true) (k11 : (decide (cmpI a.lo v ≤ 0)) = true) : Calls Try.prog 3 #[bV a, bV b, .int .i64 v, .int .i64 w] W fun e w' => e = .returned (.bool true) ∧ Below W.heap.size W w' := by
  have L := boundChecks_0000101111111110111 a b v w
  have ka : knB a = true := kn_ok k0 k3
  obtain ⟨au, a1, a2, a3⟩ := knB_iff.1 ka
  obtain ⟨a4, a5⟩ := i64_kn ka
  have a6 := Dl.i64 a4
  have a7 := Dl.i64 a5
  have kb : knB b = true := kn_ok k6 k8
  obtain ⟨bu, b1, b2, b3⟩ := knB_iff.1 kb
  obtain ⟨b4, b5⟩ := i64_kn kb
  have b6 := Dl.i64 b4
  have b7 := Dl.i64 b5
  have v7 := Dl.i64 hv
  have w7 := Dl.i64 hw
  have d4 := k10
  rw [cmp_lt'] at d4
  have d4 := of_decide_eq_true d4
  have d5 := k11
  rw [cmp_le0] at d5
  have d5 := of_decide_eq_true d5
  have aw : IntKind.i64.wrap (a.hi - a.lo) = a.hi - a.lo := by rw [IntKind.wrap_i64]; omega
  have V : (knB a == true) = true := by
    simp [hasB, insB, widV, normB, meetO, noneB, cmp_lt', cmp_gt, cmp_le0, cmp_ge0, cmpB, aw, d4, d5, ka, kb]
    all_goals omega
  have p2 : (i64B a.lo) = true := by
    first | with_reducible assumption | decide
  have p3 : (i64B a.hi) = true := by
    first | with_reducible assumption | decide
  have p6 : (i64B b.lo) = true := by
    first | with_reducible assumption | decide
  have p7 : (i64B b.hi) = true := by
    first | with_reducible assumption | decide
  have p8 : (true) = true := by
    rfl
  have p9 : (decide (a.hi < 0) == decide (a.hi < 0)) = true := by
    first | exact eqB _ | exact beq_self_eq_true _
  have p10 : (decide (b.lo < 0) == decide (b.lo < 0)) = true := by
    first | exact eqB _ | exact beq_self_eq_true _
  have p11 : (szB a.hi) = true := by
    exact Dl.sz (k := 60) (by first | exact Dl.le (by with_reducible assumption) (by omega) | (refine Dl.le (of_dl (by with_reducible assumption) (by with_reducible assumption)) (by omega)) | (refine Dl.le (of_dl (Dl.abs (by with_reducible assumption)) (Dl.abs (by with_reducible assumption))) (by omega)) | (refine Dl.le (Dl.abs (by with_reducible assumption)) (by omega)) | (refine Dl.le (Dl.mul (by with_reducible assumption) (by with_reducible assumption)) (by omega))) (by omega)
  have p12 : (szB b.lo) = true := by
    exact Dl.sz (k := 60) (by first | exact Dl.le (by with_reducible assumption) (by omega) | (refine Dl.le (of_dl (by with_reducible assumption) (by with_reducible assumption)) (by omega)) | (refine Dl.le (of_dl (Dl.abs (by with_reducible assumption)) (Dl.abs (by with_reducible assumption))) (by omega)) | (refine Dl.le (Dl.abs (by with_reducible assumption)) (by omega)) | (refine Dl.le (Dl.mul (by with_reducible assumption) (by with_reducible assumption)) (by omega))) (by omega)
  have p14 : (decide (a.lo < 0) == decide (a.lo < 0)) = true := by
    first | exact eqB _ | exact beq_self_eq_true _
  have p15 : (decide (b.hi < 0) == decide (b.hi < 0)) = true := by
    first | exact eqB _ | exact beq_self_eq_true _
  have p16 : (szB a.lo) = true := by
    exact Dl.sz (k := 60) (by first | exact Dl.le (by with_reducible assumption) (by omega) | (refine Dl.le (of_dl (by with_reducible assumption) (by with_reducible assumption)) (by omega)) | (refine Dl.le (of_dl (Dl.abs (by with_reducible assumption)) (Dl.abs (by with_reducible assumption))) (by omega)) | (refine Dl.le (Dl.abs (by with_reducible assumption)) (by omega)) | (refine Dl.le (Dl.mul (by with_reducible assumption) (by with_reducible assumption)) (by omega))) (by omega)
  have p17 : (szB b.hi) = true := by
    exact Dl.sz (k := 60) (by first | exact Dl.le (by with_reducible assumption) (by omega) | (refine Dl.le (of_dl (by with_reducible assumption) (by with_reducible assumption)) (by omega)) | (refine Dl.le (of_dl (Dl.abs (by with_reducible assumption)) (Dl.abs (by with_reducible assumption))) (by omega)) | (refine Dl.le (Dl.abs (by with_reducible assumption)) (by omega)) | (refine Dl.le (Dl.mul (by with_reducible assumption) (by with_reducible assumption)) (by omega))) (by omega)
  have p18 : (decide (cmpI a.lo b.hi > 0)) = false := by
    simp [hasB, insB, widV, normB, meetO, noneB, cmp_lt', cmp_gt, cmp_le0, cmp_ge0, cmpB, aw, d4, d5, ka, kb]
    all_goals omega
  have p19 : (i64B v) = true := by
    first | with_reducible assumption | decide
  have p20 : (chkB a == chkB a) = true := by
    first | exact eqB _ | exact beq_self_eq_true _
  have p21 : (noneB.lo == 0 && (noneB.hi == 0 && (noneB.u == true && true))) = true := by
    have e : noneB = (⟨0, 0, true⟩ : Bd) := by
      simp only [minB, maxB, hullB, absB, meetB, normB, rootB, noneB, ka, kb, Bool.and_true, Bool.true_and, Bool.false_and, Bool.and_false, Bool.not_true, Bool.not_false, cond_true, cond_false]
    rw [e]; simp
  have p22 : ((normB a).lo == a.lo && ((normB a).hi == a.hi && ((normB a).u == a.u && true))) = true := by
    have e : (normB a) = (a : Bd) := by
      simp only [minB, maxB, hullB, absB, meetB, normB, rootB, noneB, ka, kb, Bool.and_true, Bool.true_and, Bool.false_and, Bool.and_false, Bool.not_true, Bool.not_false, cond_true, cond_false]
    rw [e]; simp
  have p23 : (i64B w) = true := by
    first | with_reducible assumption | decide
  have p24 : (decide (v < 0) == decide (v < 0)) = true := by
    first | exact eqB _ | exact beq_self_eq_true _
  have p25 : (decide (w < 0) == decide (w < 0)) = true := by
    first | exact eqB _ | exact beq_self_eq_true _
  have p26 : (szB v) = true := by
    exact Dl.sz (k := 60) (by first | exact Dl.le (by with_reducible assumption) (by omega) | (refine Dl.le (of_dl (by with_reducible assumption) (by with_reducible assumption)) (by omega)) | (refine Dl.le (of_dl (Dl.abs (by with_reducible assumption)) (Dl.abs (by with_reducible assumption))) (by omega)) | (refine Dl.le (Dl.abs (by with_reducible assumption)) (by omega)) | (refine Dl.le (Dl.mul (by with_reducible assumption) (by with_reducible assumption)) (by omega))) (by omega)
  have p27 : (szB w) = true := by
    exact Dl.sz (k := 60) (by first | exact Dl.le (by with_reducible assumption) (by omega) | (refine Dl.le (of_dl (by with_reducible assumption) (by with_reducible assumption)) (by omega)) | (refine Dl.le (of_dl (Dl.abs (by with_reducible assumption)) (Dl.abs (by with_reducible assumption))) (by omega)) | (refine Dl.le (Dl.abs (by with_reducible assumption)) (by omega)) | (refine Dl.le (Dl.mul (by with_reducible assumption) (by with_reducible assumption)) (by omega))) (by omega)
  have p28 : ((ofB v w).lo == (ofB v w).lo && ((ofB v w).hi == (ofB v w).hi && ((ofB v w).u == (ofB v w).u && true))) = true := by
    have e : (ofB v w) = ((ofB v w) : Bd) := by
      simp only [minB, maxB, hullB, absB, meetB, normB, rootB, noneB, ka, kb, Bool.and_true, Bool.true_and, Bool.false_and, Bool.and_false, Bool.not_true, Bool.not_false, cond_true, cond_false]
    rw [e]; simp
  have p29 : ((ofB v v).lo == (ofB v v).lo && ((ofB v v).hi == (ofB v v).hi && ((ofB v v).u == (ofB v v).u && true))) = true := by
    have e : (ofB v v) = ((ofB v v) : Bd) := by
      simp only [minB, maxB, hullB, absB, meetB, normB, rootB, noneB, ka, kb, Bool.and_true, Bool.true_and, Bool.false_and, Bool.and_false, Bool.not_true, Bool.not_false, cond_true, cond_false]
    rw [e]; simp
  have p30 : (!true) = false := by
    rfl
  have p32 : (hasB a v == decide (cmpI a.hi v ≥ 0)) = true := by
    simp [hasB, insB, widV, normB, meetO, noneB, cmp_lt', cmp_gt, cmp_le0, cmp_ge0, cmpB, aw, d4, d5, ka, kb]
    all_goals omega
  have p33 : (decide (cmpI a.lo b.lo ≥ 0)) = false := by
    simp [hasB, insB, widV, normB, meetO, noneB, cmp_lt', cmp_gt, cmp_le0, cmp_ge0, cmpB, aw, d4, d5, ka, kb]
    all_goals omega
  have p34 : (insB a b == false) = true := by
    simp [hasB, insB, widV, normB, meetO, noneB, cmp_lt', cmp_gt, cmp_le0, cmp_ge0, cmpB, aw, d4, d5, ka, kb]
    all_goals omega
  have p35 : (cmpB a b == -1) = true := by
    simp [hasB, insB, widV, normB, meetO, noneB, cmp_lt', cmp_gt, cmp_le0, cmp_ge0, cmpB, aw, d4, d5, ka, kb]
    all_goals omega
  have p36 : (widV a == IntKind.i64.wrap (a.hi - a.lo)) = true := by
    simp [hasB, insB, widV, normB, meetO, noneB, cmp_lt', cmp_gt, cmp_le0, cmp_ge0, cmpB, aw, d4, d5, ka, kb]
    all_goals omega
  exact evR_calls (I := numI) (v := .bool true) (ctxLp_ok libBoundChecks_ok eqBoundChecks_ok fnsBoundChecks_ok (fun _ _ _ => lps_nil)) (by kernel_rfl) Try.func3 rfl lps_nil L rfl (all2_R (.cons rfl (.cons rfl (.cons rfl (.cons rfl .nil))))) (congrArg (fun b => some (Value.bool b)) V) _ (Nat.zero_le _) (pickL_ok (cd_cons k0 (cd_cons k3 (cd_cons p2 (cd_cons p3 (cd_cons k6 (cd_cons k8 (cd_cons p6 (cd_cons p7 (cd_cons p8 (cd_cons p9 (cd_cons p10 (cd_cons p11 (cd_cons p12 (cd_cons k10 (cd_cons p14 (cd_cons p15 (cd_cons p16 (cd_cons p17 (cd_cons p18 (cd_cons p19 (cd_cons p20 (cd_cons p21 (cd_cons p22 (cd_cons p23 (cd_cons p24 (cd_cons p25 (cd_cons p26 (cd_cons p27 (cd_cons p28 (cd_cons p29 (cd_cons p30 (cd_cons k11 (cd_cons p32 (cd_cons p33 (cd_cons p34 (cd_cons p35 (cd_cons p36 cd_nil))))))))))))))))))))))))))))))))))))) _)
set_option maxRecDepth 100000 in
theorem boundChecks_w11 (a : Bd) (b : Bd) (v : Int) (w : Int) (W : World) (hv : i64B v = true) (hw : i64B w = true) (k0 : (chkB a != 0) = false) (k3 : (a.u) = false) (k6 : (chkB b != 0) = false) (k8 : (b.u) = false) (k10 : (decide (cmpI a.hi b.lo < 0)) = true) (k11 : (decide (cmpI a.lo v ≤ 0)) = false) : Calls Try.prog 3 #[bV a, bV b, .int .i64 v, .int .i64 w] W fun e w' => e = .returned (.bool true) ∧ Below W.heap.size W w' := by
  have L := boundChecks_0000101111111010111 a b v w
  have ka : knB a = true := kn_ok k0 k3
  obtain ⟨au, a1, a2, a3⟩ := knB_iff.1 ka
  obtain ⟨a4, a5⟩ := i64_kn ka
  have a6 := Dl.i64 a4
  have a7 := Dl.i64 a5
  have kb : knB b = true := kn_ok k6 k8
  obtain ⟨bu, b1, b2, b3⟩ := knB_iff.1 kb
  obtain ⟨b4, b5⟩ := i64_kn kb
  have b6 := Dl.i64 b4
  have b7 := Dl.i64 b5
  have v7 := Dl.i64 hv
  have w7 := Dl.i64 hw
  have d4 := k10
  rw [cmp_lt'] at d4
  have d4 := of_decide_eq_true d4
  have d5 := k11
  rw [cmp_le0] at d5
  have d5 := of_decide_eq_false d5
  have aw : IntKind.i64.wrap (a.hi - a.lo) = a.hi - a.lo := by rw [IntKind.wrap_i64]; omega
  have V : (knB a == true) = true := by
    simp [hasB, insB, widV, normB, meetO, noneB, cmp_lt', cmp_gt, cmp_le0, cmp_ge0, cmpB, aw, d4, d5, ka, kb]
    all_goals omega
  have p2 : (i64B a.lo) = true := by
    first | with_reducible assumption | decide
  have p3 : (i64B a.hi) = true := by
    first | with_reducible assumption | decide
  have p6 : (i64B b.lo) = true := by
    first | with_reducible assumption | decide
  have p7 : (i64B b.hi) = true := by
    first | with_reducible assumption | decide
  have p8 : (true) = true := by
    rfl
  have p9 : (decide (a.hi < 0) == decide (a.hi < 0)) = true := by
    first | exact eqB _ | exact beq_self_eq_true _
  have p10 : (decide (b.lo < 0) == decide (b.lo < 0)) = true := by
    first | exact eqB _ | exact beq_self_eq_true _
  have p11 : (szB a.hi) = true := by
    exact Dl.sz (k := 60) (by first | exact Dl.le (by with_reducible assumption) (by omega) | (refine Dl.le (of_dl (by with_reducible assumption) (by with_reducible assumption)) (by omega)) | (refine Dl.le (of_dl (Dl.abs (by with_reducible assumption)) (Dl.abs (by with_reducible assumption))) (by omega)) | (refine Dl.le (Dl.abs (by with_reducible assumption)) (by omega)) | (refine Dl.le (Dl.mul (by with_reducible assumption) (by with_reducible assumption)) (by omega))) (by omega)
  have p12 : (szB b.lo) = true := by
    exact Dl.sz (k := 60) (by first | exact Dl.le (by with_reducible assumption) (by omega) | (refine Dl.le (of_dl (by with_reducible assumption) (by with_reducible assumption)) (by omega)) | (refine Dl.le (of_dl (Dl.abs (by with_reducible assumption)) (Dl.abs (by with_reducible assumption))) (by omega)) | (refine Dl.le (Dl.abs (by with_reducible assumption)) (by omega)) | (refine Dl.le (Dl.mul (by with_reducible assumption) (by with_reducible assumption)) (by omega))) (by omega)
  have p14 : (decide (a.lo < 0) == decide (a.lo < 0)) = true := by
    first | exact eqB _ | exact beq_self_eq_true _
  have p15 : (decide (b.hi < 0) == decide (b.hi < 0)) = true := by
    first | exact eqB _ | exact beq_self_eq_true _
  have p16 : (szB a.lo) = true := by
    exact Dl.sz (k := 60) (by first | exact Dl.le (by with_reducible assumption) (by omega) | (refine Dl.le (of_dl (by with_reducible assumption) (by with_reducible assumption)) (by omega)) | (refine Dl.le (of_dl (Dl.abs (by with_reducible assumption)) (Dl.abs (by with_reducible assumption))) (by omega)) | (refine Dl.le (Dl.abs (by with_reducible assumption)) (by omega)) | (refine Dl.le (Dl.mul (by with_reducible assumption) (by with_reducible assumption)) (by omega))) (by omega)
  have p17 : (szB b.hi) = true := by
    exact Dl.sz (k := 60) (by first | exact Dl.le (by with_reducible assumption) (by omega) | (refine Dl.le (of_dl (by with_reducible assumption) (by with_reducible assumption)) (by omega)) | (refine Dl.le (of_dl (Dl.abs (by with_reducible assumption)) (Dl.abs (by with_reducible assumption))) (by omega)) | (refine Dl.le (Dl.abs (by with_reducible assumption)) (by omega)) | (refine Dl.le (Dl.mul (by with_reducible assumption) (by with_reducible assumption)) (by omega))) (by omega)
  have p18 : (decide (cmpI a.lo b.hi > 0)) = false := by
    simp [hasB, insB, widV, normB, meetO, noneB, cmp_lt', cmp_gt, cmp_le0, cmp_ge0, cmpB, aw, d4, d5, ka, kb]
    all_goals omega
  have p19 : (i64B v) = true := by
    first | with_reducible assumption | decide
  have p20 : (chkB a == chkB a) = true := by
    first | exact eqB _ | exact beq_self_eq_true _
  have p21 : (noneB.lo == 0 && (noneB.hi == 0 && (noneB.u == true && true))) = true := by
    have e : noneB = (⟨0, 0, true⟩ : Bd) := by
      simp only [minB, maxB, hullB, absB, meetB, normB, rootB, noneB, ka, kb, Bool.and_true, Bool.true_and, Bool.false_and, Bool.and_false, Bool.not_true, Bool.not_false, cond_true, cond_false]
    rw [e]; simp
  have p22 : ((normB a).lo == a.lo && ((normB a).hi == a.hi && ((normB a).u == a.u && true))) = true := by
    have e : (normB a) = (a : Bd) := by
      simp only [minB, maxB, hullB, absB, meetB, normB, rootB, noneB, ka, kb, Bool.and_true, Bool.true_and, Bool.false_and, Bool.and_false, Bool.not_true, Bool.not_false, cond_true, cond_false]
    rw [e]; simp
  have p23 : (i64B w) = true := by
    first | with_reducible assumption | decide
  have p24 : (decide (v < 0) == decide (v < 0)) = true := by
    first | exact eqB _ | exact beq_self_eq_true _
  have p25 : (decide (w < 0) == decide (w < 0)) = true := by
    first | exact eqB _ | exact beq_self_eq_true _
  have p26 : (szB v) = true := by
    exact Dl.sz (k := 60) (by first | exact Dl.le (by with_reducible assumption) (by omega) | (refine Dl.le (of_dl (by with_reducible assumption) (by with_reducible assumption)) (by omega)) | (refine Dl.le (of_dl (Dl.abs (by with_reducible assumption)) (Dl.abs (by with_reducible assumption))) (by omega)) | (refine Dl.le (Dl.abs (by with_reducible assumption)) (by omega)) | (refine Dl.le (Dl.mul (by with_reducible assumption) (by with_reducible assumption)) (by omega))) (by omega)
  have p27 : (szB w) = true := by
    exact Dl.sz (k := 60) (by first | exact Dl.le (by with_reducible assumption) (by omega) | (refine Dl.le (of_dl (by with_reducible assumption) (by with_reducible assumption)) (by omega)) | (refine Dl.le (of_dl (Dl.abs (by with_reducible assumption)) (Dl.abs (by with_reducible assumption))) (by omega)) | (refine Dl.le (Dl.abs (by with_reducible assumption)) (by omega)) | (refine Dl.le (Dl.mul (by with_reducible assumption) (by with_reducible assumption)) (by omega))) (by omega)
  have p28 : ((ofB v w).lo == (ofB v w).lo && ((ofB v w).hi == (ofB v w).hi && ((ofB v w).u == (ofB v w).u && true))) = true := by
    have e : (ofB v w) = ((ofB v w) : Bd) := by
      simp only [minB, maxB, hullB, absB, meetB, normB, rootB, noneB, ka, kb, Bool.and_true, Bool.true_and, Bool.false_and, Bool.and_false, Bool.not_true, Bool.not_false, cond_true, cond_false]
    rw [e]; simp
  have p29 : ((ofB v v).lo == (ofB v v).lo && ((ofB v v).hi == (ofB v v).hi && ((ofB v v).u == (ofB v v).u && true))) = true := by
    have e : (ofB v v) = ((ofB v v) : Bd) := by
      simp only [minB, maxB, hullB, absB, meetB, normB, rootB, noneB, ka, kb, Bool.and_true, Bool.true_and, Bool.false_and, Bool.and_false, Bool.not_true, Bool.not_false, cond_true, cond_false]
    rw [e]; simp
  have p30 : (!true) = false := by
    rfl
  have p32 : (hasB a v == false) = true := by
    simp [hasB, insB, widV, normB, meetO, noneB, cmp_lt', cmp_gt, cmp_le0, cmp_ge0, cmpB, aw, d4, d5, ka, kb]
    all_goals omega
  have p33 : (decide (cmpI a.lo b.lo ≥ 0)) = false := by
    simp [hasB, insB, widV, normB, meetO, noneB, cmp_lt', cmp_gt, cmp_le0, cmp_ge0, cmpB, aw, d4, d5, ka, kb]
    all_goals omega
  have p34 : (insB a b == false) = true := by
    simp [hasB, insB, widV, normB, meetO, noneB, cmp_lt', cmp_gt, cmp_le0, cmp_ge0, cmpB, aw, d4, d5, ka, kb]
    all_goals omega
  have p35 : (cmpB a b == -1) = true := by
    simp [hasB, insB, widV, normB, meetO, noneB, cmp_lt', cmp_gt, cmp_le0, cmp_ge0, cmpB, aw, d4, d5, ka, kb]
    all_goals omega
  have p36 : (widV a == IntKind.i64.wrap (a.hi - a.lo)) = true := by
    simp [hasB, insB, widV, normB, meetO, noneB, cmp_lt', cmp_gt, cmp_le0, cmp_ge0, cmpB, aw, d4, d5, ka, kb]
    all_goals omega
  exact evR_calls (I := numI) (v := .bool true) (ctxLp_ok libBoundChecks_ok eqBoundChecks_ok fnsBoundChecks_ok (fun _ _ _ => lps_nil)) (by kernel_rfl) Try.func3 rfl lps_nil L rfl (all2_R (.cons rfl (.cons rfl (.cons rfl (.cons rfl .nil))))) (congrArg (fun b => some (Value.bool b)) V) _ (Nat.zero_le _) (pickL_ok (cd_cons k0 (cd_cons k3 (cd_cons p2 (cd_cons p3 (cd_cons k6 (cd_cons k8 (cd_cons p6 (cd_cons p7 (cd_cons p8 (cd_cons p9 (cd_cons p10 (cd_cons p11 (cd_cons p12 (cd_cons k10 (cd_cons p14 (cd_cons p15 (cd_cons p16 (cd_cons p17 (cd_cons p18 (cd_cons p19 (cd_cons p20 (cd_cons p21 (cd_cons p22 (cd_cons p23 (cd_cons p24 (cd_cons p25 (cd_cons p26 (cd_cons p27 (cd_cons p28 (cd_cons p29 (cd_cons p30 (cd_cons k11 (cd_cons p32 (cd_cons p33 (cd_cons p34 (cd_cons p35 (cd_cons p36 cd_nil))))))))))))))))))))))))))))))))))))) _)
set_option maxRecDepth 100000 in
theorem boundChecks_w12 (a : Bd) (b : Bd) (v : Int) (w : Int) (W : World) (hv : i64B v = true) (hw : i64B w = true) (k0 : (chkB a != 0) = false) (k3 : (a.u) = false) (k6 : (chkB b != 0) = false) (k8 : (b.u) = false) (k10 : (decide (cmpI a.hi b.lo < 0)) = false) (k12 : (decide (cmpI a.lo b.hi > 0)) = true) (k13 : (decide (cmpI a.lo v ≤ 0)) = true) : Calls Try.prog 3 #[bV a, bV b, .int .i64 v, .int .i64 w] W fun e w' => e = .returned (.bool true) ∧ Below W.heap.size W w' := by
  have L := boundChecks_0000011111111111111 a b v w
  have ka : knB a = true := kn_ok k0 k3
  obtain ⟨au, a1, a2, a3⟩ := knB_iff.1 ka
  obtain ⟨a4, a5⟩ := i64_kn ka
  have a6 := Dl.i64 a4
  have a7 := Dl.i64 a5
  have kb : knB b = true := kn_ok k6 k8
  obtain ⟨bu, b1, b2, b3⟩ := knB_iff.1 kb
  obtain ⟨b4, b5⟩ := i64_kn kb
  have b6 := Dl.i64 b4
  have b7 := Dl.i64 b5
  have v7 := Dl.i64 hv
  have w7 := Dl.i64 hw
  have d4 := k10
  rw [cmp_lt'] at d4
  have d4 := of_decide_eq_false d4
  have d5 := k12
  rw [cmp_gt] at d5
  have d5 := of_decide_eq_true d5
  have d6 := k13
  rw [cmp_le0] at d6
  have d6 := of_decide_eq_true d6
  have aw : IntKind.i64.wrap (a.hi - a.lo) = a.hi - a.lo := by rw [IntKind.wrap_i64]; omega
  have V : (knB a == true) = true := by
    simp [hasB, insB, widV, normB, meetO, noneB, cmp_lt', cmp_gt, cmp_le0, cmp_ge0, cmpB, aw, d4, d5, d6, ka, kb]
    all_goals omega
  have p2 : (i64B a.lo) = true := by
    first | with_reducible assumption | decide
  have p3 : (i64B a.hi) = true := by
    first | with_reducible assumption | decide
  have p6 : (i64B b.lo) = true := by
    first | with_reducible assumption | decide
  have p7 : (i64B b.hi) = true := by
    first | with_reducible assumption | decide
  have p8 : (true) = true := by
    rfl
  have p9 : (decide (a.hi < 0) == decide (a.hi < 0)) = true := by
    first | exact eqB _ | exact beq_self_eq_true _
  have p10 : (decide (b.lo < 0) == decide (b.lo < 0)) = true := by
    first | exact eqB _ | exact beq_self_eq_true _
  have p11 : (szB a.hi) = true := by
    exact Dl.sz (k := 60) (by first | exact Dl.le (by with_reducible assumption) (by omega) | (refine Dl.le (of_dl (by with_reducible assumption) (by with_reducible assumption)) (by omega)) | (refine Dl.le (of_dl (Dl.abs (by with_reducible assumption)) (Dl.abs (by with_reducible assumption))) (by omega)) | (refine Dl.le (Dl.abs (by with_reducible assumption)) (by omega)) | (refine Dl.le (Dl.mul (by with_reducible assumption) (by with_reducible assumption)) (by omega))) (by omega)
  have p12 : (szB b.lo) = true := by
    exact Dl.sz (k := 60) (by first | exact Dl.le (by with_reducible assumption) (by omega) | (refine Dl.le (of_dl (by with_reducible assumption) (by with_reducible assumption)) (by omega)) | (refine Dl.le (of_dl (Dl.abs (by with_reducible assumption)) (Dl.abs (by with_reducible assumption))) (by omega)) | (refine Dl.le (Dl.abs (by with_reducible assumption)) (by omega)) | (refine Dl.le (Dl.mul (by with_reducible assumption) (by with_reducible assumption)) (by omega))) (by omega)
  have p14 : (decide (a.lo < 0) == decide (a.lo < 0)) = true := by
    first | exact eqB _ | exact beq_self_eq_true _
  have p15 : (decide (b.hi < 0) == decide (b.hi < 0)) = true := by
    first | exact eqB _ | exact beq_self_eq_true _
  have p16 : (szB a.lo) = true := by
    exact Dl.sz (k := 60) (by first | exact Dl.le (by with_reducible assumption) (by omega) | (refine Dl.le (of_dl (by with_reducible assumption) (by with_reducible assumption)) (by omega)) | (refine Dl.le (of_dl (Dl.abs (by with_reducible assumption)) (Dl.abs (by with_reducible assumption))) (by omega)) | (refine Dl.le (Dl.abs (by with_reducible assumption)) (by omega)) | (refine Dl.le (Dl.mul (by with_reducible assumption) (by with_reducible assumption)) (by omega))) (by omega)
  have p17 : (szB b.hi) = true := by
    exact Dl.sz (k := 60) (by first | exact Dl.le (by with_reducible assumption) (by omega) | (refine Dl.le (of_dl (by with_reducible assumption) (by with_reducible assumption)) (by omega)) | (refine Dl.le (of_dl (Dl.abs (by with_reducible assumption)) (Dl.abs (by with_reducible assumption))) (by omega)) | (refine Dl.le (Dl.abs (by with_reducible assumption)) (by omega)) | (refine Dl.le (Dl.mul (by with_reducible assumption) (by with_reducible assumption)) (by omega))) (by omega)
  have p19 : (i64B v) = true := by
    first | with_reducible assumption | decide
  have p20 : (chkB a == chkB a) = true := by
    first | exact eqB _ | exact beq_self_eq_true _
  have p21 : (noneB.lo == 0 && (noneB.hi == 0 && (noneB.u == true && true))) = true := by
    have e : noneB = (⟨0, 0, true⟩ : Bd) := by
      simp only [minB, maxB, hullB, absB, meetB, normB, rootB, noneB, ka, kb, Bool.and_true, Bool.true_and, Bool.false_and, Bool.and_false, Bool.not_true, Bool.not_false, cond_true, cond_false]
    rw [e]; simp
  have p22 : ((normB a).lo == a.lo && ((normB a).hi == a.hi && ((normB a).u == a.u && true))) = true := by
    have e : (normB a) = (a : Bd) := by
      simp only [minB, maxB, hullB, absB, meetB, normB, rootB, noneB, ka, kb, Bool.and_true, Bool.true_and, Bool.false_and, Bool.and_false, Bool.not_true, Bool.not_false, cond_true, cond_false]
    rw [e]; simp
  have p23 : (i64B w) = true := by
    first | with_reducible assumption | decide
  have p24 : (decide (v < 0) == decide (v < 0)) = true := by
    first | exact eqB _ | exact beq_self_eq_true _
  have p25 : (decide (w < 0) == decide (w < 0)) = true := by
    first | exact eqB _ | exact beq_self_eq_true _
  have p26 : (szB v) = true := by
    exact Dl.sz (k := 60) (by first | exact Dl.le (by with_reducible assumption) (by omega) | (refine Dl.le (of_dl (by with_reducible assumption) (by with_reducible assumption)) (by omega)) | (refine Dl.le (of_dl (Dl.abs (by with_reducible assumption)) (Dl.abs (by with_reducible assumption))) (by omega)) | (refine Dl.le (Dl.abs (by with_reducible assumption)) (by omega)) | (refine Dl.le (Dl.mul (by with_reducible assumption) (by with_reducible assumption)) (by omega))) (by omega)
  have p27 : (szB w) = true := by
    exact Dl.sz (k := 60) (by first | exact Dl.le (by with_reducible assumption) (by omega) | (refine Dl.le (of_dl (by with_reducible assumption) (by with_reducible assumption)) (by omega)) | (refine Dl.le (of_dl (Dl.abs (by with_reducible assumption)) (Dl.abs (by with_reducible assumption))) (by omega)) | (refine Dl.le (Dl.abs (by with_reducible assumption)) (by omega)) | (refine Dl.le (Dl.mul (by with_reducible assumption) (by with_reducible assumption)) (by omega))) (by omega)
  have p28 : ((ofB v w).lo == (ofB v w).lo && ((ofB v w).hi == (ofB v w).hi && ((ofB v w).u == (ofB v w).u && true))) = true := by
    have e : (ofB v w) = ((ofB v w) : Bd) := by
      simp only [minB, maxB, hullB, absB, meetB, normB, rootB, noneB, ka, kb, Bool.and_true, Bool.true_and, Bool.false_and, Bool.and_false, Bool.not_true, Bool.not_false, cond_true, cond_false]
    rw [e]; simp
  have p29 : ((ofB v v).lo == (ofB v v).lo && ((ofB v v).hi == (ofB v v).hi && ((ofB v v).u == (ofB v v).u && true))) = true := by
    have e : (ofB v v) = ((ofB v v) : Bd) := by
      simp only [minB, maxB, hullB, absB, meetB, normB, rootB, noneB, ka, kb, Bool.and_true, Bool.true_and, Bool.false_and, Bool.and_false, Bool.not_true, Bool.not_false, cond_true, cond_false]
    rw [e]; simp
  have p30 : (!true) = false := by
    rfl
  have p32 : (hasB a v == decide (cmpI a.hi v ≥ 0)) = true := by
    simp [hasB, insB, widV, normB, meetO, noneB, cmp_lt', cmp_gt, cmp_le0, cmp_ge0, cmpB, aw, d4, d5, d6, ka, kb]
    all_goals omega
  have p33 : (decide (cmpI a.lo b.lo ≥ 0)) = true := by
    simp [hasB, insB, widV, normB, meetO, noneB, cmp_lt', cmp_gt, cmp_le0, cmp_ge0, cmpB, aw, d4, d5, d6, ka, kb]
    all_goals omega
  have p34 : (insB a b == decide (cmpI a.hi b.hi ≤ 0)) = true := by
    simp [hasB, insB, widV, normB, meetO, noneB, cmp_lt', cmp_gt, cmp_le0, cmp_ge0, cmpB, aw, d4, d5, d6, ka, kb]
    all_goals omega
  have p35 : (cmpB a b == 1) = true := by
    simp [hasB, insB, widV, normB, meetO, noneB, cmp_lt', cmp_gt, cmp_le0, cmp_ge0, cmpB, aw, d4, d5, d6, ka, kb]
    all_goals omega
  have p36 : (widV a == IntKind.i64.wrap (a.hi - a.lo)) = true := by
    simp [hasB, insB, widV, normB, meetO, noneB, cmp_lt', cmp_gt, cmp_le0, cmp_ge0, cmpB, aw, d4, d5, d6, ka, kb]
    all_goals omega
  exact evR_calls (I := numI) (v := .bool true) (ctxLp_ok libBoundChecks_ok eqBoundChecks_ok fnsBoundChecks_ok (fun _ _ _ => lps_nil)) (by kernel_rfl) Try.func3 rfl lps_nil L rfl (all2_R (.cons rfl (.cons rfl (.cons rfl (.cons rfl .nil))))) (congrArg (fun b => some (Value.bool b)) V) _ (Nat.zero_le _) (pickL_ok (cd_cons k0 (cd_cons k3 (cd_cons p2 (cd_cons p3 (cd_cons k6 (cd_cons k8 (cd_cons p6 (cd_cons p7 (cd_cons p8 (cd_cons p9 (cd_cons p10 (cd_cons p11 (cd_cons p12 (cd_cons k10 (cd_cons p14 (cd_cons p15 (cd_cons p16 (cd_cons p17 (cd_cons k12 (cd_cons p19 (cd_cons p20 (cd_cons p21 (cd_cons p22 (cd_cons p23 (cd_cons p24 (cd_cons p25 (cd_cons p26 (cd_cons p27 (cd_cons p28 (cd_cons p29 (cd_cons p30 (cd_cons k13 (cd_cons p32 (cd_cons p33 (cd_cons p34 (cd_cons p35 (cd_cons p36 cd_nil))))))))))))))))))))))))))))))))))))) _)
set_option maxRecDepth 100000 in
theorem boundChecks_w13 (a : Bd) (b : Bd) (v : Int) (w : Int) (W : World) (hv : i64B v = true) (hw : i64B w = true) (k0 : (chkB a != 0) = false) (k3 : (a.u) = false) (k6 : (chkB b != 0) = false) (k8 : (b.u) = false) (k10 : (decide (cmpI a.hi b.lo < 0)) = false) (k12 : (decide (cmpI a.lo b.hi > 0)) = true) (k13 : (decide (cmpI a.lo v ≤ 0)) = false) : Calls Try.prog 3 #[bV a, bV b, .int .i64 v, .int .i64 w] W fun e w' => e = .returned (.bool true) ∧ Below W.heap.size W w' := by
  have L := boundChecks_0000011111111011111 a b v w
  have ka : knB a = true := kn_ok k0 k3
  obtain ⟨au, a1, a2, a3⟩ := knB_iff.1 ka
  obtain ⟨a4, a5⟩ := i64_kn ka
  have a6 := Dl.i64 a4
  have a7 := Dl.i64 a5
  have kb : knB b = true := kn_ok k6 k8
  obtain ⟨bu, b1, b2, b3⟩ := knB_iff.1 kb
  obtain ⟨b4, b5⟩ := i64_kn kb
  have b6 := Dl.i64 b4
  have b7 := Dl.i64 b5
  have v7 := Dl.i64 hv
  have w7 := Dl.i64 hw
  have d4 := k10
  rw [cmp_lt'] at d4
  have d4 := of_decide_eq_false d4
  have d5 := k12
  rw [cmp_gt] at d5
  have d5 := of_decide_eq_true d5
  have d6 := k13
  rw [cmp_le0] at d6
  have d6 := of_decide_eq_false d6
  have aw : IntKind.i64.wrap (a.hi - a.lo) = a.hi - a.lo := by rw [IntKind.wrap_i64]; omega
  have V : (knB a == true) = true := by
    simp [hasB, insB, widV, normB, meetO, noneB, cmp_lt', cmp_gt, cmp_le0, cmp_ge0, cmpB, aw, d4, d5, d6, ka, kb]
    all_goals omega
  have p2 : (i64B a.lo) = true := by
    first | with_reducible assumption | decide
  have p3 : (i64B a.hi) = true := by
    first | with_reducible assumption | decide
  have p6 : (i64B b.lo) = true := by
    first | with_reducible assumption | decide
  have p7 : (i64B b.hi) = true := by
    first | with_reducible assumption | decide
  have p8 : (true) = true := by
    rfl
  have p9 : (decide (a.hi < 0) == decide (a.hi < 0)) = true := by
    first | exact eqB _ | exact beq_self_eq_true _
  have p10 : (decide (b.lo < 0) == decide (b.lo < 0)) = true := by
    first | exact eqB _ | exact beq_self_eq_true _
  have p11 : (szB a.hi) = true := by
    exact Dl.sz (k := 60) (by first | exact Dl.le (by with_reducible assumption) (by omega) | (refine Dl.le (of_dl (by with_reducible assumption) (by with_reducible assumption)) (by omega)) | (refine Dl.le (of_dl (Dl.abs (by with_reducible assumption)) (Dl.abs (by with_reducible assumption))) (by omega)) | (refine Dl.le (Dl.abs (by with_reducible assumption)) (by omega)) | (refine Dl.le (Dl.mul (by with_reducible assumption) (by with_reducible assumption)) (by omega))) (by omega)
  have p12 : (szB b.lo) = true := by
    exact Dl.sz (k := 60) (by first | exact Dl.le (by with_reducible assumption) (by omega) | (refine Dl.le (of_dl (by with_reducible assumption) (by with_reducible assumption)) (by omega)) | (refine Dl.le (of_dl (Dl.abs (by with_reducible assumption)) (Dl.abs (by with_reducible assumption))) (by omega)) | (refine Dl.le (Dl.abs (by with_reducible assumption)) (by omega)) | (refine Dl.le (Dl.mul (by with_reducible assumption) (by with_reducible assumption)) (by omega))) (by omega)
  have p14 : (decide (a.lo < 0) == decide (a.lo < 0)) = true := by
    first | exact eqB _ | exact beq_self_eq_true _
  have p15 : (decide (b.hi < 0) == decide (b.hi < 0)) = true := by
    first | exact eqB _ | exact beq_self_eq_true _
  have p16 : (szB a.lo) = true := by
    exact Dl.sz (k := 60) (by first | exact Dl.le (by with_reducible assumption) (by omega) | (refine Dl.le (of_dl (by with_reducible assumption) (by with_reducible assumption)) (by omega)) | (refine Dl.le (of_dl (Dl.abs (by with_reducible assumption)) (Dl.abs (by with_reducible assumption))) (by omega)) | (refine Dl.le (Dl.abs (by with_reducible assumption)) (by omega)) | (refine Dl.le (Dl.mul (by with_reducible assumption) (by with_reducible assumption)) (by omega))) (by omega)
  have p17 : (szB b.hi) = true := by
    exact Dl.sz (k := 60) (by first | exact Dl.le (by with_reducible assumption) (by omega) | (refine Dl.le (of_dl (by with_reducible assumption) (by with_reducible assumption)) (by omega)) | (refine Dl.le (of_dl (Dl.abs (by with_reducible assumption)) (Dl.abs (by with_reducible assumption))) (by omega)) | (refine Dl.le (Dl.abs (by with_reducible assumption)) (by omega)) | (refine Dl.le (Dl.mul (by with_reducible assumption) (by with_reducible assumption)) (by omega))) (by omega)
  have p19 : (i64B v) = true := by
    first | with_reducible assumption | decide
  have p20 : (chkB a == chkB a) = true := by
    first | exact eqB _ | exact beq_self_eq_true _
  have p21 : (noneB.lo == 0 && (noneB.hi == 0 && (noneB.u == true && true))) = true := by
    have e : noneB = (⟨0, 0, true⟩ : Bd) := by
      simp only [minB, maxB, hullB, absB, meetB, normB, rootB, noneB, ka, kb, Bool.and_true, Bool.true_and, Bool.false_and, Bool.and_false, Bool.not_true, Bool.not_false, cond_true, cond_false]
    rw [e]; simp
  have p22 : ((normB a).lo == a.lo && ((normB a).hi == a.hi && ((normB a).u == a.u && true))) = true := by
    have e : (normB a) = (a : Bd) := by
      simp only [minB, maxB, hullB, absB, meetB, normB, rootB, noneB, ka, kb, Bool.and_true, Bool.true_and, Bool.false_and, Bool.and_false, Bool.not_true, Bool.not_false, cond_true, cond_false]
    rw [e]; simp
  have p23 : (i64B w) = true := by
    first | with_reducible assumption | decide
  have p24 : (decide (v < 0) == decide (v < 0)) = true := by
    first | exact eqB _ | exact beq_self_eq_true _
  have p25 : (decide (w < 0) == decide (w < 0)) = true := by
    first | exact eqB _ | exact beq_self_eq_true _
  have p26 : (szB v) = true := by
    exact Dl.sz (k := 60) (by first | exact Dl.le (by with_reducible assumption) (by omega) | (refine Dl.le (of_dl (by with_reducible assumption) (by with_reducible assumption)) (by omega)) | (refine Dl.le (of_dl (Dl.abs (by with_reducible assumption)) (Dl.abs (by with_reducible assumption))) (by omega)) | (refine Dl.le (Dl.abs (by with_reducible assumption)) (by omega)) | (refine Dl.le (Dl.mul (by with_reducible assumption) (by with_reducible assumption)) (by omega))) (by omega)
  have p27 : (szB w) = true := by
    exact Dl.sz (k := 60) (by first | exact Dl.le (by with_reducible assumption) (by omega) | (refine Dl.le (of_dl (by with_reducible assumption) (by with_reducible assumption)) (by omega)) | (refine Dl.le (of_dl (Dl.abs (by with_reducible assumption)) (Dl.abs (by with_reducible assumption))) (by omega)) | (refine Dl.le (Dl.abs (by with_reducible assumption)) (by omega)) | (refine Dl.le (Dl.mul (by with_reducible assumption) (by with_reducible assumption)) (by omega))) (by omega)
  have p28 : ((ofB v w).lo == (ofB v w).lo && ((ofB v w).hi == (ofB v w).hi && ((ofB v w).u == (ofB v w).u && true))) = true := by
    have e : (ofB v w) = ((ofB v w) : Bd) := by
      simp only [minB, maxB, hullB, absB, meetB, normB, rootB, noneB, ka, kb, Bool.and_true, Bool.true_and, Bool.false_and, Bool.and_false, Bool.not_true, Bool.not_false, cond_true, cond_false]
    rw [e]; simp
  have p29 : ((ofB v v).lo == (ofB v v).lo && ((ofB v v).hi == (ofB v v).hi && ((ofB v v).u == (ofB v v).u && true))) = true := by
    have e : (ofB v v) = ((ofB v v) : Bd) := by
      simp only [minB, maxB, hullB, absB, meetB, normB, rootB, noneB, ka, kb, Bool.and_true, Bool.true_and, Bool.false_and, Bool.and_false, Bool.not_true, Bool.not_false, cond_true, cond_false]
    rw [e]; simp
  have p30 : (!true) = false := by
    rfl
  have p32 : (hasB a v == false) = true := by
    simp [hasB, insB, widV, normB, meetO, noneB, cmp_lt', cmp_gt, cmp_le0, cmp_ge0, cmpB, aw, d4, d5, d6, ka, kb]
    all_goals omega
  have p33 : (decide (cmpI a.lo b.lo ≥ 0)) = true := by
    simp [hasB, insB, widV, normB, meetO, noneB, cmp_lt', cmp_gt, cmp_le0, cmp_ge0, cmpB, aw, d4, d5, d6, ka, kb]
    all_goals omega
  have p34 : (insB a b == decide (cmpI a.hi b.hi ≤ 0)) = true := by
    simp [hasB, insB, widV, normB, meetO, noneB, cmp_lt', cmp_gt, cmp_le0, cmp_ge0, cmpB, aw, d4, d5, d6, ka, kb]
    all_goals omega
  have p35 : (cmpB a b == 1) = true := by
    simp [hasB, insB, widV, normB, meetO, noneB, cmp_lt', cmp_gt, cmp_le0, cmp_ge0, cmpB, aw, d4, d5, d6, ka, kb]
    all_goals omega
  have p36 : (widV a == IntKind.i64.wrap (a.hi - a.lo)) = true := by
    simp [hasB, insB, widV, normB, meetO, noneB, cmp_lt', cmp_gt, cmp_le0, cmp_ge0, cmpB, aw, d4, d5, d6, ka, kb]
    all_goals omega
  exact evR_calls (I := numI) (v := .bool true) (ctxLp_ok libBoundChecks_ok eqBoundChecks_ok fnsBoundChecks_ok (fun _ _ _ => lps_nil)) (by kernel_rfl) Try.func3 rfl lps_nil L rfl (all2_R (.cons rfl (.cons rfl (.cons rfl (.cons rfl .nil))))) (congrArg (fun b => some (Value.bool b)) V) _ (Nat.zero_le _) (pickL_ok (cd_cons k0 (cd_cons k3 (cd_cons p2 (cd_cons p3 (cd_cons k6 (cd_cons k8 (cd_cons p6 (cd_cons p7 (cd_cons p8 (cd_cons p9 (cd_cons p10 (cd_cons p11 (cd_cons p12 (cd_cons k10 (cd_cons p14 (cd_cons p15 (cd_cons p16 (cd_cons p17 (cd_cons k12 (cd_cons p19 (cd_cons p20 (cd_cons p21 (cd_cons p22 (cd_cons p23 (cd_cons p24 (cd_cons p25 (cd_cons p26 (cd_cons p27 (cd_cons p28 (cd_cons p29 (cd_cons p30 (cd_cons k13 (cd_cons p32 (cd_cons p33 (cd_cons p34 (cd_cons p35 (cd_cons p36 cd_nil))))))))))))))))))))))))))))))))))))) _)
set_option maxRecDepth 100000 in
theorem boundChecks_w14 (a : Bd) (b : Bd) (v : Int) (w : Int) (W : World) (hv : i64B v = true) (hw : i64B w = true) (k0 : (chkB a != 0) = false) (k3 : (a.u) = false) (k6 : (chkB b != 0) = false) (k8 : (b.u) = false) (k10 : (decide (cmpI a.hi b.lo < 0)) = false) (k12 : (decide (cmpI a.lo b.hi > 0)) = false) (k14 : (decide (cmpI a.lo v ≤ 0)) = true) (k15 : (decide (cmpI a.lo b.lo ≥ 0)) = true) : Calls Try.prog 3 #[bV a, bV b, .int .i64 v, .int .i64 w] W fun e w' => e = .returned (.bool true) ∧ Below W.heap.size W w' := by
  have L := boundChecks_0000001111111111111 a b v w
  have ka : knB a = true := kn_ok k0 k3
  obtain ⟨au, a1, a2, a3⟩ := knB_iff.1 ka
  obtain ⟨a4, a5⟩ := i64_kn ka
  have a6 := Dl.i64 a4
  have a7 := Dl.i64 a5
  have kb : knB b = true := kn_ok k6 k8
  obtain ⟨bu, b1, b2, b3⟩ := knB_iff.1 kb
  obtain ⟨b4, b5⟩ := i64_kn kb
  have b6 := Dl.i64 b4
  have b7 := Dl.i64 b5
  have v7 := Dl.i64 hv
  have w7 := Dl.i64 hw
  have d4 := k10
  rw [cmp_lt'] at d4
  have d4 := of_decide_eq_false d4
  have d5 := k12
  rw [cmp_gt] at d5
  have d5 := of_decide_eq_false d5
  have d6 := k14
  rw [cmp_le0] at d6
  have d6 := of_decide_eq_true d6
  have d7 := k15
  rw [cmp_ge0] at d7
  have d7 := of_decide_eq_true d7
  have aw : IntKind.i64.wrap (a.hi - a.lo) = a.hi - a.lo := by rw [IntKind.wrap_i64]; omega
  have V : (knB a == true) = true := by
    simp [hasB, insB, widV, normB, meetO, noneB, cmp_lt', cmp_gt, cmp_le0, cmp_ge0, cmpB, aw, d4, d5, d6, d7, ka, kb]
    all_goals omega
  have p2 : (i64B a.lo) = true := by
    first | with_reducible assumption | decide
  have p3 : (i64B a.hi) = true := by
    first | with_reducible assumption | decide
  have p6 : (i64B b.lo) = true := by
    first | with_reducible assumption | decide
  have p7 : (i64B b.hi) = true := by
    first | with_reducible assumption | decide
  have p8 : (true) = true := by
    rfl
  have p9 : (decide (a.hi < 0) == decide (a.hi < 0)) = true := by
    first | exact eqB _ | exact beq_self_eq_true _
  have p10 : (decide (b.lo < 0) == decide (b.lo < 0)) = true := by
    first | exact eqB _ | exact beq_self_eq_true _
  have p11 : (szB a.hi) = true := by
    exact Dl.sz (k := 60) (by first | exact Dl.le (by with_reducible assumption) (by omega) | (refine Dl.le (of_dl (by with_reducible assumption) (by with_reducible assumption)) (by omega)) | (refine Dl.le (of_dl (Dl.abs (by with_reducible assumption)) (Dl.abs (by with_reducible assumption))) (by omega)) | (refine Dl.le (Dl.abs (by with_reducible assumption)) (by omega)) | (refine Dl.le (Dl.mul (by with_reducible assumption) (by with_reducible assumption)) (by omega))) (by omega)
  have p12 : (szB b.lo) = true := by
    exact Dl.sz (k := 60) (by first | exact Dl.le (by with_reducible assumption) (by omega) | (refine Dl.le (of_dl (by with_reducible assumption) (by with_reducible assumption)) (by omega)) | (refine Dl.le (of_dl (Dl.abs (by with_reducible assumption)) (Dl.abs (by with_reducible assumption))) (by omega)) | (refine Dl.le (Dl.abs (by with_reducible assumption)) (by omega)) | (refine Dl.le (Dl.mul (by with_reducible assumption) (by with_reducible assumption)) (by omega))) (by omega)
  have p14 : (decide (a.lo < 0) == decide (a.lo < 0)) = true := by
    first | exact eqB _ | exact beq_self_eq_true _
  have p15 : (decide (b.hi < 0) == decide (b.hi < 0)) = true := by
    first | exact eqB _ | exact beq_self_eq_true _
  have p16 : (szB a.lo) = true := by
    exact Dl.sz (k := 60) (by first | exact Dl.le (by with_reducible assumption) (by omega) | (refine Dl.le (of_dl (by with_reducible assumption) (by with_reducible assumption)) (by omega)) | (refine Dl.le (of_dl (Dl.abs (by with_reducible assumption)) (Dl.abs (by with_reducible assumption))) (by omega)) | (refine Dl.le (Dl.abs (by with_reducible assumption)) (by omega)) | (refine Dl.le (Dl.mul (by with_reducible assumption) (by with_reducible assumption)) (by omega))) (by omega)
  have p17 : (szB b.hi) = true := by
    exact Dl.sz (k := 60) (by first | exact Dl.le (by with_reducible assumption) (by omega) | (refine Dl.le (of_dl (by with_reducible assumption) (by with_reducible assumption)) (by omega)) | (refine Dl.le (of_dl (Dl.abs (by with_reducible assumption)) (Dl.abs (by with_reducible assumption))) (by omega)) | (refine Dl.le (Dl.abs (by with_reducible assumption)) (by omega)) | (refine Dl.le (Dl.mul (by with_reducible assumption) (by with_reducible assumption)) (by omega))) (by omega)
  have p19 : (i64B v) = true := by
    first | with_reducible assumption | decide
  have p20 : (chkB a == chkB a) = true := by
    first | exact eqB _ | exact beq_self_eq_true _
  have p21 : (noneB.lo == 0 && (noneB.hi == 0 && (noneB.u == true && true))) = true := by
    have e : noneB = (⟨0, 0, true⟩ : Bd) := by
      simp only [minB, maxB, hullB, absB, meetB, normB, rootB, noneB, ka, kb, Bool.and_true, Bool.true_and, Bool.false_and, Bool.and_false, Bool.not_true, Bool.not_false, cond_true, cond_false]
    rw [e]; simp
  have p22 : ((normB a).lo == a.lo && ((normB a).hi == a.hi && ((normB a).u == a.u && true))) = true := by
    have e : (normB a) = (a : Bd) := by
      simp only [minB, maxB, hullB, absB, meetB, normB, rootB, noneB, ka, kb, Bool.and_true, Bool.true_and, Bool.false_and, Bool.and_false, Bool.not_true, Bool.not_false, cond_true, cond_false]
    rw [e]; simp
  have p23 : (i64B w) = true := by
    first | with_reducible assumption | decide
  have p24 : (decide (v < 0) == decide (v < 0)) = true := by
    first | exact eqB _ | exact beq_self_eq_true _
  have p25 : (decide (w < 0) == decide (w < 0)) = true := by
    first | exact eqB _ | exact beq_self_eq_true _
  have p26 : (szB v) = true := by
    exact Dl.sz (k := 60) (by first | exact Dl.le (by with_reducible assumption) (by omega) | (refine Dl.le (of_dl (by with_reducible assumption) (by with_reducible assumption)) (by omega)) | (refine Dl.le (of_dl (Dl.abs (by with_reducible assumption)) (Dl.abs (by with_reducible assumption))) (by omega)) | (refine Dl.le (Dl.abs (by with_reducible assumption)) (by omega)) | (refine Dl.le (Dl.mul (by with_reducible assumption) (by with_reducible assumption)) (by omega))) (by omega)
  have p27 : (szB w) = true := by
    exact Dl.sz (k := 60) (by first | exact Dl.le (by with_reducible assumption) (by omega) | (refine Dl.le (of_dl (by with_reducible assumption) (by with_reducible assumption)) (by omega)) | (refine Dl.le (of_dl (Dl.abs (by with_reducible assumption)) (Dl.abs (by with_reducible assumption))) (by omega)) | (refine Dl.le (Dl.abs (by with_reducible assumption)) (by omega)) | (refine Dl.le (Dl.mul (by with_reducible assumption) (by with_reducible assumption)) (by omega))) (by omega)
  have p28 : ((ofB v w).lo == (ofB v w).lo && ((ofB v w).hi == (ofB v w).hi && ((ofB v w).u == (ofB v w).u && true))) = true := by
    have e : (ofB v w) = ((ofB v w) : Bd) := by
      simp only [minB, maxB, hullB, absB, meetB, normB, rootB, noneB, ka, kb, Bool.and_true, Bool.true_and, Bool.false_and, Bool.and_false, Bool.not_true, Bool.not_false, cond_true, cond_false]
    rw [e]; simp
  have p29 : ((ofB v v).lo == (ofB v v).lo && ((ofB v v).hi == (ofB v v).hi && ((ofB v v).u == (ofB v v).u && true))) = true := by
    have e : (ofB v v) = ((ofB v v) : Bd) := by
      simp only [minB, maxB, hullB, absB, meetB, normB, rootB, noneB, ka, kb, Bool.and_true, Bool.true_and, Bool.false_and, Bool.and_false, Bool.not_true, Bool.not_false, cond_true, cond_false]
    rw [e]; simp
  have p30 : (!true) = false := by
    rfl
  have p32 : (hasB a v == decide (cmpI a.hi v ≥ 0)) = true := by
    simp [hasB, insB, widV, normB, meetO, noneB, cmp_lt', cmp_gt, cmp_le0, cmp_ge0, cmpB, aw, d4, d5, d6, d7, ka, kb]
    all_goals omega
  have p34 : (insB a b == decide (cmpI a.hi b.hi ≤ 0)) = true := by
    simp [hasB, insB, widV, normB, meetO, noneB, cmp_lt', cmp_gt, cmp_le0, cmp_ge0, cmpB, aw, d4, d5, d6, d7, ka, kb]
    all_goals omega
  have p35 : (cmpB a b == 0) = true := by
    simp [hasB, insB, widV, normB, meetO, noneB, cmp_lt', cmp_gt, cmp_le0, cmp_ge0, cmpB, aw, d4, d5, d6, d7, ka, kb]
    all_goals omega
  have p36 : (widV a == IntKind.i64.wrap (a.hi - a.lo)) = true := by
    simp [hasB, insB, widV, normB, meetO, noneB, cmp_lt', cmp_gt, cmp_le0, cmp_ge0, cmpB, aw, d4, d5, d6, d7, ka, kb]
    all_goals omega
  exact evR_calls (I := numI) (v := .bool true) (ctxLp_ok libBoundChecks_ok eqBoundChecks_ok fnsBoundChecks_ok (fun _ _ _ => lps_nil)) (by kernel_rfl) Try.func3 rfl lps_nil L rfl (all2_R (.cons rfl (.cons rfl (.cons rfl (.cons rfl .nil))))) (congrArg (fun b => some (Value.bool b)) V) _ (Nat.zero_le _) (pickL_ok (cd_cons k0 (cd_cons k3 (cd_cons p2 (cd_cons p3 (cd_cons k6 (cd_cons k8 (cd_cons p6 (cd_cons p7 (cd_cons p8 (cd_cons p9 (cd_cons p10 (cd_cons p11 (cd_cons p12 (cd_cons k10 (cd_cons p14 (cd_cons p15 (cd_cons p16 (cd_cons p17 (cd_cons k12 (cd_cons p19 (cd_cons p20 (cd_cons p21 (cd_cons p22 (cd_cons p23 (cd_cons p24 (cd_cons p25 (cd_cons p26 (cd_cons p27 (cd_cons p28 (cd_cons p29 (cd_cons p30 (cd_cons k14 (cd_cons p32 (cd_cons k15 (cd_cons p34 (cd_cons p35 (cd_cons p36 cd_nil))))))))))))))))))))))))))))))))))))) _)
set_option maxRecDepth 100000 in
theorem boundChecks_w15 (a : Bd) (b : Bd) (v : Int) (w : Int) (W : World) (hv : i64B v = true) (hw : i64B w = true) (k0 : (chkB a != 0) = false) (k3 : (a.u) = false) (k6 : (chkB b != 0) = false) (k8 : (b.u) = false) (k10 : (decide (cmpI a.hi b.lo < 0)) = false) (k12 : (decide (cmpI a.lo b.hi > 0)) = false) (k14 : (decide (cmpI a.lo v ≤ 0)) = true) (k15 : (decide (cmpI a.lo b.lo ≥ 0)) = false) : Calls Try.prog 3 #[bV a, bV b, .int .i64 v, .int .i64 w] W fun e w' => e = .returned (.bool true) ∧ Below W.heap.size W w' := by
  have L := boundChecks_0000001111111110111 a b v w
  have ka : knB a = true := kn_ok k0 k3
  obtain ⟨au, a1, a2, a3⟩ := knB_iff.1 ka
  obtain ⟨a4, a5⟩ := i64_kn ka
  have a6 := Dl.i64 a4
  have a7 := Dl.i64 a5
  have kb : knB b = true := kn_ok k6 k8
  obtain ⟨bu, b1, b2, b3⟩ := knB_iff.1 kb
  obtain ⟨b4, b5⟩ := i64_kn kb
  have b6 := Dl.i64 b4
  have b7 := Dl.i64 b5
  have v7 := Dl.i64 hv
  have w7 := Dl.i64 hw
  have d4 := k10
  rw [cmp_lt'] at d4
  have d4 := of_decide_eq_false d4
  have d5 := k12
  rw [cmp_gt] at d5
  have d5 := of_decide_eq_false d5
  have d6 := k14
  rw [cmp_le0] at d6
  have d6 := of_decide_eq_true d6
  have d7 := k15
  rw [cmp_ge0] at d7
  have d7 := of_decide_eq_false d7
  have aw : IntKind.i64.wrap (a.hi - a.lo) = a.hi - a.lo := by rw [IntKind.wrap_i64]; omega
  have V : (knB a == true) = true := by
    simp [hasB, insB, widV, normB, meetO, noneB, cmp_lt', cmp_gt, cmp_le0, cmp_ge0, cmpB, aw, d4, d5, d6, d7, ka, kb]
    all_goals omega
  have p2 : (i64B a.lo) = true := by
    first | with_reducible assumption | decide
  have p3 : (i64B a.hi) = true := by
    first | with_reducible assumption | decide
  have p6 : (i64B b.lo) = true := by
    first | with_reducible assumption | decide
  have p7 : (i64B b.hi) = true := by
    first | with_reducible assumption | decide
  have p8 : (true) = true := by
    rfl
  have p9 : (decide (a.hi < 0) == decide (a.hi < 0)) = true := by
    first | exact eqB _ | exact beq_self_eq_true _
  have p10 : (decide (b.lo < 0) == decide (b.lo < 0)) = true := by
    first | exact eqB _ | exact beq_self_eq_true _
  have p11 : (szB a.hi) = true := by
    exact Dl.sz (k := 60) (by first | exact Dl.le (by with_reducible assumption) (by omega) | (refine Dl.le (of_dl (by with_reducible assumption) (by with_reducible assumption)) (by omega)) | (refine Dl.le (of_dl (Dl.abs (by with_reducible assumption)) (Dl.abs (by with_reducible assumption))) (by omega)) | (refine Dl.le (Dl.abs (by with_reducible assumption)) (by omega)) | (refine Dl.le (Dl.mul (by with_reducible assumption) (by with_reducible assumption)) (by omega))) (by omega)
  have p12 : (szB b.lo) = true := by
    exact Dl.sz (k := 60) (by first | exact Dl.le (by with_reducible assumption) (by omega) | (refine Dl.le (of_dl (by with_reducible assumption) (by with_reducible assumption)) (by omega)) | (refine Dl.le (of_dl (Dl.abs (by with_reducible assumption)) (Dl.abs (by with_reducible assumption))) (by omega)) | (refine Dl.le (Dl.abs (by with_reducible assumption)) (by omega)) | (refine Dl.le (Dl.mul (by with_reducible assumption) (by with_reducible assumption)) (by omega))) (by omega)
  have p14 : (decide (a.lo < 0) == decide (a.lo < 0)) = true := by
    first | exact eqB _ | exact beq_self_eq_true _
  have p15 : (decide (b.hi < 0) == decide (b.hi < 0)) = true := by
    first | exact eqB _ | exact beq_self_eq_true _
  have p16 : (szB a.lo) = true := by
    exact Dl.sz (k := 60) (by first | exact Dl.le (by with_reducible assumption) (by omega) | (refine Dl.le (of_dl (by with_reducible assumption) (by with_reducible assumption)) (by omega)) | (refine Dl.le (of_dl (Dl.abs (by with_reducible assumption)) (Dl.abs (by with_reducible assumption))) (by omega)) | (refine Dl.le (Dl.abs (by with_reducible assumption)) (by omega)) | (refine Dl.le (Dl.mul (by with_reducible assumption) (by with_reducible assumption)) (by omega))) (by omega)
  have p17 : (szB b.hi) = true := by
    exact Dl.sz (k := 60) (by first | exact Dl.le (by with_reducible assumption) (by omega) | (refine Dl.le (of_dl (by with_reducible assumption) (by with_reducible assumption)) (by omega)) | (refine Dl.le (of_dl (Dl.abs (by with_reducible assumption)) (Dl.abs (by with_reducible assumption))) (by omega)) | (refine Dl.le (Dl.abs (by with_reducible assumption)) (by omega)) | (refine Dl.le (Dl.mul (by with_reducible assumption) (by with_reducible assumption)) (by omega))) (by omega)
  have p19 : (i64B v) = true := by
    first | with_reducible assumption | decide
  have p20 : (chkB a == chkB a) = true := by
    first | exact eqB _ | exact beq_self_eq_true _
  have p21 : (noneB.lo == 0 && (noneB.hi == 0 && (noneB.u == true && true))) = true := by
    have e : noneB = (⟨0, 0, true⟩ : Bd) := by
      simp only [minB, maxB, hullB, absB, meetB, normB, rootB, noneB, ka, kb, Bool.and_true, Bool.true_and, Bool.false_and, Bool.and_false, Bool.not_true, Bool.not_false, cond_true, cond_false]
    rw [e]; simp
  have p22 : ((normB a).lo == a.lo && ((normB a).hi == a.hi && ((normB a).u == a.u && true))) = true := by
    have e : (normB a) = (a : Bd) := by
      simp only [minB, maxB, hullB, absB, meetB, normB, rootB, noneB, ka, kb, Bool.and_true, Bool.true_and, Bool.false_and, Bool.and_false, Bool.not_true, Bool.not_false, cond_true, cond_false]
    rw [e]; simp
  have p23 : (i64B w) = true := by
    first | with_reducible assumption | decide
  have p24 : (decide (v < 0) == decide (v < 0)) = true := by
    first | exact eqB _ | exact beq_self_eq_true _
  have p25 : (decide (w < 0) == decide (w < 0)) = true := by
    first | exact eqB _ | exact beq_self_eq_true _
  have p26 : (szB v) = true := by
    exact Dl.sz (k := 60) (by first | exact Dl.le (by with_reducible assumption) (by omega) | (refine Dl.le (of_dl (by with_reducible assumption) (by with_reducible assumption)) (by omega)) | (refine Dl.le (of_dl (Dl.abs (by with_reducible assumption)) (Dl.abs (by with_reducible assumption))) (by omega)) | (refine Dl.le (Dl.abs (by with_reducible assumption)) (by omega)) | (refine Dl.le (Dl.mul (by with_reducible assumption) (by with_reducible assumption)) (by omega))) (by omega)
  have p27 : (szB w) = true := by
    exact Dl.sz (k := 60) (by first | exact Dl.le (by with_reducible assumption) (by omega) | (refine Dl.le (of_dl (by with_reducible assumption) (by with_reducible assumption)) (by omega)) | (refine Dl.le (of_dl (Dl.abs (by with_reducible assumption)) (Dl.abs (by with_reducible assumption))) (by omega)) | (refine Dl.le (Dl.abs (by with_reducible assumption)) (by omega)) | (refine Dl.le (Dl.mul (by with_reducible assumption) (by with_reducible assumption)) (by omega))) (by omega)
  have p28 : ((ofB v w).lo == (ofB v w).lo && ((ofB v w).hi == (ofB v w).hi && ((ofB v w).u == (ofB v w).u && true))) = true := by
    have e : (ofB v w) = ((ofB v w) : Bd) := by
      simp only [minB, maxB, hullB, absB, meetB, normB, rootB, noneB, ka, kb, Bool.and_true, Bool.true_and, Bool.false_and, Bool.and_false, Bool.not_true, Bool.not_false, cond_true, cond_false]
    rw [e]; simp
  have p29 : ((ofB v v).lo == (ofB v v).lo && ((ofB v v).hi == (ofB v v).hi && ((ofB v v).u == (ofB v v).u && true))) = true := by
    have e : (ofB v v) = ((ofB v v) : Bd) := by
      simp only [minB, maxB, hullB, absB, meetB, normB, rootB, noneB, ka, kb, Bool.and_true, Bool.true_and, Bool.false_and, Bool.and_false, Bool.not_true, Bool.not_false, cond_true, cond_false]
    rw [e]; simp
  have p30 : (!true) = false := by
    rfl
  have p32 : (hasB a v == decide (cmpI a.hi v ≥ 0)) = true := by
    simp [hasB, insB, widV, normB, meetO, noneB, cmp_lt', cmp_gt, cmp_le0, cmp_ge0, cmpB, aw, d4, d5, d6, d7, ka, kb]
    all_goals omega
  have p34 : (insB a b == false) = true := by
    simp [hasB, insB, widV, normB, meetO, noneB, cmp_lt', cmp_gt, cmp_le0, cmp_ge0, cmpB, aw, d4, d5, d6, d7, ka, kb]
    all_goals omega
  have p35 : (cmpB a b == 0) = true := by
    simp [hasB, insB, widV, normB, meetO, noneB, cmp_lt', cmp_gt, cmp_le0, cmp_ge0, cmpB, aw, d4, d5, d6, d7, ka, kb]
    all_goals omega
  have p36 : (widV a == IntKind.i64.wrap (a.hi - a.lo)) = true := by
    simp [hasB, insB, widV, normB, meetO, noneB, cmp_lt', cmp_gt, cmp_le0, cmp_ge0, cmpB, aw, d4, d5, d6, d7, ka, kb]
    all_goals omega
  exact evR_calls (I := numI) (v := .bool true) (ctxLp_ok libBoundChecks_ok eqBoundChecks_ok fnsBoundChecks_ok (fun _ _ _ => lps_nil)) (by kernel_rfl) Try.func3 rfl lps_nil L rfl (all2_R (.cons rfl (.cons rfl (.cons rfl (.cons rfl .nil))))) (congrArg (fun b => some (Value.bool b)) V) _ (Nat.zero_le _) (pickL_ok (cd_cons k0 (cd_cons k3 (cd_cons p2 (cd_cons p3 (cd_cons k6 (cd_cons k8 (cd_cons p6 (cd_cons p7 (cd_cons p8 (cd_cons p9 (cd_cons p10 (cd_cons p11 (cd_cons p12 (cd_cons k10 (cd_cons p14 (cd_cons p15 (cd_cons p16 (cd_cons p17 (cd_cons k12 (cd_cons p19 (cd_cons p20 (cd_cons p21 (cd_cons p22 (cd_cons p23 (cd_cons p24 (cd_cons p25 (cd_cons p26 (cd_cons p27 (cd_cons p28 (cd_cons p29 (cd_cons p30 (cd_cons k14 (cd_cons p32 (cd_cons k15 (cd_cons p34 (cd_cons p35 (cd_cons p36 cd_nil))))))))))))))))))))))))))))))))))))) _)
set_option maxRecDepth 100000 in
theorem boundChecks_w16 (a : Bd) (b : Bd) (v : Int) (w : Int) (W : World) (hv : i64B v = true) (hw : i64B w = true) (k0 : (chkB a != 0) = false) (k3 : (a.u) = false) (k6 : (chkB b != 0) = false) (k8 : (b.u) = false) (k10 : (decide (cmpI a.hi b.lo < 0)) = false) (k12 : (decide (cmpI a.lo b.hi > 0)) = false) (k14 : (decide (cmpI a.lo v ≤ 0)) = false) (k16 : (decide (cmpI a.lo b.lo ≥ 0)) = true) : Calls Try.prog 3 #[bV a, bV b, .int .i64 v, .int .i64 w] W fun e w' => e = .returned (.bool true) ∧ Below W.heap.size W w' := by
  have L := boundChecks_0000001111111011111 a b v w
  have ka : knB a = true := kn_ok k0 k3
  obtain ⟨au, a1, a2, a3⟩ := knB_iff.1 ka
  obtain ⟨a4, a5⟩ := i64_kn ka
  have a6 := Dl.i64 a4
  have a7 := Dl.i64 a5
  have kb : knB b = true := kn_ok k6 k8
  obtain ⟨bu, b1, b2, b3⟩ := knB_iff.1 kb
  obtain ⟨b4, b5⟩ := i64_kn kb
  have b6 := Dl.i64 b4
  have b7 := Dl.i64 b5
  have v7 := Dl.i64 hv
  have w7 := Dl.i64 hw
  have d4 := k10
  rw [cmp_lt'] at d4
  have d4 := of_decide_eq_false d4
  have d5 := k12
  rw [cmp_gt] at d5
  have d5 := of_decide_eq_false d5
  have d6 := k14
  rw [cmp_le0] at d6
  have d6 := of_decide_eq_false d6
  have d7 := k16
  rw [cmp_ge0] at d7
  have d7 := of_decide_eq_true d7
  have aw : IntKind.i64.wrap (a.hi - a.lo) = a.hi - a.lo := by rw [IntKind.wrap_i64]; omega
  have V : (knB a == true) = true := by
    simp [hasB, insB, widV, normB, meetO, noneB, cmp_lt', cmp_gt, cmp_le0, cmp_ge0, cmpB, aw, d4, d5, d6, d7, ka, kb]
    all_goals omega
  have p2 : (i64B a.lo) = true := by
    first | with_reducible assumption | decide
  have p3 : (i64B a.hi) = true := by
    first | with_reducible assumption | decide
  have p6 : (i64B b.lo) = true := by
    first | with_reducible assumption | decide
  have p7 : (i64B b.hi) = true := by
    first | with_reducible assumption | decide
  have p8 : (true) = true := by
    rfl
  have p9 : (decide (a.hi < 0) == decide (a.hi < 0)) = true := by
    first | exact eqB _ | exact beq_self_eq_true _
  have p10 : (decide (b.lo < 0) == decide (b.lo < 0)) = true := by
    first | exact eqB _ | exact beq_self_eq_true _
  have p11 : (szB a.hi) = true := by
    exact Dl.sz (k := 60) (by first | exact Dl.le (by with_reducible assumption) (by omega) | (refine Dl.le (of_dl (by with_reducible assumption) (by with_reducible assumption)) (by omega)) | (refine Dl.le (of_dl (Dl.abs (by with_reducible assumption)) (Dl.abs (by with_reducible assumption))) (by omega)) | (refine Dl.le (Dl.abs (by with_reducible assumption)) (by omega)) | (refine Dl.le (Dl.mul (by with_reducible assumption) (by with_reducible assumption)) (by omega))) (by omega)
  have p12 : (szB b.lo) = true := by
    exact Dl.sz (k := 60) (by first | exact Dl.le (by with_reducible assumption) (by omega) | (refine Dl.le (of_dl (by with_reducible assumption) (by with_reducible assumption)) (by omega)) | (refine Dl.le (of_dl (Dl.abs (by with_reducible assumption)) (Dl.abs (by with_reducible assumption))) (by omega)) | (refine Dl.le (Dl.abs (by with_reducible assumption)) (by omega)) | (refine Dl.le (Dl.mul (by with_reducible assumption) (by with_reducible assumption)) (by omega))) (by omega)
  have p14 : (decide (a.lo < 0) == decide (a.lo < 0)) = true := by
    first | exact eqB _ | exact beq_self_eq_true _
  have p15 : (decide (b.hi < 0) == decide (b.hi < 0)) = true := by
    first | exact eqB _ | exact beq_self_eq_true _
  have p16 : (szB a.lo) = true := by
    exact Dl.sz (k := 60) (by first | exact Dl.le (by with_reducible assumption) (by omega) | (refine Dl.le (of_dl (by with_reducible assumption) (by with_reducible assumption)) (by omega)) | (refine Dl.le (of_dl (Dl.abs (by with_reducible assumption)) (Dl.abs (by with_reducible assumption))) (by omega)) | (refine Dl.le (Dl.abs (by with_reducible assumption)) (by omega)) | (refine Dl.le (Dl.mul (by with_reducible assumption) (by with_reducible assumption)) (by omega))) (by omega)
  have p17 : (szB b.hi) = true := by
    exact Dl.sz (k := 60) (by first | exact Dl.le (by with_reducible assumption) (by omega) | (refine Dl.le (of_dl (by with_reducible assumption) (by with_reducible assumption)) (by omega)) | (refine Dl.le (of_dl (Dl.abs (by with_reducible assumption)) (Dl.abs (by with_reducible assumption))) (by omega)) | (refine Dl.le (Dl.abs (by with_reducible assumption)) (by omega)) | (refine Dl.le (Dl.mul (by with_reducible assumption) (by with_reducible assumption)) (by omega))) (by omega)
  have p19 : (i64B v) = true := by
    first | with_reducible assumption | decide
  have p20 : (chkB a == chkB a) = true := by
    first | exact eqB _ | exact beq_self_eq_true _
  have p21 : (noneB.lo == 0 && (noneB.hi == 0 && (noneB.u == true && true))) = true := by
    have e : noneB = (⟨0, 0, true⟩ : Bd) := by
      simp only [minB, maxB, hullB, absB, meetB, normB, rootB, noneB, ka, kb, Bool.and_true, Bool.true_and, Bool.false_and, Bool.and_false, Bool.not_true, Bool.not_false, cond_true, cond_false]
    rw [e]; simp
  have p22 : ((normB a).lo == a.lo && ((normB a).hi == a.hi && ((normB a).u == a.u && true))) = true := by
    have e : (normB a) = (a : Bd) := by
      simp only [minB, maxB, hullB, absB, meetB, normB, rootB, noneB, ka, kb, Bool.and_true, Bool.true_and, Bool.false_and, Bool.and_false, Bool.not_true, Bool.not_false, cond_true, cond_false]
    rw [e]; simp
  have p23 : (i64B w) = true := by
    first | with_reducible assumption | decide
  have p24 : (decide (v < 0) == decide (v < 0)) = true := by
    first | exact eqB _ | exact beq_self_eq_true _
  have p25 : (decide (w < 0) == decide (w < 0)) = true := by
    first | exact eqB _ | exact beq_self_eq_true _
  have p26 : (szB v) = true := by
    exact Dl.sz (k := 60) (by first | exact Dl.le (by with_reducible assumption) (by omega) | (refine Dl.le (of_dl (by with_reducible assumption) (by with_reducible assumption)) (by omega)) | (refine Dl.le (of_dl (Dl.abs (by with_reducible assumption)) (Dl.abs (by with_reducible assumption))) (by omega)) | (refine Dl.le (Dl.abs (by with_reducible assumption)) (by omega)) | (refine Dl.le (Dl.mul (by with_reducible assumption) (by with_reducible assumption)) (by omega))) (by omega)
  have p27 : (szB w) = true := by
    exact Dl.sz (k := 60) (by first | exact Dl.le (by with_reducible assumption) (by omega) | (refine Dl.le (of_dl (by with_reducible assumption) (by with_reducible assumption)) (by omega)) | (refine Dl.le (of_dl (Dl.abs (by with_reducible assumption)) (Dl.abs (by with_reducible assumption))) (by omega)) | (refine Dl.le (Dl.abs (by with_reducible assumption)) (by omega)) | (refine Dl.le (Dl.mul (by with_reducible assumption) (by with_reducible assumption)) (by omega))) (by omega)
  have p28 : ((ofB v w).lo == (ofB v w).lo && ((ofB v w).hi == (ofB v w).hi && ((ofB v w).u == (ofB v w).u && true))) = true := by
    have e : (ofB v w) = ((ofB v w) : Bd) := by
      simp only [minB, maxB, hullB, absB, meetB, normB, rootB, noneB, ka, kb, Bool.and_true, Bool.true_and, Bool.false_and, Bool.and_false, Bool.not_true, Bool.not_false, cond_true, cond_false]
    rw [e]; simp
  have p29 : ((ofB v v).lo == (ofB v v).lo && ((ofB v v).hi == (ofB v v).hi && ((ofB v v).u == (ofB v v).u && true))) = true := by
    have e : (ofB v v) = ((ofB v v) : Bd) := by
      simp only [minB, maxB, hullB, absB, meetB, normB, rootB, noneB, ka, kb, Bool.and_true, Bool.true_and, Bool.false_and, Bool.and_false, Bool.not_true, Bool.not_false, cond_true, cond_false]
    rw [e]; simp
  have p30 : (!true) = false := by
    rfl
  have p32 : (hasB a v == false) = true := by
    simp [hasB, insB, widV, normB, meetO, noneB, cmp_lt', cmp_gt, cmp_le0, cmp_ge0, cmpB, aw, d4, d5, d6, d7, ka, kb]
    all_goals omega
  have p34 : (insB a b == decide (cmpI a.hi b.hi ≤ 0)) = true := by
    simp [hasB, insB, widV, normB, meetO, noneB, cmp_lt', cmp_gt, cmp_le0, cmp_ge0, cmpB, aw, d4, d5, d6, d7, ka, kb]
    all_goals omega
  have p35 : (cmpB a b == 0) = true := by
    simp [hasB, insB, widV, normB, meetO, noneB, cmp_lt', cmp_gt, cmp_le0, cmp_ge0, cmpB, aw, d4, d5, d6, d7, ka, kb]
    all_goals omega
  have p36 : (widV a == IntKind.i64.wrap (a.hi - a.lo)) = true := by
    simp [hasB, insB, widV, normB, meetO, noneB, cmp_lt', cmp_gt, cmp_le0, cmp_ge0, cmpB, aw, d4, d5, d6, d7, ka, kb]
    all_goals omega
  exact evR_calls (I := numI) (v := .bool true) (ctxLp_ok libBoundChecks_ok eqBoundChecks_ok fnsBoundChecks_ok (fun _ _ _ => lps_nil)) (by kernel_rfl) Try.func3 rfl lps_nil L rfl (all2_R (.cons rfl (.cons rfl (.cons rfl (.cons rfl .nil))))) (congrArg (fun b => some (Value.bool b)) V) _ (Nat.zero_le _) (pickL_ok (cd_cons k0 (cd_cons k3 (cd_cons p2 (cd_cons p3 (cd_cons k6 (cd_cons k8 (cd_cons p6 (cd_cons p7 (cd_cons p8 (cd_cons p9 (cd_cons p10 (cd_cons p11 (cd_cons p12 (cd_cons k10 (cd_cons p14 (cd_cons p15 (cd_cons p16 (cd_cons p17 (cd_cons k12 (cd_cons p19 (cd_cons p20 (cd_cons p21 (cd_cons p22 (cd_cons p23 (cd_cons p24 (cd_cons p25 (cd_cons p26 (cd_cons p27 (cd_cons p28 (cd_cons p29 (cd_cons p30 (cd_cons k14 (cd_cons p32 (cd_cons k16 (cd_cons p34 (cd_cons p35 (cd_cons p36 cd_nil))))))))))))))))))))))))))))))))))))) _)
set_option maxRecDepth 100000 in
theorem boundChecks_w17 (a : Bd) (b : Bd) (v : Int) (w : Int) (W : World) (hv : i64B v = true) (hw : i64B w = true) (k0 : (chkB a != 0) = false) (k3 : (a.u) = false) (k6 : (chkB b != 0) = false) (k8 : (b.u) = false) (k10 : (decide (cmpI a.hi b.lo < 0)) = false) (k12 : (decide (cmpI a.lo b.hi > 0)) = false) (k14 : (decide (cmpI a.lo v ≤ 0)) = false) (k16 : (decide (cmpI a.lo b.lo ≥ 0)) = false) : Calls Try.prog 3 #[bV a, bV b, .int .i64 v, .int .i64 w] W fun e w' => e = .returned (.bool true) ∧ Below W.heap.size W w' := by
  have L := boundChecks_0000001111111010111 a b v w
  have ka : knB a = true := kn_ok k0 k3
  obtain ⟨au, a1, a2, a3⟩ := knB_iff.1 ka
  obtain ⟨a4, a5⟩ := i64_kn ka
  have a6 := Dl.i64 a4
  have a7 := Dl.i64 a5
  have kb : knB b = true := kn_ok k6 k8
  obtain ⟨bu, b1, b2, b3⟩ := knB_iff.1 kb
  obtain ⟨b4, b5⟩ := i64_kn kb
  have b6 := Dl.i64 b4
  have b7 := Dl.i64 b5
  have v7 := Dl.i64 hv
  have w7 := Dl.i64 hw
  have d4 := k10
  rw [cmp_lt'] at d4
  have d4 := of_decide_eq_false d4
  have d5 := k12
  rw [cmp_gt] at d5
  have d5 := of_decide_eq_false d5
  have d6 := k14
  rw [cmp_le0] at d6
  have d6 := of_decide_eq_false d6
  have d7 := k16
  rw [cmp_ge0] at d7
  have d7 := of_decide_eq_false d7
  have aw : IntKind.i64.wrap (a.hi - a.lo) = a.hi - a.lo := by rw [IntKind.wrap_i64]; omega
  have V : (knB a == true) = true := by
    simp [hasB, insB, widV, normB, meetO, noneB, cmp_lt', cmp_gt, cmp_le0, cmp_ge0, cmpB, aw, d4, d5, d6, d7, ka, kb]
    all_goals omega
  have p2 : (i64B a.lo) = true := by
    first | with_reducible assumption | decide
  have p3 : (i64B a.hi) = true := by
    first | with_reducible assumption | decide
  have p6 : (i64B b.lo) = true := by
    first | with_reducible assumption | decide
  have p7 : (i64B b.hi) = true := by
    first | with_reducible assumption | decide
  have p8 : (true) = true := by
    rfl
  have p9 : (decide (a.hi < 0) == decide (a.hi < 0)) = true := by
    first | exact eqB _ | exact beq_self_eq_true _
  have p10 : (decide (b.lo < 0) == decide (b.lo < 0)) = true := by
    first | exact eqB _ | exact beq_self_eq_true _
  have p11 : (szB a.hi) = true := by
    exact Dl.sz (k := 60) (by first | exact Dl.le (by with_reducible assumption) (by omega) | (refine Dl.le (of_dl (by with_reducible assumption) (by with_reducible assumption)) (by omega)) | (refine Dl.le (of_dl (Dl.abs (by with_reducible assumption)) (Dl.abs (by with_reducible assumption))) (by omega)) | (refine Dl.le (Dl.abs (by with_reducible assumption)) (by omega)) | (refine Dl.le (Dl.mul (by with_reducible assumption) (by with_reducible assumption)) (by omega))) (by omega)
  have p12 : (szB b.lo) = true := by
    exact Dl.sz (k := 60) (by first | exact Dl.le (by with_reducible assumption) (by omega) | (refine Dl.le (of_dl (by with_reducible assumption) (by with_reducible assumption)) (by omega)) | (refine Dl.le (of_dl (Dl.abs (by with_reducible assumption)) (Dl.abs (by with_reducible assumption))) (by omega)) | (refine Dl.le (Dl.abs (by with_reducible assumption)) (by omega)) | (refine Dl.le (Dl.mul (by with_reducible assumption) (by with_reducible assumption)) (by omega))) (by omega)
  have p14 : (decide (a.lo < 0) == decide (a.lo < 0)) = true := by
    first | exact eqB _ | exact beq_self_eq_true _
  have p15 : (decide (b.hi < 0) == decide (b.hi < 0)) = true := by
    first | exact eqB _ | exact beq_self_eq_true _
  have p16 : (szB a.lo) = true := by
    exact Dl.sz (k := 60) (by first | exact Dl.le (by with_reducible assumption) (by omega) | (refine Dl.le (of_dl (by with_reducible assumption) (by with_reducible assumption)) (by omega)) | (refine Dl.le (of_dl (Dl.abs (by with_reducible assumption)) (Dl.abs (by with_reducible assumption))) (by omega)) | (refine Dl.le (Dl.abs (by with_reducible assumption)) (by omega)) | (refine Dl.le (Dl.mul (by with_reducible assumption) (by with_reducible assumption)) (by omega))) (by omega)
  have p17 : (szB b.hi) = true := by
    exact Dl.sz (k := 60) (by first | exact Dl.le (by with_reducible assumption) (by omega) | (refine Dl.le (of_dl (by with_reducible assumption) (by with_reducible assumption)) (by omega)) | (refine Dl.le (of_dl (Dl.abs (by with_reducible assumption)) (Dl.abs (by with_reducible assumption))) (by omega)) | (refine Dl.le (Dl.abs (by with_reducible assumption)) (by omega)) | (refine Dl.le (Dl.mul (by with_reducible assumption) (by with_reducible assumption)) (by omega))) (by omega)
  have p19 : (i64B v) = true := by
    first | with_reducible assumption | decide
  have p20 : (chkB a == chkB a) = true := by
    first | exact eqB _ | exact beq_self_eq_true _
  have p21 : (noneB.lo == 0 && (noneB.hi == 0 && (noneB.u == true && true))) = true := by
    have e : noneB = (⟨0, 0, true⟩ : Bd) := by
      simp only [minB, maxB, hullB, absB, meetB, normB, rootB, noneB, ka, kb, Bool.and_true, Bool.true_and, Bool.false_and, Bool.and_false, Bool.not_true, Bool.not_false, cond_true, cond_false]
    rw [e]; simp
  have p22 : ((normB a).lo == a.lo && ((normB a).hi == a.hi && ((normB a).u == a.u && true))) = true := by
    have e : (normB a) = (a : Bd) := by
      simp only [minB, maxB, hullB, absB, meetB, normB, rootB, noneB, ka, kb, Bool.and_true, Bool.true_and, Bool.false_and, Bool.and_false, Bool.not_true, Bool.not_false, cond_true, cond_false]
    rw [e]; simp
  have p23 : (i64B w) = true := by
    first | with_reducible assumption | decide
  have p24 : (decide (v < 0) == decide (v < 0)) = true := by
    first | exact eqB _ | exact beq_self_eq_true _
  have p25 : (decide (w < 0) == decide (w < 0)) = true := by
    first | exact eqB _ | exact beq_self_eq_true _
  have p26 : (szB v) = true := by
    exact Dl.sz (k := 60) (by first | exact Dl.le (by with_reducible assumption) (by omega) | (refine Dl.le (of_dl (by with_reducible assumption) (by with_reducible assumption)) (by omega)) | (refine Dl.le (of_dl (Dl.abs (by with_reducible assumption)) (Dl.abs (by with_reducible assumption))) (by omega)) | (refine Dl.le (Dl.abs (by with_reducible assumption)) (by omega)) | (refine Dl.le (Dl.mul (by with_reducible assumption) (by with_reducible assumption)) (by omega))) (by omega)
  have p27 : (szB w) = true := by
    exact Dl.sz (k := 60) (by first | exact Dl.le (by with_reducible assumption) (by omega) | (refine Dl.le (of_dl (by with_reducible assumption) (by with_reducible assumption)) (by omega)) | (refine Dl.le (of_dl (Dl.abs (by with_reducible assumption)) (Dl.abs (by with_reducible assumption))) (by omega)) | (refine Dl.le (Dl.abs (by with_reducible assumption)) (by omega)) | (refine Dl.le (Dl.mul (by with_reducible assumption) (by with_reducible assumption)) (by omega))) (by omega)
  have p28 : ((ofB v w).lo == (ofB v w).lo && ((ofB v w).hi == (ofB v w).hi && ((ofB v w).u == (ofB v w).u && true))) = true := by
    have e : (ofB v w) = ((ofB v w) : Bd) := by
      simp only [minB, maxB, hullB, absB, meetB, normB, rootB, noneB, ka, kb, Bool.and_true, Bool.true_and, Bool.false_and, Bool.and_false, Bool.not_true, Bool.not_false, cond_true, cond_false]
    rw [e]; simp
  have p29 : ((ofB v v).lo == (ofB v v).lo && ((ofB v v).hi == (ofB v v).hi && ((ofB v v).u == (ofB v v).u && true))) = true := by
    have e : (ofB v v) = ((ofB v v) : Bd) := by
      simp only [minB, maxB, hullB, absB, meetB, normB, rootB, noneB, ka, kb, Bool.and_true, Bool.true_and, Bool.false_and, Bool.and_false, Bool.not_true, Bool.not_false, cond_true, cond_false]
    rw [e]; simp
  have p30 : (!true) = false := by
    rfl
  have p32 : (hasB a v == false) = true := by
    simp [hasB, insB, widV, normB, meetO, noneB, cmp_lt', cmp_gt, cmp_le0, cmp_ge0, cmpB, aw, d4, d5, d6, d7, ka, kb]
    all_goals omega
  have p34 : (insB a b == false) = true := by
    simp [hasB, insB, widV, normB, meetO, noneB, cmp_lt', cmp_gt, cmp_le0, cmp_ge0, cmpB, aw, d4, d5, d6, d7, ka, kb]
    all_goals omega
  have p35 : (cmpB a b == 0) = true := by
    simp [hasB, insB, widV, normB, meetO, noneB, cmp_lt', cmp_gt, cmp_le0, cmp_ge0, cmpB, aw, d4, d5, d6, d7, ka, kb]
    all_goals omega
  have p36 : (widV a == IntKind.i64.wrap (a.hi - a.lo)) = true := by
    simp [hasB, insB, widV, normB, meetO, noneB, cmp_lt', cmp_gt, cmp_le0, cmp_ge0, cmpB, aw, d4, d5, d6, d7, ka, kb]
    all_goals omega
  exact evR_calls (I := numI) (v := .bool true) (ctxLp_ok libBoundChecks_ok eqBoundChecks_ok fnsBoundChecks_ok (fun _ _ _ => lps_nil)) (by kernel_rfl) Try.func3 rfl lps_nil L rfl (all2_R (.cons rfl (.cons rfl (.cons rfl (.cons rfl .nil))))) (congrArg (fun b => some (Value.bool b)) V) _ (Nat.zero_le _) (pickL_ok (cd_cons k0 (cd_cons k3 (cd_cons p2 (cd_cons p3 (cd_cons k6 (cd_cons k8 (cd_cons p6 (cd_cons p7 (cd_cons p8 (cd_cons p9 (cd_cons p10 (cd_cons p11 (cd_cons p12 (cd_cons k10 (cd_cons p14 (cd_cons p15 (cd_cons p16 (cd_cons p17 (cd_cons k12 (cd_cons p19 (cd_cons p20 (cd_cons p21 (cd_cons p22 (cd_cons p23 (cd_cons p24 (cd_cons p25 (cd_cons p26 (cd_cons p27 (cd_cons p28 (cd_cons p29 (cd_cons p30 (cd_cons k14 (cd_cons p32 (cd_cons k16 (cd_cons p34 (cd_cons p35 (cd_cons p36 cd_nil))))))))))))))))))))))))))))))))))))) _)
set_option maxRecDepth 100000 in
theorem boundChecks_law (a : Bd) (b : Bd) (v : Int) (w : Int) (W : World) (hv : i64B v = true) (hw : i64B w = true) : Calls Try.prog 3 #[bV a, bV b, .int .i64 v, .int .i64 w] W fun e w' => e = .returned (.bool true) ∧ Below W.heap.size W w' := by
  cases k0 : (chkB a != 0) with
  | true =>
    cases k1 : (chkB b != 0) with
    | true =>
      exact boundChecks_w0 a b v w W hv hw k0 k1
    | false =>
      cases k2 : (b.u) with
      | true =>
        exact boundChecks_w1 a b v w W hv hw k0 k1 k2
      | false =>
        exact boundChecks_w2 a b v w W hv hw k0 k1 k2
  | false =>
    cases k3 : (a.u) with
    | true =>
      cases k4 : (chkB b != 0) with
      | true =>
        exact boundChecks_w3 a b v w W hv hw k0 k3 k4
      | false =>
        cases k5 : (b.u) with
        | true =>
          exact boundChecks_w4 a b v w W hv hw k0 k3 k4 k5
        | false =>
          exact boundChecks_w5 a b v w W hv hw k0 k3 k4 k5
    | false =>
      cases k6 : (chkB b != 0) with
      | true =>
        cases k7 : (decide (cmpI a.lo v ≤ 0)) with
        | true =>
          exact boundChecks_w6 a b v w W hv hw k0 k3 k6 k7
        | false =>
          exact boundChecks_w7 a b v w W hv hw k0 k3 k6 k7
      | false =>
        cases k8 : (b.u) with
        | true =>
          cases k9 : (decide (cmpI a.lo v ≤ 0)) with
          | true =>
            exact boundChecks_w8 a b v w W hv hw k0 k3 k6 k8 k9
          | false =>
            exact boundChecks_w9 a b v w W hv hw k0 k3 k6 k8 k9
        | false =>
          cases k10 : (decide (cmpI a.hi b.lo < 0)) with
          | true =>
            cases k11 : (decide (cmpI a.lo v ≤ 0)) with
            | true =>
              exact boundChecks_w10 a b v w W hv hw k0 k3 k6 k8 k10 k11
            | false =>
              exact boundChecks_w11 a b v w W hv hw k0 k3 k6 k8 k10 k11
          | false =>
            cases k12 : (decide (cmpI a.lo b.hi > 0)) with
            | true =>
              cases k13 : (decide (cmpI a.lo v ≤ 0)) with
              | true =>
                exact boundChecks_w12 a b v w W hv hw k0 k3 k6 k8 k10 k12 k13
              | false =>
                exact boundChecks_w13 a b v w W hv hw k0 k3 k6 k8 k10 k12 k13
            | false =>
              cases k14 : (decide (cmpI a.lo v ≤ 0)) with
              | true =>
                cases k15 : (decide (cmpI a.lo b.lo ≥ 0)) with
                | true =>
                  exact boundChecks_w14 a b v w W hv hw k0 k3 k6 k8 k10 k12 k14 k15
                | false =>
                  exact boundChecks_w15 a b v w W hv hw k0 k3 k6 k8 k10 k12 k14 k15
              | false =>
                cases k16 : (decide (cmpI a.lo b.lo ≥ 0)) with
                | true =>
                  exact boundChecks_w16 a b v w W hv hw k0 k3 k6 k8 k10 k12 k14 k16
                | false =>
                  exact boundChecks_w17 a b v w W hv hw k0 k3 k6 k8 k10 k12 k14 k16
theorem i64_ok {x : Int} (h : okK (some .i64) x) : i64B x = true := i64B_iff.2 (okK_i64 h)
theorem boundChecks_walk (W : World) (al : Int) (hal : okK (some .i64) al) (ah : Int) (hah : okK (some .i64) ah) (au : Bool) (bl : Int) (hbl : okK (some .i64) bl) (bh : Int) (hbh : okK (some .i64) bh) (bu : Bool) (v : Int) (hv : okK (some .i64) v) (w : Int) (hw : okK (some .i64) w) :
    Calls Try.prog 3 #[.agg #[.int .i64 al, .int .i64 ah, .bool au], .agg #[.int .i64 bl, .int .i64 bh, .bool bu], .int .i64 v, .int .i64 w] W fun e w' => e = .returned (.bool true) ∧ Below W.heap.size W w' :=
  boundChecks_law ⟨al, ah, au⟩ ⟨bl, bh, bu⟩ v w W (i64_ok hv) (i64_ok hw)
end
end Go.Proofs.Ytjegnlnnjcchaaa.AtBr

