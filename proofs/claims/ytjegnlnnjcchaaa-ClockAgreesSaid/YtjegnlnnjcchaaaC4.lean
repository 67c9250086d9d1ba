/-
  The reference's clocks: ClockErr, Said, Shown and Synced as functions of plain values.
  Conditions: those of each theorem.
-/
import Derived.Test.YtjegnlnnjcchaaaNW
import Derived.Test.YtjegnlnnjcchaaaC1
set_option linter.unusedVariables false
set_option linter.unusedSimpArgs false
namespace Go.Proofs.Ytjegnlnnjcchaaa.AtCk
open Ev Go.RowKit Go.Shelf Zd Wd
open Go.Proofs.Ytjegnlnnjcchaaa
noncomputable section

def nmA (z : Int) : AV Nm := .w (.agg [.bool (decide (z < 0)), .fv (.num z)])
def gBd : List (AV Nm) → Option (AV Nm × List (Bool × Bool))
  | [.w (.agg [.bool s, .fv (.num x)]), .w (.agg [.bool k, .fv (.num y)])] => some (bA (ofB x y), [(s == decide (x < 0), true), (k == decide (y < 0), true), (szB x, true), (szB y, true)])
  | _ => none
def ptV (a n d : Int) (up : Bool) : Int := bif up then -(-(a * n) / d) else a * n / d
def gPart : List (AV Nm) → Option (AV Nm × List (Bool × Bool))
  | [.w (.one (.int .i64 a)), .w (.one (.int .i64 n)), .w (.one (.int .i64 d)), .w (.one (.yes up))] => some (nmA (ptV a n d up), [(i64B a, true), (i64B n, true), (i64B d, true), (decide (0 < d), true)])
  | _ => none
noncomputable abbrev libR0 : List (Nat × FnSp Empty) := [(117, sp1 dBd (fun b => aInt .i64 (chkB b)) (fun _ => [])), (118, tmS)]
noncomputable abbrev libR1 : List (Nat × FnSp Empty) := [(88, ckS)]
noncomputable abbrev libR2 : List (Nat × FnSp Nm) := [(15, nfn nI), (13, nfn nCmp), (72, nfn nSmall)]
noncomputable abbrev libR3 : List (Nat × FnSp Nm) := [(15, nfn nI), (46, nfn nTimes), (77, nfn nFloor), (78, nfn nCeil)]
noncomputable abbrev libR4 : List (Nat × FnSp Nm) := [(119, tlS), (118, tmS), (15, nfn nI), (121, factSp gPart), (28, nfn nPlus), (120, factSp gBd)]
noncomputable abbrev libR5 : List (Nat × FnSp Nm) := [(88, ckS), (118, tmS), (89, unS), (117, sp1 dBd (fun b => aInt .i64 (chkB b)) (fun _ => [])), (15, nfn nI), (121, factSp gPart), (28, nfn nPlus), (120, factSp gBd)]
noncomputable abbrev fnsR : List (Nat × Func) := [(122, Try.f122)]
theorem eqB (x : Bool) : (x == x) = true := beq_self_eq_true x
theorem ofB_out {x y : Int} (h : ¬ (-1152921504606846976 ≤ x ∧ x ≤ y ∧ y ≤ 1152921504606846976)) : ofB x y = noneB := by
  unfold ofB normB
  cases k : knB ⟨x, y, false⟩ with
  | true => exact absurd (knB_iff.1 k).2 h
  | false => rfl
theorem cmp_gt (a b : Int) : decide (cmpI a b > 0) = decide (b < a) := by
  unfold cmpI
  by_cases h : a < b
  · rw [if_pos h, decide_eq_false (show ¬ b < a by omega)]; rfl
  · rw [if_neg h]
    by_cases g : b < a
    · rw [if_pos g, decide_eq_true g]; rfl
    · rw [if_neg g, decide_eq_false g]; rfl
/-! ### Bounds -/
set_option maxRecDepth 100000 in
theorem bte_l0 (a : Bd) : evR (ctxOf Try.prog noFacts (fun _ => false) []) Try.f117 [(bA a)] [true, true, true] = some (AV.w (AW.one (AC.int IntKind.i64 0)), [(a.u, true), (a.lo == 0, true), (a.lo == 0, true), (a.lo == 0, true), (a.lo == 0, true), (a.hi == 0, true)]) := by kernel_rfl
set_option maxRecDepth 100000 in
theorem bte_l1 (a : Bd) : evR (ctxOf Try.prog noFacts (fun _ => false) []) Try.f117 [(bA a)] [true, true, false] = some (AV.w (AW.one (AC.int IntKind.i64 3)), [(a.u, true), (a.lo == 0, true), (a.lo == 0, true), (a.lo == 0, true), (a.lo == 0, true), (a.hi == 0, false)]) := by kernel_rfl
set_option maxRecDepth 100000 in
theorem bte_l2 (a : Bd) : evR (ctxOf Try.prog noFacts (fun _ => false) []) Try.f117 [(bA a)] [true, false] = some (AV.w (AW.one (AC.int IntKind.i64 3)), [(a.u, true), (a.lo == 0, false), (a.lo == 0, false), (a.lo == 0, false), (a.lo == 0, false), (false, false)]) := by kernel_rfl
set_option maxRecDepth 100000 in
theorem bte_l3 (a : Bd) : evR (ctxOf Try.prog noFacts (fun _ => false) []) Try.f117 [(bA a)] [false, true, true] = some (AV.w (AW.one (AC.int IntKind.i64 4)), [(a.u, false), (decide (0 < ((2 : Nat) : Int)), true), (decide (0 ≤ 0), true), (decide (0 < ((2 : Nat) : Int)), true), (decide (a.lo > 1152921504606846976), true), (decide (a.lo > 1152921504606846976), true), (decide (a.lo > 1152921504606846976), true), (true, true)]) := by kernel_rfl
set_option maxRecDepth 100000 in
theorem bte_l4 (a : Bd) : evR (ctxOf Try.prog noFacts (fun _ => false) []) Try.f117 [(bA a)] [false, true, false, true] = some (AV.w (AW.one (AC.int IntKind.i64 4)), [(a.u, false), (decide (0 < ((2 : Nat) : Int)), true), (decide (0 ≤ 0), true), (decide (0 < ((2 : Nat) : Int)), true), (decide (a.lo > 1152921504606846976), false), (decide (a.lo > 1152921504606846976), false), (decide (a.lo > 1152921504606846976), false), (decide (a.lo < -1152921504606846976), true)]) := by kernel_rfl
set_option maxRecDepth 100000 in
theorem bte_l5 (a : Bd) : evR (ctxOf Try.prog noFacts (fun _ => false) []) Try.f117 [(bA a)] [false, true, false, false, true, true] = some (AV.w (AW.one (AC.int IntKind.i64 4)), [(a.u, false), (decide (0 < ((2 : Nat) : Int)), true), (decide (0 ≤ 0), true), (decide (0 < ((2 : Nat) : Int)), true), (decide (a.lo > 1152921504606846976), false), (decide (a.lo > 1152921504606846976), false), (decide (a.lo > 1152921504606846976), false), (decide (a.lo < -1152921504606846976), false), (decide (IntKind.i64.wrap (0 + 1) < ((2 : Nat) : Int)), true), (decide (0 ≤ IntKind.i64.wrap (0 + 1)), true), (decide (IntKind.i64.wrap (0 + 1) < ((2 : Nat) : Int)), true), (decide (a.hi > 1152921504606846976), true), (decide (a.hi > 1152921504606846976), true), (decide (a.hi > 1152921504606846976), true), (true, true)]) := by kernel_rfl
set_option maxRecDepth 100000 in
theorem bte_l6 (a : Bd) : evR (ctxOf Try.prog noFacts (fun _ => false) []) Try.f117 [(bA a)] [false, true, false, false, true, false, true] = some (AV.w (AW.one (AC.int IntKind.i64 4)), [(a.u, false), (decide (0 < ((2 : Nat) : Int)), true), (decide (0 ≤ 0), true), (decide (0 < ((2 : Nat) : Int)), true), (decide (a.lo > 1152921504606846976), false), (decide (a.lo > 1152921504606846976), false), (decide (a.lo > 1152921504606846976), false), (decide (a.lo < -1152921504606846976), false), (decide (IntKind.i64.wrap (0 + 1) < ((2 : Nat) : Int)), true), (decide (0 ≤ IntKind.i64.wrap (0 + 1)), true), (decide (IntKind.i64.wrap (0 + 1) < ((2 : Nat) : Int)), true), (decide (a.hi > 1152921504606846976), false), (decide (a.hi > 1152921504606846976), false), (decide (a.hi > 1152921504606846976), false), (decide (a.hi < -1152921504606846976), true)]) := by kernel_rfl
set_option maxRecDepth 100000 in
theorem bte_l7 (a : Bd) : evR (ctxOf Try.prog noFacts (fun _ => false) []) Try.f117 [(bA a)] [false, true, false, false, true, false, false, false, true] = some (AV.w (AW.one (AC.int IntKind.i64 11)), [(a.u, false), (decide (0 < ((2 : Nat) : Int)), true), (decide (0 ≤ 0), true), (decide (0 < ((2 : Nat) : Int)), true), (decide (a.lo > 1152921504606846976), false), (decide (a.lo > 1152921504606846976), false), (decide (a.lo > 1152921504606846976), false), (decide (a.lo < -1152921504606846976), false), (decide (IntKind.i64.wrap (0 + 1) < ((2 : Nat) : Int)), true), (decide (0 ≤ IntKind.i64.wrap (0 + 1)), true), (decide (IntKind.i64.wrap (0 + 1) < ((2 : Nat) : Int)), true), (decide (a.hi > 1152921504606846976), false), (decide (a.hi > 1152921504606846976), false), (decide (a.hi > 1152921504606846976), false), (decide (a.hi < -1152921504606846976), false), (decide (IntKind.i64.wrap (IntKind.i64.wrap (0 + 1) + 1) < ((2 : Nat) : Int)), false), (decide (a.hi < a.lo), true)]) := by kernel_rfl
set_option maxRecDepth 100000 in
theorem bte_l8 (a : Bd) : evR (ctxOf Try.prog noFacts (fun _ => false) []) Try.f117 [(bA a)] [false, true, false, false, true, false, false, false, false] = some (AV.w (AW.one (AC.int IntKind.i64 0)), [(a.u, false), (decide (0 < ((2 : Nat) : Int)), true), (decide (0 ≤ 0), true), (decide (0 < ((2 : Nat) : Int)), true), (decide (a.lo > 1152921504606846976), false), (decide (a.lo > 1152921504606846976), false), (decide (a.lo > 1152921504606846976), false), (decide (a.lo < -1152921504606846976), false), (decide (IntKind.i64.wrap (0 + 1) < ((2 : Nat) : Int)), true), (decide (0 ≤ IntKind.i64.wrap (0 + 1)), true), (decide (IntKind.i64.wrap (0 + 1) < ((2 : Nat) : Int)), true), (decide (a.hi > 1152921504606846976), false), (decide (a.hi > 1152921504606846976), false), (decide (a.hi > 1152921504606846976), false), (decide (a.hi < -1152921504606846976), false), (decide (IntKind.i64.wrap (IntKind.i64.wrap (0 + 1) + 1) < ((2 : Nat) : Int)), false), (decide (a.hi < a.lo), false)]) := by kernel_rfl
set_option maxRecDepth 100000 in
theorem bte_t (a : Bd) (s0 : (a.u) = false → (decide (a.lo > 1152921504606846976)) = true → (decide (0 < ((2 : Nat) : Int))) = true) (s1 : (a.u) = false → (decide (a.lo > 1152921504606846976)) = true → (decide (0 ≤ 0)) = true) (s2 : (a.u) = false → (decide (a.lo > 1152921504606846976)) = false → (decide (a.lo < -1152921504606846976)) = true → (decide (0 < ((2 : Nat) : Int))) = true) (s3 : (a.u) = false → (decide (a.lo > 1152921504606846976)) = false → (decide (a.lo < -1152921504606846976)) = true → (decide (0 ≤ 0)) = true) (s4 : (a.u) = false → (decide (a.lo > 1152921504606846976)) = false → (decide (a.lo < -1152921504606846976)) = false → (decide (a.hi > 1152921504606846976)) = true → (decide (IntKind.i64.wrap (0 + 1) < ((2 : Nat) : Int))) = true) (s5 : (a.u) = false → (decide (a.lo > 1152921504606846976)) = false → (decide (a.lo < -1152921504606846976)) = false → (decide (a.hi > 1152921504606846976)) = true → (decide (0 ≤ IntKind.i64.wrap (0 + 1))) = true) (s6 : (a.u) = false → (decide (a.lo > 1152921504606846976)) = false → (decide (a.lo < -1152921504606846976)) = false → (decide (a.hi > 1152921504606846976)) = true → (decide (0 < ((2 : Nat) : Int))) = true) (s7 : (a.u) = false → (decide (a.lo > 1152921504606846976)) = false → (decide (a.lo < -1152921504606846976)) = false → (decide (a.hi > 1152921504606846976)) = true → (decide (0 ≤ 0)) = true) (s8 : (a.u) = false → (decide (a.lo > 1152921504606846976)) = false → (decide (a.lo < -1152921504606846976)) = false → (decide (a.hi > 1152921504606846976)) = false → (decide (a.hi < -1152921504606846976)) = true → (decide (IntKind.i64.wrap (0 + 1) < ((2 : Nat) : Int))) = true) (s9 : (a.u) = false → (decide (a.lo > 1152921504606846976)) = false → (decide (a.lo < -1152921504606846976)) = false → (decide (a.hi > 1152921504606846976)) = false → (decide (a.hi < -1152921504606846976)) = true → (decide (0 ≤ IntKind.i64.wrap (0 + 1))) = true) (s10 : (a.u) = false → (decide (a.lo > 1152921504606846976)) = false → (decide (a.lo < -1152921504606846976)) = false → (decide (a.hi > 1152921504606846976)) = false → (decide (a.hi < -1152921504606846976)) = true → (decide (0 < ((2 : Nat) : Int))) = true) (s11 : (a.u) = false → (decide (a.lo > 1152921504606846976)) = false → (decide (a.lo < -1152921504606846976)) = false → (decide (a.hi > 1152921504606846976)) = false → (decide (a.hi < -1152921504606846976)) = true → (decide (0 ≤ 0)) = true) (s12 : (a.u) = false → (decide (a.lo > 1152921504606846976)) = false → (decide (a.lo < -1152921504606846976)) = false → (decide (a.hi > 1152921504606846976)) = false → (decide (a.hi < -1152921504606846976)) = false → (decide (a.hi < a.lo)) = true → (decide (IntKind.i64.wrap (IntKind.i64.wrap (0 + 1) + 1) < ((2 : Nat) : Int))) = false) (s13 : (a.u) = false → (decide (a.lo > 1152921504606846976)) = false → (decide (a.lo < -1152921504606846976)) = false → (decide (a.hi > 1152921504606846976)) = false → (decide (a.hi < -1152921504606846976)) = false → (decide (a.hi < a.lo)) = true → (decide (IntKind.i64.wrap (0 + 1) < ((2 : Nat) : Int))) = true) (s14 : (a.u) = false → (decide (a.lo > 1152921504606846976)) = false → (decide (a.lo < -1152921504606846976)) = false → (decide (a.hi > 1152921504606846976)) = false → (decide (a.hi < -1152921504606846976)) = false → (decide (a.hi < a.lo)) = true → (decide (0 ≤ IntKind.i64.wrap (0 + 1))) = true) (s15 : (a.u) = false → (decide (a.lo > 1152921504606846976)) = false → (decide (a.lo < -1152921504606846976)) = false → (decide (a.hi > 1152921504606846976)) = false → (decide (a.hi < -1152921504606846976)) = false → (decide (a.hi < a.lo)) = true → (decide (0 < ((2 : Nat) : Int))) = true) (s16 : (a.u) = false → (decide (a.lo > 1152921504606846976)) = false → (decide (a.lo < -1152921504606846976)) = false → (decide (a.hi > 1152921504606846976)) = false → (decide (a.hi < -1152921504606846976)) = false → (decide (a.hi < a.lo)) = true → (decide (0 ≤ 0)) = true) (s17 : (a.u) = false → (decide (a.lo > 1152921504606846976)) = false → (decide (a.lo < -1152921504606846976)) = false → (decide (a.hi > 1152921504606846976)) = false → (decide (a.hi < -1152921504606846976)) = false → (decide (a.hi < a.lo)) = false → (decide (IntKind.i64.wrap (IntKind.i64.wrap (0 + 1) + 1) < ((2 : Nat) : Int))) = false) (s18 : (a.u) = false → (decide (a.lo > 1152921504606846976)) = false → (decide (a.lo < -1152921504606846976)) = false → (decide (a.hi > 1152921504606846976)) = false → (decide (a.hi < -1152921504606846976)) = false → (decide (a.hi < a.lo)) = false → (decide (IntKind.i64.wrap (0 + 1) < ((2 : Nat) : Int))) = true) (s19 : (a.u) = false → (decide (a.lo > 1152921504606846976)) = false → (decide (a.lo < -1152921504606846976)) = false → (decide (a.hi > 1152921504606846976)) = false → (decide (a.hi < -1152921504606846976)) = false → (decide (a.hi < a.lo)) = false → (decide (0 ≤ IntKind.i64.wrap (0 + 1))) = true) (s20 : (a.u) = false → (decide (a.lo > 1152921504606846976)) = false → (decide (a.lo < -1152921504606846976)) = false → (decide (a.hi > 1152921504606846976)) = false → (decide (a.hi < -1152921504606846976)) = false → (decide (a.hi < a.lo)) = false → (decide (0 < ((2 : Nat) : Int))) = true) (s21 : (a.u) = false → (decide (a.lo > 1152921504606846976)) = false → (decide (a.lo < -1152921504606846976)) = false → (decide (a.hi > 1152921504606846976)) = false → (decide (a.hi < -1152921504606846976)) = false → (decide (a.hi < a.lo)) = false → (decide (0 ≤ 0)) = true) : Pl Try.prog 117 [bV a] (AV.get ((bif a.u then (bif a.lo == 0 then (bif a.hi == 0 then (AV.w (AW.one (AC.int IntKind.i64 0))) else (AV.w (AW.one (AC.int IntKind.i64 3)))) else (AV.w (AW.one (AC.int IntKind.i64 3)))) else (bif decide (a.lo > 1152921504606846976) then (AV.w (AW.one (AC.int IntKind.i64 4))) else (bif decide (a.lo < -1152921504606846976) then (AV.w (AW.one (AC.int IntKind.i64 4))) else (bif decide (a.hi > 1152921504606846976) then (AV.w (AW.one (AC.int IntKind.i64 4))) else (bif decide (a.hi < -1152921504606846976) then (AV.w (AW.one (AC.int IntKind.i64 4))) else (bif decide (a.hi < a.lo) then (AV.w (AW.one (AC.int IntKind.i64 11))) else (AV.w (AW.one (AC.int IntKind.i64 0))))))))) : AV Empty)) :=
  (pl_node (fun h0 => (pl_node (fun h1 => (pl_node (fun h2 => (pl_leaf rfl (ctxOf_ok (lib1_nil _ _) (eq_none _)) (by kernel_rfl) Try.func117 rfl (bte_l0 a) rfl (all2_R (.cons rfl .nil)) rfl (cd_cons h0 (cd_cons h1 (cd_cons h1 (cd_cons h1 (cd_cons h1 (cd_cons h2 cd_nil)))))))) (fun h2 => (pl_leaf rfl (ctxOf_ok (lib1_nil _ _) (eq_none _)) (by kernel_rfl) Try.func117 rfl (bte_l1 a) rfl (all2_R (.cons rfl .nil)) rfl (cd_cons h0 (cd_cons h1 (cd_cons h1 (cd_cons h1 (cd_cons h1 (cd_cons h2 cd_nil)))))))))) (fun h1 => (pl_leaf rfl (ctxOf_ok (lib1_nil _ _) (eq_none _)) (by kernel_rfl) Try.func117 rfl (bte_l2 a) rfl (all2_R (.cons rfl .nil)) rfl (cd_cons h0 (cd_cons h1 (cd_cons h1 (cd_cons h1 (cd_cons h1 (cd_cons rfl cd_nil)))))))))) (fun h0 => (pl_node (fun h1 => (pl_leaf rfl (ctxOf_ok (lib1_nil _ _) (eq_none _)) (by kernel_rfl) Try.func117 rfl (bte_l3 a) rfl (all2_R (.cons rfl .nil)) rfl (cd_cons h0 (cd_cons (s0 h0 h1) (cd_cons (s1 h0 h1) (cd_cons (s0 h0 h1) (cd_cons h1 (cd_cons h1 (cd_cons h1 (cd_cons rfl cd_nil)))))))))) (fun h1 => (pl_node (fun h2 => (pl_leaf rfl (ctxOf_ok (lib1_nil _ _) (eq_none _)) (by kernel_rfl) Try.func117 rfl (bte_l4 a) rfl (all2_R (.cons rfl .nil)) rfl (cd_cons h0 (cd_cons (s2 h0 h1 h2) (cd_cons (s3 h0 h1 h2) (cd_cons (s2 h0 h1 h2) (cd_cons h1 (cd_cons h1 (cd_cons h1 (cd_cons h2 cd_nil)))))))))) (fun h2 => (pl_node (fun h3 => (pl_leaf rfl (ctxOf_ok (lib1_nil _ _) (eq_none _)) (by kernel_rfl) Try.func117 rfl (bte_l5 a) rfl (all2_R (.cons rfl .nil)) rfl (cd_cons h0 (cd_cons (s6 h0 h1 h2 h3) (cd_cons (s7 h0 h1 h2 h3) (cd_cons (s6 h0 h1 h2 h3) (cd_cons h1 (cd_cons h1 (cd_cons h1 (cd_cons h2 (cd_cons (s4 h0 h1 h2 h3) (cd_cons (s5 h0 h1 h2 h3) (cd_cons (s4 h0 h1 h2 h3) (cd_cons h3 (cd_cons h3 (cd_cons h3 (cd_cons rfl cd_nil))))))))))))))))) (fun h3 => (pl_node (fun h4 => (pl_leaf rfl (ctxOf_ok (lib1_nil _ _) (eq_none _)) (by kernel_rfl) Try.func117 rfl (bte_l6 a) rfl (all2_R (.cons rfl .nil)) rfl (cd_cons h0 (cd_cons (s10 h0 h1 h2 h3 h4) (cd_cons (s11 h0 h1 h2 h3 h4) (cd_cons (s10 h0 h1 h2 h3 h4) (cd_cons h1 (cd_cons h1 (cd_cons h1 (cd_cons h2 (cd_cons (s8 h0 h1 h2 h3 h4) (cd_cons (s9 h0 h1 h2 h3 h4) (cd_cons (s8 h0 h1 h2 h3 h4) (cd_cons h3 (cd_cons h3 (cd_cons h3 (cd_cons h4 cd_nil))))))))))))))))) (fun h4 => (pl_node (fun h5 => (pl_leaf rfl (ctxOf_ok (lib1_nil _ _) (eq_none _)) (by kernel_rfl) Try.func117 rfl (bte_l7 a) rfl (all2_R (.cons rfl .nil)) rfl (cd_cons h0 (cd_cons (s15 h0 h1 h2 h3 h4 h5) (cd_cons (s16 h0 h1 h2 h3 h4 h5) (cd_cons (s15 h0 h1 h2 h3 h4 h5) (cd_cons h1 (cd_cons h1 (cd_cons h1 (cd_cons h2 (cd_cons (s13 h0 h1 h2 h3 h4 h5) (cd_cons (s14 h0 h1 h2 h3 h4 h5) (cd_cons (s13 h0 h1 h2 h3 h4 h5) (cd_cons h3 (cd_cons h3 (cd_cons h3 (cd_cons h4 (cd_cons (s12 h0 h1 h2 h3 h4 h5) (cd_cons h5 cd_nil))))))))))))))))))) (fun h5 => (pl_leaf rfl (ctxOf_ok (lib1_nil _ _) (eq_none _)) (by kernel_rfl) Try.func117 rfl (bte_l8 a) rfl (all2_R (.cons rfl .nil)) rfl (cd_cons h0 (cd_cons (s20 h0 h1 h2 h3 h4 h5) (cd_cons (s21 h0 h1 h2 h3 h4 h5) (cd_cons (s20 h0 h1 h2 h3 h4 h5) (cd_cons h1 (cd_cons h1 (cd_cons h1 (cd_cons h2 (cd_cons (s18 h0 h1 h2 h3 h4 h5) (cd_cons (s19 h0 h1 h2 h3 h4 h5) (cd_cons (s18 h0 h1 h2 h3 h4 h5) (cd_cons h3 (cd_cons h3 (cd_cons h3 (cd_cons h4 (cd_cons (s17 h0 h1 h2 h3 h4 h5) (cd_cons h5 cd_nil))))))))))))))))))))))))))))))
theorem bte_pl (a : Bd)  : Pl Try.prog 117 [bV a] (.int .i64 (chkB a)) := by
  refine Eq.mp (congrArg (Pl _ _ _) ?_) (bte_t a (fun h0 h1 => by first | rfl | decide) (fun h0 h1 => by first | rfl | decide) (fun h0 h1 h2 => by first | rfl | decide) (fun h0 h1 h2 => by first | rfl | decide) (fun h0 h1 h2 h3 => by first | rfl | decide) (fun h0 h1 h2 h3 => by first | rfl | decide) (fun h0 h1 h2 h3 => by first | rfl | decide) (fun h0 h1 h2 h3 => by first | rfl | decide) (fun h0 h1 h2 h3 h4 => by first | rfl | decide) (fun h0 h1 h2 h3 h4 => by first | rfl | decide) (fun h0 h1 h2 h3 h4 => by first | rfl | decide) (fun h0 h1 h2 h3 h4 => by first | rfl | decide) (fun h0 h1 h2 h3 h4 h5 => by first | rfl | decide) (fun h0 h1 h2 h3 h4 h5 => by first | rfl | decide) (fun h0 h1 h2 h3 h4 h5 => by first | rfl | decide) (fun h0 h1 h2 h3 h4 h5 => by first | rfl | decide) (fun h0 h1 h2 h3 h4 h5 => by first | rfl | decide) (fun h0 h1 h2 h3 h4 h5 => by first | rfl | decide) (fun h0 h1 h2 h3 h4 h5 => by first | rfl | decide) (fun h0 h1 h2 h3 h4 h5 => by first | rfl | decide) (fun h0 h1 h2 h3 h4 h5 => by first | rfl | decide) (fun h0 h1 h2 h3 h4 h5 => by first | rfl | decide))
  obtain ⟨x, y, u⟩ := a
  have e1 : decide (-1152921504606846976 ≤ x) = !decide (x < -1152921504606846976) := by (by_cases h : x < -1152921504606846976 <;> simp [h] <;> omega)
  have e2 : decide (-1152921504606846976 ≤ y) = !decide (y < -1152921504606846976) := by (by_cases h : y < -1152921504606846976 <;> simp [h] <;> omega)
  have e3 : decide (x ≤ 1152921504606846976) = !decide (x > 1152921504606846976) := by (by_cases h : x > 1152921504606846976 <;> simp [h] <;> omega)
  have e4 : decide (y ≤ 1152921504606846976) = !decide (y > 1152921504606846976) := by (by_cases h : y > 1152921504606846976 <;> simp [h] <;> omega)
  simp only [chkB, inB, e1, e2, e3, e4]
  cases u
  · cases decide (x > 1152921504606846976) <;> cases decide (x < -1152921504606846976) <;> cases decide (y > 1152921504606846976) <;> cases decide (y < -1152921504606846976) <;> cases decide (y < x) <;> rfl
  · cases hx : (x == 0) with
    | false => cases (y == 0) <;> rfl
    | true =>
      cases hy : (y == 0) with
      | false => rfl
      | true =>
        obtain rfl : x = 0 := by simpa using hx
        obtain rfl : y = 0 := by simpa using hy
        rfl
theorem libR2_ok : LibOk Try.prog numI (lib1 libR2) := (lib1_cons nI_ok Try.call15 (lib1_cons nCmp_ok Try.call13 (lib1_cons nSmall_ok Try.call72 (lib1_nil _ _))))
theorem bd_R {E : Env Nm} {x y : Int} {b : Bool} {u : Value} (h : AV.R E (.w (.agg [.int .i64 x, .int .i64 y, .yes b])) u) : AV.R E (bA ⟨x, y, b⟩) u := by
  obtain ⟨vs, rfl, h⟩ := h
  cases h with
  | cons r1 h => cases h with
    | cons r2 h => cases h with
      | cons r3 h =>
        cases h
        exact ⟨_, rfl, .cons r1 (.cons r2 (.cons r3 .nil))⟩
theorem sm_id {a : Int} (h1 : -9223372036854775808 ≤ a) (h2 : a ≤ 9223372036854775807) : smV a = a := if_pos ⟨h1, h2⟩
theorem cmp_lt' (a b : Int) : decide (cmpI a b < 0) = decide (a < b) := by
  unfold cmpI
  by_cases h : a < b
  · rw [if_pos h, decide_eq_true h]; rfl
  · rw [if_neg h, decide_eq_false h]
    split <;> rfl
theorem i_lo : i64B (-1152921504606846976) = true := by decide
theorem i_hi : i64B 1152921504606846976 = true := by decide
set_option maxRecDepth 100000 in
theorem bdt_1 (s : Bool) (x : Int) (k : Bool) (y : Int) : evR (ctxOf Try.prog numI (fun _ => false) libR2) Try.f120 [(.w (.agg [.bool s, .fv (.num x)])), (.w (.agg [.bool k, .fv (.num y)]))] [true] = some (AV.w (AW.agg [AC.int IntKind.i64 0, AC.int IntKind.i64 0, AC.yes true]), (pickL [(i64B (-1152921504606846976), true), (s == decide (x < 0), true), (decide (-1152921504606846976 < 0) == decide (-1152921504606846976 < 0), true), (szB x, true), (szB (-1152921504606846976), true), (decide (cmpI x (-1152921504606846976) < 0), true), (true, true)] [0, 1, 2, 3, 4, 5, 5, 5, 5, 5, 6, 6, 6, 6, 6, 6])) := by kernel_rfl
set_option maxRecDepth 100000 in
theorem bdt_01 (s : Bool) (x : Int) (k : Bool) (y : Int) : evR (ctxOf Try.prog numI (fun _ => false) libR2) Try.f120 [(.w (.agg [.bool s, .fv (.num x)])), (.w (.agg [.bool k, .fv (.num y)]))] [false, true] = some (AV.w (AW.agg [AC.int IntKind.i64 0, AC.int IntKind.i64 0, AC.yes true]), (pickL [(i64B (-1152921504606846976), true), (s == decide (x < 0), true), (decide (-1152921504606846976 < 0) == decide (-1152921504606846976 < 0), true), (szB x, true), (szB (-1152921504606846976), true), (decide (cmpI x (-1152921504606846976) < 0), false), (i64B 1152921504606846976, true), (k == decide (y < 0), true), (decide (1152921504606846976 < 0) == decide (1152921504606846976 < 0), true), (szB y, true), (szB 1152921504606846976, true), (decide (cmpI y 1152921504606846976 > 0), true), (true, true)] [0, 1, 2, 3, 4, 5, 5, 6, 5, 7, 8, 9, 10, 5, 5, 11, 11, 11, 11, 11, 12])) := by kernel_rfl
set_option maxRecDepth 100000 in
theorem bdt_001 (s : Bool) (x : Int) (k : Bool) (y : Int) : evR (ctxOf Try.prog numI (fun _ => false) libR2) Try.f120 [(.w (.agg [.bool s, .fv (.num x)])), (.w (.agg [.bool k, .fv (.num y)]))] [false, false, true] = some (AV.w (AW.agg [AC.int IntKind.i64 0, AC.int IntKind.i64 0, AC.yes true]), (pickL [(i64B (-1152921504606846976), true), (s == decide (x < 0), true), (decide (-1152921504606846976 < 0) == decide (-1152921504606846976 < 0), true), (szB x, true), (szB (-1152921504606846976), true), (decide (cmpI x (-1152921504606846976) < 0), false), (i64B 1152921504606846976, true), (k == decide (y < 0), true), (decide (1152921504606846976 < 0) == decide (1152921504606846976 < 0), true), (szB y, true), (szB 1152921504606846976, true), (decide (cmpI y 1152921504606846976 > 0), false), (decide (cmpI x y > 0), true)] [0, 1, 2, 3, 4, 5, 5, 6, 5, 7, 8, 9, 10, 5, 5, 11, 11, 11, 1, 7, 3, 9, 11, 11, 12])) := by kernel_rfl
set_option maxRecDepth 100000 in
theorem bdt_000 (s : Bool) (x : Int) (k : Bool) (y : Int) : evR (ctxOf Try.prog numI (fun _ => false) libR2) Try.f120 [(.w (.agg [.bool s, .fv (.num x)])), (.w (.agg [.bool k, .fv (.num y)]))] [false, false, false] = some (AV.w (AW.agg [AC.int IntKind.i64 (smV x), AC.int IntKind.i64 (smV y), AC.yes false]), (pickL [(i64B (-1152921504606846976), true), (s == decide (x < 0), true), (decide (-1152921504606846976 < 0) == decide (-1152921504606846976 < 0), true), (szB x, true), (szB (-1152921504606846976), true), (decide (cmpI x (-1152921504606846976) < 0), false), (i64B 1152921504606846976, true), (k == decide (y < 0), true), (decide (1152921504606846976 < 0) == decide (1152921504606846976 < 0), true), (szB y, true), (szB 1152921504606846976, true), (decide (cmpI y 1152921504606846976 > 0), false), (decide (cmpI x y > 0), false)] [0, 1, 2, 3, 4, 5, 5, 6, 5, 7, 8, 9, 10, 5, 5, 11, 11, 11, 1, 7, 3, 9, 11, 11, 12, 1, 3, 7, 9])) := by kernel_rfl
theorem bdt_ok : (factSp gBd).ok Try.prog numI 120 :=
  factR_ok (ctxOf_ok libR2_ok (eq_none _)) (by kernel_rfl) Try.func120 rfl lps_nil fun args v cd hg hc => by
    unfold gBd at hg
    split at hg
    · rename_i s x k y
      cases hg
      have h1 : (s == decide (x < 0)) = true := hc (s == decide (x < 0), true) (by simp)
      have h2 : (k == decide (y < 0)) = true := hc (k == decide (y < 0), true) (by simp)
      have h3 : szB x = true := hc (szB x, true) (by simp)
      have h4 : szB y = true := hc (szB y, true) (by simp)
      by_cases g1 : x < -1152921504606846976
      · have c1 : decide (cmpI x (-1152921504606846976) < 0) = true := by rw [cmp_lt']; exact decide_eq_true g1
        refine ⟨rfl, rfl, rfl, [true], _, _, bdt_1 s x k y, fun E u hu => by rw [ofB_out (x := x) (y := y) (by omega)]; exact bd_R (x := 0) (y := 0) (b := true) hu, pickL_ok ?_ _⟩
        repeat' (first | exact cd_nil | refine cd_cons ?_ ?_)
        all_goals first | rfl | with_reducible assumption | exact eqB _ | exact i_lo | exact i_hi | exact (Dl.i64 i_lo).sz (by omega) | exact (Dl.i64 i_hi).sz (by omega)
      have c1 : decide (cmpI x (-1152921504606846976) < 0) = false := by rw [cmp_lt']; exact decide_eq_false g1
      by_cases g2 : 1152921504606846976 < y
      · have c2 : decide (cmpI y 1152921504606846976 > 0) = true := by rw [cmp_gt]; exact decide_eq_true g2
        refine ⟨rfl, rfl, rfl, [false, true], _, _, bdt_01 s x k y, fun E u hu => by rw [ofB_out (x := x) (y := y) (by omega)]; exact bd_R (x := 0) (y := 0) (b := true) hu, pickL_ok ?_ _⟩
        repeat' (first | exact cd_nil | refine cd_cons ?_ ?_)
        all_goals first | rfl | with_reducible assumption | exact eqB _ | exact i_lo | exact i_hi | exact (Dl.i64 i_lo).sz (by omega) | exact (Dl.i64 i_hi).sz (by omega)
      have c2 : decide (cmpI y 1152921504606846976 > 0) = false := by rw [cmp_gt]; exact decide_eq_false g2
      by_cases g3 : y < x
      · have c3 : decide (cmpI x y > 0) = true := by rw [cmp_gt]; exact decide_eq_true g3
        refine ⟨rfl, rfl, rfl, [false, false, true], _, _, bdt_001 s x k y, fun E u hu => by rw [ofB_out (x := x) (y := y) (by omega)]; exact bd_R (x := 0) (y := 0) (b := true) hu, pickL_ok ?_ _⟩
        repeat' (first | exact cd_nil | refine cd_cons ?_ ?_)
        all_goals first | rfl | with_reducible assumption | exact eqB _ | exact i_lo | exact i_hi | exact (Dl.i64 i_lo).sz (by omega) | exact (Dl.i64 i_hi).sz (by omega)
      have c3 : decide (cmpI x y > 0) = false := by rw [cmp_gt]; exact decide_eq_false g3
      refine ⟨rfl, rfl, rfl, [false, false, false], _, _, bdt_000 s x k y, fun E u hu => by rw [ofB_inC (x := x) (y := y) (by omega) (by omega) (by omega)]; rw [sm_id (a := x) (by omega) (by omega), sm_id (a := y) (by omega) (by omega)] at hu; exact bd_R (x := x) (y := y) (b := false) hu, pickL_ok ?_ _⟩
      repeat' (first | exact cd_nil | refine cd_cons ?_ ?_)
      all_goals first | rfl | with_reducible assumption | exact eqB _ | exact i_lo | exact i_hi | exact (Dl.i64 i_lo).sz (by omega) | exact (Dl.i64 i_hi).sz (by omega)
    · cases hg
/-! ### Clocks -/
set_option maxRecDepth 100000 in
theorem itf_l0 (t : Int) : evR (ctxOf Try.prog noFacts (fun _ => false) []) Try.f118 [(.w (.one (.int .i64 t)))] [true] = some (AV.w (AW.one (AC.bool (decide (t ≥ -17592186044416)))), [(decide (t ≤ 17592186044416), true), (decide (t ≤ 17592186044416), true), (decide (t ≤ 17592186044416), true)]) := by kernel_rfl
set_option maxRecDepth 100000 in
theorem itf_l1 (t : Int) : evR (ctxOf Try.prog noFacts (fun _ => false) []) Try.f118 [(.w (.one (.int .i64 t)))] [false] = some (AV.w (AW.one (AC.yes false)), [(decide (t ≤ 17592186044416), false), (decide (t ≤ 17592186044416), false), (decide (t ≤ 17592186044416), false)]) := by kernel_rfl
set_option maxRecDepth 100000 in
theorem itf_t (t : Int) : Pl Try.prog 118 [.int .i64 t] (AV.get ((bif decide (t ≤ 17592186044416) then (AV.w (AW.one (AC.bool (decide (t ≥ -17592186044416))))) else (AV.w (AW.one (AC.yes false)))) : AV Empty)) :=
  (pl_node (fun h0 => (pl_leaf rfl (ctxOf_ok (lib1_nil _ _) (eq_none _)) (by kernel_rfl) Try.func118 rfl (itf_l0 t) rfl (all2_R (.cons rfl .nil)) rfl (cd_cons h0 (cd_cons h0 (cd_cons h0 cd_nil))))) (fun h0 => (pl_leaf rfl (ctxOf_ok (lib1_nil _ _) (eq_none _)) (by kernel_rfl) Try.func118 rfl (itf_l1 t) rfl (all2_R (.cons rfl .nil)) rfl (cd_cons h0 (cd_cons h0 (cd_cons h0 cd_nil))))))
theorem itf_pl (t : Int)  : Pl Try.prog 118 [.int .i64 t] (.bool (tmC t)) := by
  refine Eq.mp (congrArg (Pl _ _ _) ?_) (itf_t t)
  unfold tmC; rw [Bool.and_comm]; cases decide (t ≤ 17592186044416) <;> rfl
theorem libR0_ok : LibOk Try.prog noFacts (lib1 libR0) := (lib1_cons (sp1_ok fun b _ => ⟨_, rfl, bte_pl b⟩) Try.call117 (lib1_cons (sp1_ok fun t _ => ⟨_, rfl, itf_pl t⟩) Try.call118 (lib1_nil _ _)))
set_option maxRecDepth 100000 in
theorem cef_l0 (c : Ck) : evR (ctxOf Try.prog noFacts (fun _ => false) libR0) Try.f88 [(ckA c)] [true] = some (AV.w (AW.one (AC.int IntKind.i64 (chkB c.b))), [(chkB c.b != 0, true)]) := by kernel_rfl
set_option maxRecDepth 100000 in
theorem cef_l1 (c : Ck) : evR (ctxOf Try.prog noFacts (fun _ => false) libR0) Try.f88 [(ckA c)] [false, true, true] = some (AV.w (AW.one (AC.int IntKind.i64 4)), [(chkB c.b != 0, false), (decide (0 < ((3 : Nat) : Int)), true), (decide (0 ≤ 0), true), (decide (0 < ((3 : Nat) : Int)), true), (!tmC c.s, true)]) := by kernel_rfl
set_option maxRecDepth 100000 in
theorem cef_l2 (c : Ck) : evR (ctxOf Try.prog noFacts (fun _ => false) libR0) Try.f88 [(ckA c)] [false, true, false, true, true] = some (AV.w (AW.one (AC.int IntKind.i64 4)), [(chkB c.b != 0, false), (decide (0 < ((3 : Nat) : Int)), true), (decide (0 ≤ 0), true), (decide (0 < ((3 : Nat) : Int)), true), (!tmC c.s, false), (decide (IntKind.i64.wrap (0 + 1) < ((3 : Nat) : Int)), true), (decide (0 ≤ IntKind.i64.wrap (0 + 1)), true), (decide (IntKind.i64.wrap (0 + 1) < ((3 : Nat) : Int)), true), (!tmC c.b.lo, true)]) := by kernel_rfl
set_option maxRecDepth 100000 in
theorem cef_l3 (c : Ck) : evR (ctxOf Try.prog noFacts (fun _ => false) libR0) Try.f88 [(ckA c)] [false, true, false, true, false, true, true] = some (AV.w (AW.one (AC.int IntKind.i64 4)), [(chkB c.b != 0, false), (decide (0 < ((3 : Nat) : Int)), true), (decide (0 ≤ 0), true), (decide (0 < ((3 : Nat) : Int)), true), (!tmC c.s, false), (decide (IntKind.i64.wrap (0 + 1) < ((3 : Nat) : Int)), true), (decide (0 ≤ IntKind.i64.wrap (0 + 1)), true), (decide (IntKind.i64.wrap (0 + 1) < ((3 : Nat) : Int)), true), (!tmC c.b.lo, false), (decide (IntKind.i64.wrap (IntKind.i64.wrap (0 + 1) + 1) < ((3 : Nat) : Int)), true), (decide (0 ≤ IntKind.i64.wrap (IntKind.i64.wrap (0 + 1) + 1)), true), (decide (IntKind.i64.wrap (IntKind.i64.wrap (0 + 1) + 1) < ((3 : Nat) : Int)), true), (!tmC c.b.hi, true)]) := by kernel_rfl
set_option maxRecDepth 100000 in
theorem cef_l4 (c : Ck) : evR (ctxOf Try.prog noFacts (fun _ => false) libR0) Try.f88 [(ckA c)] [false, true, false, true, false, true, false, false, true] = some (AV.w (AW.one (AC.int IntKind.i64 4)), [(chkB c.b != 0, false), (decide (0 < ((3 : Nat) : Int)), true), (decide (0 ≤ 0), true), (decide (0 < ((3 : Nat) : Int)), true), (!tmC c.s, false), (decide (IntKind.i64.wrap (0 + 1) < ((3 : Nat) : Int)), true), (decide (0 ≤ IntKind.i64.wrap (0 + 1)), true), (decide (IntKind.i64.wrap (0 + 1) < ((3 : Nat) : Int)), true), (!tmC c.b.lo, false), (decide (IntKind.i64.wrap (IntKind.i64.wrap (0 + 1) + 1) < ((3 : Nat) : Int)), true), (decide (0 ≤ IntKind.i64.wrap (IntKind.i64.wrap (0 + 1) + 1)), true), (decide (IntKind.i64.wrap (IntKind.i64.wrap (0 + 1) + 1) < ((3 : Nat) : Int)), true), (!tmC c.b.hi, false), (decide (IntKind.i64.wrap (IntKind.i64.wrap (IntKind.i64.wrap (0 + 1) + 1) + 1) < ((3 : Nat) : Int)), false), (decide (c.d < 0), true), (decide (c.d < 0), true), (decide (c.d < 0), true), (decide (c.d < 0), true), (true, true)]) := by kernel_rfl
set_option maxRecDepth 100000 in
theorem cef_l5 (c : Ck) : evR (ctxOf Try.prog noFacts (fun _ => false) libR0) Try.f88 [(ckA c)] [false, true, false, true, false, true, false, false, false, true] = some (AV.w (AW.one (AC.int IntKind.i64 4)), [(chkB c.b != 0, false), (decide (0 < ((3 : Nat) : Int)), true), (decide (0 ≤ 0), true), (decide (0 < ((3 : Nat) : Int)), true), (!tmC c.s, false), (decide (IntKind.i64.wrap (0 + 1) < ((3 : Nat) : Int)), true), (decide (0 ≤ IntKind.i64.wrap (0 + 1)), true), (decide (IntKind.i64.wrap (0 + 1) < ((3 : Nat) : Int)), true), (!tmC c.b.lo, false), (decide (IntKind.i64.wrap (IntKind.i64.wrap (0 + 1) + 1) < ((3 : Nat) : Int)), true), (decide (0 ≤ IntKind.i64.wrap (IntKind.i64.wrap (0 + 1) + 1)), true), (decide (IntKind.i64.wrap (IntKind.i64.wrap (0 + 1) + 1) < ((3 : Nat) : Int)), true), (!tmC c.b.hi, false), (decide (IntKind.i64.wrap (IntKind.i64.wrap (IntKind.i64.wrap (0 + 1) + 1) + 1) < ((3 : Nat) : Int)), false), (decide (c.d < 0), false), (decide (c.d < 0), false), (decide (c.d < 0), false), (decide (c.d < 0), false), (decide (c.d > 100000), true)]) := by kernel_rfl
set_option maxRecDepth 100000 in
theorem cef_l6 (c : Ck) : evR (ctxOf Try.prog noFacts (fun _ => false) libR0) Try.f88 [(ckA c)] [false, true, false, true, false, true, false, false, false, false] = some (AV.w (AW.one (AC.int IntKind.i64 0)), [(chkB c.b != 0, false), (decide (0 < ((3 : Nat) : Int)), true), (decide (0 ≤ 0), true), (decide (0 < ((3 : Nat) : Int)), true), (!tmC c.s, false), (decide (IntKind.i64.wrap (0 + 1) < ((3 : Nat) : Int)), true), (decide (0 ≤ IntKind.i64.wrap (0 + 1)), true), (decide (IntKind.i64.wrap (0 + 1) < ((3 : Nat) : Int)), true), (!tmC c.b.lo, false), (decide (IntKind.i64.wrap (IntKind.i64.wrap (0 + 1) + 1) < ((3 : Nat) : Int)), true), (decide (0 ≤ IntKind.i64.wrap (IntKind.i64.wrap (0 + 1) + 1)), true), (decide (IntKind.i64.wrap (IntKind.i64.wrap (0 + 1) + 1) < ((3 : Nat) : Int)), true), (!tmC c.b.hi, false), (decide (IntKind.i64.wrap (IntKind.i64.wrap (IntKind.i64.wrap (0 + 1) + 1) + 1) < ((3 : Nat) : Int)), false), (decide (c.d < 0), false), (decide (c.d < 0), false), (decide (c.d < 0), false), (decide (c.d < 0), false), (decide (c.d > 100000), false)]) := by kernel_rfl
set_option maxRecDepth 100000 in
theorem cef_t (c : Ck) (s0 : (chkB c.b != 0) = false → (!tmC c.s) = true → (decide (0 < ((3 : Nat) : Int))) = true) (s1 : (chkB c.b != 0) = false → (!tmC c.s) = true → (decide (0 ≤ 0)) = true) (s2 : (chkB c.b != 0) = false → (!tmC c.s) = false → (!tmC c.b.lo) = true → (decide (IntKind.i64.wrap (0 + 1) < ((3 : Nat) : Int))) = true) (s3 : (chkB c.b != 0) = false → (!tmC c.s) = false → (!tmC c.b.lo) = true → (decide (0 ≤ IntKind.i64.wrap (0 + 1))) = true) (s4 : (chkB c.b != 0) = false → (!tmC c.s) = false → (!tmC c.b.lo) = true → (decide (0 < ((3 : Nat) : Int))) = true) (s5 : (chkB c.b != 0) = false → (!tmC c.s) = false → (!tmC c.b.lo) = true → (decide (0 ≤ 0)) = true) (s6 : (chkB c.b != 0) = false → (!tmC c.s) = false → (!tmC c.b.lo) = false → (!tmC c.b.hi) = true → (decide (IntKind.i64.wrap (IntKind.i64.wrap (0 + 1) + 1) < ((3 : Nat) : Int))) = true) (s7 : (chkB c.b != 0) = false → (!tmC c.s) = false → (!tmC c.b.lo) = false → (!tmC c.b.hi) = true → (decide (0 ≤ IntKind.i64.wrap (IntKind.i64.wrap (0 + 1) + 1))) = true) (s8 : (chkB c.b != 0) = false → (!tmC c.s) = false → (!tmC c.b.lo) = false → (!tmC c.b.hi) = true → (decide (IntKind.i64.wrap (0 + 1) < ((3 : Nat) : Int))) = true) (s9 : (chkB c.b != 0) = false → (!tmC c.s) = false → (!tmC c.b.lo) = false → (!tmC c.b.hi) = true → (decide (0 ≤ IntKind.i64.wrap (0 + 1))) = true) (s10 : (chkB c.b != 0) = false → (!tmC c.s) = false → (!tmC c.b.lo) = false → (!tmC c.b.hi) = true → (decide (0 < ((3 : Nat) : Int))) = true) (s11 : (chkB c.b != 0) = false → (!tmC c.s) = false → (!tmC c.b.lo) = false → (!tmC c.b.hi) = true → (decide (0 ≤ 0)) = true) (s12 : (chkB c.b != 0) = false → (!tmC c.s) = false → (!tmC c.b.lo) = false → (!tmC c.b.hi) = false → (decide (c.d < 0)) = true → (decide (IntKind.i64.wrap (IntKind.i64.wrap (IntKind.i64.wrap (0 + 1) + 1) + 1) < ((3 : Nat) : Int))) = false) (s13 : (chkB c.b != 0) = false → (!tmC c.s) = false → (!tmC c.b.lo) = false → (!tmC c.b.hi) = false → (decide (c.d < 0)) = true → (decide (IntKind.i64.wrap (IntKind.i64.wrap (0 + 1) + 1) < ((3 : Nat) : Int))) = true) (s14 : (chkB c.b != 0) = false → (!tmC c.s) = false → (!tmC c.b.lo) = false → (!tmC c.b.hi) = false → (decide (c.d < 0)) = true → (decide (0 ≤ IntKind.i64.wrap (IntKind.i64.wrap (0 + 1) + 1))) = true) (s15 : (chkB c.b != 0) = false → (!tmC c.s) = false → (!tmC c.b.lo) = false → (!tmC c.b.hi) = false → (decide (c.d < 0)) = true → (decide (IntKind.i64.wrap (0 + 1) < ((3 : Nat) : Int))) = true) (s16 : (chkB c.b != 0) = false → (!tmC c.s) = false → (!tmC c.b.lo) = false → (!tmC c.b.hi) = false → (decide (c.d < 0)) = true → (decide (0 ≤ IntKind.i64.wrap (0 + 1))) = true) (s17 : (chkB c.b != 0) = false → (!tmC c.s) = false → (!tmC c.b.lo) = false → (!tmC c.b.hi) = false → (decide (c.d < 0)) = true → (decide (0 < ((3 : Nat) : Int))) = true) (s18 : (chkB c.b != 0) = false → (!tmC c.s) = false → (!tmC c.b.lo) = false → (!tmC c.b.hi) = false → (decide (c.d < 0)) = true → (decide (0 ≤ 0)) = true) (s19 : (chkB c.b != 0) = false → (!tmC c.s) = false → (!tmC c.b.lo) = false → (!tmC c.b.hi) = false → (decide (c.d < 0)) = false → (decide (c.d > 100000)) = true → (decide (IntKind.i64.wrap (IntKind.i64.wrap (IntKind.i64.wrap (0 + 1) + 1) + 1) < ((3 : Nat) : Int))) = false) (s20 : (chkB c.b != 0) = false → (!tmC c.s) = false → (!tmC c.b.lo) = false → (!tmC c.b.hi) = false → (decide (c.d < 0)) = false → (decide (c.d > 100000)) = true → (decide (IntKind.i64.wrap (IntKind.i64.wrap (0 + 1) + 1) < ((3 : Nat) : Int))) = true) (s21 : (chkB c.b != 0) = false → (!tmC c.s) = false → (!tmC c.b.lo) = false → (!tmC c.b.hi) = false → (decide (c.d < 0)) = false → (decide (c.d > 100000)) = true → (decide (0 ≤ IntKind.i64.wrap (IntKind.i64.wrap (0 + 1) + 1))) = true) (s22 : (chkB c.b != 0) = false → (!tmC c.s) = false → (!tmC c.b.lo) = false → (!tmC c.b.hi) = false → (decide (c.d < 0)) = false → (decide (c.d > 100000)) = true → (decide (IntKind.i64.wrap (0 + 1) < ((3 : Nat) : Int))) = true) (s23 : (chkB c.b != 0) = false → (!tmC c.s) = false → (!tmC c.b.lo) = false → (!tmC c.b.hi) = false → (decide (c.d < 0)) = false → (decide (c.d > 100000)) = true → (decide (0 ≤ IntKind.i64.wrap (0 + 1))) = true) (s24 : (chkB c.b != 0) = false → (!tmC c.s) = false → (!tmC c.b.lo) = false → (!tmC c.b.hi) = false → (decide (c.d < 0)) = false → (decide (c.d > 100000)) = true → (decide (0 < ((3 : Nat) : Int))) = true) (s25 : (chkB c.b != 0) = false → (!tmC c.s) = false → (!tmC c.b.lo) = false → (!tmC c.b.hi) = false → (decide (c.d < 0)) = false → (decide (c.d > 100000)) = true → (decide (0 ≤ 0)) = true) (s26 : (chkB c.b != 0) = false → (!tmC c.s) = false → (!tmC c.b.lo) = false → (!tmC c.b.hi) = false → (decide (c.d < 0)) = false → (decide (c.d > 100000)) = false → (decide (IntKind.i64.wrap (IntKind.i64.wrap (IntKind.i64.wrap (0 + 1) + 1) + 1) < ((3 : Nat) : Int))) = false) (s27 : (chkB c.b != 0) = false → (!tmC c.s) = false → (!tmC c.b.lo) = false → (!tmC c.b.hi) = false → (decide (c.d < 0)) = false → (decide (c.d > 100000)) = false → (decide (IntKind.i64.wrap (IntKind.i64.wrap (0 + 1) + 1) < ((3 : Nat) : Int))) = true) (s28 : (chkB c.b != 0) = false → (!tmC c.s) = false → (!tmC c.b.lo) = false → (!tmC c.b.hi) = false → (decide (c.d < 0)) = false → (decide (c.d > 100000)) = false → (decide (0 ≤ IntKind.i64.wrap (IntKind.i64.wrap (0 + 1) + 1))) = true) (s29 : (chkB c.b != 0) = false → (!tmC c.s) = false → (!tmC c.b.lo) = false → (!tmC c.b.hi) = false → (decide (c.d < 0)) = false → (decide (c.d > 100000)) = false → (decide (IntKind.i64.wrap (0 + 1) < ((3 : Nat) : Int))) = true) (s30 : (chkB c.b != 0) = false → (!tmC c.s) = false → (!tmC c.b.lo) = false → (!tmC c.b.hi) = false → (decide (c.d < 0)) = false → (decide (c.d > 100000)) = false → (decide (0 ≤ IntKind.i64.wrap (0 + 1))) = true) (s31 : (chkB c.b != 0) = false → (!tmC c.s) = false → (!tmC c.b.lo) = false → (!tmC c.b.hi) = false → (decide (c.d < 0)) = false → (decide (c.d > 100000)) = false → (decide (0 < ((3 : Nat) : Int))) = true) (s32 : (chkB c.b != 0) = false → (!tmC c.s) = false → (!tmC c.b.lo) = false → (!tmC c.b.hi) = false → (decide (c.d < 0)) = false → (decide (c.d > 100000)) = false → (decide (0 ≤ 0)) = true) : Pl Try.prog 88 [ckV c] (AV.get ((bif chkB c.b != 0 then (AV.w (AW.one (AC.int IntKind.i64 (chkB c.b)))) else (bif !tmC c.s then (AV.w (AW.one (AC.int IntKind.i64 4))) else (bif !tmC c.b.lo then (AV.w (AW.one (AC.int IntKind.i64 4))) else (bif !tmC c.b.hi then (AV.w (AW.one (AC.int IntKind.i64 4))) else (bif decide (c.d < 0) then (AV.w (AW.one (AC.int IntKind.i64 4))) else (bif decide (c.d > 100000) then (AV.w (AW.one (AC.int IntKind.i64 4))) else (AV.w (AW.one (AC.int IntKind.i64 0))))))))) : AV Empty)) :=
  (pl_node (fun h0 => (pl_leaf rfl (ctxOf_ok libR0_ok (eq_none _)) (by kernel_rfl) Try.func88 rfl (cef_l0 c) rfl (all2_R (.cons rfl .nil)) rfl (cd_cons h0 cd_nil))) (fun h0 => (pl_node (fun h1 => (pl_leaf rfl (ctxOf_ok libR0_ok (eq_none _)) (by kernel_rfl) Try.func88 rfl (cef_l1 c) rfl (all2_R (.cons rfl .nil)) rfl (cd_cons h0 (cd_cons (s0 h0 h1) (cd_cons (s1 h0 h1) (cd_cons (s0 h0 h1) (cd_cons h1 cd_nil))))))) (fun h1 => (pl_node (fun h2 => (pl_leaf rfl (ctxOf_ok libR0_ok (eq_none _)) (by kernel_rfl) Try.func88 rfl (cef_l2 c) rfl (all2_R (.cons rfl .nil)) rfl (cd_cons h0 (cd_cons (s4 h0 h1 h2) (cd_cons (s5 h0 h1 h2) (cd_cons (s4 h0 h1 h2) (cd_cons h1 (cd_cons (s2 h0 h1 h2) (cd_cons (s3 h0 h1 h2) (cd_cons (s2 h0 h1 h2) (cd_cons h2 cd_nil))))))))))) (fun h2 => (pl_node (fun h3 => (pl_leaf rfl (ctxOf_ok libR0_ok (eq_none _)) (by kernel_rfl) Try.func88 rfl (cef_l3 c) rfl (all2_R (.cons rfl .nil)) rfl (cd_cons h0 (cd_cons (s10 h0 h1 h2 h3) (cd_cons (s11 h0 h1 h2 h3) (cd_cons (s10 h0 h1 h2 h3) (cd_cons h1 (cd_cons (s8 h0 h1 h2 h3) (cd_cons (s9 h0 h1 h2 h3) (cd_cons (s8 h0 h1 h2 h3) (cd_cons h2 (cd_cons (s6 h0 h1 h2 h3) (cd_cons (s7 h0 h1 h2 h3) (cd_cons (s6 h0 h1 h2 h3) (cd_cons h3 cd_nil))))))))))))))) (fun h3 => (pl_node (fun h4 => (pl_leaf rfl (ctxOf_ok libR0_ok (eq_none _)) (by kernel_rfl) Try.func88 rfl (cef_l4 c) rfl (all2_R (.cons rfl .nil)) rfl (cd_cons h0 (cd_cons (s17 h0 h1 h2 h3 h4) (cd_cons (s18 h0 h1 h2 h3 h4) (cd_cons (s17 h0 h1 h2 h3 h4) (cd_cons h1 (cd_cons (s15 h0 h1 h2 h3 h4) (cd_cons (s16 h0 h1 h2 h3 h4) (cd_cons (s15 h0 h1 h2 h3 h4) (cd_cons h2 (cd_cons (s13 h0 h1 h2 h3 h4) (cd_cons (s14 h0 h1 h2 h3 h4) (cd_cons (s13 h0 h1 h2 h3 h4) (cd_cons h3 (cd_cons (s12 h0 h1 h2 h3 h4) (cd_cons h4 (cd_cons h4 (cd_cons h4 (cd_cons h4 (cd_cons rfl cd_nil))))))))))))))))))))) (fun h4 => (pl_node (fun h5 => (pl_leaf rfl (ctxOf_ok libR0_ok (eq_none _)) (by kernel_rfl) Try.func88 rfl (cef_l5 c) rfl (all2_R (.cons rfl .nil)) rfl (cd_cons h0 (cd_cons (s24 h0 h1 h2 h3 h4 h5) (cd_cons (s25 h0 h1 h2 h3 h4 h5) (cd_cons (s24 h0 h1 h2 h3 h4 h5) (cd_cons h1 (cd_cons (s22 h0 h1 h2 h3 h4 h5) (cd_cons (s23 h0 h1 h2 h3 h4 h5) (cd_cons (s22 h0 h1 h2 h3 h4 h5) (cd_cons h2 (cd_cons (s20 h0 h1 h2 h3 h4 h5) (cd_cons (s21 h0 h1 h2 h3 h4 h5) (cd_cons (s20 h0 h1 h2 h3 h4 h5) (cd_cons h3 (cd_cons (s19 h0 h1 h2 h3 h4 h5) (cd_cons h4 (cd_cons h4 (cd_cons h4 (cd_cons h4 (cd_cons h5 cd_nil))))))))))))))))))))) (fun h5 => (pl_leaf rfl (ctxOf_ok libR0_ok (eq_none _)) (by kernel_rfl) Try.func88 rfl (cef_l6 c) rfl (all2_R (.cons rfl .nil)) rfl (cd_cons h0 (cd_cons (s31 h0 h1 h2 h3 h4 h5) (cd_cons (s32 h0 h1 h2 h3 h4 h5) (cd_cons (s31 h0 h1 h2 h3 h4 h5) (cd_cons h1 (cd_cons (s29 h0 h1 h2 h3 h4 h5) (cd_cons (s30 h0 h1 h2 h3 h4 h5) (cd_cons (s29 h0 h1 h2 h3 h4 h5) (cd_cons h2 (cd_cons (s27 h0 h1 h2 h3 h4 h5) (cd_cons (s28 h0 h1 h2 h3 h4 h5) (cd_cons (s27 h0 h1 h2 h3 h4 h5) (cd_cons h3 (cd_cons (s26 h0 h1 h2 h3 h4 h5) (cd_cons h4 (cd_cons h4 (cd_cons h4 (cd_cons h4 (cd_cons h5 cd_nil))))))))))))))))))))))))))))))))
theorem cef_pl (c : Ck)  : Pl Try.prog 88 [ckV c] (.int .i64 (ckE c)) := by
  refine Eq.mp (congrArg (Pl _ _ _) ?_) (cef_t c (fun h0 h1 => by first | rfl | assumption | decide) (fun h0 h1 => by first | rfl | assumption | decide) (fun h0 h1 h2 => by first | rfl | assumption | decide) (fun h0 h1 h2 => by first | rfl | assumption | decide) (fun h0 h1 h2 => by first | rfl | assumption | decide) (fun h0 h1 h2 => by first | rfl | assumption | decide) (fun h0 h1 h2 h3 => by first | rfl | assumption | decide) (fun h0 h1 h2 h3 => by first | rfl | assumption | decide) (fun h0 h1 h2 h3 => by first | rfl | assumption | decide) (fun h0 h1 h2 h3 => by first | rfl | assumption | decide) (fun h0 h1 h2 h3 => by first | rfl | assumption | decide) (fun h0 h1 h2 h3 => by first | rfl | assumption | decide) (fun h0 h1 h2 h3 h4 => by first | rfl | assumption | decide) (fun h0 h1 h2 h3 h4 => by first | rfl | assumption | decide) (fun h0 h1 h2 h3 h4 => by first | rfl | assumption | decide) (fun h0 h1 h2 h3 h4 => by first | rfl | assumption | decide) (fun h0 h1 h2 h3 h4 => by first | rfl | assumption | decide) (fun h0 h1 h2 h3 h4 => by first | rfl | assumption | decide) (fun h0 h1 h2 h3 h4 => by first | rfl | assumption | decide) (fun h0 h1 h2 h3 h4 h5 => by first | rfl | assumption | decide) (fun h0 h1 h2 h3 h4 h5 => by first | rfl | assumption | decide) (fun h0 h1 h2 h3 h4 h5 => by first | rfl | assumption | decide) (fun h0 h1 h2 h3 h4 h5 => by first | rfl | assumption | decide) (fun h0 h1 h2 h3 h4 h5 => by first | rfl | assumption | decide) (fun h0 h1 h2 h3 h4 h5 => by first | rfl | assumption | decide) (fun h0 h1 h2 h3 h4 h5 => by first | rfl | assumption | decide) (fun h0 h1 h2 h3 h4 h5 => by first | rfl | assumption | decide) (fun h0 h1 h2 h3 h4 h5 => by first | rfl | assumption | decide) (fun h0 h1 h2 h3 h4 h5 => by first | rfl | assumption | decide) (fun h0 h1 h2 h3 h4 h5 => by first | rfl | assumption | decide) (fun h0 h1 h2 h3 h4 h5 => by first | rfl | assumption | decide) (fun h0 h1 h2 h3 h4 h5 => by first | rfl | assumption | decide) (fun h0 h1 h2 h3 h4 h5 => by first | rfl | assumption | decide))
  unfold ckE drC
  by_cases h : chkB c.b = 0
  · rw [if_pos h, h]
    cases tmC c.s
    · rfl
    cases tmC c.b.lo
    · rfl
    cases tmC c.b.hi
    · rfl
    by_cases h1 : c.d < 0
    · rw [decide_eq_true h1, decide_eq_false (show ¬ 0 ≤ c.d by omega)]; rfl
    rw [decide_eq_false h1, decide_eq_true (show 0 ≤ c.d by omega)]
    by_cases h2 : c.d > 100000
    · rw [decide_eq_true h2, decide_eq_false (show ¬ c.d ≤ 100000 by omega)]; rfl
    rw [decide_eq_false h2, decide_eq_true (show c.d ≤ 100000 by omega)]; rfl
  · rw [if_neg h, show (chkB c.b != 0) = true by simpa using h]; rfl
theorem libR1_ok : LibOk Try.prog noFacts (lib1 libR1) := (lib1_cons (sp1_ok fun c _ => ⟨_, rfl, cef_pl c⟩) Try.call88 (lib1_nil _ _))
set_option maxRecDepth 100000 in
theorem knf_l0 (c : Ck) : evR (ctxOf Try.prog noFacts (fun _ => false) libR1) Try.f119 [(ckA c)] [true] = some (AV.w (AW.one (AC.bool !c.b.u)), [(ckE c == 0, true), (ckE c == 0, true), (ckE c == 0, true), (ckE c == 0, true), (ckE c == 0, true)]) := by kernel_rfl
set_option maxRecDepth 100000 in
theorem knf_l1 (c : Ck) : evR (ctxOf Try.prog noFacts (fun _ => false) libR1) Try.f119 [(ckA c)] [false] = some (AV.w (AW.one (AC.yes false)), [(ckE c == 0, false), (ckE c == 0, false), (ckE c == 0, false), (ckE c == 0, false), (ckE c == 0, false)]) := by kernel_rfl
set_option maxRecDepth 100000 in
theorem knf_t (c : Ck) : Pl Try.prog 119 [ckV c] (AV.get ((bif ckE c == 0 then (AV.w (AW.one (AC.bool !c.b.u))) else (AV.w (AW.one (AC.yes false)))) : AV Empty)) :=
  (pl_node (fun h0 => (pl_leaf rfl (ctxOf_ok libR1_ok (eq_none _)) (by kernel_rfl) Try.func119 rfl (knf_l0 c) rfl (all2_R (.cons rfl .nil)) rfl (cd_cons h0 (cd_cons h0 (cd_cons h0 (cd_cons h0 (cd_cons h0 cd_nil))))))) (fun h0 => (pl_leaf rfl (ctxOf_ok libR1_ok (eq_none _)) (by kernel_rfl) Try.func119 rfl (knf_l1 c) rfl (all2_R (.cons rfl .nil)) rfl (cd_cons h0 (cd_cons h0 (cd_cons h0 (cd_cons h0 (cd_cons h0 cd_nil))))))))
theorem knf_pl (c : Ck)  : Pl Try.prog 119 [ckV c] (.bool (tlC c)) := by
  refine Eq.mp (congrArg (Pl _ _ _) ?_) (knf_t c)
  unfold tlC; cases (ckE c == 0) <;> rfl
theorem libR3_ok : LibOk Try.prog numI (lib1 libR3) := (lib1_cons nI_ok Try.call15 (lib1_cons nTimes_ok Try.call46 (lib1_cons nFloor_ok Try.call77 (lib1_cons nCeil_ok Try.call78 (lib1_nil _ _)))))
set_option maxRecDepth 100000 in
theorem pttL_ (a : Int) (n : Int) (d : Int) : evR (ctxOf Try.prog numI (fun _ => false) libR3) Try.f121 [(.w (.one (.int .i64 a))), (.w (.one (.int .i64 n))), (.w (.one (.int .i64 d))), (.w (.one (.yes true)))] [] = some (AV.w (AW.agg [AC.bool (decide (-(-(a * n) / d) < 0)), AC.fv (Nm.num (-(-(a * n) / d)))]), (pickL [(true, true), (i64B a, true), (i64B n, true), (decide (a < 0) == decide (a < 0), true), (decide (n < 0) == decide (n < 0), true), (szB a, true), (szB n, true), (i64B d, true), (decide (a * n < 0) == decide (a * n < 0), true), (decide (d < 0) == decide (d < 0), true), (szB (a * n), true), (szB d, true), (decide (d = 0), false)] [0, 1, 2, 3, 4, 5, 6, 7, 8, 9, 10, 11, 12])) := by kernel_rfl
set_option maxRecDepth 100000 in
theorem ptfL_ (a : Int) (n : Int) (d : Int) : evR (ctxOf Try.prog numI (fun _ => false) libR3) Try.f121 [(.w (.one (.int .i64 a))), (.w (.one (.int .i64 n))), (.w (.one (.int .i64 d))), (.w (.one (.yes false)))] [] = some (AV.w (AW.agg [AC.bool (decide (a * n / d < 0)), AC.fv (Nm.num (a * n / d))]), (pickL [(false, false), (i64B a, true), (i64B n, true), (decide (a < 0) == decide (a < 0), true), (decide (n < 0) == decide (n < 0), true), (szB a, true), (szB n, true), (i64B d, true), (decide (a * n < 0) == decide (a * n < 0), true), (decide (d < 0) == decide (d < 0), true), (szB (a * n), true), (szB d, true), (decide (d = 0), false)] [0, 1, 2, 3, 4, 5, 6, 7, 8, 9, 10, 11, 12])) := by kernel_rfl
theorem gPart_ok : (factSp gPart).ok Try.prog numI 121 :=
  factR_ok (ctxOf_ok libR3_ok (eq_none _)) (by kernel_rfl) Try.func121 rfl lps_nil fun args v cd hg hc => by
    unfold gPart at hg
    split at hg
    · rename_i a n d up
      cases hg
      have h1 : i64B a = true := hc (i64B a, true) (by simp)
      have h2 : i64B n = true := hc (i64B n, true) (by simp)
      have h3 : i64B d = true := hc (i64B d, true) (by simp)
      have h4 : 0 < d := of_decide_eq_true (hc (decide (0 < d), true) (by simp))
      have dn : decide (d = 0) = false := decide_eq_false (by omega)
      have e1 := Dl.i64 h1
      have e2 := Dl.i64 h2
      have e3 := Dl.i64 h3
      cases up with
      | true =>
        refine ⟨rfl, rfl, rfl, [], _, _, pttL_ a n d, fun E u hu => hu, pickL_ok ?_ _⟩
        repeat' (first | exact cd_nil | refine cd_cons ?_ ?_)
        all_goals first | with_reducible assumption | rfl | exact eqB _ | (apply Dl.sz; (repeat' (first | with_reducible assumption | apply Dl.mul)); omega)
      | false =>
        refine ⟨rfl, rfl, rfl, [], _, _, ptfL_ a n d, fun E u hu => hu, pickL_ok ?_ _⟩
        repeat' (first | exact cd_nil | refine cd_cons ?_ ?_)
        all_goals first | with_reducible assumption | rfl | exact eqB _ | (apply Dl.sz; (repeat' (first | with_reducible assumption | apply Dl.mul)); omega)
    · cases hg
def maxJ (a b : Int) : Int := if b > a then b else a
theorem maxJ0 (x : Int) : maxJ 0 x = maxI x 0 := by unfold maxJ maxI; split <;> split <;> omega
theorem i_1 : i64B 1 = true := by decide
theorem d_pos : decide ((0 : Int) < 1000000) = true := by decide
theorem i_m : i64B 1000000 = true := by decide
def lwC (c : Ck) (s g : Int) : Int := ptV (IntKind.i64.wrap (IntKind.i64.wrap (g - s) + 1)) 1000000 (IntKind.i64.wrap (1000000 - c.d)) true
theorem libR4_ok : LibOk Try.prog numI (lib1 libR4) := (lib1_cons (sp1_ok fun c _ => ⟨_, rfl, knf_pl c⟩) Try.call119 (lib1_cons (sp1_ok fun t _ => ⟨_, rfl, itf_pl t⟩) Try.call118 (lib1_cons nI_ok Try.call15 (lib1_cons gPart_ok Try.call121 (lib1_cons nPlus_ok Try.call28 (lib1_cons bdt_ok Try.call120 (lib1_nil _ _)))))))
set_option maxRecDepth 100000 in
theorem saf_1 (c : Ck) (x : Int) : evR (ctxOf Try.prog numI (fun _ => false) libR4) Try.f89 [(ckA c), (.w (.one (.int .i64 x)))] [true] = some (AV.w (AW.agg [AC.int IntKind.i64 0, AC.int IntKind.i64 0, AC.yes true]), (pickL [(!tlC c, true), (true, true)] [0, 0, 0, 0, 1, 1, 1, 1, 1, 1])) := by kernel_rfl
set_option maxRecDepth 100000 in
theorem saf_01 (c : Ck) (x : Int) : evR (ctxOf Try.prog numI (fun _ => false) libR4) Try.f89 [(ckA c), (.w (.one (.int .i64 x)))] [false, true] = some (AV.w (AW.agg [AC.int IntKind.i64 0, AC.int IntKind.i64 0, AC.yes true]), (pickL [(!tlC c, false), (!tmC x, true), (true, true)] [0, 0, 0, 0, 1, 1, 1, 1, 1, 2])) := by kernel_rfl
set_option maxRecDepth 100000 in
theorem saf_001 (c : Ck) (x : Int) : evR (ctxOf Try.prog numI (fun _ => false) libR4) Try.f89 [(ckA c), (.w (.one (.int .i64 x)))] [false, false, true] = some (AV.w (AW.agg [AC.int IntKind.i64 0, AC.int IntKind.i64 0, AC.yes true]), (pickL [(!tlC c, false), (!tmC x, false), (decide (x < c.s), true)] [0, 0, 0, 0, 1, 1, 1, 1, 1, 2])) := by kernel_rfl
set_option maxRecDepth 100000 in
theorem saf_000 (c : Ck) (x : Int) : evR (ctxOf Try.prog numI (fun _ => false) libR4) Try.f89 [(ckA c), (.w (.one (.int .i64 x)))] [false, false, false] = some (AV.w (AW.agg [AC.int IntKind.i64 (ofB (c.b.lo + ptV (maxJ 0 (IntKind.i64.wrap (IntKind.i64.wrap (x - c.s) - 1))) 1000000 (IntKind.i64.wrap (1000000 + c.d)) false) (c.b.hi + ptV (IntKind.i64.wrap (IntKind.i64.wrap (x - c.s) + 1)) 1000000 (IntKind.i64.wrap (1000000 - c.d)) true)).lo, AC.int IntKind.i64 (ofB (c.b.lo + ptV (maxJ 0 (IntKind.i64.wrap (IntKind.i64.wrap (x - c.s) - 1))) 1000000 (IntKind.i64.wrap (1000000 + c.d)) false) (c.b.hi + ptV (IntKind.i64.wrap (IntKind.i64.wrap (x - c.s) + 1)) 1000000 (IntKind.i64.wrap (1000000 - c.d)) true)).hi, AC.bool (ofB (c.b.lo + ptV (maxJ 0 (IntKind.i64.wrap (IntKind.i64.wrap (x - c.s) - 1))) 1000000 (IntKind.i64.wrap (1000000 + c.d)) false) (c.b.hi + ptV (IntKind.i64.wrap (IntKind.i64.wrap (x - c.s) + 1)) 1000000 (IntKind.i64.wrap (1000000 - c.d)) true)).u]), (pickL [(!tlC c, false), (!tmC x, false), (decide (x < c.s), false), (i64B c.b.lo, true), (i64B (maxJ 0 (IntKind.i64.wrap (IntKind.i64.wrap (x - c.s) - 1))), true), (i64B 1000000, true), (i64B (IntKind.i64.wrap (1000000 + c.d)), true), (decide (0 < IntKind.i64.wrap (1000000 + c.d)), true), (decide (c.b.lo < 0) == decide (c.b.lo < 0), true), (decide (ptV (maxJ 0 (IntKind.i64.wrap (IntKind.i64.wrap (x - c.s) - 1))) 1000000 (IntKind.i64.wrap (1000000 + c.d)) false < 0) == decide (ptV (maxJ 0 (IntKind.i64.wrap (IntKind.i64.wrap (x - c.s) - 1))) 1000000 (IntKind.i64.wrap (1000000 + c.d)) false < 0), true), (szB c.b.lo, true), (szB (ptV (maxJ 0 (IntKind.i64.wrap (IntKind.i64.wrap (x - c.s) - 1))) 1000000 (IntKind.i64.wrap (1000000 + c.d)) false), true), (i64B c.b.hi, true), (i64B (IntKind.i64.wrap (IntKind.i64.wrap (x - c.s) + 1)), true), (i64B (IntKind.i64.wrap (1000000 - c.d)), true), (decide (0 < IntKind.i64.wrap (1000000 - c.d)), true), (decide (c.b.hi < 0) == decide (c.b.hi < 0), true), (decide (ptV (IntKind.i64.wrap (IntKind.i64.wrap (x - c.s) + 1)) 1000000 (IntKind.i64.wrap (1000000 - c.d)) true < 0) == decide (ptV (IntKind.i64.wrap (IntKind.i64.wrap (x - c.s) + 1)) 1000000 (IntKind.i64.wrap (1000000 - c.d)) true < 0), true), (szB c.b.hi, true), (szB (ptV (IntKind.i64.wrap (IntKind.i64.wrap (x - c.s) + 1)) 1000000 (IntKind.i64.wrap (1000000 - c.d)) true), true), (decide (c.b.lo + ptV (maxJ 0 (IntKind.i64.wrap (IntKind.i64.wrap (x - c.s) - 1))) 1000000 (IntKind.i64.wrap (1000000 + c.d)) false < 0) == decide (c.b.lo + ptV (maxJ 0 (IntKind.i64.wrap (IntKind.i64.wrap (x - c.s) - 1))) 1000000 (IntKind.i64.wrap (1000000 + c.d)) false < 0), true), (decide (c.b.hi + ptV (IntKind.i64.wrap (IntKind.i64.wrap (x - c.s) + 1)) 1000000 (IntKind.i64.wrap (1000000 - c.d)) true < 0) == decide (c.b.hi + ptV (IntKind.i64.wrap (IntKind.i64.wrap (x - c.s) + 1)) 1000000 (IntKind.i64.wrap (1000000 - c.d)) true < 0), true), (szB (c.b.lo + ptV (maxJ 0 (IntKind.i64.wrap (IntKind.i64.wrap (x - c.s) - 1))) 1000000 (IntKind.i64.wrap (1000000 + c.d)) false), true), (szB (c.b.hi + ptV (IntKind.i64.wrap (IntKind.i64.wrap (x - c.s) + 1)) 1000000 (IntKind.i64.wrap (1000000 - c.d)) true), true)] [0, 0, 0, 0, 1, 1, 1, 1, 1, 2, 3, 4, 5, 6, 7, 8, 9, 10, 11, 12, 13, 5, 14, 15, 16, 17, 18, 19, 20, 21, 22, 23])) := by kernel_rfl
set_option maxHeartbeats 4000000 in
theorem saf_pl (c : Ck) (x : Int) : Pl Try.prog 89 [ckV c, .int .i64 x] (bV (uniC c x)) := fun W => by
  cases h : tlC c with
  | false =>
    have k0 : (!tlC c) = true := by rw [h]; rfl
    have e : uniC c x = noneB := by unfold uniC; rw [h]; rfl
    rw [e]
    have L := saf_1 c x
    refine evR_calls (I := numI) (ctxOf_ok libR4_ok (eq_none _)) (by kernel_rfl) Try.func89 rfl lps_nil L rfl (all2_R (.cons rfl (.cons rfl .nil))) rfl W (Nat.zero_le _) (pickL_ok ?_ _)
    repeat' (first | exact cd_nil | refine cd_cons ?_ ?_)
    all_goals first | rfl | with_reducible assumption | exact eqB _ | exact i_1 | exact i_m | exact d_pos | (apply Dl.sz; (repeat' (first | with_reducible assumption | with_reducible apply Dl.add')); omega)
  | true =>
    have k0 : (!tlC c) = false := by rw [h]; rfl
    cases hx : tmC x with
    | false =>
      have k1 : (!tmC x) = true := by rw [hx]; rfl
      have e : uniC c x = noneB := by unfold uniC; rw [h, hx]; rfl
      rw [e]
      have L := saf_01 c x
      refine evR_calls (I := numI) (ctxOf_ok libR4_ok (eq_none _)) (by kernel_rfl) Try.func89 rfl lps_nil L rfl (all2_R (.cons rfl (.cons rfl .nil))) rfl W (Nat.zero_le _) (pickL_ok ?_ _)
      repeat' (first | exact cd_nil | refine cd_cons ?_ ?_)
      all_goals first | rfl | with_reducible assumption | exact eqB _ | exact i_1 | exact i_m | exact d_pos | (apply Dl.sz; (repeat' (first | with_reducible assumption | with_reducible apply Dl.add')); omega)
    | true =>
      have k1 : (!tmC x) = false := by rw [hx]; rfl
      by_cases hs : x < c.s
      · have k2 : decide (x < c.s) = true := decide_eq_true hs
        have e : uniC c x = noneB := by unfold uniC; rw [h, hx, decide_eq_false (show ¬ c.s ≤ x by omega)]; rfl
        rw [e]
        have L := saf_001 c x
        refine evR_calls (I := numI) (ctxOf_ok libR4_ok (eq_none _)) (by kernel_rfl) Try.func89 rfl lps_nil L rfl (all2_R (.cons rfl (.cons rfl .nil))) rfl W (Nat.zero_le _) (pickL_ok ?_ _)
        repeat' (first | exact cd_nil | refine cd_cons ?_ ?_)
        all_goals first | rfl | with_reducible assumption | exact eqB _ | exact i_1 | exact i_m | exact d_pos | (apply Dl.sz; (repeat' (first | with_reducible assumption | with_reducible apply Dl.add')); omega)
      · have k2 : decide (x < c.s) = false := decide_eq_false hs
        obtain ⟨g1, g2, g3, g4, g5, g6⟩ := un_in h hx (by omega)
        have e : uniC c x = ofB (c.b.lo + ptV (maxI (x - c.s - 1) 0) 1000000 (1000000 + c.d) false) (c.b.hi + ptV (x - c.s + 1) 1000000 (1000000 - c.d) true) := by
          unfold uniC
          rw [h, hx, decide_eq_true (show c.s ≤ x by omega)]; rfl
        obtain ⟨t1, _⟩ := tl_iff.1 h
        obtain ⟨_, j2, j3, j4, j5, j6⟩ := ck_in t1
        obtain ⟨w1, _, _, w2, _⟩ := shf_in g3 g5
        have s1 := shC_in g3 g5
        have s2 := loC_in g4 g5
        have q3 := gnC_iff.1 g3
        have q4 := gnC_iff.1 g4
        have i1 : i64B c.b.lo = true := i64B_iff.2 (by omega)
        have i2 : i64B (maxI (x - c.s - 1) 0) = true := i64B_iff.2 (by omega)
        have i3 : i64B (1000000 + c.d) = true := i64B_iff.2 (by omega)
        have i4 : decide (0 < 1000000 + c.d) = true := decide_eq_true (by omega)
        have i5 : i64B c.b.hi = true := i64B_iff.2 (by omega)
        have i6 : i64B (x - c.s + 1) = true := i64B_iff.2 (by omega)
        have i7 : i64B (1000000 - c.d) = true := i64B_iff.2 (by omega)
        have i8 : decide (0 < 1000000 - c.d) = true := decide_eq_true (by omega)
        have d1 := Dl.i64 i1
        have d2 := Dl.i64 i5
        have d3 : Dl 4 (ptV (maxI (x - c.s - 1) 0) 1000000 (1000000 + c.d) false) := Dl.i64 (i64B_iff.2 (show -9223372036854775808 ≤ shC (maxI (x - c.s - 1) 0) c.d ∧ shC (maxI (x - c.s - 1) 0) c.d ≤ 9223372036854775807 by omega))
        have d4 : Dl 4 (ptV (x - c.s + 1) 1000000 (1000000 - c.d) true) := Dl.i64 (i64B_iff.2 (show -9223372036854775808 ≤ loC (x - c.s + 1) c.d ∧ loC (x - c.s + 1) c.d ≤ 9223372036854775807 by omega))
        rw [e]
        have L := saf_000 c x
        rw [g1, g2, maxJ0, w1, w2] at L
        refine evR_calls (I := numI) (ctxOf_ok libR4_ok (eq_none _)) (by kernel_rfl) Try.func89 rfl lps_nil L rfl (all2_R (.cons rfl (.cons rfl .nil))) rfl W (Nat.zero_le _) (pickL_ok ?_ _)
        repeat' (first | exact cd_nil | refine cd_cons ?_ ?_)
        all_goals first | rfl | with_reducible assumption | exact eqB _ | exact i_1 | exact i_m | exact d_pos | (apply Dl.sz; (repeat' (first | with_reducible assumption | with_reducible apply Dl.add')); omega)
theorem libR5_ok : LibOk Try.prog numI (lib1 libR5) := (lib1_cons (sp1_ok fun c _ => ⟨_, rfl, cef_pl c⟩) Try.call88 (lib1_cons (sp1_ok fun t _ => ⟨_, rfl, itf_pl t⟩) Try.call118 (lib1_cons (sp2_ok fun c x _ => ⟨_, rfl, saf_pl c x⟩) Try.call89 (lib1_cons (sp1_ok fun b _ => ⟨_, rfl, bte_pl b⟩) Try.call117 (lib1_cons nI_ok Try.call15 (lib1_cons gPart_ok Try.call121 (lib1_cons nPlus_ok Try.call28 (lib1_cons bdt_ok Try.call120 (lib1_nil _ _)))))))))
theorem fns_R : FnsOk Try.prog fnsR := fns_cons Try.func122 rfl Try.call122 (fns_nil _)
theorem fnl_R : ∀ f fn, Ev.look f fnsR = some fn → LpsOk Try.prog numI ([] : Lps Nm) fn.ntmps (bodyOf fn) := fun f fn h => by
  unfold fnsR at h
  rw [look_cons] at h
  split at h
  · cases h; exact lps_nil
  · cases h
theorem ofB_two (x y : Int) : (ofB x y = noneB ∧ (ofB x y).u = true) ∨ ((ofB x y).u = false ∧ knB (ofB x y) = true) := by
  by_cases h : -1152921504606846976 ≤ x ∧ x ≤ y ∧ y ≤ 1152921504606846976
  · right
    rw [ofB_inC h.1 h.2.1 h.2.2]
    exact ⟨rfl, knB_iff.2 ⟨rfl, h⟩⟩
  · left
    rw [ofB_out h]; exact ⟨rfl, rfl⟩
theorem kn_none : knB noneB = false := by decide
theorem uni_two (c : Ck) (x : Int) : (uniC c x = noneB ∧ (uniC c x).u = true) ∨ ((uniC c x).u = false ∧ knB (uniC c x) = true) := by
  unfold uniC
  cases tlC c && (tmC x && decide (c.s ≤ x)) with
  | false => left; exact ⟨rfl, rfl⟩
  | true => exact ofB_two _ _
theorem meet_none {a : Bd} (h : (a = noneB ∧ a.u = true) ∨ (a.u = false ∧ knB a = true)) : meetB a noneB = a ∧ meetO a noneB = true := by
  unfold meetB meetO
  rw [kn_none]
  rcases h with ⟨rfl, _⟩ | ⟨_, h⟩
  · rw [kn_none]; exact ⟨rfl, rfl⟩
  · rw [h]; exact ⟨rfl, rfl⟩
theorem meet_of {a b : Bd} (ha : a = noneB) (hb : knB b = true) : meetB a b = b ∧ meetO a b = true := by
  unfold meetB meetO normB
  rw [ha, kn_none, hb]; exact ⟨rfl, rfl⟩
theorem cam_none {c : Ck} {s g : Int} {t : Bd} (h : knB t = false) : camC c s g t = noneB := by unfold camC addB; rw [h]; rfl
theorem cam_of {c : Ck} {s g : Int} {t : Bd} (h : knB t = true) (hg : gnC (g - s + 1) = true) (hd : drC c.d = true) : camC c s g t = ofB t.lo (t.hi + loC (g - s + 1) c.d) := by
  have b := loC_in hg hd
  have q := gnC_iff.1 hg
  unfold camC
  rw [addC h (by omega) b.1 (by omega), Int.add_zero]
theorem chk_no {t : Bd} (h : chkB t ≠ 0) : knB t = false := by
  cases k : knB t with
  | false => rfl
  | true =>
    obtain ⟨h1, h2, h3, h4⟩ := knB_iff.1 k
    exfalso; apply h
    unfold chkB
    rw [h1, inB_iff.2 ⟨h2, by omega⟩, inB_iff.2 ⟨by omega, h4⟩, decide_eq_false (show ¬ t.lo > t.hi by omega)]; rfl
end
end Go.Proofs.Ytjegnlnnjcchaaa.AtCk

