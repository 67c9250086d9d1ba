/-
  The reference's bounds: BoundErr and Bounded; the fact of the laws on bounds.
  Conditions: those of each theorem.
-/
import Derived.Test.YtfhidjldmopbgaaNW
import Derived.Test.YtfhidjldmopbgaaB2
import Derived.Test.YtfhidjldmopbgaaVM
set_option linter.unusedVariables false
set_option linter.unusedSimpArgs false
namespace Go.Proofs.Ytfhidjldmopbgaa.AtBr
open Ev Go.RowKit Go.Shelf Zd Wd
open Go.Proofs.Ytfhidjldmopbgaa
noncomputable section

def gBd : List (AV Nm) → Option (AV Nm × List (Bool × Bool))
  | [.w (.agg [.bool s, .fv (.num x)]), .w (.agg [.bool k, .fv (.num y)])] => some (bA (ofB x y), [(s == decide (x < 0), true), (k == decide (y < 0), true), (szB x, true), (szB y, true)])
  | [.w (.agg [.yes false, .lit (.slice none 0 0)]), .w (.agg [.bool k, .fv (.num y)])] => some (bA (ofB 0 y), [(k == decide (y < 0), true), (szB y, true)])
  | _ => none
abbrev eqB1 : TypeId → Bool := fun t => Nat.beq t 24
def cvE : Empty → Option (List (List Int)) := fun f => nomatch f
noncomputable abbrev libR0 : List (Nat × FnSp Empty) := [(24, sp1 dBd (fun b => aInt .i64 (chkB b)) (fun _ => []))]
noncomputable abbrev libR2 : List (Nat × FnSp Nm) := [(10, nfn nI), (25, nfn nCmp), (26, nfn nSmall)]
noncomputable abbrev libR3 : List (Nat × FnSp Empty) := [(21, sp3 dBd dBd (dInt .i64) (fun a b n => bA (mulB a b n)) (fun _ _ n => [(i64B n, true)])), (32, Fs.tabSp cvE Fs.bk Fs.gFu)]
theorem eqB (x : Bool) : (x == x) = true := beq_self_eq_true x
theorem ofB_out {x y : Int} (h : ¬ (-1152921504606846976 ≤ x ∧ x ≤ y ∧ y ≤ 1152921504606846976)) : ofB x y = noneB := by
  unfold ofB normB
  cases k : knB ⟨x, y, false⟩ with
  | true => exact absurd (knB_iff.1 k).2 h
  | false => rfl
theorem ofB_in {x y : Int} (h1 : -1152921504606846976 ≤ x) (h2 : x ≤ y) (h3 : y ≤ 1152921504606846976) : ofB x y = ⟨x, y, false⟩ := by
  unfold ofB normB
  have k : knB ⟨x, y, false⟩ = true := knB_iff.2 ⟨rfl, h1, h2, h3⟩
  rw [k]; rfl
theorem cmp_gt (a b : Int) : decide (cmpI a b > 0) = decide (b < a) := by
  unfold cmpI
  by_cases h : a < b
  · rw [if_pos h, decide_eq_false (show ¬ b < a by omega)]; rfl
  · rw [if_neg h]
    by_cases g : b < a
    · rw [if_pos g, decide_eq_true g]; rfl
    · rw [if_neg g, decide_eq_false g]; rfl
set_option maxRecDepth 100000 in
theorem bte_l0 (a : Bd) : evR (ctxOf Try.prog noFacts (fun _ => false) []) Try.f24 [(bA a)] [true, true, true] = some (AV.w (AW.one (AC.int IntKind.i64 0)), [(a.u, true), (a.lo == 0, true), (a.lo == 0, true), (a.lo == 0, true), (a.lo == 0, true), (a.hi == 0, true)]) := by kernel_rfl
set_option maxRecDepth 100000 in
theorem bte_l1 (a : Bd) : evR (ctxOf Try.prog noFacts (fun _ => false) []) Try.f24 [(bA a)] [true, true, false] = some (AV.w (AW.one (AC.int IntKind.i64 3)), [(a.u, true), (a.lo == 0, true), (a.lo == 0, true), (a.lo == 0, true), (a.lo == 0, true), (a.hi == 0, false)]) := by kernel_rfl
set_option maxRecDepth 100000 in
theorem bte_l2 (a : Bd) : evR (ctxOf Try.prog noFacts (fun _ => false) []) Try.f24 [(bA a)] [true, false] = some (AV.w (AW.one (AC.int IntKind.i64 3)), [(a.u, true), (a.lo == 0, false), (a.lo == 0, false), (a.lo == 0, false), (a.lo == 0, false), (false, false)]) := by kernel_rfl
set_option maxRecDepth 100000 in
theorem bte_l3 (a : Bd) : evR (ctxOf Try.prog noFacts (fun _ => false) []) Try.f24 [(bA a)] [false, true, true] = some (AV.w (AW.one (AC.int IntKind.i64 4)), [(a.u, false), (decide (0 < ((2 : Nat) : Int)), true), (decide (0 ≤ 0), true), (decide (0 < ((2 : Nat) : Int)), true), (decide (a.lo > 1152921504606846976), true), (decide (a.lo > 1152921504606846976), true), (decide (a.lo > 1152921504606846976), true), (true, true)]) := by kernel_rfl
set_option maxRecDepth 100000 in
theorem bte_l4 (a : Bd) : evR (ctxOf Try.prog noFacts (fun _ => false) []) Try.f24 [(bA a)] [false, true, false, true] = some (AV.w (AW.one (AC.int IntKind.i64 4)), [(a.u, false), (decide (0 < ((2 : Nat) : Int)), true), (decide (0 ≤ 0), true), (decide (0 < ((2 : Nat) : Int)), true), (decide (a.lo > 1152921504606846976), false), (decide (a.lo > 1152921504606846976), false), (decide (a.lo > 1152921504606846976), false), (decide (a.lo < -1152921504606846976), true)]) := by kernel_rfl
set_option maxRecDepth 100000 in
theorem bte_l5 (a : Bd) : evR (ctxOf Try.prog noFacts (fun _ => false) []) Try.f24 [(bA a)] [false, true, false, false, true, true] = some (AV.w (AW.one (AC.int IntKind.i64 4)), [(a.u, false), (decide (0 < ((2 : Nat) : Int)), true), (decide (0 ≤ 0), true), (decide (0 < ((2 : Nat) : Int)), true), (decide (a.lo > 1152921504606846976), false), (decide (a.lo > 1152921504606846976), false), (decide (a.lo > 1152921504606846976), false), (decide (a.lo < -1152921504606846976), false), (decide (IntKind.i64.wrap (0 + 1) < ((2 : Nat) : Int)), true), (decide (0 ≤ IntKind.i64.wrap (0 + 1)), true), (decide (IntKind.i64.wrap (0 + 1) < ((2 : Nat) : Int)), true), (decide (a.hi > 1152921504606846976), true), (decide (a.hi > 1152921504606846976), true), (decide (a.hi > 1152921504606846976), true), (true, true)]) := by kernel_rfl
set_option maxRecDepth 100000 in
theorem bte_l6 (a : Bd) : evR (ctxOf Try.prog noFacts (fun _ => false) []) Try.f24 [(bA a)] [false, true, false, false, true, false, true] = some (AV.w (AW.one (AC.int IntKind.i64 4)), [(a.u, false), (decide (0 < ((2 : Nat) : Int)), true), (decide (0 ≤ 0), true), (decide (0 < ((2 : Nat) : Int)), true), (decide (a.lo > 1152921504606846976), false), (decide (a.lo > 1152921504606846976), false), (decide (a.lo > 1152921504606846976), false), (decide (a.lo < -1152921504606846976), false), (decide (IntKind.i64.wrap (0 + 1) < ((2 : Nat) : Int)), true), (decide (0 ≤ IntKind.i64.wrap (0 + 1)), true), (decide (IntKind.i64.wrap (0 + 1) < ((2 : Nat) : Int)), true), (decide (a.hi > 1152921504606846976), false), (decide (a.hi > 1152921504606846976), false), (decide (a.hi > 1152921504606846976), false), (decide (a.hi < -1152921504606846976), true)]) := by kernel_rfl
set_option maxRecDepth 100000 in
theorem bte_l7 (a : Bd) : evR (ctxOf Try.prog noFacts (fun _ => false) []) Try.f24 [(bA a)] [false, true, false, false, true, false, false, false, true] = some (AV.w (AW.one (AC.int IntKind.i64 11)), [(a.u, false), (decide (0 < ((2 : Nat) : Int)), true), (decide (0 ≤ 0), true), (decide (0 < ((2 : Nat) : Int)), true), (decide (a.lo > 1152921504606846976), false), (decide (a.lo > 1152921504606846976), false), (decide (a.lo > 1152921504606846976), false), (decide (a.lo < -1152921504606846976), false), (decide (IntKind.i64.wrap (0 + 1) < ((2 : Nat) : Int)), true), (decide (0 ≤ IntKind.i64.wrap (0 + 1)), true), (decide (IntKind.i64.wrap (0 + 1) < ((2 : Nat) : Int)), true), (decide (a.hi > 1152921504606846976), false), (decide (a.hi > 1152921504606846976), false), (decide (a.hi > 1152921504606846976), false), (decide (a.hi < -1152921504606846976), false), (decide (IntKind.i64.wrap (IntKind.i64.wrap (0 + 1) + 1) < ((2 : Nat) : Int)), false), (decide (a.hi < a.lo), true)]) := by kernel_rfl
set_option maxRecDepth 100000 in
theorem bte_l8 (a : Bd) : evR (ctxOf Try.prog noFacts (fun _ => false) []) Try.f24 [(bA a)] [false, true, false, false, true, false, false, false, false] = some (AV.w (AW.one (AC.int IntKind.i64 0)), [(a.u, false), (decide (0 < ((2 : Nat) : Int)), true), (decide (0 ≤ 0), true), (decide (0 < ((2 : Nat) : Int)), true), (decide (a.lo > 1152921504606846976), false), (decide (a.lo > 1152921504606846976), false), (decide (a.lo > 1152921504606846976), false), (decide (a.lo < -1152921504606846976), false), (decide (IntKind.i64.wrap (0 + 1) < ((2 : Nat) : Int)), true), (decide (0 ≤ IntKind.i64.wrap (0 + 1)), true), (decide (IntKind.i64.wrap (0 + 1) < ((2 : Nat) : Int)), true), (decide (a.hi > 1152921504606846976), false), (decide (a.hi > 1152921504606846976), false), (decide (a.hi > 1152921504606846976), false), (decide (a.hi < -1152921504606846976), false), (decide (IntKind.i64.wrap (IntKind.i64.wrap (0 + 1) + 1) < ((2 : Nat) : Int)), false), (decide (a.hi < a.lo), false)]) := by kernel_rfl
set_option maxRecDepth 100000 in
theorem bte_t (a : Bd) (s0 : (a.u) = false → (decide (a.lo > 1152921504606846976)) = true → (decide (0 < ((2 : Nat) : Int))) = true) (s1 : (a.u) = false → (decide (a.lo > 1152921504606846976)) = true → (decide (0 ≤ 0)) = true) (s2 : (a.u) = false → (decide (a.lo > 1152921504606846976)) = false → (decide (a.lo < -1152921504606846976)) = true → (decide (0 < ((2 : Nat) : Int))) = true) (s3 : (a.u) = false → (decide (a.lo > 1152921504606846976)) = false → (decide (a.lo < -1152921504606846976)) = true → (decide (0 ≤ 0)) = true) (s4 : (a.u) = false → (decide (a.lo > 1152921504606846976)) = false → (decide (a.lo < -1152921504606846976)) = false → (decide (a.hi > 1152921504606846976)) = true → (decide (IntKind.i64.wrap (0 + 1) < ((2 : Nat) : Int))) = true) (s5 : (a.u) = false → (decide (a.lo > 1152921504606846976)) = false → (decide (a.lo < -1152921504606846976)) = false → (decide (a.hi > 1152921504606846976)) = true → (decide (0 ≤ IntKind.i64.wrap (0 + 1))) = true) (s6 : (a.u) = false → (decide (a.lo > 1152921504606846976)) = false → (decide (a.lo < -1152921504606846976)) = false → (decide (a.hi > 1152921504606846976)) = true → (decide (0 < ((2 : Nat) : Int))) = true) (s7 : (a.u) = false → (decide (a.lo > 1152921504606846976)) = false → (decide (a.lo < -1152921504606846976)) = false → (decide (a.hi > 1152921504606846976)) = true → (decide (0 ≤ 0)) = true) (s8 : (a.u) = false → (decide (a.lo > 1152921504606846976)) = false → (decide (a.lo < -1152921504606846976)) = false → (decide (a.hi > 1152921504606846976)) = false → (decide (a.hi < -1152921504606846976)) = true → (decide (IntKind.i64.wrap (0 + 1) < ((2 : Nat) : Int))) = true) (s9 : (a.u) = false → (decide (a.lo > 1152921504606846976)) = false → (decide (a.lo < -1152921504606846976)) = false → (decide (a.hi > 1152921504606846976)) = false → (decide (a.hi < -1152921504606846976)) = true → (decide (0 ≤ IntKind.i64.wrap (0 + 1))) = true) (s10 : (a.u) = false → (decide (a.lo > 1152921504606846976)) = false → (decide (a.lo < -1152921504606846976)) = false → (decide (a.hi > 1152921504606846976)) = false → (decide (a.hi < -1152921504606846976)) = true → (decide (0 < ((2 : Nat) : Int))) = true) (s11 : (a.u) = false → (decide (a.lo > 1152921504606846976)) = false → (decide (a.lo < -1152921504606846976)) = false → (decide (a.hi > 1152921504606846976)) = false → (decide (a.hi < -1152921504606846976)) = true → (decide (0 ≤ 0)) = true) (s12 : (a.u) = false → (decide (a.lo > 1152921504606846976)) = false → (decide (a.lo < -1152921504606846976)) = false → (decide (a.hi > 1152921504606846976)) = false → (decide (a.hi < -1152921504606846976)) = false → (decide (a.hi < a.lo)) = true → (decide (IntKind.i64.wrap (IntKind.i64.wrap (0 + 1) + 1) < ((2 : Nat) : Int))) = false) (s13 : (a.u) = false → (decide (a.lo > 1152921504606846976)) = false → (decide (a.lo < -1152921504606846976)) = false → (decide (a.hi > 1152921504606846976)) = false → (decide (a.hi < -1152921504606846976)) = false → (decide (a.hi < a.lo)) = true → (decide (IntKind.i64.wrap (0 + 1) < ((2 : Nat) : Int))) = true) (s14 : (a.u) = false → (decide (a.lo > 1152921504606846976)) = false → (decide (a.lo < -1152921504606846976)) = false → (decide (a.hi > 1152921504606846976)) = false → (decide (a.hi < -1152921504606846976)) = false → (decide (a.hi < a.lo)) = true → (decide (0 ≤ IntKind.i64.wrap (0 + 1))) = true) (s15 : (a.u) = false → (decide (a.lo > 1152921504606846976)) = false → (decide (a.lo < -1152921504606846976)) = false → (decide (a.hi > 1152921504606846976)) = false → (decide (a.hi < -1152921504606846976)) = false → (decide (a.hi < a.lo)) = true → (decide (0 < ((2 : Nat) : Int))) = true) (s16 : (a.u) = false → (decide (a.lo > 1152921504606846976)) = false → (decide (a.lo < -1152921504606846976)) = false → (decide (a.hi > 1152921504606846976)) = false → (decide (a.hi < -1152921504606846976)) = false → (decide (a.hi < a.lo)) = true → (decide (0 ≤ 0)) = true) (s17 : (a.u) = false → (decide (a.lo > 1152921504606846976)) = false → (decide (a.lo < -1152921504606846976)) = false → (decide (a.hi > 1152921504606846976)) = false → (decide (a.hi < -1152921504606846976)) = false → (decide (a.hi < a.lo)) = false → (decide (IntKind.i64.wrap (IntKind.i64.wrap (0 + 1) + 1) < ((2 : Nat) : Int))) = false) (s18 : (a.u) = false → (decide (a.lo > 1152921504606846976)) = false → (decide (a.lo < -1152921504606846976)) = false → (decide (a.hi > 1152921504606846976)) = false → (decide (a.hi < -1152921504606846976)) = false → (decide (a.hi < a.lo)) = false → (decide (IntKind.i64.wrap (0 + 1) < ((2 : Nat) : Int))) = true) (s19 : (a.u) = false → (decide (a.lo > 1152921504606846976)) = false → (decide (a.lo < -1152921504606846976)) = false → (decide (a.hi > 1152921504606846976)) = false → (decide (a.hi < -1152921504606846976)) = false → (decide (a.hi < a.lo)) = false → (decide (0 ≤ IntKind.i64.wrap (0 + 1))) = true) (s20 : (a.u) = false → (decide (a.lo > 1152921504606846976)) = false → (decide (a.lo < -1152921504606846976)) = false → (decide (a.hi > 1152921504606846976)) = false → (decide (a.hi < -1152921504606846976)) = false → (decide (a.hi < a.lo)) = false → (decide (0 < ((2 : Nat) : Int))) = true) (s21 : (a.u) = false → (decide (a.lo > 1152921504606846976)) = false → (decide (a.lo < -1152921504606846976)) = false → (decide (a.hi > 1152921504606846976)) = false → (decide (a.hi < -1152921504606846976)) = false → (decide (a.hi < a.lo)) = false → (decide (0 ≤ 0)) = true) : Pl Try.prog 24 [bV a] (AV.get ((bif a.u then (bif a.lo == 0 then (bif a.hi == 0 then (AV.w (AW.one (AC.int IntKind.i64 0))) else (AV.w (AW.one (AC.int IntKind.i64 3)))) else (AV.w (AW.one (AC.int IntKind.i64 3)))) else (bif decide (a.lo > 1152921504606846976) then (AV.w (AW.one (AC.int IntKind.i64 4))) else (bif decide (a.lo < -1152921504606846976) then (AV.w (AW.one (AC.int IntKind.i64 4))) else (bif decide (a.hi > 1152921504606846976) then (AV.w (AW.one (AC.int IntKind.i64 4))) else (bif decide (a.hi < -1152921504606846976) then (AV.w (AW.one (AC.int IntKind.i64 4))) else (bif decide (a.hi < a.lo) then (AV.w (AW.one (AC.int IntKind.i64 11))) else (AV.w (AW.one (AC.int IntKind.i64 0))))))))) : AV Empty)) :=
  (pl_node (fun h0 => (pl_node (fun h1 => (pl_node (fun h2 => (pl_leaf rfl (ctxOf_ok (lib1_nil _ _) (eq_none _)) (by kernel_rfl) Try.func24 rfl (bte_l0 a) rfl (all2_R (.cons rfl .nil)) rfl (cd_cons h0 (cd_cons h1 (cd_cons h1 (cd_cons h1 (cd_cons h1 (cd_cons h2 cd_nil)))))))) (fun h2 => (pl_leaf rfl (ctxOf_ok (lib1_nil _ _) (eq_none _)) (by kernel_rfl) Try.func24 rfl (bte_l1 a) rfl (all2_R (.cons rfl .nil)) rfl (cd_cons h0 (cd_cons h1 (cd_cons h1 (cd_cons h1 (cd_cons h1 (cd_cons h2 cd_nil)))))))))) (fun h1 => (pl_leaf rfl (ctxOf_ok (lib1_nil _ _) (eq_none _)) (by kernel_rfl) Try.func24 rfl (bte_l2 a) rfl (all2_R (.cons rfl .nil)) rfl (cd_cons h0 (cd_cons h1 (cd_cons h1 (cd_cons h1 (cd_cons h1 (cd_cons rfl cd_nil)))))))))) (fun h0 => (pl_node (fun h1 => (pl_leaf rfl (ctxOf_ok (lib1_nil _ _) (eq_none _)) (by kernel_rfl) Try.func24 rfl (bte_l3 a) rfl (all2_R (.cons rfl .nil)) rfl (cd_cons h0 (cd_cons (s0 h0 h1) (cd_cons (s1 h0 h1) (cd_cons (s0 h0 h1) (cd_cons h1 (cd_cons h1 (cd_cons h1 (cd_cons rfl cd_nil)))))))))) (fun h1 => (pl_node (fun h2 => (pl_leaf rfl (ctxOf_ok (lib1_nil _ _) (eq_none _)) (by kernel_rfl) Try.func24 rfl (bte_l4 a) rfl (all2_R (.cons rfl .nil)) rfl (cd_cons h0 (cd_cons (s2 h0 h1 h2) (cd_cons (s3 h0 h1 h2) (cd_cons (s2 h0 h1 h2) (cd_cons h1 (cd_cons h1 (cd_cons h1 (cd_cons h2 cd_nil)))))))))) (fun h2 => (pl_node (fun h3 => (pl_leaf rfl (ctxOf_ok (lib1_nil _ _) (eq_none _)) (by kernel_rfl) Try.func24 rfl (bte_l5 a) rfl (all2_R (.cons rfl .nil)) rfl (cd_cons h0 (cd_cons (s6 h0 h1 h2 h3) (cd_cons (s7 h0 h1 h2 h3) (cd_cons (s6 h0 h1 h2 h3) (cd_cons h1 (cd_cons h1 (cd_cons h1 (cd_cons h2 (cd_cons (s4 h0 h1 h2 h3) (cd_cons (s5 h0 h1 h2 h3) (cd_cons (s4 h0 h1 h2 h3) (cd_cons h3 (cd_cons h3 (cd_cons h3 (cd_cons rfl cd_nil))))))))))))))))) (fun h3 => (pl_node (fun h4 => (pl_leaf rfl (ctxOf_ok (lib1_nil _ _) (eq_none _)) (by kernel_rfl) Try.func24 rfl (bte_l6 a) rfl (all2_R (.cons rfl .nil)) rfl (cd_cons h0 (cd_cons (s10 h0 h1 h2 h3 h4) (cd_cons (s11 h0 h1 h2 h3 h4) (cd_cons (s10 h0 h1 h2 h3 h4) (cd_cons h1 (cd_cons h1 (cd_cons h1 (cd_cons h2 (cd_cons (s8 h0 h1 h2 h3 h4) (cd_cons (s9 h0 h1 h2 h3 h4) (cd_cons (s8 h0 h1 h2 h3 h4) (cd_cons h3 (cd_cons h3 (cd_cons h3 (cd_cons h4 cd_nil))))))))))))))))) (fun h4 => (pl_node (fun h5 => (pl_leaf rfl (ctxOf_ok (lib1_nil _ _) (eq_none _)) (by kernel_rfl) Try.func24 rfl (bte_l7 a) rfl (all2_R (.cons rfl .nil)) rfl (cd_cons h0 (cd_cons (s15 h0 h1 h2 h3 h4 h5) (cd_cons (s16 h0 h1 h2 h3 h4 h5) (cd_cons (s15 h0 h1 h2 h3 h4 h5) (cd_cons h1 (cd_cons h1 (cd_cons h1 (cd_cons h2 (cd_cons (s13 h0 h1 h2 h3 h4 h5) (cd_cons (s14 h0 h1 h2 h3 h4 h5) (cd_cons (s13 h0 h1 h2 h3 h4 h5) (cd_cons h3 (cd_cons h3 (cd_cons h3 (cd_cons h4 (cd_cons (s12 h0 h1 h2 h3 h4 h5) (cd_cons h5 cd_nil))))))))))))))))))) (fun h5 => (pl_leaf rfl (ctxOf_ok (lib1_nil _ _) (eq_none _)) (by kernel_rfl) Try.func24 rfl (bte_l8 a) rfl (all2_R (.cons rfl .nil)) rfl (cd_cons h0 (cd_cons (s20 h0 h1 h2 h3 h4 h5) (cd_cons (s21 h0 h1 h2 h3 h4 h5) (cd_cons (s20 h0 h1 h2 h3 h4 h5) (cd_cons h1 (cd_cons h1 (cd_cons h1 (cd_cons h2 (cd_cons (s18 h0 h1 h2 h3 h4 h5) (cd_cons (s19 h0 h1 h2 h3 h4 h5) (cd_cons (s18 h0 h1 h2 h3 h4 h5) (cd_cons h3 (cd_cons h3 (cd_cons h3 (cd_cons h4 (cd_cons (s17 h0 h1 h2 h3 h4 h5) (cd_cons h5 cd_nil))))))))))))))))))))))))))))))
theorem bte_pl (a : Bd)  : Pl Try.prog 24 [bV a] (.int .i64 (chkB a)) := by
  refine Eq.mp (congrArg (Pl _ _ _) ?_) (bte_t a (fun h0 h1 => by first | rfl | decide) (fun h0 h1 => by first | rfl | decide) (fun h0 h1 h2 => by first | rfl | decide) (fun h0 h1 h2 => by first | rfl | decide) (fun h0 h1 h2 h3 => by first | rfl | decide) (fun h0 h1 h2 h3 => by first | rfl | decide) (fun h0 h1 h2 h3 => by first | rfl | decide) (fun h0 h1 h2 h3 => by first | rfl | decide) (fun h0 h1 h2 h3 h4 => by first | rfl | decide) (fun h0 h1 h2 h3 h4 => by first | rfl | decide) (fun h0 h1 h2 h3 h4 => by first | rfl | decide) (fun h0 h1 h2 h3 h4 => by first | rfl | decide) (fun h0 h1 h2 h3 h4 h5 => by first | rfl | decide) (fun h0 h1 h2 h3 h4 h5 => by first | rfl | decide) (fun h0 h1 h2 h3 h4 h5 => by first | rfl | decide) (fun h0 h1 h2 h3 h4 h5 => by first | rfl | decide) (fun h0 h1 h2 h3 h4 h5 => by first | rfl | decide) (fun h0 h1 h2 h3 h4 h5 => by first | rfl | decide) (fun h0 h1 h2 h3 h4 h5 => by first | rfl | decide) (fun h0 h1 h2 h3 h4 h5 => by first | rfl | decide) (fun h0 h1 h2 h3 h4 h5 => by first | rfl | decide) (fun h0 h1 h2 h3 h4 h5 => by first | rfl | decide))
  obtain ⟨x, y, u⟩ := a
  have e1 : decide (-1152921504606846976 ≤ x) = !decide (x < -1152921504606846976) := by (by_cases h : x < -1152921504606846976 <;> simp [h] <;> omega)
  have e2 : decide (-1152921504606846976 ≤ y) = !decide (y < -1152921504606846976) := by (by_cases h : y < -1152921504606846976 <;> simp [h] <;> omega)
  have e3 : decide (x ≤ 1152921504606846976) = !decide (x > 1152921504606846976) := by (by_cases h : x > 1152921504606846976 <;> simp [h] <;> omega)
  have e4 : decide (y ≤ 1152921504606846976) = !decide (y > 1152921504606846976) := by (by_cases h : y > 1152921504606846976 <;> simp [h] <;> omega)
  simp only [chkB, inB, e1, e2, e3, e4]
  cases u
  · cases decide (x > 1152921504606846976) <;> cases decide (x < -1152921504606846976) <;> cases decide (y > 1152921504606846976) <;> cases decide (y < -1152921504606846976) <;> cases decide (y < x) <;> rfl
  · cases hx : (x == 0) with
    | false => cases (y == 0) <;> rfl
    | true =>
      cases hy : (y == 0) with
      | false => rfl
      | true =>
        obtain rfl : x = 0 := by simpa using hx
        obtain rfl : y = 0 := by simpa using hy
        rfl
theorem libR2_ok : LibOk Try.prog numI (lib1 libR2) := (lib1_cons nI_ok Try.call10 (lib1_cons nCmp_ok Try.call25 (lib1_cons nSmall_ok Try.call26 (lib1_nil _ _))))
theorem libR0_ok : LibOk Try.prog noFacts (lib1 libR0) := (lib1_cons (sp1_ok fun b _ => ⟨_, rfl, bte_pl b⟩) Try.call24 (lib1_nil _ _))
theorem bd_R {E : Env Nm} {x y : Int} {b : Bool} {u : Value} (h : AV.R E (.w (.agg [.int .i64 x, .int .i64 y, .yes b])) u) : AV.R E (bA ⟨x, y, b⟩) u := by
  obtain ⟨vs, rfl, h⟩ := h
  cases h with
  | cons r1 h => cases h with
    | cons r2 h => cases h with
      | cons r3 h =>
        cases h
        exact ⟨_, rfl, .cons r1 (.cons r2 (.cons r3 .nil))⟩
theorem sm_id {a : Int} (h1 : -9223372036854775808 ≤ a) (h2 : a ≤ 9223372036854775807) : smV a = a := if_pos ⟨h1, h2⟩
theorem cmp_lt' (a b : Int) : decide (cmpI a b < 0) = decide (a < b) := by
  unfold cmpI
  by_cases h : a < b
  · rw [if_pos h, decide_eq_true h]; rfl
  · rw [if_neg h, decide_eq_false h]
    split <;> rfl
theorem i_lo : i64B (-1152921504606846976) = true := by decide
theorem i_hi : i64B 1152921504606846976 = true := by decide
set_option maxRecDepth 100000 in
theorem bdt_1 (s : Bool) (x : Int) (k : Bool) (y : Int) : evR (ctxOf Try.prog numI (fun _ => false) libR2) Try.f6 [(.w (.agg [.bool s, .fv (.num x)])), (.w (.agg [.bool k, .fv (.num y)]))] [true] = some (AV.w (AW.agg [AC.int IntKind.i64 0, AC.int IntKind.i64 0, AC.yes true]), (pickL [(i64B (-1152921504606846976), true), (s == decide (x < 0), true), (decide (-1152921504606846976 < 0) == decide (-1152921504606846976 < 0), true), (szB x, true), (szB (-1152921504606846976), true), (decide (cmpI x (-1152921504606846976) < 0), true), (true, true)] [0, 1, 2, 3, 4, 5, 5, 5, 5, 5, 6, 6, 6, 6, 6, 6])) := by kernel_rfl
set_option maxRecDepth 100000 in
theorem bdt_01 (s : Bool) (x : Int) (k : Bool) (y : Int) : evR (ctxOf Try.prog numI (fun _ => false) libR2) Try.f6 [(.w (.agg [.bool s, .fv (.num x)])), (.w (.agg [.bool k, .fv (.num y)]))] [false, true] = some (AV.w (AW.agg [AC.int IntKind.i64 0, AC.int IntKind.i64 0, AC.yes true]), (pickL [(i64B (-1152921504606846976), true), (s == decide (x < 0), true), (decide (-1152921504606846976 < 0) == decide (-1152921504606846976 < 0), true), (szB x, true), (szB (-1152921504606846976), true), (decide (cmpI x (-1152921504606846976) < 0), false), (i64B 1152921504606846976, true), (k == decide (y < 0), true), (decide (1152921504606846976 < 0) == decide (1152921504606846976 < 0), true), (szB y, true), (szB 1152921504606846976, true), (decide (cmpI y 1152921504606846976 > 0), true), (true, true)] [0, 1, 2, 3, 4, 5, 5, 6, 5, 7, 8, 9, 10, 5, 5, 11, 11, 11, 11, 11, 12])) := by kernel_rfl
set_option maxRecDepth 100000 in
theorem bdt_001 (s : Bool) (x : Int) (k : Bool) (y : Int) : evR (ctxOf Try.prog numI (fun _ => false) libR2) Try.f6 [(.w (.agg [.bool s, .fv (.num x)])), (.w (.agg [.bool k, .fv (.num y)]))] [false, false, true] = some (AV.w (AW.agg [AC.int IntKind.i64 0, AC.int IntKind.i64 0, AC.yes true]), (pickL [(i64B (-1152921504606846976), true), (s == decide (x < 0), true), (decide (-1152921504606846976 < 0) == decide (-1152921504606846976 < 0), true), (szB x, true), (szB (-1152921504606846976), true), (decide (cmpI x (-1152921504606846976) < 0), false), (i64B 1152921504606846976, true), (k == decide (y < 0), true), (decide (1152921504606846976 < 0) == decide (1152921504606846976 < 0), true), (szB y, true), (szB 1152921504606846976, true), (decide (cmpI y 1152921504606846976 > 0), false), (decide (cmpI x y > 0), true)] [0, 1, 2, 3, 4, 5, 5, 6, 5, 7, 8, 9, 10, 5, 5, 11, 11, 11, 1, 7, 3, 9, 11, 11, 12])) := by kernel_rfl
set_option maxRecDepth 100000 in
theorem bdt_000 (s : Bool) (x : Int) (k : Bool) (y : Int) : evR (ctxOf Try.prog numI (fun _ => false) libR2) Try.f6 [(.w (.agg [.bool s, .fv (.num x)])), (.w (.agg [.bool k, .fv (.num y)]))] [false, false, false] = some (AV.w (AW.agg [AC.int IntKind.i64 (smV x), AC.int IntKind.i64 (smV y), AC.yes false]), (pickL [(i64B (-1152921504606846976), true), (s == decide (x < 0), true), (decide (-1152921504606846976 < 0) == decide (-1152921504606846976 < 0), true), (szB x, true), (szB (-1152921504606846976), true), (decide (cmpI x (-1152921504606846976) < 0), false), (i64B 1152921504606846976, true), (k == decide (y < 0), true), (decide (1152921504606846976 < 0) == decide (1152921504606846976 < 0), true), (szB y, true), (szB 1152921504606846976, true), (decide (cmpI y 1152921504606846976 > 0), false), (decide (cmpI x y > 0), false)] [0, 1, 2, 3, 4, 5, 5, 6, 5, 7, 8, 9, 10, 5, 5, 11, 11, 11, 1, 7, 3, 9, 11, 11, 12, 1, 3, 7, 9])) := by kernel_rfl
set_option maxRecDepth 100000 in
theorem bdz_1 (k : Bool) (y : Int) : evR (ctxOf Try.prog numI (fun _ => false) libR2) Try.f6 [(.w (.agg [.yes false, .lit (.slice none 0 0)])), (.w (.agg [.bool k, .fv (.num y)]))] [true] = some (AV.w (AW.agg [AC.int IntKind.i64 0, AC.int IntKind.i64 0, AC.yes true]), (pickL [(i64B (-1152921504606846976), true), (decide (-1152921504606846976 < 0) == decide (-1152921504606846976 < 0), true), (szB 0, true), (szB (-1152921504606846976), true), (decide (cmpI 0 (-1152921504606846976) < 0), true), (true, true)] [0, 1, 2, 3, 4, 4, 4, 4, 4, 5, 5, 5, 5, 5, 5])) := by kernel_rfl
set_option maxRecDepth 100000 in
theorem bdz_01 (k : Bool) (y : Int) : evR (ctxOf Try.prog numI (fun _ => false) libR2) Try.f6 [(.w (.agg [.yes false, .lit (.slice none 0 0)])), (.w (.agg [.bool k, .fv (.num y)]))] [false, true] = some (AV.w (AW.agg [AC.int IntKind.i64 0, AC.int IntKind.i64 0, AC.yes true]), (pickL [(i64B (-1152921504606846976), true), (decide (-1152921504606846976 < 0) == decide (-1152921504606846976 < 0), true), (szB 0, true), (szB (-1152921504606846976), true), (decide (cmpI 0 (-1152921504606846976) < 0), false), (i64B 1152921504606846976, true), (k == decide (y < 0), true), (decide (1152921504606846976 < 0) == decide (1152921504606846976 < 0), true), (szB y, true), (szB 1152921504606846976, true), (decide (cmpI y 1152921504606846976 > 0), true), (true, true)] [0, 1, 2, 3, 4, 4, 5, 4, 6, 7, 8, 9, 4, 4, 10, 10, 10, 10, 10, 11])) := by kernel_rfl
set_option maxRecDepth 100000 in
theorem bdz_001 (k : Bool) (y : Int) : evR (ctxOf Try.prog numI (fun _ => false) libR2) Try.f6 [(.w (.agg [.yes false, .lit (.slice none 0 0)])), (.w (.agg [.bool k, .fv (.num y)]))] [false, false, true] = some (AV.w (AW.agg [AC.int IntKind.i64 0, AC.int IntKind.i64 0, AC.yes true]), (pickL [(i64B (-1152921504606846976), true), (decide (-1152921504606846976 < 0) == decide (-1152921504606846976 < 0), true), (szB 0, true), (szB (-1152921504606846976), true), (decide (cmpI 0 (-1152921504606846976) < 0), false), (i64B 1152921504606846976, true), (k == decide (y < 0), true), (decide (1152921504606846976 < 0) == decide (1152921504606846976 < 0), true), (szB y, true), (szB 1152921504606846976, true), (decide (cmpI y 1152921504606846976 > 0), false), (decide (cmpI 0 y > 0), true)] [0, 1, 2, 3, 4, 4, 5, 4, 6, 7, 8, 9, 4, 4, 10, 10, 10, 6, 2, 8, 10, 10, 11])) := by kernel_rfl
set_option maxRecDepth 100000 in
theorem bdz_000 (k : Bool) (y : Int) : evR (ctxOf Try.prog numI (fun _ => false) libR2) Try.f6 [(.w (.agg [.yes false, .lit (.slice none 0 0)])), (.w (.agg [.bool k, .fv (.num y)]))] [false, false, false] = some (AV.w (AW.agg [AC.int IntKind.i64 (smV 0), AC.int IntKind.i64 (smV y), AC.yes false]), (pickL [(i64B (-1152921504606846976), true), (decide (-1152921504606846976 < 0) == decide (-1152921504606846976 < 0), true), (szB 0, true), (szB (-1152921504606846976), true), (decide (cmpI 0 (-1152921504606846976) < 0), false), (i64B 1152921504606846976, true), (k == decide (y < 0), true), (decide (1152921504606846976 < 0) == decide (1152921504606846976 < 0), true), (szB y, true), (szB 1152921504606846976, true), (decide (cmpI y 1152921504606846976 > 0), false), (decide (cmpI 0 y > 0), false)] [0, 1, 2, 3, 4, 4, 5, 4, 6, 7, 8, 9, 4, 4, 10, 10, 10, 6, 2, 8, 10, 10, 11, 2, 6, 8])) := by kernel_rfl
theorem bdt_ok : (factSp gBd).ok Try.prog numI 6 :=
  factR_ok (ctxOf_ok libR2_ok (eq_none _)) (by kernel_rfl) Try.func6 rfl lps_nil fun args v cd hg hc => by
    unfold gBd at hg
    split at hg
    · rename_i s x k y
      cases hg
      have h1 : (s == decide (x < 0)) = true := hc (s == decide (x < 0), true) (by simp)
      have h2 : (k == decide (y < 0)) = true := hc (k == decide (y < 0), true) (by simp)
      have h3 : szB x = true := hc (szB x, true) (by simp)
      have h4 : szB y = true := hc (szB y, true) (by simp)
      by_cases g1 : x < -1152921504606846976
      · have c1 : decide (cmpI x (-1152921504606846976) < 0) = true := by rw [cmp_lt']; exact decide_eq_true g1
        refine ⟨rfl, rfl, rfl, [true], _, _, bdt_1 s x k y, fun E u hu => by rw [ofB_out (x := x) (y := y) (by omega)]; exact bd_R (x := 0) (y := 0) (b := true) hu, pickL_ok ?_ _⟩
        repeat' (first | exact cd_nil | refine cd_cons ?_ ?_)
        all_goals first | rfl | with_reducible assumption | exact eqB _ | exact i_lo | exact i_hi | exact (Dl.i64 i_lo).sz (by omega) | exact (Dl.i64 i_hi).sz (by omega)
      have c1 : decide (cmpI x (-1152921504606846976) < 0) = false := by rw [cmp_lt']; exact decide_eq_false g1
      by_cases g2 : 1152921504606846976 < y
      · have c2 : decide (cmpI y 1152921504606846976 > 0) = true := by rw [cmp_gt]; exact decide_eq_true g2
        refine ⟨rfl, rfl, rfl, [false, true], _, _, bdt_01 s x k y, fun E u hu => by rw [ofB_out (x := x) (y := y) (by omega)]; exact bd_R (x := 0) (y := 0) (b := true) hu, pickL_ok ?_ _⟩
        repeat' (first | exact cd_nil | refine cd_cons ?_ ?_)
        all_goals first | rfl | with_reducible assumption | exact eqB _ | exact i_lo | exact i_hi | exact (Dl.i64 i_lo).sz (by omega) | exact (Dl.i64 i_hi).sz (by omega)
      have c2 : decide (cmpI y 1152921504606846976 > 0) = false := by rw [cmp_gt]; exact decide_eq_false g2
      by_cases g3 : y < x
      · have c3 : decide (cmpI x y > 0) = true := by rw [cmp_gt]; exact decide_eq_true g3
        refine ⟨rfl, rfl, rfl, [false, false, true], _, _, bdt_001 s x k y, fun E u hu => by rw [ofB_out (x := x) (y := y) (by omega)]; exact bd_R (x := 0) (y := 0) (b := true) hu, pickL_ok ?_ _⟩
        repeat' (first | exact cd_nil | refine cd_cons ?_ ?_)
        all_goals first | rfl | with_reducible assumption | exact eqB _ | exact i_lo | exact i_hi | exact (Dl.i64 i_lo).sz (by omega) | exact (Dl.i64 i_hi).sz (by omega)
      have c3 : decide (cmpI x y > 0) = false := by rw [cmp_gt]; exact decide_eq_false g3
      refine ⟨rfl, rfl, rfl, [false, false, false], _, _, bdt_000 s x k y, fun E u hu => by rw [ofB_in (x := x) (y := y) (by omega) (by omega) (by omega)]; rw [sm_id (a := x) (by omega) (by omega), sm_id (a := y) (by omega) (by omega)] at hu; exact bd_R (x := x) (y := y) (b := false) hu, pickL_ok ?_ _⟩
      repeat' (first | exact cd_nil | refine cd_cons ?_ ?_)
      all_goals first | rfl | with_reducible assumption | exact eqB _ | exact i_lo | exact i_hi | exact (Dl.i64 i_lo).sz (by omega) | exact (Dl.i64 i_hi).sz (by omega)
    · rename_i k y
      cases hg
      have h2 : (k == decide (y < 0)) = true := hc (k == decide (y < 0), true) (by simp)
      have h4 : szB y = true := hc (szB y, true) (by simp)
      have h3 : szB 0 = true := (Dl.i64 (show i64B 0 = true by decide)).sz (by omega)
      have c1 : decide (cmpI 0 (-1152921504606846976) < 0) = false := by decide
      by_cases g2 : 1152921504606846976 < y
      · have c2 : decide (cmpI y 1152921504606846976 > 0) = true := by rw [cmp_gt]; exact decide_eq_true g2
        refine ⟨rfl, rfl, rfl, [false, true], _, _, bdz_01 k y, fun E u hu => by rw [ofB_out (x := 0) (y := y) (by omega)]; exact bd_R (x := 0) (y := 0) (b := true) hu, pickL_ok ?_ _⟩
        repeat' (first | exact cd_nil | refine cd_cons ?_ ?_)
        all_goals first | rfl | with_reducible assumption | exact eqB _ | exact i_lo | exact i_hi | exact (Dl.i64 i_lo).sz (by omega) | exact (Dl.i64 i_hi).sz (by omega)
      have c2 : decide (cmpI y 1152921504606846976 > 0) = false := by rw [cmp_gt]; exact decide_eq_false g2
      by_cases g3 : y < 0
      · have c3 : decide (cmpI 0 y > 0) = true := by rw [cmp_gt]; exact decide_eq_true g3
        refine ⟨rfl, rfl, rfl, [false, false, true], _, _, bdz_001 k y, fun E u hu => by rw [ofB_out (x := 0) (y := y) (by omega)]; exact bd_R (x := 0) (y := 0) (b := true) hu, pickL_ok ?_ _⟩
        repeat' (first | exact cd_nil | refine cd_cons ?_ ?_)
        all_goals first | rfl | with_reducible assumption | exact eqB _ | exact i_lo | exact i_hi | exact (Dl.i64 i_lo).sz (by omega) | exact (Dl.i64 i_hi).sz (by omega)
      have c3 : decide (cmpI 0 y > 0) = false := by rw [cmp_gt]; exact decide_eq_false g3
      refine ⟨rfl, rfl, rfl, [false, false, false], _, _, bdz_000 k y, fun E u hu => by rw [ofB_in (x := 0) (y := y) (by omega) (by omega) (by omega)]; rw [sm_id (a := 0) (by omega) (by omega), sm_id (a := y) (by omega) (by omega)] at hu; exact bd_R (x := 0) (y := y) (b := false) hu, pickL_ok ?_ _⟩
      repeat' (first | exact cd_nil | refine cd_cons ?_ ?_)
      all_goals first | rfl | with_reducible assumption | exact eqB _ | exact i_lo | exact i_hi | exact (Dl.i64 i_lo).sz (by omega) | exact (Dl.i64 i_hi).sz (by omega)
    · cases hg
/-! ### The fact -/
theorem eqB1_ok : EqOk Try.prog (tabOf Try.prog) eqB1 := eq_of fun t ht => by
  have := Nat.eq_of_beq_eq_true (show Nat.beq t 24 = true from ht)
  subst this
  exact ⟨by kernel_rfl, by kernel_rfl, by kernel_rfl⟩
theorem fuse_fact : Fs.fuseB [[8, 12, 0], [11, 13, 0], [14, 15, 0]] 1 = ⟨11, 12, false⟩ := by
  have ek : Fs.knsOf [[8, 12, 0], [11, 13, 0], [14, 15, 0]] = [⟨8, 12, false⟩, ⟨11, 13, false⟩, ⟨14, 15, false⟩] := by rfl
  have v8 : Fs.vt [⟨8, 12, false⟩, ⟨11, 13, false⟩, ⟨14, 15, false⟩] 8 = 1 := by rfl
  have v11 : Fs.vt [⟨8, 12, false⟩, ⟨11, 13, false⟩, ⟨14, 15, false⟩] 11 = 2 := by rfl
  have v12 : Fs.vt [⟨8, 12, false⟩, ⟨11, 13, false⟩, ⟨14, 15, false⟩] 12 = 2 := by rfl
  have v13 : Fs.vt [⟨8, 12, false⟩, ⟨11, 13, false⟩, ⟨14, 15, false⟩] 13 = 1 := by rfl
  have v15 : Fs.vt [⟨8, 12, false⟩, ⟨11, 13, false⟩, ⟨14, 15, false⟩] 15 = 1 := by rfl
  have h := Fs.fuse_spec [[8, 12, 0], [11, 13, 0], [14, 15, 0]] (f := 1) (by omega) (by rw [ek]; decide)
  rw [ek] at h
  rcases h with ⟨lo, hi, e, _, ⟨b, hb, rfl⟩, ⟨c, hc, rfl⟩, h1, h2, h3⟩ | ⟨_, h⟩
  · rw [e]
    have g1 := h3 11 (by rw [v11]; decide)
    have g2 := h3 12 (by rw [v12]; decide)
    simp only [List.length_cons, List.length_nil] at h1 h2
    simp only [List.mem_cons, List.not_mem_nil, or_false] at hb hc
    rcases hb with rfl | rfl | rfl <;> rcases hc with rfl | rfl | rfl <;> simp only at g1 g2 h1 h2 ⊢ <;> first | omega | (rw [v8] at h1; omega) | (rw [v13] at h2; omega) | (rw [v15] at h2; omega)
  · have := h 11
    rw [v11] at this
    simp at this
theorem libR3_ok : LibOk Try.prog noFacts (lib1 libR3) := (lib1_cons (sp3_ok fun a b n hc => ⟨_, rfl, mul_pl a b n (hc (i64B n, true) (by simp))⟩) Try.call21 (lib1_cons (Fs.fuseSp_ok fun q => nomatch q) Try.call32 (lib1_nil _ _)))
set_option maxRecDepth 100000 in
theorem bfa_l0  : evR (ctxOf Try.prog noFacts eqB1 libR3) Try.f13 [] [true] = some (AV.w (AW.one (AC.bool ((Fs.fuseB [[8, 12, bif false then 1 else 0], [11, 13, bif false then 1 else 0], [14, 15, bif false then 1 else 0]] 1).lo == 11 && ((Fs.fuseB [[8, 12, bif false then 1 else 0], [11, 13, bif false then 1 else 0], [14, 15, bif false then 1 else 0]] 1).hi == 12 && ((Fs.fuseB [[8, 12, bif false then 1 else 0], [11, 13, bif false then 1 else 0], [14, 15, bif false then 1 else 0]] 1).u == false && true))))), [(i64B 2, true), ((mulB { lo := -3, hi := 2, u := false } { lo := 5, hi := 7, u := false } 2).lo == -11 && ((mulB { lo := -3, hi := 2, u := false } { lo := 5, hi := 7, u := false } 2).hi == 7 && ((mulB { lo := -3, hi := 2, u := false } { lo := 5, hi := 7, u := false } 2).u == false && true)), true), ((mulB { lo := -3, hi := 2, u := false } { lo := 5, hi := 7, u := false } 2).lo == -11 && ((mulB { lo := -3, hi := 2, u := false } { lo := 5, hi := 7, u := false } 2).hi == 7 && ((mulB { lo := -3, hi := 2, u := false } { lo := 5, hi := 7, u := false } 2).u == false && true)), true), (decide ([[8, 12, bif false then 1 else 0], [11, 13, bif false then 1 else 0], [14, 15, bif false then 1 else 0]].length ≤ 34359738368), true), ((mulB { lo := -3, hi := 2, u := false } { lo := 5, hi := 7, u := false } 2).lo == -11 && ((mulB { lo := -3, hi := 2, u := false } { lo := 5, hi := 7, u := false } 2).hi == 7 && ((mulB { lo := -3, hi := 2, u := false } { lo := 5, hi := 7, u := false } 2).u == false && true)), true), ((mulB { lo := -3, hi := 2, u := false } { lo := 5, hi := 7, u := false } 2).lo == -11 && ((mulB { lo := -3, hi := 2, u := false } { lo := 5, hi := 7, u := false } 2).hi == 7 && ((mulB { lo := -3, hi := 2, u := false } { lo := 5, hi := 7, u := false } 2).u == false && true)), true), ((mulB { lo := -3, hi := 2, u := false } { lo := 5, hi := 7, u := false } 2).lo == -11 && ((mulB { lo := -3, hi := 2, u := false } { lo := 5, hi := 7, u := false } 2).hi == 7 && ((mulB { lo := -3, hi := 2, u := false } { lo := 5, hi := 7, u := false } 2).u == false && true)), true)]) := by kernel_rfl
set_option maxRecDepth 100000 in
theorem bfa_l1  : evR (ctxOf Try.prog noFacts eqB1 libR3) Try.f13 [] [false] = some (AV.w (AW.one (AC.yes false)), [(i64B 2, true), ((mulB { lo := -3, hi := 2, u := false } { lo := 5, hi := 7, u := false } 2).lo == -11 && ((mulB { lo := -3, hi := 2, u := false } { lo := 5, hi := 7, u := false } 2).hi == 7 && ((mulB { lo := -3, hi := 2, u := false } { lo := 5, hi := 7, u := false } 2).u == false && true)), false), ((mulB { lo := -3, hi := 2, u := false } { lo := 5, hi := 7, u := false } 2).lo == -11 && ((mulB { lo := -3, hi := 2, u := false } { lo := 5, hi := 7, u := false } 2).hi == 7 && ((mulB { lo := -3, hi := 2, u := false } { lo := 5, hi := 7, u := false } 2).u == false && true)), false), ((mulB { lo := -3, hi := 2, u := false } { lo := 5, hi := 7, u := false } 2).lo == -11 && ((mulB { lo := -3, hi := 2, u := false } { lo := 5, hi := 7, u := false } 2).hi == 7 && ((mulB { lo := -3, hi := 2, u := false } { lo := 5, hi := 7, u := false } 2).u == false && true)), false), ((mulB { lo := -3, hi := 2, u := false } { lo := 5, hi := 7, u := false } 2).lo == -11 && ((mulB { lo := -3, hi := 2, u := false } { lo := 5, hi := 7, u := false } 2).hi == 7 && ((mulB { lo := -3, hi := 2, u := false } { lo := 5, hi := 7, u := false } 2).u == false && true)), false), ((mulB { lo := -3, hi := 2, u := false } { lo := 5, hi := 7, u := false } 2).lo == -11 && ((mulB { lo := -3, hi := 2, u := false } { lo := 5, hi := 7, u := false } 2).hi == 7 && ((mulB { lo := -3, hi := 2, u := false } { lo := 5, hi := 7, u := false } 2).u == false && true)), false)]) := by kernel_rfl
set_option maxRecDepth 100000 in
theorem bfa_t  (s0 : ((mulB { lo := -3, hi := 2, u := false } { lo := 5, hi := 7, u := false } 2).lo == -11 && ((mulB { lo := -3, hi := 2, u := false } { lo := 5, hi := 7, u := false } 2).hi == 7 && ((mulB { lo := -3, hi := 2, u := false } { lo := 5, hi := 7, u := false } 2).u == false && true))) = true → (decide ([[8, 12, bif false then 1 else 0], [11, 13, bif false then 1 else 0], [14, 15, bif false then 1 else 0]].length ≤ 34359738368)) = true) (s1 : ((mulB { lo := -3, hi := 2, u := false } { lo := 5, hi := 7, u := false } 2).lo == -11 && ((mulB { lo := -3, hi := 2, u := false } { lo := 5, hi := 7, u := false } 2).hi == 7 && ((mulB { lo := -3, hi := 2, u := false } { lo := 5, hi := 7, u := false } 2).u == false && true))) = true → (i64B 2) = true) (s2 : ((mulB { lo := -3, hi := 2, u := false } { lo := 5, hi := 7, u := false } 2).lo == -11 && ((mulB { lo := -3, hi := 2, u := false } { lo := 5, hi := 7, u := false } 2).hi == 7 && ((mulB { lo := -3, hi := 2, u := false } { lo := 5, hi := 7, u := false } 2).u == false && true))) = false → (i64B 2) = true) : Pl Try.prog 13 [] (AV.get ((bif (mulB { lo := -3, hi := 2, u := false } { lo := 5, hi := 7, u := false } 2).lo == -11 && ((mulB { lo := -3, hi := 2, u := false } { lo := 5, hi := 7, u := false } 2).hi == 7 && ((mulB { lo := -3, hi := 2, u := false } { lo := 5, hi := 7, u := false } 2).u == false && true)) then (AV.w (AW.one (AC.bool ((Fs.fuseB [[8, 12, bif false then 1 else 0], [11, 13, bif false then 1 else 0], [14, 15, bif false then 1 else 0]] 1).lo == 11 && ((Fs.fuseB [[8, 12, bif false then 1 else 0], [11, 13, bif false then 1 else 0], [14, 15, bif false then 1 else 0]] 1).hi == 12 && ((Fs.fuseB [[8, 12, bif false then 1 else 0], [11, 13, bif false then 1 else 0], [14, 15, bif false then 1 else 0]] 1).u == false && true)))))) else (AV.w (AW.one (AC.yes false)))) : AV Empty)) :=
  (pl_node (fun h0 => (pl_leaf rfl (ctxOf_ok libR3_ok eqB1_ok) (by kernel_rfl) Try.func13 rfl (bfa_l0) rfl (all2_R .nil) rfl (cd_cons (s1 h0) (cd_cons h0 (cd_cons h0 (cd_cons (s0 h0) (cd_cons h0 (cd_cons h0 (cd_cons h0 cd_nil))))))))) (fun h0 => (pl_leaf rfl (ctxOf_ok libR3_ok eqB1_ok) (by kernel_rfl) Try.func13 rfl (bfa_l1) rfl (all2_R .nil) rfl (cd_cons (s2 h0) (cd_cons h0 (cd_cons h0 (cd_cons h0 (cd_cons h0 (cd_cons h0 cd_nil)))))))))
theorem bounds_pl   : Pl Try.prog 13 [] (.bool true) := by
  refine Eq.mp (congrArg (Pl _ _ _) ?_) (bfa_t  (fun h0 => by first | rfl | decide) (fun h0 => by first | rfl | decide) (fun h0 => by first | rfl | decide))
  rw [show Fs.fuseB [[8, 12, bif false then 1 else 0], [11, 13, bif false then 1 else 0], [14, 15, bif false then 1 else 0]] 1 = ⟨11, 12, false⟩ from fuse_fact]; kernel_rfl
end
end Go.Proofs.Ytfhidjldmopbgaa.AtBr

