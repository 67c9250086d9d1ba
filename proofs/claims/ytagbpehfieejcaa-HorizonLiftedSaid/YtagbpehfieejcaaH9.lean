/-
  The walk of spykeep1.HorizonLifted: it returns true.
  Conditions: none.
-/
import Derived.Test.YtagbpehfieejcaaHL
import Derived.Test.YtagbpehfieejcaaHF
import Derived.Test.YtagbpehfieejcaaSF
set_option linter.unusedVariables false
set_option linter.unusedSimpArgs false
namespace Go.Proofs.Ytagbpehfieejcaa.AtHz
open Go.RowKit Ev Wd
open Go.Proofs.Ytagbpehfieejcaa
noncomputable section

def nlH (ty : TypeId) : Option Fct := bif Nat.beq ty 60 then some (.tab [some .i64, some .i64, some .i64, none] []) else none
theorem nlH_ok (B : Nat) : ∀ t g D w, nlH t = some g → (fctI B).hv g D w (.slice none 0 0) := fun t g D w h => by
  unfold nlH at h
  cases ht : Nat.beq t 60 with
  | false => rw [ht] at h; cases h
  | true => rw [ht] at h; cases h; exact nil_tab _ _ _
def benI (B : Nat) : Interp Fct := (fctI B).rows nlH (nlH_ok B)
noncomputable abbrev libL1 : List (Nat × FnSp Fct) := [(52, sp0 (aBool true)), (37, nextS), (38, rangeS), (53, bndS), (54, withS), (34, yesSp (factSp (liftG cvF inF [some .i64, some .i64, some .i64, none] gRf))), (50, sp1 (dInt .i64) (fun x => bC' (ofB x x)) (fun _ => [])), (56, sp2 dBd dBd (fun a b => bC' (addB a b)) (fun _ _ => [])), (55, sp2 dBd dBd (fun a b => aBool (insB a b)) (fun _ _ => []))]
theorem libL1_ok (B : Nat) : LibOk Try.prog (benI B) (lib1 libL1) := by
  have h : LibOk Try.prog (fctI B) (lib1 libL1) := (lib1_cons (sp0_ok rfl hfa_pl) Try.call52 (lib1_cons (nextS_ok B) Try.call37 (lib1_cons (rangeS_ok B) Try.call38 (lib1_cons (bndS_ok B) Try.call53 (lib1_cons (withS_ok B) Try.call54 (lib1_cons (yesSp_ok (liftF_ok gRf_ok)) Try.call34 (lib1_cons (sp1_ok fun x _ => ⟨_, rfl, AtArc.exact_pl x⟩) Try.call50 (lib1_cons (sp2_ok fun a b _ => ⟨_, rfl, AtArc.add_pl a b⟩) Try.call56 (lib1_cons (sp2_ok fun a b _ => ⟨_, rfl, AtArc.inside_pl a b⟩) Try.call55 (lib1_nil _ _))))))))))
  exact h.rows
theorem eqR_ok : EqOk Try.prog (tabOf Try.prog) (fun t => Nat.beq t 62) := eq_of fun t ht => by
  have := Nat.eq_of_beq_eq_true ht
  subst this
  exact ⟨by kernel_rfl, by kernel_rfl, by kernel_rfl⟩
set_option maxRecDepth 100000 in
theorem hl_2 (B : Nat) (l : List Int) : evL (ctxOf Try.prog (benI B) (fun t => Nat.beq t 62) libL1) Try.f9 l [] [true, true, false, true, true] = some (AV.w (AW.one (AC.bool ((rfV (ltT l 2) (ofB (cel (ltT l 2) 1 0) (cel (ltT l 2) 1 0))).lo == (addB { lo := cel (ltT l 2) 1 1, hi := cel (ltT l 2) 1 2, u := decide (cel (ltT l 2) 1 3 = 1) } (ofB (cel (ltT l 2) 1 0) (cel (ltT l 2) 1 0))).lo && ((rfV (ltT l 2) (ofB (cel (ltT l 2) 1 0) (cel (ltT l 2) 1 0))).hi == (addB { lo := cel (ltT l 2) 1 1, hi := cel (ltT l 2) 1 2, u := decide (cel (ltT l 2) 1 3 = 1) } (ofB (cel (ltT l 2) 1 0) (cel (ltT l 2) 1 0))).hi && ((rfV (ltT l 2) (ofB (cel (ltT l 2) 1 0) (cel (ltT l 2) 1 0))).u == (addB { lo := cel (ltT l 2) 1 1, hi := cel (ltT l 2) 1 2, u := decide (cel (ltT l 2) 1 3 = 1) } (ofB (cel (ltT l 2) 1 0) (cel (ltT l 2) 1 0))).u && true))))), (pickL [(decide (0 < -1000), false), (rB (-1000), true), (rB 0, true), (listB l, true), (atB 0, true), (decide (8 < 2), false), (rB 2, true), (rB 8, true), (atB (0 + 1), true), (decide (0 < rangeV l (0 + 1) 2 8), true), (decide (0 ≤ 500), true), (inB 500, true), (atB (ltP l 0 + 5), true), (atB (ltP l 0), true), (decide ((0 : Int) = 0), true), (decide ((0 + 1 : Int) ≤ 34359738368), true), (decide (400 < 1), false), (rB 1, true), (rB 400, true), (atB (bndA l (ltP l 0)), true), (decide (IntKind.i64.wrap (0 + 1) < rangeV l (0 + 1) 2 8), true), (atB (ltP l 1 + 5), true), (atB (ltP l 1), true), (decide ((0 + 1 : Int) = 0 + 1), true), (decide ((0 + 1 + 1 : Int) ≤ 34359738368), true), (atB (bndA l (ltP l 1)), true), (decide (IntKind.i64.wrap (IntKind.i64.wrap (0 + 1) + 1) < rangeV l (0 + 1) 2 8), false), (decide (1500 < -1000), false), (rB 1500, true), (atB (ltP l 2), true), (i64B 500, true), (atB (ltP l 2 + 1), true), (mkB { lo := rangeV l (ltP l 2) (-1000) 1500, hi := IntKind.i64.wrap (rangeV l (ltP l 2) (-1000) 1500 + nextV l (ltP l 2 + 1) 500), u := false }, true), (atB (ltP l 2 + 1 + 1 + 9), true), (atB (ltP l 2 + 1 + 1), true), (decide (0 ≤ 1), true), (decide (1 < lenT (ltT l 2)), true), (true, true), (insB (rfV (ltT l 2) (withV l (ltP l 2 + 1 + 1) { lo := rangeV l (ltP l 2) (-1000) 1500, hi := IntKind.i64.wrap (rangeV l (ltP l 2) (-1000) 1500 + nextV l (ltP l 2 + 1) 500), u := false })) (rfV (ltT l 2) { lo := rangeV l (ltP l 2) (-1000) 1500, hi := IntKind.i64.wrap (rangeV l (ltP l 2) (-1000) 1500 + nextV l (ltP l 2 + 1) 500), u := false }), true)] [0, 1, 2, 3, 4, 5, 6, 7, 3, 8, 9, 10, 11, 12, 3, 13, 14, 15, 16, 17, 18, 3, 19, 20, 10, 11, 21, 3, 22, 23, 24, 16, 17, 18, 3, 25, 26, 27, 1, 28, 3, 29, 30, 3, 31, 32, 33, 3, 34, 35, 36, 35, 36, 37, 37, 37, 37, 37, 37, 37, 37, 38, 38, 38, 35, 36, 38, 38, 35, 36, 38, 38, 35, 36, 38, 38, 35, 36, 38, 38, 38, 38])) := by kernel_rfl
set_option maxRecDepth 100000 in
theorem hl_3 (B : Nat) (l : List Int) : evL (ctxOf Try.prog (benI B) (fun t => Nat.beq t 62) libL1) Try.f9 l [] [true, true, true, false, true, true] = some (AV.w (AW.one (AC.bool ((rfV (ltT l 3) (ofB (cel (ltT l 3) 1 0) (cel (ltT l 3) 1 0))).lo == (addB { lo := cel (ltT l 3) 1 1, hi := cel (ltT l 3) 1 2, u := decide (cel (ltT l 3) 1 3 = 1) } (ofB (cel (ltT l 3) 1 0) (cel (ltT l 3) 1 0))).lo && ((rfV (ltT l 3) (ofB (cel (ltT l 3) 1 0) (cel (ltT l 3) 1 0))).hi == (addB { lo := cel (ltT l 3) 1 1, hi := cel (ltT l 3) 1 2, u := decide (cel (ltT l 3) 1 3 = 1) } (ofB (cel (ltT l 3) 1 0) (cel (ltT l 3) 1 0))).hi && ((rfV (ltT l 3) (ofB (cel (ltT l 3) 1 0) (cel (ltT l 3) 1 0))).u == (addB { lo := cel (ltT l 3) 1 1, hi := cel (ltT l 3) 1 2, u := decide (cel (ltT l 3) 1 3 = 1) } (ofB (cel (ltT l 3) 1 0) (cel (ltT l 3) 1 0))).u && true))))), (pickL [(decide (0 < -1000), false), (rB (-1000), true), (rB 0, true), (listB l, true), (atB 0, true), (decide (8 < 2), false), (rB 2, true), (rB 8, true), (atB (0 + 1), true), (decide (0 < rangeV l (0 + 1) 2 8), true), (decide (0 ≤ 500), true), (inB 500, true), (atB (ltP l 0 + 5), true), (atB (ltP l 0), true), (decide ((0 : Int) = 0), true), (decide ((0 + 1 : Int) ≤ 34359738368), true), (decide (400 < 1), false), (rB 1, true), (rB 400, true), (atB (bndA l (ltP l 0)), true), (decide (IntKind.i64.wrap (0 + 1) < rangeV l (0 + 1) 2 8), true), (atB (ltP l 1 + 5), true), (atB (ltP l 1), true), (decide ((0 + 1 : Int) = 0 + 1), true), (decide ((0 + 1 + 1 : Int) ≤ 34359738368), true), (atB (bndA l (ltP l 1)), true), (decide (IntKind.i64.wrap (IntKind.i64.wrap (0 + 1) + 1) < rangeV l (0 + 1) 2 8), true), (atB (ltP l 2 + 5), true), (atB (ltP l 2), true), (decide ((0 + 1 + 1 : Int) = 0 + 1 + 1), true), (decide ((0 + 1 + 1 + 1 : Int) ≤ 34359738368), true), (atB (bndA l (ltP l 2)), true), (decide (IntKind.i64.wrap (IntKind.i64.wrap (IntKind.i64.wrap (0 + 1) + 1) + 1) < rangeV l (0 + 1) 2 8), false), (decide (1500 < -1000), false), (rB 1500, true), (atB (ltP l 3), true), (i64B 500, true), (atB (ltP l 3 + 1), true), (mkB { lo := rangeV l (ltP l 3) (-1000) 1500, hi := IntKind.i64.wrap (rangeV l (ltP l 3) (-1000) 1500 + nextV l (ltP l 3 + 1) 500), u := false }, true), (atB (ltP l 3 + 1 + 1 + 9), true), (atB (ltP l 3 + 1 + 1), true), (decide (0 ≤ 1), true), (decide (1 < lenT (ltT l 3)), true), (true, true), (insB (rfV (ltT l 3) (withV l (ltP l 3 + 1 + 1) { lo := rangeV l (ltP l 3) (-1000) 1500, hi := IntKind.i64.wrap (rangeV l (ltP l 3) (-1000) 1500 + nextV l (ltP l 3 + 1) 500), u := false })) (rfV (ltT l 3) { lo := rangeV l (ltP l 3) (-1000) 1500, hi := IntKind.i64.wrap (rangeV l (ltP l 3) (-1000) 1500 + nextV l (ltP l 3 + 1) 500), u := false }), true)] [0, 1, 2, 3, 4, 5, 6, 7, 3, 8, 9, 10, 11, 12, 3, 13, 14, 15, 16, 17, 18, 3, 19, 20, 10, 11, 21, 3, 22, 23, 24, 16, 17, 18, 3, 25, 26, 10, 11, 27, 3, 28, 29, 30, 16, 17, 18, 3, 31, 32, 33, 1, 34, 3, 35, 36, 3, 37, 38, 39, 3, 40, 41, 42, 41, 42, 43, 43, 43, 43, 43, 43, 43, 43, 44, 44, 44, 41, 42, 44, 44, 41, 42, 44, 44, 41, 42, 44, 44, 41, 42, 44, 44, 44, 44])) := by kernel_rfl
set_option maxRecDepth 100000 in
theorem hl_4 (B : Nat) (l : List Int) : evL (ctxOf Try.prog (benI B) (fun t => Nat.beq t 62) libL1) Try.f9 l [] [true, true, true, true, false, true, true] = some (AV.w (AW.one (AC.bool ((rfV (ltT l 4) (ofB (cel (ltT l 4) 1 0) (cel (ltT l 4) 1 0))).lo == (addB { lo := cel (ltT l 4) 1 1, hi := cel (ltT l 4) 1 2, u := decide (cel (ltT l 4) 1 3 = 1) } (ofB (cel (ltT l 4) 1 0) (cel (ltT l 4) 1 0))).lo && ((rfV (ltT l 4) (ofB (cel (ltT l 4) 1 0) (cel (ltT l 4) 1 0))).hi == (addB { lo := cel (ltT l 4) 1 1, hi := cel (ltT l 4) 1 2, u := decide (cel (ltT l 4) 1 3 = 1) } (ofB (cel (ltT l 4) 1 0) (cel (ltT l 4) 1 0))).hi && ((rfV (ltT l 4) (ofB (cel (ltT l 4) 1 0) (cel (ltT l 4) 1 0))).u == (addB { lo := cel (ltT l 4) 1 1, hi := cel (ltT l 4) 1 2, u := decide (cel (ltT l 4) 1 3 = 1) } (ofB (cel (ltT l 4) 1 0) (cel (ltT l 4) 1 0))).u && true))))), (pickL [(decide (0 < -1000), false), (rB (-1000), true), (rB 0, true), (listB l, true), (atB 0, true), (decide (8 < 2), false), (rB 2, true), (rB 8, true), (atB (0 + 1), true), (decide (0 < rangeV l (0 + 1) 2 8), true), (decide (0 ≤ 500), true), (inB 500, true), (atB (ltP l 0 + 5), true), (atB (ltP l 0), true), (decide ((0 : Int) = 0), true), (decide ((0 + 1 : Int) ≤ 34359738368), true), (decide (400 < 1), false), (rB 1, true), (rB 400, true), (atB (bndA l (ltP l 0)), true), (decide (IntKind.i64.wrap (0 + 1) < rangeV l (0 + 1) 2 8), true), (atB (ltP l 1 + 5), true), (atB (ltP l 1), true), (decide ((0 + 1 : Int) = 0 + 1), true), (decide ((0 + 1 + 1 : Int) ≤ 34359738368), true), (atB (bndA l (ltP l 1)), true), (decide (IntKind.i64.wrap (IntKind.i64.wrap (0 + 1) + 1) < rangeV l (0 + 1) 2 8), true), (atB (ltP l 2 + 5), true), (atB (ltP l 2), true), (decide ((0 + 1 + 1 : Int) = 0 + 1 + 1), true), (decide ((0 + 1 + 1 + 1 : Int) ≤ 34359738368), true), (atB (bndA l (ltP l 2)), true), (decide (IntKind.i64.wrap (IntKind.i64.wrap (IntKind.i64.wrap (0 + 1) + 1) + 1) < rangeV l (0 + 1) 2 8), true), (atB (ltP l 3 + 5), true), (atB (ltP l 3), true), (decide ((0 + 1 + 1 + 1 : Int) = 0 + 1 + 1 + 1), true), (decide ((0 + 1 + 1 + 1 + 1 : Int) ≤ 34359738368), true), (atB (bndA l (ltP l 3)), true), (decide (IntKind.i64.wrap (IntKind.i64.wrap (IntKind.i64.wrap (IntKind.i64.wrap (0 + 1) + 1) + 1) + 1) < rangeV l (0 + 1) 2 8), false), (decide (1500 < -1000), false), (rB 1500, true), (atB (ltP l 4), true), (i64B 500, true), (atB (ltP l 4 + 1), true), (mkB { lo := rangeV l (ltP l 4) (-1000) 1500, hi := IntKind.i64.wrap (rangeV l (ltP l 4) (-1000) 1500 + nextV l (ltP l 4 + 1) 500), u := false }, true), (atB (ltP l 4 + 1 + 1 + 9), true), (atB (ltP l 4 + 1 + 1), true), (decide (0 ≤ 1), true), (decide (1 < lenT (ltT l 4)), true), (true, true), (insB (rfV (ltT l 4) (withV l (ltP l 4 + 1 + 1) { lo := rangeV l (ltP l 4) (-1000) 1500, hi := IntKind.i64.wrap (rangeV l (ltP l 4) (-1000) 1500 + nextV l (ltP l 4 + 1) 500), u := false })) (rfV (ltT l 4) { lo := rangeV l (ltP l 4) (-1000) 1500, hi := IntKind.i64.wrap (rangeV l (ltP l 4) (-1000) 1500 + nextV l (ltP l 4 + 1) 500), u := false }), true)] [0, 1, 2, 3, 4, 5, 6, 7, 3, 8, 9, 10, 11, 12, 3, 13, 14, 15, 16, 17, 18, 3, 19, 20, 10, 11, 21, 3, 22, 23, 24, 16, 17, 18, 3, 25, 26, 10, 11, 27, 3, 28, 29, 30, 16, 17, 18, 3, 31, 32, 10, 11, 33, 3, 34, 35, 36, 16, 17, 18, 3, 37, 38, 39, 1, 40, 3, 41, 42, 3, 43, 44, 45, 3, 46, 47, 48, 47, 48, 49, 49, 49, 49, 49, 49, 49, 49, 50, 50, 50, 47, 48, 50, 50, 47, 48, 50, 50, 47, 48, 50, 50, 47, 48, 50, 50, 50, 50])) := by kernel_rfl
set_option maxRecDepth 100000 in
theorem hl_5 (B : Nat) (l : List Int) : evL (ctxOf Try.prog (benI B) (fun t => Nat.beq t 62) libL1) Try.f9 l [] [true, true, true, true, true, false, true, true] = some (AV.w (AW.one (AC.bool ((rfV (ltT l 5) (ofB (cel (ltT l 5) 1 0) (cel (ltT l 5) 1 0))).lo == (addB { lo := cel (ltT l 5) 1 1, hi := cel (ltT l 5) 1 2, u := decide (cel (ltT l 5) 1 3 = 1) } (ofB (cel (ltT l 5) 1 0) (cel (ltT l 5) 1 0))).lo && ((rfV (ltT l 5) (ofB (cel (ltT l 5) 1 0) (cel (ltT l 5) 1 0))).hi == (addB { lo := cel (ltT l 5) 1 1, hi := cel (ltT l 5) 1 2, u := decide (cel (ltT l 5) 1 3 = 1) } (ofB (cel (ltT l 5) 1 0) (cel (ltT l 5) 1 0))).hi && ((rfV (ltT l 5) (ofB (cel (ltT l 5) 1 0) (cel (ltT l 5) 1 0))).u == (addB { lo := cel (ltT l 5) 1 1, hi := cel (ltT l 5) 1 2, u := decide (cel (ltT l 5) 1 3 = 1) } (ofB (cel (ltT l 5) 1 0) (cel (ltT l 5) 1 0))).u && true))))), (pickL [(decide (0 < -1000), false), (rB (-1000), true), (rB 0, true), (listB l, true), (atB 0, true), (decide (8 < 2), false), (rB 2, true), (rB 8, true), (atB (0 + 1), true), (decide (0 < rangeV l (0 + 1) 2 8), true), (decide (0 ≤ 500), true), (inB 500, true), (atB (ltP l 0 + 5), true), (atB (ltP l 0), true), (decide ((0 : Int) = 0), true), (decide ((0 + 1 : Int) ≤ 34359738368), true), (decide (400 < 1), false), (rB 1, true), (rB 400, true), (atB (bndA l (ltP l 0)), true), (decide (IntKind.i64.wrap (0 + 1) < rangeV l (0 + 1) 2 8), true), (atB (ltP l 1 + 5), true), (atB (ltP l 1), true), (decide ((0 + 1 : Int) = 0 + 1), true), (decide ((0 + 1 + 1 : Int) ≤ 34359738368), true), (atB (bndA l (ltP l 1)), true), (decide (IntKind.i64.wrap (IntKind.i64.wrap (0 + 1) + 1) < rangeV l (0 + 1) 2 8), true), (atB (ltP l 2 + 5), true), (atB (ltP l 2), true), (decide ((0 + 1 + 1 : Int) = 0 + 1 + 1), true), (decide ((0 + 1 + 1 + 1 : Int) ≤ 34359738368), true), (atB (bndA l (ltP l 2)), true), (decide (IntKind.i64.wrap (IntKind.i64.wrap (IntKind.i64.wrap (0 + 1) + 1) + 1) < rangeV l (0 + 1) 2 8), true), (atB (ltP l 3 + 5), true), (atB (ltP l 3), true), (decide ((0 + 1 + 1 + 1 : Int) = 0 + 1 + 1 + 1), true), (decide ((0 + 1 + 1 + 1 + 1 : Int) ≤ 34359738368), true), (atB (bndA l (ltP l 3)), true), (decide (IntKind.i64.wrap (IntKind.i64.wrap (IntKind.i64.wrap (IntKind.i64.wrap (0 + 1) + 1) + 1) + 1) < rangeV l (0 + 1) 2 8), true), (atB (ltP l 4 + 5), true), (atB (ltP l 4), true), (decide ((0 + 1 + 1 + 1 + 1 : Int) = 0 + 1 + 1 + 1 + 1), true), (decide ((0 + 1 + 1 + 1 + 1 + 1 : Int) ≤ 34359738368), true), (atB (bndA l (ltP l 4)), true), (decide (IntKind.i64.wrap (IntKind.i64.wrap (IntKind.i64.wrap (IntKind.i64.wrap (IntKind.i64.wrap (0 + 1) + 1) + 1) + 1) + 1) < rangeV l (0 + 1) 2 8), false), (decide (1500 < -1000), false), (rB 1500, true), (atB (ltP l 5), true), (i64B 500, true), (atB (ltP l 5 + 1), true), (mkB { lo := rangeV l (ltP l 5) (-1000) 1500, hi := IntKind.i64.wrap (rangeV l (ltP l 5) (-1000) 1500 + nextV l (ltP l 5 + 1) 500), u := false }, true), (atB (ltP l 5 + 1 + 1 + 9), true), (atB (ltP l 5 + 1 + 1), true), (decide (0 ≤ 1), true), (decide (1 < lenT (ltT l 5)), true), (true, true), (insB (rfV (ltT l 5) (withV l (ltP l 5 + 1 + 1) { lo := rangeV l (ltP l 5) (-1000) 1500, hi := IntKind.i64.wrap (rangeV l (ltP l 5) (-1000) 1500 + nextV l (ltP l 5 + 1) 500), u := false })) (rfV (ltT l 5) { lo := rangeV l (ltP l 5) (-1000) 1500, hi := IntKind.i64.wrap (rangeV l (ltP l 5) (-1000) 1500 + nextV l (ltP l 5 + 1) 500), u := false }), true)] [0, 1, 2, 3, 4, 5, 6, 7, 3, 8, 9, 10, 11, 12, 3, 13, 14, 15, 16, 17, 18, 3, 19, 20, 10, 11, 21, 3, 22, 23, 24, 16, 17, 18, 3, 25, 26, 10, 11, 27, 3, 28, 29, 30, 16, 17, 18, 3, 31, 32, 10, 11, 33, 3, 34, 35, 36, 16, 17, 18, 3, 37, 38, 10, 11, 39, 3, 40, 41, 42, 16, 17, 18, 3, 43, 44, 45, 1, 46, 3, 47, 48, 3, 49, 50, 51, 3, 52, 53, 54, 53, 54, 55, 55, 55, 55, 55, 55, 55, 55, 56, 56, 56, 53, 54, 56, 56, 53, 54, 56, 56, 53, 54, 56, 56, 53, 54, 56, 56, 56, 56])) := by kernel_rfl
set_option maxRecDepth 100000 in
theorem hl_6 (B : Nat) (l : List Int) : evL (ctxOf Try.prog (benI B) (fun t => Nat.beq t 62) libL1) Try.f9 l [] [true, true, true, true, true, true, false, true, true] = some (AV.w (AW.one (AC.bool ((rfV (ltT l 6) (ofB (cel (ltT l 6) 1 0) (cel (ltT l 6) 1 0))).lo == (addB { lo := cel (ltT l 6) 1 1, hi := cel (ltT l 6) 1 2, u := decide (cel (ltT l 6) 1 3 = 1) } (ofB (cel (ltT l 6) 1 0) (cel (ltT l 6) 1 0))).lo && ((rfV (ltT l 6) (ofB (cel (ltT l 6) 1 0) (cel (ltT l 6) 1 0))).hi == (addB { lo := cel (ltT l 6) 1 1, hi := cel (ltT l 6) 1 2, u := decide (cel (ltT l 6) 1 3 = 1) } (ofB (cel (ltT l 6) 1 0) (cel (ltT l 6) 1 0))).hi && ((rfV (ltT l 6) (ofB (cel (ltT l 6) 1 0) (cel (ltT l 6) 1 0))).u == (addB { lo := cel (ltT l 6) 1 1, hi := cel (ltT l 6) 1 2, u := decide (cel (ltT l 6) 1 3 = 1) } (ofB (cel (ltT l 6) 1 0) (cel (ltT l 6) 1 0))).u && true))))), (pickL [(decide (0 < -1000), false), (rB (-1000), true), (rB 0, true), (listB l, true), (atB 0, true), (decide (8 < 2), false), (rB 2, true), (rB 8, true), (atB (0 + 1), true), (decide (0 < rangeV l (0 + 1) 2 8), true), (decide (0 ≤ 500), true), (inB 500, true), (atB (ltP l 0 + 5), true), (atB (ltP l 0), true), (decide ((0 : Int) = 0), true), (decide ((0 + 1 : Int) ≤ 34359738368), true), (decide (400 < 1), false), (rB 1, true), (rB 400, true), (atB (bndA l (ltP l 0)), true), (decide (IntKind.i64.wrap (0 + 1) < rangeV l (0 + 1) 2 8), true), (atB (ltP l 1 + 5), true), (atB (ltP l 1), true), (decide ((0 + 1 : Int) = 0 + 1), true), (decide ((0 + 1 + 1 : Int) ≤ 34359738368), true), (atB (bndA l (ltP l 1)), true), (decide (IntKind.i64.wrap (IntKind.i64.wrap (0 + 1) + 1) < rangeV l (0 + 1) 2 8), true), (atB (ltP l 2 + 5), true), (atB (ltP l 2), true), (decide ((0 + 1 + 1 : Int) = 0 + 1 + 1), true), (decide ((0 + 1 + 1 + 1 : Int) ≤ 34359738368), true), (atB (bndA l (ltP l 2)), true), (decide (IntKind.i64.wrap (IntKind.i64.wrap (IntKind.i64.wrap (0 + 1) + 1) + 1) < rangeV l (0 + 1) 2 8), true), (atB (ltP l 3 + 5), true), (atB (ltP l 3), true), (decide ((0 + 1 + 1 + 1 : Int) = 0 + 1 + 1 + 1), true), (decide ((0 + 1 + 1 + 1 + 1 : Int) ≤ 34359738368), true), (atB (bndA l (ltP l 3)), true), (decide (IntKind.i64.wrap (IntKind.i64.wrap (IntKind.i64.wrap (IntKind.i64.wrap (0 + 1) + 1) + 1) + 1) < rangeV l (0 + 1) 2 8), true), (atB (ltP l 4 + 5), true), (atB (ltP l 4), true), (decide ((0 + 1 + 1 + 1 + 1 : Int) = 0 + 1 + 1 + 1 + 1), true), (decide ((0 + 1 + 1 + 1 + 1 + 1 : Int) ≤ 34359738368), true), (atB (bndA l (ltP l 4)), true), (decide (IntKind.i64.wrap (IntKind.i64.wrap (IntKind.i64.wrap (IntKind.i64.wrap (IntKind.i64.wrap (0 + 1) + 1) + 1) + 1) + 1) < rangeV l (0 + 1) 2 8), true), (atB (ltP l 5 + 5), true), (atB (ltP l 5), true), (decide ((0 + 1 + 1 + 1 + 1 + 1 : Int) = 0 + 1 + 1 + 1 + 1 + 1), true), (decide ((0 + 1 + 1 + 1 + 1 + 1 + 1 : Int) ≤ 34359738368), true), (atB (bndA l (ltP l 5)), true), (decide (IntKind.i64.wrap (IntKind.i64.wrap (IntKind.i64.wrap (IntKind.i64.wrap (IntKind.i64.wrap (IntKind.i64.wrap (0 + 1) + 1) + 1) + 1) + 1) + 1) < rangeV l (0 + 1) 2 8), false), (decide (1500 < -1000), false), (rB 1500, true), (atB (ltP l 6), true), (i64B 500, true), (atB (ltP l 6 + 1), true), (mkB { lo := rangeV l (ltP l 6) (-1000) 1500, hi := IntKind.i64.wrap (rangeV l (ltP l 6) (-1000) 1500 + nextV l (ltP l 6 + 1) 500), u := false }, true), (atB (ltP l 6 + 1 + 1 + 9), true), (atB (ltP l 6 + 1 + 1), true), (decide (0 ≤ 1), true), (decide (1 < lenT (ltT l 6)), true), (true, true), (insB (rfV (ltT l 6) (withV l (ltP l 6 + 1 + 1) { lo := rangeV l (ltP l 6) (-1000) 1500, hi := IntKind.i64.wrap (rangeV l (ltP l 6) (-1000) 1500 + nextV l (ltP l 6 + 1) 500), u := false })) (rfV (ltT l 6) { lo := rangeV l (ltP l 6) (-1000) 1500, hi := IntKind.i64.wrap (rangeV l (ltP l 6) (-1000) 1500 + nextV l (ltP l 6 + 1) 500), u := false }), true)] [0, 1, 2, 3, 4, 5, 6, 7, 3, 8, 9, 10, 11, 12, 3, 13, 14, 15, 16, 17, 18, 3, 19, 20, 10, 11, 21, 3, 22, 23, 24, 16, 17, 18, 3, 25, 26, 10, 11, 27, 3, 28, 29, 30, 16, 17, 18, 3, 31, 32, 10, 11, 33, 3, 34, 35, 36, 16, 17, 18, 3, 37, 38, 10, 11, 39, 3, 40, 41, 42, 16, 17, 18, 3, 43, 44, 10, 11, 45, 3, 46, 47, 48, 16, 17, 18, 3, 49, 50, 51, 1, 52, 3, 53, 54, 3, 55, 56, 57, 3, 58, 59, 60, 59, 60, 61, 61, 61, 61, 61, 61, 61, 61, 62, 62, 62, 59, 60, 62, 62, 59, 60, 62, 62, 59, 60, 62, 62, 59, 60, 62, 62, 62, 62])) := by kernel_rfl
set_option maxRecDepth 100000 in
theorem hl_7 (B : Nat) (l : List Int) : evL (ctxOf Try.prog (benI B) (fun t => Nat.beq t 62) libL1) Try.f9 l [] [true, true, true, true, true, true, true, false, true, true] = some (AV.w (AW.one (AC.bool ((rfV (ltT l 7) (ofB (cel (ltT l 7) 1 0) (cel (ltT l 7) 1 0))).lo == (addB { lo := cel (ltT l 7) 1 1, hi := cel (ltT l 7) 1 2, u := decide (cel (ltT l 7) 1 3 = 1) } (ofB (cel (ltT l 7) 1 0) (cel (ltT l 7) 1 0))).lo && ((rfV (ltT l 7) (ofB (cel (ltT l 7) 1 0) (cel (ltT l 7) 1 0))).hi == (addB { lo := cel (ltT l 7) 1 1, hi := cel (ltT l 7) 1 2, u := decide (cel (ltT l 7) 1 3 = 1) } (ofB (cel (ltT l 7) 1 0) (cel (ltT l 7) 1 0))).hi && ((rfV (ltT l 7) (ofB (cel (ltT l 7) 1 0) (cel (ltT l 7) 1 0))).u == (addB { lo := cel (ltT l 7) 1 1, hi := cel (ltT l 7) 1 2, u := decide (cel (ltT l 7) 1 3 = 1) } (ofB (cel (ltT l 7) 1 0) (cel (ltT l 7) 1 0))).u && true))))), (pickL [(decide (0 < -1000), false), (rB (-1000), true), (rB 0, true), (listB l, true), (atB 0, true), (decide (8 < 2), false), (rB 2, true), (rB 8, true), (atB (0 + 1), true), (decide (0 < rangeV l (0 + 1) 2 8), true), (decide (0 ≤ 500), true), (inB 500, true), (atB (ltP l 0 + 5), true), (atB (ltP l 0), true), (decide ((0 : Int) = 0), true), (decide ((0 + 1 : Int) ≤ 34359738368), true), (decide (400 < 1), false), (rB 1, true), (rB 400, true), (atB (bndA l (ltP l 0)), true), (decide (IntKind.i64.wrap (0 + 1) < rangeV l (0 + 1) 2 8), true), (atB (ltP l 1 + 5), true), (atB (ltP l 1), true), (decide ((0 + 1 : Int) = 0 + 1), true), (decide ((0 + 1 + 1 : Int) ≤ 34359738368), true), (atB (bndA l (ltP l 1)), true), (decide (IntKind.i64.wrap (IntKind.i64.wrap (0 + 1) + 1) < rangeV l (0 + 1) 2 8), true), (atB (ltP l 2 + 5), true), (atB (ltP l 2), true), (decide ((0 + 1 + 1 : Int) = 0 + 1 + 1), true), (decide ((0 + 1 + 1 + 1 : Int) ≤ 34359738368), true), (atB (bndA l (ltP l 2)), true), (decide (IntKind.i64.wrap (IntKind.i64.wrap (IntKind.i64.wrap (0 + 1) + 1) + 1) < rangeV l (0 + 1) 2 8), true), (atB (ltP l 3 + 5), true), (atB (ltP l 3), true), (decide ((0 + 1 + 1 + 1 : Int) = 0 + 1 + 1 + 1), true), (decide ((0 + 1 + 1 + 1 + 1 : Int) ≤ 34359738368), true), (atB (bndA l (ltP l 3)), true), (decide (IntKind.i64.wrap (IntKind.i64.wrap (IntKind.i64.wrap (IntKind.i64.wrap (0 + 1) + 1) + 1) + 1) < rangeV l (0 + 1) 2 8), true), (atB (ltP l 4 + 5), true), (atB (ltP l 4), true), (decide ((0 + 1 + 1 + 1 + 1 : Int) = 0 + 1 + 1 + 1 + 1), true), (decide ((0 + 1 + 1 + 1 + 1 + 1 : Int) ≤ 34359738368), true), (atB (bndA l (ltP l 4)), true), (decide (IntKind.i64.wrap (IntKind.i64.wrap (IntKind.i64.wrap (IntKind.i64.wrap (IntKind.i64.wrap (0 + 1) + 1) + 1) + 1) + 1) < rangeV l (0 + 1) 2 8), true), (atB (ltP l 5 + 5), true), (atB (ltP l 5), true), (decide ((0 + 1 + 1 + 1 + 1 + 1 : Int) = 0 + 1 + 1 + 1 + 1 + 1), true), (decide ((0 + 1 + 1 + 1 + 1 + 1 + 1 : Int) ≤ 34359738368), true), (atB (bndA l (ltP l 5)), true), (decide (IntKind.i64.wrap (IntKind.i64.wrap (IntKind.i64.wrap (IntKind.i64.wrap (IntKind.i64.wrap (IntKind.i64.wrap (0 + 1) + 1) + 1) + 1) + 1) + 1) < rangeV l (0 + 1) 2 8), true), (atB (ltP l 6 + 5), true), (atB (ltP l 6), true), (decide ((0 + 1 + 1 + 1 + 1 + 1 + 1 : Int) = 0 + 1 + 1 + 1 + 1 + 1 + 1), true), (decide ((0 + 1 + 1 + 1 + 1 + 1 + 1 + 1 : Int) ≤ 34359738368), true), (atB (bndA l (ltP l 6)), true), (decide (IntKind.i64.wrap (IntKind.i64.wrap (IntKind.i64.wrap (IntKind.i64.wrap (IntKind.i64.wrap (IntKind.i64.wrap (IntKind.i64.wrap (0 + 1) + 1) + 1) + 1) + 1) + 1) + 1) < rangeV l (0 + 1) 2 8), false), (decide (1500 < -1000), false), (rB 1500, true), (atB (ltP l 7), true), (i64B 500, true), (atB (ltP l 7 + 1), true), (mkB { lo := rangeV l (ltP l 7) (-1000) 1500, hi := IntKind.i64.wrap (rangeV l (ltP l 7) (-1000) 1500 + nextV l (ltP l 7 + 1) 500), u := false }, true), (atB (ltP l 7 + 1 + 1 + 9), true), (atB (ltP l 7 + 1 + 1), true), (decide (0 ≤ 1), true), (decide (1 < lenT (ltT l 7)), true), (true, true), (insB (rfV (ltT l 7) (withV l (ltP l 7 + 1 + 1) { lo := rangeV l (ltP l 7) (-1000) 1500, hi := IntKind.i64.wrap (rangeV l (ltP l 7) (-1000) 1500 + nextV l (ltP l 7 + 1) 500), u := false })) (rfV (ltT l 7) { lo := rangeV l (ltP l 7) (-1000) 1500, hi := IntKind.i64.wrap (rangeV l (ltP l 7) (-1000) 1500 + nextV l (ltP l 7 + 1) 500), u := false }), true)] [0, 1, 2, 3, 4, 5, 6, 7, 3, 8, 9, 10, 11, 12, 3, 13, 14, 15, 16, 17, 18, 3, 19, 20, 10, 11, 21, 3, 22, 23, 24, 16, 17, 18, 3, 25, 26, 10, 11, 27, 3, 28, 29, 30, 16, 17, 18, 3, 31, 32, 10, 11, 33, 3, 34, 35, 36, 16, 17, 18, 3, 37, 38, 10, 11, 39, 3, 40, 41, 42, 16, 17, 18, 3, 43, 44, 10, 11, 45, 3, 46, 47, 48, 16, 17, 18, 3, 49, 50, 10, 11, 51, 3, 52, 53, 54, 16, 17, 18, 3, 55, 56, 57, 1, 58, 3, 59, 60, 3, 61, 62, 63, 3, 64, 65, 66, 65, 66, 67, 67, 67, 67, 67, 67, 67, 67, 68, 68, 68, 65, 66, 68, 68, 65, 66, 68, 68, 65, 66, 68, 68, 65, 66, 68, 68, 68, 68])) := by kernel_rfl
set_option maxRecDepth 100000 in
theorem hl_8 (B : Nat) (l : List Int) : evL (ctxOf Try.prog (benI B) (fun t => Nat.beq t 62) libL1) Try.f9 l [] [true, true, true, true, true, true, true, true, false, true, true] = some (AV.w (AW.one (AC.bool ((rfV (ltT l 8) (ofB (cel (ltT l 8) 1 0) (cel (ltT l 8) 1 0))).lo == (addB { lo := cel (ltT l 8) 1 1, hi := cel (ltT l 8) 1 2, u := decide (cel (ltT l 8) 1 3 = 1) } (ofB (cel (ltT l 8) 1 0) (cel (ltT l 8) 1 0))).lo && ((rfV (ltT l 8) (ofB (cel (ltT l 8) 1 0) (cel (ltT l 8) 1 0))).hi == (addB { lo := cel (ltT l 8) 1 1, hi := cel (ltT l 8) 1 2, u := decide (cel (ltT l 8) 1 3 = 1) } (ofB (cel (ltT l 8) 1 0) (cel (ltT l 8) 1 0))).hi && ((rfV (ltT l 8) (ofB (cel (ltT l 8) 1 0) (cel (ltT l 8) 1 0))).u == (addB { lo := cel (ltT l 8) 1 1, hi := cel (ltT l 8) 1 2, u := decide (cel (ltT l 8) 1 3 = 1) } (ofB (cel (ltT l 8) 1 0) (cel (ltT l 8) 1 0))).u && true))))), (pickL [(decide (0 < -1000), false), (rB (-1000), true), (rB 0, true), (listB l, true), (atB 0, true), (decide (8 < 2), false), (rB 2, true), (rB 8, true), (atB (0 + 1), true), (decide (0 < rangeV l (0 + 1) 2 8), true), (decide (0 ≤ 500), true), (inB 500, true), (atB (ltP l 0 + 5), true), (atB (ltP l 0), true), (decide ((0 : Int) = 0), true), (decide ((0 + 1 : Int) ≤ 34359738368), true), (decide (400 < 1), false), (rB 1, true), (rB 400, true), (atB (bndA l (ltP l 0)), true), (decide (IntKind.i64.wrap (0 + 1) < rangeV l (0 + 1) 2 8), true), (atB (ltP l 1 + 5), true), (atB (ltP l 1), true), (decide ((0 + 1 : Int) = 0 + 1), true), (decide ((0 + 1 + 1 : Int) ≤ 34359738368), true), (atB (bndA l (ltP l 1)), true), (decide (IntKind.i64.wrap (IntKind.i64.wrap (0 + 1) + 1) < rangeV l (0 + 1) 2 8), true), (atB (ltP l 2 + 5), true), (atB (ltP l 2), true), (decide ((0 + 1 + 1 : Int) = 0 + 1 + 1), true), (decide ((0 + 1 + 1 + 1 : Int) ≤ 34359738368), true), (atB (bndA l (ltP l 2)), true), (decide (IntKind.i64.wrap (IntKind.i64.wrap (IntKind.i64.wrap (0 + 1) + 1) + 1) < rangeV l (0 + 1) 2 8), true), (atB (ltP l 3 + 5), true), (atB (ltP l 3), true), (decide ((0 + 1 + 1 + 1 : Int) = 0 + 1 + 1 + 1), true), (decide ((0 + 1 + 1 + 1 + 1 : Int) ≤ 34359738368), true), (atB (bndA l (ltP l 3)), true), (decide (IntKind.i64.wrap (IntKind.i64.wrap (IntKind.i64.wrap (IntKind.i64.wrap (0 + 1) + 1) + 1) + 1) < rangeV l (0 + 1) 2 8), true), (atB (ltP l 4 + 5), true), (atB (ltP l 4), true), (decide ((0 + 1 + 1 + 1 + 1 : Int) = 0 + 1 + 1 + 1 + 1), true), (decide ((0 + 1 + 1 + 1 + 1 + 1 : Int) ≤ 34359738368), true), (atB (bndA l (ltP l 4)), true), (decide (IntKind.i64.wrap (IntKind.i64.wrap (IntKind.i64.wrap (IntKind.i64.wrap (IntKind.i64.wrap (0 + 1) + 1) + 1) + 1) + 1) < rangeV l (0 + 1) 2 8), true), (atB (ltP l 5 + 5), true), (atB (ltP l 5), true), (decide ((0 + 1 + 1 + 1 + 1 + 1 : Int) = 0 + 1 + 1 + 1 + 1 + 1), true), (decide ((0 + 1 + 1 + 1 + 1 + 1 + 1 : Int) ≤ 34359738368), true), (atB (bndA l (ltP l 5)), true), (decide (IntKind.i64.wrap (IntKind.i64.wrap (IntKind.i64.wrap (IntKind.i64.wrap (IntKind.i64.wrap (IntKind.i64.wrap (0 + 1) + 1) + 1) + 1) + 1) + 1) < rangeV l (0 + 1) 2 8), true), (atB (ltP l 6 + 5), true), (atB (ltP l 6), true), (decide ((0 + 1 + 1 + 1 + 1 + 1 + 1 : Int) = 0 + 1 + 1 + 1 + 1 + 1 + 1), true), (decide ((0 + 1 + 1 + 1 + 1 + 1 + 1 + 1 : Int) ≤ 34359738368), true), (atB (bndA l (ltP l 6)), true), (decide (IntKind.i64.wrap (IntKind.i64.wrap (IntKind.i64.wrap (IntKind.i64.wrap (IntKind.i64.wrap (IntKind.i64.wrap (IntKind.i64.wrap (0 + 1) + 1) + 1) + 1) + 1) + 1) + 1) < rangeV l (0 + 1) 2 8), true), (atB (ltP l 7 + 5), true), (atB (ltP l 7), true), (decide ((0 + 1 + 1 + 1 + 1 + 1 + 1 + 1 : Int) = 0 + 1 + 1 + 1 + 1 + 1 + 1 + 1), true), (decide ((0 + 1 + 1 + 1 + 1 + 1 + 1 + 1 + 1 : Int) ≤ 34359738368), true), (atB (bndA l (ltP l 7)), true), (decide (IntKind.i64.wrap (IntKind.i64.wrap (IntKind.i64.wrap (IntKind.i64.wrap (IntKind.i64.wrap (IntKind.i64.wrap (IntKind.i64.wrap (IntKind.i64.wrap (0 + 1) + 1) + 1) + 1) + 1) + 1) + 1) + 1) < rangeV l (0 + 1) 2 8), false), (decide (1500 < -1000), false), (rB 1500, true), (atB (ltP l 8), true), (i64B 500, true), (atB (ltP l 8 + 1), true), (mkB { lo := rangeV l (ltP l 8) (-1000) 1500, hi := IntKind.i64.wrap (rangeV l (ltP l 8) (-1000) 1500 + nextV l (ltP l 8 + 1) 500), u := false }, true), (atB (ltP l 8 + 1 + 1 + 9), true), (atB (ltP l 8 + 1 + 1), true), (decide (0 ≤ 1), true), (decide (1 < lenT (ltT l 8)), true), (true, true), (insB (rfV (ltT l 8) (withV l (ltP l 8 + 1 + 1) { lo := rangeV l (ltP l 8) (-1000) 1500, hi := IntKind.i64.wrap (rangeV l (ltP l 8) (-1000) 1500 + nextV l (ltP l 8 + 1) 500), u := false })) (rfV (ltT l 8) { lo := rangeV l (ltP l 8) (-1000) 1500, hi := IntKind.i64.wrap (rangeV l (ltP l 8) (-1000) 1500 + nextV l (ltP l 8 + 1) 500), u := false }), true)] [0, 1, 2, 3, 4, 5, 6, 7, 3, 8, 9, 10, 11, 12, 3, 13, 14, 15, 16, 17, 18, 3, 19, 20, 10, 11, 21, 3, 22, 23, 24, 16, 17, 18, 3, 25, 26, 10, 11, 27, 3, 28, 29, 30, 16, 17, 18, 3, 31, 32, 10, 11, 33, 3, 34, 35, 36, 16, 17, 18, 3, 37, 38, 10, 11, 39, 3, 40, 41, 42, 16, 17, 18, 3, 43, 44, 10, 11, 45, 3, 46, 47, 48, 16, 17, 18, 3, 49, 50, 10, 11, 51, 3, 52, 53, 54, 16, 17, 18, 3, 55, 56, 10, 11, 57, 3, 58, 59, 60, 16, 17, 18, 3, 61, 62, 63, 1, 64, 3, 65, 66, 3, 67, 68, 69, 3, 70, 71, 72, 71, 72, 73, 73, 73, 73, 73, 73, 73, 73, 74, 74, 74, 71, 72, 74, 74, 71, 72, 74, 74, 71, 72, 74, 74, 71, 72, 74, 74, 74, 74])) := by kernel_rfl
theorem horizonLifted_case (l : List Int) (p : Option Addr) (cap : Nat) (hL : listB l = true) (W : World) (hl : fctHolds W.heap.size (.ints l) W #[.slice p l.length cap]) : Calls Try.prog 9 #[.slice p l.length cap] W fun e w' => e = .returned (.bool true) ∧ Below W.heap.size W w' := by
  have hr := rangeV_in l (0 + 1) 2 8 (by omega)
  have at_ : ∀ i : Int, 0 ≤ i → i < 200 → atB i = true := fun i h1 h2 => atB_iff.2 (by omega)
  have hc : rangeV l (0 + 1) 2 8 = 2 ∨ rangeV l (0 + 1) 2 8 = 3 ∨ rangeV l (0 + 1) 2 8 = 4 ∨ rangeV l (0 + 1) 2 8 = 5 ∨ rangeV l (0 + 1) 2 8 = 6 ∨ rangeV l (0 + 1) 2 8 = 7 ∨ rangeV l (0 + 1) 2 8 = 8 := by omega
  rcases hc with hn | hn | hn | hn | hn | hn | hn
  · have P0 := lp_in l 0
    have P1 := lp_in l 1
    have P2 := lp_in l 2
    have B0 := bndA_in l (ltP l 0)
    have B1 := bndA_in l (ltP l 1)
    have B2 := bndA_in l (ltP l 2)
    have q1 := rangeV_in l (ltP l 2) (-1000) 1500 (by omega)
    have q2 := nextV_in l (ltP l 2 + 1) 500 (by omega)
    have w1 : IntKind.i64.wrap (rangeV l (ltP l 2) (-1000) 1500 + nextV l (ltP l 2 + 1) 500) = rangeV l (ltP l 2) (-1000) 1500 + nextV l (ltP l 2 + 1) 500 := v64 (by omega) (by omega)
    have ka : knB { lo := rangeV l (ltP l 2) (-1000) 1500, hi := rangeV l (ltP l 2) (-1000) 1500 + nextV l (ltP l 2 + 1) 500, u := false } = true := knB_iff.2 ⟨rfl, by simp only; omega, by simp only; omega, by simp only; omega⟩
    have mA : mkB { lo := rangeV l (ltP l 2) (-1000) 1500, hi := rangeV l (ltP l 2) (-1000) 1500 + nextV l (ltP l 2 + 1) 500, u := false } = true := by unfold mkB; rw [ka]; simp
    obtain ⟨mC, iC⟩ := withV_mk l (ltP l 2 + 1 + 1) { lo := rangeV l (ltP l 2) (-1000) 1500, hi := rangeV l (ltP l 2) (-1000) 1500 + nextV l (ltP l 2 + 1) 500, u := false } mA
    have k1 : insB (rfV (ltT l 2) (withV l (ltP l 2 + 1 + 1) { lo := rangeV l (ltP l 2) (-1000) 1500, hi := rangeV l (ltP l 2) (-1000) 1500 + nextV l (ltP l 2 + 1) 500, u := false })) (rfV (ltT l 2) { lo := rangeV l (ltP l 2) (-1000) 1500, hi := rangeV l (ltP l 2) (-1000) 1500 + nextV l (ltP l 2 + 1) 500, u := false }) = true := rf_iso iC
    have e0 : cel (ltT l 2) 1 0 = ltA l 1 := by
      have := lt_row l 2 1 (by omega)
      rw [cel_rw, show ((1 : Int)) = ((1 : Nat) : Int) from rfl, this]; rfl
    have la := la_in l 1 (by omega)
    have R : rfV (ltT l 2) (ofB (cel (ltT l 2) 1 0) (cel (ltT l 2) 1 0)) = addB { lo := cel (ltT l 2) 1 1, hi := cel (ltT l 2) 1 2, u := decide (cel (ltT l 2) 1 3 = 1) } (ofB (cel (ltT l 2) 1 0) (cel (ltT l 2) 1 0)) := rf_at (lt_cb l (k := 2) (by omega)) (by rw [e0]; omega) (by rw [lt_len]; omega) (by rw [lt_row l 2 0 (by omega), (lr_lift l 0).2, e0]; exact la_up l 0 (by omega)) rfl
    have ll : decide (1 < lenT (ltT l 2)) = true := decide_eq_true (by unfold lenT; rw [lt_len]; omega)
    have L := hl_2 W.heap.size l
    rw [w1, R, hn] at L
    generalize addB { lo := cel (ltT l 2) 1 1, hi := cel (ltT l 2) 1 2, u := decide (cel (ltT l 2) 1 3 = 1) } (ofB (cel (ltT l 2) 1 0) (cel (ltT l 2) 1 0)) = H at *
    have V : (H.lo == H.lo && (H.hi == H.hi && (H.u == H.u && true))) = true := by simp
    refine list_callsR (B := W.heap.size) (v := .bool true) (ctxOf_ok (libL1_ok _) eqR_ok) (by kernel_rfl) Try.func9 rfl L rfl .nil (congrArg (fun b => some (Value.bool b)) V) W rfl hl ?_
    clear L
    refine pickL_ok ?_ _
    repeat' (first | exact cd_nil | refine cd_cons ?_ ?_)
    all_goals first | rfl | with_reducible assumption | exact at_ _ (by omega) (by omega) | decide

  · have P0 := lp_in l 0
    have P1 := lp_in l 1
    have P2 := lp_in l 2
    have P3 := lp_in l 3
    have B0 := bndA_in l (ltP l 0)
    have B1 := bndA_in l (ltP l 1)
    have B2 := bndA_in l (ltP l 2)
    have B3 := bndA_in l (ltP l 3)
    have q1 := rangeV_in l (ltP l 3) (-1000) 1500 (by omega)
    have q2 := nextV_in l (ltP l 3 + 1) 500 (by omega)
    have w1 : IntKind.i64.wrap (rangeV l (ltP l 3) (-1000) 1500 + nextV l (ltP l 3 + 1) 500) = rangeV l (ltP l 3) (-1000) 1500 + nextV l (ltP l 3 + 1) 500 := v64 (by omega) (by omega)
    have ka : knB { lo := rangeV l (ltP l 3) (-1000) 1500, hi := rangeV l (ltP l 3) (-1000) 1500 + nextV l (ltP l 3 + 1) 500, u := false } = true := knB_iff.2 ⟨rfl, by simp only; omega, by simp only; omega, by simp only; omega⟩
    have mA : mkB { lo := rangeV l (ltP l 3) (-1000) 1500, hi := rangeV l (ltP l 3) (-1000) 1500 + nextV l (ltP l 3 + 1) 500, u := false } = true := by unfold mkB; rw [ka]; simp
    obtain ⟨mC, iC⟩ := withV_mk l (ltP l 3 + 1 + 1) { lo := rangeV l (ltP l 3) (-1000) 1500, hi := rangeV l (ltP l 3) (-1000) 1500 + nextV l (ltP l 3 + 1) 500, u := false } mA
    have k1 : insB (rfV (ltT l 3) (withV l (ltP l 3 + 1 + 1) { lo := rangeV l (ltP l 3) (-1000) 1500, hi := rangeV l (ltP l 3) (-1000) 1500 + nextV l (ltP l 3 + 1) 500, u := false })) (rfV (ltT l 3) { lo := rangeV l (ltP l 3) (-1000) 1500, hi := rangeV l (ltP l 3) (-1000) 1500 + nextV l (ltP l 3 + 1) 500, u := false }) = true := rf_iso iC
    have e0 : cel (ltT l 3) 1 0 = ltA l 1 := by
      have := lt_row l 3 1 (by omega)
      rw [cel_rw, show ((1 : Int)) = ((1 : Nat) : Int) from rfl, this]; rfl
    have la := la_in l 1 (by omega)
    have R : rfV (ltT l 3) (ofB (cel (ltT l 3) 1 0) (cel (ltT l 3) 1 0)) = addB { lo := cel (ltT l 3) 1 1, hi := cel (ltT l 3) 1 2, u := decide (cel (ltT l 3) 1 3 = 1) } (ofB (cel (ltT l 3) 1 0) (cel (ltT l 3) 1 0)) := rf_at (lt_cb l (k := 3) (by omega)) (by rw [e0]; omega) (by rw [lt_len]; omega) (by rw [lt_row l 3 0 (by omega), (lr_lift l 0).2, e0]; exact la_up l 0 (by omega)) rfl
    have ll : decide (1 < lenT (ltT l 3)) = true := decide_eq_true (by unfold lenT; rw [lt_len]; omega)
    have L := hl_3 W.heap.size l
    rw [w1, R, hn] at L
    generalize addB { lo := cel (ltT l 3) 1 1, hi := cel (ltT l 3) 1 2, u := decide (cel (ltT l 3) 1 3 = 1) } (ofB (cel (ltT l 3) 1 0) (cel (ltT l 3) 1 0)) = H at *
    have V : (H.lo == H.lo && (H.hi == H.hi && (H.u == H.u && true))) = true := by simp
    refine list_callsR (B := W.heap.size) (v := .bool true) (ctxOf_ok (libL1_ok _) eqR_ok) (by kernel_rfl) Try.func9 rfl L rfl .nil (congrArg (fun b => some (Value.bool b)) V) W rfl hl ?_
    clear L
    refine pickL_ok ?_ _
    repeat' (first | exact cd_nil | refine cd_cons ?_ ?_)
    all_goals first | rfl | with_reducible assumption | exact at_ _ (by omega) (by omega) | decide

  · have P0 := lp_in l 0
    have P1 := lp_in l 1
    have P2 := lp_in l 2
    have P3 := lp_in l 3
    have P4 := lp_in l 4
    have B0 := bndA_in l (ltP l 0)
    have B1 := bndA_in l (ltP l 1)
    have B2 := bndA_in l (ltP l 2)
    have B3 := bndA_in l (ltP l 3)
    have B4 := bndA_in l (ltP l 4)
    have q1 := rangeV_in l (ltP l 4) (-1000) 1500 (by omega)
    have q2 := nextV_in l (ltP l 4 + 1) 500 (by omega)
    have w1 : IntKind.i64.wrap (rangeV l (ltP l 4) (-1000) 1500 + nextV l (ltP l 4 + 1) 500) = rangeV l (ltP l 4) (-1000) 1500 + nextV l (ltP l 4 + 1) 500 := v64 (by omega) (by omega)
    have ka : knB { lo := rangeV l (ltP l 4) (-1000) 1500, hi := rangeV l (ltP l 4) (-1000) 1500 + nextV l (ltP l 4 + 1) 500, u := false } = true := knB_iff.2 ⟨rfl, by simp only; omega, by simp only; omega, by simp only; omega⟩
    have mA : mkB { lo := rangeV l (ltP l 4) (-1000) 1500, hi := rangeV l (ltP l 4) (-1000) 1500 + nextV l (ltP l 4 + 1) 500, u := false } = true := by unfold mkB; rw [ka]; simp
    obtain ⟨mC, iC⟩ := withV_mk l (ltP l 4 + 1 + 1) { lo := rangeV l (ltP l 4) (-1000) 1500, hi := rangeV l (ltP l 4) (-1000) 1500 + nextV l (ltP l 4 + 1) 500, u := false } mA
    have k1 : insB (rfV (ltT l 4) (withV l (ltP l 4 + 1 + 1) { lo := rangeV l (ltP l 4) (-1000) 1500, hi := rangeV l (ltP l 4) (-1000) 1500 + nextV l (ltP l 4 + 1) 500, u := false })) (rfV (ltT l 4) { lo := rangeV l (ltP l 4) (-1000) 1500, hi := rangeV l (ltP l 4) (-1000) 1500 + nextV l (ltP l 4 + 1) 500, u := false }) = true := rf_iso iC
    have e0 : cel (ltT l 4) 1 0 = ltA l 1 := by
      have := lt_row l 4 1 (by omega)
      rw [cel_rw, show ((1 : Int)) = ((1 : Nat) : Int) from rfl, this]; rfl
    have la := la_in l 1 (by omega)
    have R : rfV (ltT l 4) (ofB (cel (ltT l 4) 1 0) (cel (ltT l 4) 1 0)) = addB { lo := cel (ltT l 4) 1 1, hi := cel (ltT l 4) 1 2, u := decide (cel (ltT l 4) 1 3 = 1) } (ofB (cel (ltT l 4) 1 0) (cel (ltT l 4) 1 0)) := rf_at (lt_cb l (k := 4) (by omega)) (by rw [e0]; omega) (by rw [lt_len]; omega) (by rw [lt_row l 4 0 (by omega), (lr_lift l 0).2, e0]; exact la_up l 0 (by omega)) rfl
    have ll : decide (1 < lenT (ltT l 4)) = true := decide_eq_true (by unfold lenT; rw [lt_len]; omega)
    have L := hl_4 W.heap.size l
    rw [w1, R, hn] at L
    generalize addB { lo := cel (ltT l 4) 1 1, hi := cel (ltT l 4) 1 2, u := decide (cel (ltT l 4) 1 3 = 1) } (ofB (cel (ltT l 4) 1 0) (cel (ltT l 4) 1 0)) = H at *
    have V : (H.lo == H.lo && (H.hi == H.hi && (H.u == H.u && true))) = true := by simp
    refine list_callsR (B := W.heap.size) (v := .bool true) (ctxOf_ok (libL1_ok _) eqR_ok) (by kernel_rfl) Try.func9 rfl L rfl .nil (congrArg (fun b => some (Value.bool b)) V) W rfl hl ?_
    clear L
    refine pickL_ok ?_ _
    repeat' (first | exact cd_nil | refine cd_cons ?_ ?_)
    all_goals first | rfl | with_reducible assumption | exact at_ _ (by omega) (by omega) | decide

  · have P0 := lp_in l 0
    have P1 := lp_in l 1
    have P2 := lp_in l 2
    have P3 := lp_in l 3
    have P4 := lp_in l 4
    have P5 := lp_in l 5
    have B0 := bndA_in l (ltP l 0)
    have B1 := bndA_in l (ltP l 1)
    have B2 := bndA_in l (ltP l 2)
    have B3 := bndA_in l (ltP l 3)
    have B4 := bndA_in l (ltP l 4)
    have B5 := bndA_in l (ltP l 5)
    have q1 := rangeV_in l (ltP l 5) (-1000) 1500 (by omega)
    have q2 := nextV_in l (ltP l 5 + 1) 500 (by omega)
    have w1 : IntKind.i64.wrap (rangeV l (ltP l 5) (-1000) 1500 + nextV l (ltP l 5 + 1) 500) = rangeV l (ltP l 5) (-1000) 1500 + nextV l (ltP l 5 + 1) 500 := v64 (by omega) (by omega)
    have ka : knB { lo := rangeV l (ltP l 5) (-1000) 1500, hi := rangeV l (ltP l 5) (-1000) 1500 + nextV l (ltP l 5 + 1) 500, u := false } = true := knB_iff.2 ⟨rfl, by simp only; omega, by simp only; omega, by simp only; omega⟩
    have mA : mkB { lo := rangeV l (ltP l 5) (-1000) 1500, hi := rangeV l (ltP l 5) (-1000) 1500 + nextV l (ltP l 5 + 1) 500, u := false } = true := by unfold mkB; rw [ka]; simp
    obtain ⟨mC, iC⟩ := withV_mk l (ltP l 5 + 1 + 1) { lo := rangeV l (ltP l 5) (-1000) 1500, hi := rangeV l (ltP l 5) (-1000) 1500 + nextV l (ltP l 5 + 1) 500, u := false } mA
    have k1 : insB (rfV (ltT l 5) (withV l (ltP l 5 + 1 + 1) { lo := rangeV l (ltP l 5) (-1000) 1500, hi := rangeV l (ltP l 5) (-1000) 1500 + nextV l (ltP l 5 + 1) 500, u := false })) (rfV (ltT l 5) { lo := rangeV l (ltP l 5) (-1000) 1500, hi := rangeV l (ltP l 5) (-1000) 1500 + nextV l (ltP l 5 + 1) 500, u := false }) = true := rf_iso iC
    have e0 : cel (ltT l 5) 1 0 = ltA l 1 := by
      have := lt_row l 5 1 (by omega)
      rw [cel_rw, show ((1 : Int)) = ((1 : Nat) : Int) from rfl, this]; rfl
    have la := la_in l 1 (by omega)
    have R : rfV (ltT l 5) (ofB (cel (ltT l 5) 1 0) (cel (ltT l 5) 1 0)) = addB { lo := cel (ltT l 5) 1 1, hi := cel (ltT l 5) 1 2, u := decide (cel (ltT l 5) 1 3 = 1) } (ofB (cel (ltT l 5) 1 0) (cel (ltT l 5) 1 0)) := rf_at (lt_cb l (k := 5) (by omega)) (by rw [e0]; omega) (by rw [lt_len]; omega) (by rw [lt_row l 5 0 (by omega), (lr_lift l 0).2, e0]; exact la_up l 0 (by omega)) rfl
    have ll : decide (1 < lenT (ltT l 5)) = true := decide_eq_true (by unfold lenT; rw [lt_len]; omega)
    have L := hl_5 W.heap.size l
    rw [w1, R, hn] at L
    generalize addB { lo := cel (ltT l 5) 1 1, hi := cel (ltT l 5) 1 2, u := decide (cel (ltT l 5) 1 3 = 1) } (ofB (cel (ltT l 5) 1 0) (cel (ltT l 5) 1 0)) = H at *
    have V : (H.lo == H.lo && (H.hi == H.hi && (H.u == H.u && true))) = true := by simp
    refine list_callsR (B := W.heap.size) (v := .bool true) (ctxOf_ok (libL1_ok _) eqR_ok) (by kernel_rfl) Try.func9 rfl L rfl .nil (congrArg (fun b => some (Value.bool b)) V) W rfl hl ?_
    clear L
    refine pickL_ok ?_ _
    repeat' (first | exact cd_nil | refine cd_cons ?_ ?_)
    all_goals first | rfl | with_reducible assumption | exact at_ _ (by omega) (by omega) | decide

  · have P0 := lp_in l 0
    have P1 := lp_in l 1
    have P2 := lp_in l 2
    have P3 := lp_in l 3
    have P4 := lp_in l 4
    have P5 := lp_in l 5
    have P6 := lp_in l 6
    have B0 := bndA_in l (ltP l 0)
    have B1 := bndA_in l (ltP l 1)
    have B2 := bndA_in l (ltP l 2)
    have B3 := bndA_in l (ltP l 3)
    have B4 := bndA_in l (ltP l 4)
    have B5 := bndA_in l (ltP l 5)
    have B6 := bndA_in l (ltP l 6)
    have q1 := rangeV_in l (ltP l 6) (-1000) 1500 (by omega)
    have q2 := nextV_in l (ltP l 6 + 1) 500 (by omega)
    have w1 : IntKind.i64.wrap (rangeV l (ltP l 6) (-1000) 1500 + nextV l (ltP l 6 + 1) 500) = rangeV l (ltP l 6) (-1000) 1500 + nextV l (ltP l 6 + 1) 500 := v64 (by omega) (by omega)
    have ka : knB { lo := rangeV l (ltP l 6) (-1000) 1500, hi := rangeV l (ltP l 6) (-1000) 1500 + nextV l (ltP l 6 + 1) 500, u := false } = true := knB_iff.2 ⟨rfl, by simp only; omega, by simp only; omega, by simp only; omega⟩
    have mA : mkB { lo := rangeV l (ltP l 6) (-1000) 1500, hi := rangeV l (ltP l 6) (-1000) 1500 + nextV l (ltP l 6 + 1) 500, u := false } = true := by unfold mkB; rw [ka]; simp
    obtain ⟨mC, iC⟩ := withV_mk l (ltP l 6 + 1 + 1) { lo := rangeV l (ltP l 6) (-1000) 1500, hi := rangeV l (ltP l 6) (-1000) 1500 + nextV l (ltP l 6 + 1) 500, u := false } mA
    have k1 : insB (rfV (ltT l 6) (withV l (ltP l 6 + 1 + 1) { lo := rangeV l (ltP l 6) (-1000) 1500, hi := rangeV l (ltP l 6) (-1000) 1500 + nextV l (ltP l 6 + 1) 500, u := false })) (rfV (ltT l 6) { lo := rangeV l (ltP l 6) (-1000) 1500, hi := rangeV l (ltP l 6) (-1000) 1500 + nextV l (ltP l 6 + 1) 500, u := false }) = true := rf_iso iC
    have e0 : cel (ltT l 6) 1 0 = ltA l 1 := by
      have := lt_row l 6 1 (by omega)
      rw [cel_rw, show ((1 : Int)) = ((1 : Nat) : Int) from rfl, this]; rfl
    have la := la_in l 1 (by omega)
    have R : rfV (ltT l 6) (ofB (cel (ltT l 6) 1 0) (cel (ltT l 6) 1 0)) = addB { lo := cel (ltT l 6) 1 1, hi := cel (ltT l 6) 1 2, u := decide (cel (ltT l 6) 1 3 = 1) } (ofB (cel (ltT l 6) 1 0) (cel (ltT l 6) 1 0)) := rf_at (lt_cb l (k := 6) (by omega)) (by rw [e0]; omega) (by rw [lt_len]; omega) (by rw [lt_row l 6 0 (by omega), (lr_lift l 0).2, e0]; exact la_up l 0 (by omega)) rfl
    have ll : decide (1 < lenT (ltT l 6)) = true := decide_eq_true (by unfold lenT; rw [lt_len]; omega)
    have L := hl_6 W.heap.size l
    rw [w1, R, hn] at L
    generalize addB { lo := cel (ltT l 6) 1 1, hi := cel (ltT l 6) 1 2, u := decide (cel (ltT l 6) 1 3 = 1) } (ofB (cel (ltT l 6) 1 0) (cel (ltT l 6) 1 0)) = H at *
    have V : (H.lo == H.lo && (H.hi == H.hi && (H.u == H.u && true))) = true := by simp
    refine list_callsR (B := W.heap.size) (v := .bool true) (ctxOf_ok (libL1_ok _) eqR_ok) (by kernel_rfl) Try.func9 rfl L rfl .nil (congrArg (fun b => some (Value.bool b)) V) W rfl hl ?_
    clear L
    refine pickL_ok ?_ _
    repeat' (first | exact cd_nil | refine cd_cons ?_ ?_)
    all_goals first | rfl | with_reducible assumption | exact at_ _ (by omega) (by omega) | decide

  · have P0 := lp_in l 0
    have P1 := lp_in l 1
    have P2 := lp_in l 2
    have P3 := lp_in l 3
    have P4 := lp_in l 4
    have P5 := lp_in l 5
    have P6 := lp_in l 6
    have P7 := lp_in l 7
    have B0 := bndA_in l (ltP l 0)
    have B1 := bndA_in l (ltP l 1)
    have B2 := bndA_in l (ltP l 2)
    have B3 := bndA_in l (ltP l 3)
    have B4 := bndA_in l (ltP l 4)
    have B5 := bndA_in l (ltP l 5)
    have B6 := bndA_in l (ltP l 6)
    have B7 := bndA_in l (ltP l 7)
    have q1 := rangeV_in l (ltP l 7) (-1000) 1500 (by omega)
    have q2 := nextV_in l (ltP l 7 + 1) 500 (by omega)
    have w1 : IntKind.i64.wrap (rangeV l (ltP l 7) (-1000) 1500 + nextV l (ltP l 7 + 1) 500) = rangeV l (ltP l 7) (-1000) 1500 + nextV l (ltP l 7 + 1) 500 := v64 (by omega) (by omega)
    have ka : knB { lo := rangeV l (ltP l 7) (-1000) 1500, hi := rangeV l (ltP l 7) (-1000) 1500 + nextV l (ltP l 7 + 1) 500, u := false } = true := knB_iff.2 ⟨rfl, by simp only; omega, by simp only; omega, by simp only; omega⟩
    have mA : mkB { lo := rangeV l (ltP l 7) (-1000) 1500, hi := rangeV l (ltP l 7) (-1000) 1500 + nextV l (ltP l 7 + 1) 500, u := false } = true := by unfold mkB; rw [ka]; simp
    obtain ⟨mC, iC⟩ := withV_mk l (ltP l 7 + 1 + 1) { lo := rangeV l (ltP l 7) (-1000) 1500, hi := rangeV l (ltP l 7) (-1000) 1500 + nextV l (ltP l 7 + 1) 500, u := false } mA
    have k1 : insB (rfV (ltT l 7) (withV l (ltP l 7 + 1 + 1) { lo := rangeV l (ltP l 7) (-1000) 1500, hi := rangeV l (ltP l 7) (-1000) 1500 + nextV l (ltP l 7 + 1) 500, u := false })) (rfV (ltT l 7) { lo := rangeV l (ltP l 7) (-1000) 1500, hi := rangeV l (ltP l 7) (-1000) 1500 + nextV l (ltP l 7 + 1) 500, u := false }) = true := rf_iso iC
    have e0 : cel (ltT l 7) 1 0 = ltA l 1 := by
      have := lt_row l 7 1 (by omega)
      rw [cel_rw, show ((1 : Int)) = ((1 : Nat) : Int) from rfl, this]; rfl
    have la := la_in l 1 (by omega)
    have R : rfV (ltT l 7) (ofB (cel (ltT l 7) 1 0) (cel (ltT l 7) 1 0)) = addB { lo := cel (ltT l 7) 1 1, hi := cel (ltT l 7) 1 2, u := decide (cel (ltT l 7) 1 3 = 1) } (ofB (cel (ltT l 7) 1 0) (cel (ltT l 7) 1 0)) := rf_at (lt_cb l (k := 7) (by omega)) (by rw [e0]; omega) (by rw [lt_len]; omega) (by rw [lt_row l 7 0 (by omega), (lr_lift l 0).2, e0]; exact la_up l 0 (by omega)) rfl
    have ll : decide (1 < lenT (ltT l 7)) = true := decide_eq_true (by unfold lenT; rw [lt_len]; omega)
    have L := hl_7 W.heap.size l
    rw [w1, R, hn] at L
    generalize addB { lo := cel (ltT l 7) 1 1, hi := cel (ltT l 7) 1 2, u := decide (cel (ltT l 7) 1 3 = 1) } (ofB (cel (ltT l 7) 1 0) (cel (ltT l 7) 1 0)) = H at *
    have V : (H.lo == H.lo && (H.hi == H.hi && (H.u == H.u && true))) = true := by simp
    refine list_callsR (B := W.heap.size) (v := .bool true) (ctxOf_ok (libL1_ok _) eqR_ok) (by kernel_rfl) Try.func9 rfl L rfl .nil (congrArg (fun b => some (Value.bool b)) V) W rfl hl ?_
    clear L
    refine pickL_ok ?_ _
    repeat' (first | exact cd_nil | refine cd_cons ?_ ?_)
    all_goals first | rfl | with_reducible assumption | exact at_ _ (by omega) (by omega) | decide

  · have P0 := lp_in l 0
    have P1 := lp_in l 1
    have P2 := lp_in l 2
    have P3 := lp_in l 3
    have P4 := lp_in l 4
    have P5 := lp_in l 5
    have P6 := lp_in l 6
    have P7 := lp_in l 7
    have P8 := lp_in l 8
    have B0 := bndA_in l (ltP l 0)
    have B1 := bndA_in l (ltP l 1)
    have B2 := bndA_in l (ltP l 2)
    have B3 := bndA_in l (ltP l 3)
    have B4 := bndA_in l (ltP l 4)
    have B5 := bndA_in l (ltP l 5)
    have B6 := bndA_in l (ltP l 6)
    have B7 := bndA_in l (ltP l 7)
    have B8 := bndA_in l (ltP l 8)
    have q1 := rangeV_in l (ltP l 8) (-1000) 1500 (by omega)
    have q2 := nextV_in l (ltP l 8 + 1) 500 (by omega)
    have w1 : IntKind.i64.wrap (rangeV l (ltP l 8) (-1000) 1500 + nextV l (ltP l 8 + 1) 500) = rangeV l (ltP l 8) (-1000) 1500 + nextV l (ltP l 8 + 1) 500 := v64 (by omega) (by omega)
    have ka : knB { lo := rangeV l (ltP l 8) (-1000) 1500, hi := rangeV l (ltP l 8) (-1000) 1500 + nextV l (ltP l 8 + 1) 500, u := false } = true := knB_iff.2 ⟨rfl, by simp only; omega, by simp only; omega, by simp only; omega⟩
    have mA : mkB { lo := rangeV l (ltP l 8) (-1000) 1500, hi := rangeV l (ltP l 8) (-1000) 1500 + nextV l (ltP l 8 + 1) 500, u := false } = true := by unfold mkB; rw [ka]; simp
    obtain ⟨mC, iC⟩ := withV_mk l (ltP l 8 + 1 + 1) { lo := rangeV l (ltP l 8) (-1000) 1500, hi := rangeV l (ltP l 8) (-1000) 1500 + nextV l (ltP l 8 + 1) 500, u := false } mA
    have k1 : insB (rfV (ltT l 8) (withV l (ltP l 8 + 1 + 1) { lo := rangeV l (ltP l 8) (-1000) 1500, hi := rangeV l (ltP l 8) (-1000) 1500 + nextV l (ltP l 8 + 1) 500, u := false })) (rfV (ltT l 8) { lo := rangeV l (ltP l 8) (-1000) 1500, hi := rangeV l (ltP l 8) (-1000) 1500 + nextV l (ltP l 8 + 1) 500, u := false }) = true := rf_iso iC
    have e0 : cel (ltT l 8) 1 0 = ltA l 1 := by
      have := lt_row l 8 1 (by omega)
      rw [cel_rw, show ((1 : Int)) = ((1 : Nat) : Int) from rfl, this]; rfl
    have la := la_in l 1 (by omega)
    have R : rfV (ltT l 8) (ofB (cel (ltT l 8) 1 0) (cel (ltT l 8) 1 0)) = addB { lo := cel (ltT l 8) 1 1, hi := cel (ltT l 8) 1 2, u := decide (cel (ltT l 8) 1 3 = 1) } (ofB (cel (ltT l 8) 1 0) (cel (ltT l 8) 1 0)) := rf_at (lt_cb l (k := 8) (by omega)) (by rw [e0]; omega) (by rw [lt_len]; omega) (by rw [lt_row l 8 0 (by omega), (lr_lift l 0).2, e0]; exact la_up l 0 (by omega)) rfl
    have ll : decide (1 < lenT (ltT l 8)) = true := decide_eq_true (by unfold lenT; rw [lt_len]; omega)
    have L := hl_8 W.heap.size l
    rw [w1, R, hn] at L
    generalize addB { lo := cel (ltT l 8) 1 1, hi := cel (ltT l 8) 1 2, u := decide (cel (ltT l 8) 1 3 = 1) } (ofB (cel (ltT l 8) 1 0) (cel (ltT l 8) 1 0)) = H at *
    have V : (H.lo == H.lo && (H.hi == H.hi && (H.u == H.u && true))) = true := by simp
    refine list_callsR (B := W.heap.size) (v := .bool true) (ctxOf_ok (libL1_ok _) eqR_ok) (by kernel_rfl) Try.func9 rfl L rfl .nil (congrArg (fun b => some (Value.bool b)) V) W rfl hl ?_
    clear L
    refine pickL_ok ?_ _
    repeat' (first | exact cd_nil | refine cd_cons ?_ ?_)
    all_goals first | rfl | with_reducible assumption | exact at_ _ (by omega) (by omega) | decide

theorem horizonLifted_walk (l : List Int) (p : Option Addr) (cap : Nat) (hL : listB l = true) (W : World) (hl : fctHolds W.heap.size (.ints l) W #[.slice p l.length cap]) : Calls Try.prog 9 #[.slice p l.length cap] W fun e w' => e = .returned (.bool true) ∧ Below W.heap.size W w' := horizonLifted_case l p cap hL W hl
end
end Go.Proofs.Ytagbpehfieejcaa.AtHz

