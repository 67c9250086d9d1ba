/-
  Package spymake's bounds out of streams: Bound and Within; the fact of package bound.
  Conditions: those of each theorem.
-/
import Derived.Test.YtagbpehfieejcaaST
import Derived.Test.YtagbpehfieejcaaB1
set_option linter.unusedVariables false
set_option linter.unusedSimpArgs false
namespace Go.Proofs.Ytagbpehfieejcaa
open Go.RowKit Ev Wd
variable {F : Type}

def bndV (l : List Int) (a m : Int) : Bd := bif nextV l a 8 == 0 then noneB else bif nextV l a 8 == 1 then ⟨rangeV l (a + 1) (-m) m, rangeV l (a + 1) (-m) m, false⟩ else
  ⟨minI (rangeV l (a + 1) (-m) m) (rangeV l (a + 1 + 1) (-m) m), maxI (rangeV l (a + 1) (-m) m) (rangeV l (a + 1 + 1) (-m) m), false⟩
def bndA (l : List Int) (a : Int) : Int := bif nextV l a 8 == 0 then a + 1 else bif nextV l a 8 == 1 then a + 1 + 1 else a + 1 + 1 + 1
def spanI (b : Bd) : Int := minI (b.hi - b.lo) 536870912
def withV (l : List Int) (a : Int) (b : Bd) : Bd := bif b.u then (bif nextV l a 2 == 0 then b else bndV l (a + 1) 100) else
  ⟨b.lo + nextV l a (spanI b + 1), b.lo + rangeV l (a + 1) (nextV l a (spanI b + 1)) (spanI b), false⟩
def withA (l : List Int) (a : Int) (b : Bd) : Int := bif b.u then (bif nextV l a 2 == 0 then a + 1 else bndA l (a + 1)) else a + 1 + 1
/-- A bound as streams make it. -/
def mkB (b : Bd) : Bool := (b.u && b.lo == 0 && b.hi == 0) || knB b
theorem bndA_in (l : List Int) (a : Int) : a + 1 ≤ bndA l a ∧ bndA l a ≤ a + 3 := by
  unfold bndA
  cases nextV l a 8 == 0 <;> cases nextV l a 8 == 1 <;> simp only [cond_true, cond_false] <;> omega
theorem withA_in (l : List Int) (a : Int) (b : Bd) : a + 1 ≤ withA l a b ∧ withA l a b ≤ a + 4 := by
  unfold withA
  have := bndA_in l (a + 1)
  cases b.u <;> cases nextV l a 2 == 0 <;> simp only [cond_true, cond_false] <;> omega
theorem minI_le (a b : Int) : minI a b ≤ a ∧ minI a b ≤ b ∧ (minI a b = a ∨ minI a b = b) := by unfold minI; split <;> omega
theorem maxI_ge (a b : Int) : a ≤ maxI a b ∧ b ≤ maxI a b ∧ (maxI a b = a ∨ maxI a b = b) := by unfold maxI; split <;> omega
theorem bndV_mk (l : List Int) (a m : Int) (h0 : 0 ≤ m) (h1 : m ≤ 1152921504606846976) : mkB (bndV l a m) = true := by
  unfold bndV mkB
  have g1 := rangeV_in l (a + 1) (-m) m (by omega)
  have g2 := rangeV_in l (a + 1 + 1) (-m) m (by omega)
  have := minI_le (rangeV l (a + 1) (-m) m) (rangeV l (a + 1 + 1) (-m) m)
  have := maxI_ge (rangeV l (a + 1) (-m) m) (rangeV l (a + 1 + 1) (-m) m)
  cases nextV l a 8 == 0 with
  | true => rfl
  | false =>
    cases nextV l a 8 == 1 with
    | true => simp only [cond_true, cond_false, Bool.or_eq_true]; exact .inr (knB_iff.2 ⟨rfl, by simp only; omega, by simp only; omega, by simp only; omega⟩)
    | false => simp only [cond_false, Bool.or_eq_true]; exact .inr (knB_iff.2 ⟨rfl, by simp only; omega, by simp only; omega, by simp only; omega⟩)
theorem mkB_kn {b : Bd} (h : mkB b = true) (hu : b.u = false) : knB b = true := by
  unfold mkB at h
  rw [hu] at h
  simpa using h
theorem span_in {b : Bd} (h : knB b = true) : 0 ≤ spanI b ∧ spanI b ≤ 536870912 ∧ spanI b ≤ b.hi - b.lo := by
  have := knB_iff.1 h
  have := minI_le (b.hi - b.lo) 536870912
  unfold spanI; omega
theorem withV_mk (l : List Int) (a : Int) (b : Bd) (h : mkB b = true) : mkB (withV l a b) = true ∧ insB (withV l a b) b = true := by
  unfold withV
  cases hu : b.u with
  | true =>
    have hk : knB b = false := by unfold knB; rw [hu]; rfl
    have hi : ∀ x, insB x b = true := fun x => by unfold insB; rw [hk]; rfl
    refine ⟨?_, hi _⟩
    cases nextV l a 2 == 0 with
    | true => exact h
    | false => exact bndV_mk l _ 100 (by omega) (by omega)
  | false =>
    have hk := mkB_kn h hu
    have g := knB_iff.1 hk
    have s := span_in hk
    have n1 := nextV_in l a (spanI b + 1) (by omega)
    have n2 := rangeV_in l (a + 1) (nextV l a (spanI b + 1)) (spanI b) (by omega)
    have hk2 : knB (⟨b.lo + nextV l a (spanI b + 1), b.lo + rangeV l (a + 1) (nextV l a (spanI b + 1)) (spanI b), false⟩ : Bd) = true := knB_iff.2 ⟨rfl, by simp only; omega, by simp only; omega, by simp only; omega⟩
    simp only [cond_false]
    refine ⟨by unfold mkB; rw [hk2]; simp, ?_⟩
    unfold insB
    rw [hk2, hk]
    simp only [Bool.not_true, Bool.false_or, Bool.true_and, Bool.and_eq_true, decide_eq_true_eq]
    omega

abbrev libS3 : List (Nat × FnSp Fct) := (38, rangeS) :: libS2
abbrev bndG (l : List Int) (a : Int) (rest : List (AV Fct)) : Option (AV Fct × Int × List (Bool × Bool)) := match rest with
  | [x] => match (dInt .i64).dec x with
    | some m => some (bA (bndV l a m), bndA l a, (decide (0 ≤ m), true) :: (inB m, true) :: (atB (a + 5), true) :: stC l a)
    | none => none
  | _ => none
abbrev withG (l : List Int) (a : Int) (rest : List (AV Fct)) : Option (AV Fct × Int × List (Bool × Bool)) := match rest with
  | [x] => match dBd.dec x with
    | some b => some (bA (withV l a b), withA l a b, (mkB b, true) :: (atB (a + 9), true) :: stC l a)
    | none => none
  | _ => none
abbrev bndS : FnSp Fct := stream 68 bndG
abbrev withS : FnSp Fct := stream 68 withG
abbrev libS4 : List (Nat × FnSp Fct) := (53, bndS) :: libS3
theorem libS3_ok (B : Nat) : LibOk Try.prog (fctI B) (lib1 libS3) := lib1_cons (rangeS_ok B) Try.call38 (libS2_ok B)
set_option maxRecDepth 100000 in
theorem bnd_l0 (B : Nat) (l : List Int) (a : Int) (m : Int) : evS (ctxOf Try.prog (fctI B) (fun _ => false) libS3) Try.f53 68 l a [(.w (.one (.int .i64 m)))] [true] = some (AV.w (AW.agg [AC.int IntKind.i64 0, AC.int IntKind.i64 0, AC.yes true]), a + 1, [(i64B 8, true), (listB l, true), (atB a, true), (nextV l a 8 == 0, true)]) := by kernel_rfl
set_option maxRecDepth 100000 in
theorem bnd_l1 (B : Nat) (l : List Int) (a : Int) (m : Int) : evS (ctxOf Try.prog (fctI B) (fun _ => false) libS3) Try.f53 68 l a [(.w (.one (.int .i64 m)))] [false, true] = some (AV.w (AW.agg [AC.int IntKind.i64 (rangeV l (a + 1) (IntKind.i64.wrap (0 - m)) m), AC.int IntKind.i64 (rangeV l (a + 1) (IntKind.i64.wrap (0 - m)) m), AC.yes false]), a + 1 + 1, [(i64B 8, true), (listB l, true), (atB a, true), (nextV l a 8 == 0, false), (nextV l a 8 == 1, true), (decide (m < IntKind.i64.wrap (0 - m)), false), (rB (IntKind.i64.wrap (0 - m)), true), (rB m, true), (listB l, true), (atB (a + 1), true)]) := by kernel_rfl
set_option maxRecDepth 100000 in
theorem bnd_l2 (B : Nat) (l : List Int) (a : Int) (m : Int) : evS (ctxOf Try.prog (fctI B) (fun _ => false) libS3) Try.f53 68 l a [(.w (.one (.int .i64 m)))] [false, false] = some (AV.w (AW.agg [AC.int IntKind.i64 (bif false then if rangeV l (a + 1 + 1) (IntKind.i64.wrap (0 - m)) m > rangeV l (a + 1) (IntKind.i64.wrap (0 - m)) m then rangeV l (a + 1 + 1) (IntKind.i64.wrap (0 - m)) m else rangeV l (a + 1) (IntKind.i64.wrap (0 - m)) m else if rangeV l (a + 1 + 1) (IntKind.i64.wrap (0 - m)) m < rangeV l (a + 1) (IntKind.i64.wrap (0 - m)) m then rangeV l (a + 1 + 1) (IntKind.i64.wrap (0 - m)) m else rangeV l (a + 1) (IntKind.i64.wrap (0 - m)) m), AC.int IntKind.i64 (bif true then if rangeV l (a + 1 + 1) (IntKind.i64.wrap (0 - m)) m > rangeV l (a + 1) (IntKind.i64.wrap (0 - m)) m then rangeV l (a + 1 + 1) (IntKind.i64.wrap (0 - m)) m else rangeV l (a + 1) (IntKind.i64.wrap (0 - m)) m else if rangeV l (a + 1 + 1) (IntKind.i64.wrap (0 - m)) m < rangeV l (a + 1) (IntKind.i64.wrap (0 - m)) m then rangeV l (a + 1 + 1) (IntKind.i64.wrap (0 - m)) m else rangeV l (a + 1) (IntKind.i64.wrap (0 - m)) m), AC.yes false]), a + 1 + 1 + 1, [(i64B 8, true), (listB l, true), (atB a, true), (nextV l a 8 == 0, false), (nextV l a 8 == 1, false), (decide (m < IntKind.i64.wrap (0 - m)), false), (rB (IntKind.i64.wrap (0 - m)), true), (rB m, true), (listB l, true), (atB (a + 1), true), (decide (m < IntKind.i64.wrap (0 - m)), false), (rB (IntKind.i64.wrap (0 - m)), true), (rB m, true), (listB l, true), (atB (a + 1 + 1), true)]) := by kernel_rfl
theorem bndS_ok (B : Nat) : bndS.ok Try.prog (fctI B) 53 := by
  refine stream_ok (ctxOf_ok (libS3_ok B) (eq_none _)) (by kernel_rfl) Try.func53 rfl fun l a rest v a' cd hg hc => ?_
  simp only [bndG] at hg
  split at hg
  · rename_i x
    split at hg
    · rename_i m hx
      cases hg
      have h0 : 0 ≤ m := of_decide_eq_true (hc (decide (0 ≤ m), true) (by simp))
      have h1 := inB_iff.1 (hc (inB m, true) (by simp))
      have hl : listB l = true := hc (listB l, true) (by simp)
      have ha : atB a = true := hc (atB a, true) (by simp)
      have ha1 := atB_iff.1 ha
      have ha5 := atB_iff.1 (hc (atB (a + 5), true) (by simp))
      have e1 : IntKind.i64.wrap (0 - m) = -m := by rw [show 0 - m = -m by omega]; exact IntWalk.i64_in _ (by omega)
      rw [dInt_eq hx]
      cases hz : (nextV l a 8 == 0) with
      | true =>
        refine ⟨[.int .i64 m], bV (bndV l a m), [true], _, _, _, .cons rfl .nil, .cons rfl .nil, rfl, ?_, rfl, (by have L := bnd_l0 B l a m; rw [show bndA l a = a + 1 by unfold bndA; rw [hz]; rfl]; exact L), ?_⟩
        · unfold bndV; rw [hz]; rfl
        repeat' (first | exact cd_nil | refine cd_cons ?_ ?_)
        all_goals first | exact hz | exact hy | exact hl | exact ha | (rw [atB_iff]; omega) | (rw [rB_iff]; omega) | exact decide_eq_false (by omega) | rfl
      | false =>
        cases hy : (nextV l a 8 == 1) with
        | true =>
          refine ⟨[.int .i64 m], bV (bndV l a m), [false, true], _, _, _, .cons rfl .nil, .cons rfl .nil, rfl, ?_, rfl, (by have L := bnd_l1 B l a m; rw [e1] at L; rw [show bndA l a = a + 1 + 1 by unfold bndA; rw [hz, hy]; rfl]; exact L), ?_⟩
          · unfold bndV; rw [hz, hy]; rfl
          repeat' (first | exact cd_nil | refine cd_cons ?_ ?_)
          all_goals first | exact hz | exact hy | exact hl | exact ha | (rw [atB_iff]; omega) | (rw [rB_iff]; omega) | exact decide_eq_false (by omega) | rfl
        | false =>
          refine ⟨[.int .i64 m], bV (bndV l a m), [false, false], _, _, _, .cons rfl .nil, .cons rfl .nil, rfl, ?_, rfl, (by have L := bnd_l2 B l a m; rw [e1] at L; rw [show bndA l a = a + 1 + 1 + 1 by unfold bndA; rw [hz, hy]; rfl]; exact L), ?_⟩
          · unfold bndV; rw [hz, hy]; rfl
          repeat' (first | exact cd_nil | refine cd_cons ?_ ?_)
          all_goals first | exact hz | exact hy | exact hl | exact ha | (rw [atB_iff]; omega) | (rw [rB_iff]; omega) | exact decide_eq_false (by omega) | rfl
    · cases hg
  · cases hg
theorem libS4_ok (B : Nat) : LibOk Try.prog (fctI B) (lib1 libS4) := lib1_cons (bndS_ok B) Try.call53 (libS3_ok B)
set_option maxRecDepth 100000 in
theorem within_l0 (B : Nat) (l : List Int) (a : Int) (b : Bd) : evS (ctxOf Try.prog (fctI B) (fun _ => false) libS4) Try.f54 68 l a [(bA b)] [true, true] = some (AV.w (AW.agg [AC.int IntKind.i64 b.lo, AC.int IntKind.i64 b.hi, AC.bool b.u]), a + 1, [(b.u, true), (i64B 2, true), (listB l, true), (atB a, true), (nextV l a 2 == 0, true)]) := by kernel_rfl
set_option maxRecDepth 100000 in
theorem within_l1 (B : Nat) (l : List Int) (a : Int) (b : Bd) : evS (ctxOf Try.prog (fctI B) (fun _ => false) libS4) Try.f54 68 l a [(bA b)] [true, false] = some (AV.w (AW.agg [AC.int IntKind.i64 (bndV l (a + 1) 100).lo, AC.int IntKind.i64 (bndV l (a + 1) 100).hi, AC.bool (bndV l (a + 1) 100).u]), bndA l (a + 1), [(b.u, true), (i64B 2, true), (listB l, true), (atB a, true), (nextV l a 2 == 0, false), (decide (0 ≤ 100), true), (inB 100, true), (atB (a + 1 + 5), true), (listB l, true), (atB (a + 1), true)]) := by kernel_rfl
set_option maxRecDepth 100000 in
theorem within_l2 (B : Nat) (l : List Int) (a : Int) (b : Bd) : evS (ctxOf Try.prog (fctI B) (fun _ => false) libS4) Try.f54 68 l a [(bA b)] [false] = some (AV.w (AW.agg [AC.int IntKind.i64 (IntKind.i64.wrap (b.lo + nextV l a (IntKind.i64.wrap ((bif false then if 536870912 > IntKind.i64.wrap (b.hi - b.lo) then 536870912 else IntKind.i64.wrap (b.hi - b.lo) else if 536870912 < IntKind.i64.wrap (b.hi - b.lo) then 536870912 else IntKind.i64.wrap (b.hi - b.lo)) + 1)))), AC.int IntKind.i64 (IntKind.i64.wrap (b.lo + rangeV l (a + 1) (nextV l a (IntKind.i64.wrap ((bif false then if 536870912 > IntKind.i64.wrap (b.hi - b.lo) then 536870912 else IntKind.i64.wrap (b.hi - b.lo) else if 536870912 < IntKind.i64.wrap (b.hi - b.lo) then 536870912 else IntKind.i64.wrap (b.hi - b.lo)) + 1))) (bif false then if 536870912 > IntKind.i64.wrap (b.hi - b.lo) then 536870912 else IntKind.i64.wrap (b.hi - b.lo) else if 536870912 < IntKind.i64.wrap (b.hi - b.lo) then 536870912 else IntKind.i64.wrap (b.hi - b.lo)))), AC.yes false]), a + 1 + 1, [(b.u, false), (i64B (IntKind.i64.wrap ((bif false then if 536870912 > IntKind.i64.wrap (b.hi - b.lo) then 536870912 else IntKind.i64.wrap (b.hi - b.lo) else if 536870912 < IntKind.i64.wrap (b.hi - b.lo) then 536870912 else IntKind.i64.wrap (b.hi - b.lo)) + 1)), true), (listB l, true), (atB a, true), (decide ((bif false then if 536870912 > IntKind.i64.wrap (b.hi - b.lo) then 536870912 else IntKind.i64.wrap (b.hi - b.lo) else if 536870912 < IntKind.i64.wrap (b.hi - b.lo) then 536870912 else IntKind.i64.wrap (b.hi - b.lo)) < nextV l a (IntKind.i64.wrap ((bif false then if 536870912 > IntKind.i64.wrap (b.hi - b.lo) then 536870912 else IntKind.i64.wrap (b.hi - b.lo) else if 536870912 < IntKind.i64.wrap (b.hi - b.lo) then 536870912 else IntKind.i64.wrap (b.hi - b.lo)) + 1))), false), (rB (nextV l a (IntKind.i64.wrap ((bif false then if 536870912 > IntKind.i64.wrap (b.hi - b.lo) then 536870912 else IntKind.i64.wrap (b.hi - b.lo) else if 536870912 < IntKind.i64.wrap (b.hi - b.lo) then 536870912 else IntKind.i64.wrap (b.hi - b.lo)) + 1))), true), (rB (bif false then if 536870912 > IntKind.i64.wrap (b.hi - b.lo) then 536870912 else IntKind.i64.wrap (b.hi - b.lo) else if 536870912 < IntKind.i64.wrap (b.hi - b.lo) then 536870912 else IntKind.i64.wrap (b.hi - b.lo)), true), (listB l, true), (atB (a + 1), true)]) := by kernel_rfl
theorem dBd_R {x : AV F} {b : Bd} (h : dBd.dec x = some b) : x = .w (.agg [.int .i64 b.lo, .int .i64 b.hi, .bool b.u]) ∨ x = .w (.agg [.int .i64 b.lo, .int .i64 b.hi, .yes b.u]) := by
  simp only [dBd] at h
  split at h
  · cases h; exact .inl rfl
  · cases h; exact .inr rfl
  · cases h
theorem withS_ok (B : Nat) : withS.ok Try.prog (fctI B) 54 := by
  refine stream_ok (ctxOf_ok (libS4_ok B) (eq_none _)) (by kernel_rfl) Try.func54 rfl fun l a rest v a' cd hg hc => ?_
  simp only [withG] at hg
  split at hg
  · rename_i x
    split at hg
    · rename_i b hx
      cases hg
      have hm : mkB b = true := hc (mkB b, true) (by simp)
      have hl : listB l = true := hc (listB l, true) (by simp)
      have ha : atB a = true := hc (atB a, true) (by simp)
      have ha1 := atB_iff.1 ha
      have ha5 := atB_iff.1 (hc (atB (a + 9), true) (by simp))
      have hx1 : All2 (fun (x : AV Fct) u => x.val = some u) [x] [bV b] := .cons (dBd.ok _ _ hx) .nil
      have key : ∃ us u path x0 cd' rest', All2 (fun (x : AV Fct) u => x.val = some u) [x] us ∧ All2 (fun (x : AV Fct) u => x.val = some u) rest' us ∧ (bA (withV l a b) : AV Fct).val = some u ∧ x0.val = some u ∧ Nat.ble (rest'.length + 1) Try.f54.ntmps = true ∧
          evS (ctxOf Try.prog (fctI B) (fun _ => false) libS4) Try.f54 68 l a rest' path = some (x0, withA l a b, cd') ∧ (∀ p ∈ cd', p.1 = p.2) := by
        cases hu : b.u with
        | true =>
          cases hz : (nextV l a 2 == 0) with
          | true =>
            refine ⟨[bV b], bV (withV l a b), [true, true], _, _, [bA b], hx1, .cons rfl .nil, rfl, ?_, rfl, (by have L := within_l0 B l a b; rw [show withA l a b = a + 1 by unfold withA; rw [hu, hz]; rfl]; exact L), ?_⟩
            · rw [show withV l a b = b by unfold withV; rw [hu, hz]; rfl]; rfl
            repeat' (first | exact cd_nil | refine cd_cons ?_ ?_)
            all_goals first | exact hz | exact hu | exact hy | exact hl | exact ha | (rw [atB_iff]; omega) | (rw [rB_iff]; omega) | exact decide_eq_false (by omega) | rfl
          | false =>
            refine ⟨[bV b], bV (withV l a b), [true, false], _, _, [bA b], hx1, .cons rfl .nil, rfl, ?_, rfl, (by have L := within_l1 B l a b; rw [show withA l a b = bndA l (a + 1) by unfold withA; rw [hu, hz]; rfl]; exact L), ?_⟩
            · unfold withV; rw [hu, hz]; rfl
            repeat' (first | exact cd_nil | refine cd_cons ?_ ?_)
            all_goals first | exact hz | exact hu | exact hy | exact hl | exact ha | (rw [atB_iff]; omega) | (rw [rB_iff]; omega) | exact decide_eq_false (by omega) | rfl
        | false =>
          have hk := mkB_kn hm hu
          have g := knB_iff.1 hk
          have s := span_in hk
          have n1 := nextV_in l a (spanI b + 1) (by omega)
          have n2 := rangeV_in l (a + 1) (nextV l a (spanI b + 1)) (spanI b) (by omega)
          have e1 : IntKind.i64.wrap (b.hi - b.lo) = b.hi - b.lo := IntWalk.i64_in _ (by omega)
          have e2 : IntKind.i64.wrap (spanI b + 1) = spanI b + 1 := IntWalk.i64_in _ (by omega)
          have e3 : IntKind.i64.wrap (b.lo + nextV l a (spanI b + 1)) = b.lo + nextV l a (spanI b + 1) := IntWalk.i64_in _ (by omega)
          have e4 : IntKind.i64.wrap (b.lo + rangeV l (a + 1) (nextV l a (spanI b + 1)) (spanI b)) = b.lo + rangeV l (a + 1) (nextV l a (spanI b + 1)) (spanI b) := IntWalk.i64_in _ (by omega)
          have eS : (bif false then if 536870912 > b.hi - b.lo then 536870912 else b.hi - b.lo else if 536870912 < b.hi - b.lo then 536870912 else b.hi - b.lo) = spanI b := rfl
          have L := within_l2 B l a b
          rw [e1, eS, e2, e3, e4] at L
          refine ⟨[bV b], bV (withV l a b), [false], _, _, [bA b], hx1, .cons rfl .nil, rfl, ?_, rfl, (by rw [show withA l a b = a + 1 + 1 by unfold withA; rw [hu]; rfl]; exact L), ?_⟩
          · unfold withV; rw [hu]; rfl
          repeat' (first | exact cd_nil | refine cd_cons ?_ ?_)
          all_goals first | exact hu | (rw [i64B_iff]; omega) | exact hl | exact ha | (rw [atB_iff]; omega) | (rw [rB_iff]; omega) | exact decide_eq_false (by omega) | rfl
      exact key
    · cases hg
  · cases hg
end Go.Proofs.Ytagbpehfieejcaa

