/-
  Package spymake: what Time, Arc and Rate make out of streams.
  Conditions: those of each theorem.
-/
import Derived.Test.YtoaoifiklnbknabE1
import Derived.Test.YtoaoifiklnbknabST
set_option linter.unusedVariables false
set_option linter.unusedSimpArgs false
namespace Go.Proofs.Ytoaoifiklnbknab.AtRt
open Go.RowKit Ev Wd
open Go.Proofs.Ytoaoifiklnbknab
variable {F : Type}
noncomputable section

def bsV (l : List Int) (a : Int) : Int := rangeV l a (-5000) 5000 * 86400000 + rangeV l (a + 1) (-3000) 3000
def tiV (l : List Int) (a : Int) : Int := bif nextV l (a + 1 + 1) 6 == 0 then bsV l a + nextV l (a + 1 + 1 + 1) 86400000 else bif nextV l (a + 1 + 1) 6 == 1 then bsV l a * 40 else bsV l a
def tiA (l : List Int) (a : Int) : Int := bif nextV l (a + 1 + 1) 6 == 0 then a + 1 + 1 + 1 + 1 else a + 1 + 1 + 1
def mkW (a : Int) : Int := IntKind.i64.wrap ((BitVec.ofInt IntKind.i64.bits a &&& BitVec.ofInt IntKind.i64.bits 4294967295).toNat : Int)
def arV (l : List Int) (a : Int) : Int := bif nextV l (a + 1 + 1) 3 == 0 then mkW (nextV l (a + 1 + 1 + 1) 8 * 536870912 + rangeV l (a + 1 + 1 + 1 + 1) (-3) 3) else mkW (nextV l a 1073741824 * 4 + nextV l (a + 1) 4)
def arA (l : List Int) (a : Int) : Int := bif nextV l (a + 1 + 1) 3 == 0 then a + 1 + 1 + 1 + 1 + 1 else a + 1 + 1 + 1
def denV (k : Int) : Int := if k = 0 then 1 else if k = 1 then 7 else if k = 2 then 1000 else 1073741824
def rnV (l : List Int) (a d : Int) : Int := (1 + nextV l (a + 1) 60) * d + nextV l (a + 1 + 1) d
def gcV (x y : Int) : Int := (Int.gcd x y : Int)
def rvV (l : List Int) (a : Int) : Rt := ⟨(tiV l (a + 1 + 1 + 1)).tdiv 10, arV l (tiA l (a + 1 + 1 + 1)), rnV l a (denV (nextV l a 4)) / gcV (rnV l a (denV (nextV l a 4))) (denV (nextV l a 4)), denV (nextV l a 4) / gcV (rnV l a (denV (nextV l a 4))) (denV (nextV l a 4))⟩
def rvA (l : List Int) (a : Int) : Int := arA l (tiA l (a + 1 + 1 + 1))
abbrev tiG (l : List Int) (a : Int) (rest : List (AV Fct)) : Option (AV Fct × Int × List (Bool × Bool)) := match rest with
  | [] => some (aInt .i64 (tiV l a), tiA l a, (atB (a + 5), true) :: stC l a)
  | _ => none
abbrev arG (l : List Int) (a : Int) (rest : List (AV Fct)) : Option (AV Fct × Int × List (Bool × Bool)) := match rest with
  | [] => some (aInt .i64 (arV l a), arA l a, (atB (a + 6), true) :: stC l a)
  | _ => none
abbrev rvG (l : List Int) (a : Int) (rest : List (AV Fct)) : Option (AV Fct × Int × List (Bool × Bool)) := match rest with
  | [] => some (rtA (rvV l a), rvA l a, (atB (a + 20), true) :: stC l a)
  | _ => none
abbrev nxG (K : Int) (l : List Int) (a : Int) (rest : List (AV Fct)) : Option (AV Fct × Int × List (Bool × Bool)) := match rest with
  | [x] => match (dInt .i64).dec x with
    | some n => bif n == 4 then some (aInt .i64 K, a + 1, (nextV l a n == K, true) :: (i64B n, true) :: stC l a) else some (aInt .i64 (nextV l a n), a + 1, (i64B n, true) :: stC l a)
    | none => none
  | _ => none
abbrev tiS : FnSp Fct := stream 25 tiG
abbrev arS : FnSp Fct := stream 25 arG
abbrev rvS : FnSp Fct := stream 25 rvG
abbrev nxS (K : Int) : FnSp Fct := stream 25 (nxG K)
abbrev libT0 : List (Nat × FnSp Fct) := (9, rangeS) :: libS2
abbrev libT1 (K : Int) : List (Nat × FnSp Fct) := [(8, nxS K), (9, rangeS), (21, tiS), (22, arS)]
theorem libT0_ok (B : Nat) : LibOk Try.prog (fctI B) (lib1 libT0) := lib1_cons (rangeS_ok B) Try.call9 (libS2_ok B)
theorem bs_in (l : List Int) (a : Int) : IntKind.i64.wrap (IntKind.i64.wrap (rangeV l a (-5000) 5000 * 86400000) + rangeV l (a + 1) (-3000) 3000) = bsV l a ∧ -432000003000 ≤ bsV l a ∧ bsV l a ≤ 432000003000 := by
  have h1 := rangeV_in l a (-5000) 5000 (by omega)
  have h2 := rangeV_in l (a + 1) (-3000) 3000 (by omega)
  unfold bsV
  refine ⟨by rw [v64 (x := rangeV l a (-5000) 5000 * 86400000) (by omega) (by omega), v64 (by omega) (by omega)], by omega, by omega⟩
theorem ti_in (l : List Int) (a : Int) : -17280000120000 ≤ tiV l a ∧ tiV l a ≤ 17280000120000 ∧ a + 3 ≤ tiA l a ∧ tiA l a ≤ a + 4 := by
  obtain ⟨_, h1, h2⟩ := bs_in l a
  have h3 := nextV_in l (a + 1 + 1 + 1) 86400000 (by omega)
  unfold tiV tiA
  cases nextV l (a + 1 + 1) 6 == 0 <;> cases nextV l (a + 1 + 1) 6 == 1 <;> simp only [cond_true, cond_false] <;> omega
theorem mkW_eq (a : Int) : mkW a = a % 4294967296 := by
  unfold mkW
  rw [BitVec.toNat_and]
  have e : (BitVec.ofInt IntKind.i64.bits 4294967295).toNat = 2 ^ 32 - 1 := by decide
  rw [e, Nat.and_two_pow_sub_one_eq_mod]
  have h : (BitVec.ofInt IntKind.i64.bits a).toNat = (a % 18446744073709551616).toNat := BitVec.toNat_ofInt a
  rw [h, IntKind.wrap_i64]
  omega
theorem ar_in (l : List Int) (a : Int) : 0 ≤ arV l a ∧ arV l a < 4294967296 ∧ a + 3 ≤ arA l a ∧ arA l a ≤ a + 5 := by
  unfold arV arA
  rw [mkW_eq, mkW_eq]
  cases nextV l (a + 1 + 1) 3 == 0 <;> simp only [cond_true, cond_false] <;> omega
set_option maxRecDepth 100000 in
theorem tif_1 (B : Nat) (l : List Int) (a : Int) : evS (ctxOf Try.prog (fctI B) (fun _ => false) libT0) Try.f21 25 l a [] [true] = some (AV.w (AW.one (AC.int IntKind.i64 (IntKind.i64.wrap (IntKind.i64.wrap (IntKind.i64.wrap (rangeV l a (-5000) 5000 * 86400000) + rangeV l (a + 1) (-3000) 3000) + nextV l (a + 1 + 1 + 1) 86400000)))), a + 1 + 1 + 1 + 1, (pickL [(decide (5000 < -5000), false), (rB (-5000), true), (rB 5000, true), (listB l, true), (atB a, true), (decide (3000 < -3000), false), (rB (-3000), true), (rB 3000, true), (atB (a + 1), true), (i64B 6, true), (atB (a + 1 + 1), true), (nextV l (a + 1 + 1) 6 == 0, true), (i64B 86400000, true), (atB (a + 1 + 1 + 1), true)] [0, 1, 2, 3, 4, 5, 6, 7, 3, 8, 9, 3, 10, 11, 12, 3, 13])) := by kernel_rfl
set_option maxRecDepth 100000 in
theorem tif_01 (B : Nat) (l : List Int) (a : Int) : evS (ctxOf Try.prog (fctI B) (fun _ => false) libT0) Try.f21 25 l a [] [false, true] = some (AV.w (AW.one (AC.int IntKind.i64 (IntKind.i64.wrap (IntKind.i64.wrap (IntKind.i64.wrap (rangeV l a (-5000) 5000 * 86400000) + rangeV l (a + 1) (-3000) 3000) * 40)))), a + 1 + 1 + 1, (pickL [(decide (5000 < -5000), false), (rB (-5000), true), (rB 5000, true), (listB l, true), (atB a, true), (decide (3000 < -3000), false), (rB (-3000), true), (rB 3000, true), (atB (a + 1), true), (i64B 6, true), (atB (a + 1 + 1), true), (nextV l (a + 1 + 1) 6 == 0, false), (nextV l (a + 1 + 1) 6 == 1, true)] [0, 1, 2, 3, 4, 5, 6, 7, 3, 8, 9, 3, 10, 11, 12])) := by kernel_rfl
set_option maxRecDepth 100000 in
theorem tif_00 (B : Nat) (l : List Int) (a : Int) : evS (ctxOf Try.prog (fctI B) (fun _ => false) libT0) Try.f21 25 l a [] [false, false] = some (AV.w (AW.one (AC.int IntKind.i64 (IntKind.i64.wrap (IntKind.i64.wrap (rangeV l a (-5000) 5000 * 86400000) + rangeV l (a + 1) (-3000) 3000)))), a + 1 + 1 + 1, (pickL [(decide (5000 < -5000), false), (rB (-5000), true), (rB 5000, true), (listB l, true), (atB a, true), (decide (3000 < -3000), false), (rB (-3000), true), (rB 3000, true), (atB (a + 1), true), (i64B 6, true), (atB (a + 1 + 1), true), (nextV l (a + 1 + 1) 6 == 0, false), (nextV l (a + 1 + 1) 6 == 1, false)] [0, 1, 2, 3, 4, 5, 6, 7, 3, 8, 9, 3, 10, 11, 12])) := by kernel_rfl
set_option maxRecDepth 100000 in
theorem arf_1 (B : Nat) (l : List Int) (a : Int) : evS (ctxOf Try.prog (fctI B) (fun _ => false) libT0) Try.f22 25 l a [] [true] = some (AV.w (AW.one (AC.int IntKind.i64 (mkW (IntKind.i64.wrap (IntKind.i64.wrap (nextV l (a + 1 + 1 + 1) 8 * 536870912) + rangeV l (a + 1 + 1 + 1 + 1) (-3) 3))))), a + 1 + 1 + 1 + 1 + 1, (pickL [(i64B 1073741824, true), (listB l, true), (atB a, true), (i64B 4, true), (atB (a + 1), true), (i64B 3, true), (atB (a + 1 + 1), true), (nextV l (a + 1 + 1) 3 == 0, true), (i64B 8, true), (atB (a + 1 + 1 + 1), true), (decide (3 < -3), false), (rB (-3), true), (rB 3, true), (atB (a + 1 + 1 + 1 + 1), true)] [0, 1, 2, 3, 1, 4, 5, 1, 6, 7, 8, 1, 9, 10, 11, 12, 1, 13])) := by kernel_rfl
set_option maxRecDepth 100000 in
theorem arf_0 (B : Nat) (l : List Int) (a : Int) : evS (ctxOf Try.prog (fctI B) (fun _ => false) libT0) Try.f22 25 l a [] [false] = some (AV.w (AW.one (AC.int IntKind.i64 (mkW (IntKind.i64.wrap (IntKind.i64.wrap (nextV l a 1073741824 * 4) + nextV l (a + 1) 4))))), a + 1 + 1 + 1, (pickL [(i64B 1073741824, true), (listB l, true), (atB a, true), (i64B 4, true), (atB (a + 1), true), (i64B 3, true), (atB (a + 1 + 1), true), (nextV l (a + 1 + 1) 3 == 0, false)] [0, 1, 2, 3, 1, 4, 5, 1, 6, 7])) := by kernel_rfl
theorem tiS_ok (B : Nat) : tiS.ok Try.prog (fctI B) 21 := by
  refine stream_ok (ctxOf_ok (libT0_ok B) (eq_none _)) (by kernel_rfl) Try.func21 rfl fun l a rest v a' cd hg hc => ?_
  simp only [tiG] at hg
  split at hg
  · cases hg
    have hl : listB l = true := hc (listB l, true) (by simp)
    have ha : atB a = true := hc (atB a, true) (by simp)
    have ha1 := atB_iff.1 ha
    have ha5 := atB_iff.1 (hc (atB (a + 5), true) (by simp))
    have nx : ∀ n p, 1 ≤ n → 0 ≤ nextV l p n ∧ nextV l p n < n := fun n p h => nextV_in l p n h
    obtain ⟨b1, b2, b3⟩ := bs_in l a
    have g3 := nx 86400000 (a + 1 + 1 + 1) (by omega)
    cases h1 : (nextV l (a + 1 + 1) 6 == 0) with
    | true =>
      have e1 : tiV l a = bsV l a + nextV l (a + 1 + 1 + 1) 86400000 := by unfold tiV; rw [h1]; rfl
      have e2 : tiA l a = a + 1 + 1 + 1 + 1 := by unfold tiA; rw [h1]; rfl
      rw [e1, e2]
      have L := tif_1 B l a
      rw [b1, v64 (x := bsV l a + nextV l (a + 1 + 1 + 1) 86400000) (by omega) (by omega)] at L
      refine ⟨[], _, [true], _, _, [], .nil, .nil, rfl, rfl, rfl, L, pickL_ok ?_ _⟩
      repeat' (first | exact cd_nil | refine cd_cons ?_ ?_)
      all_goals first | rfl | with_reducible assumption | (with_reducible refine atB_iff.2 ?_; omega)

    | false =>
      have e2 : tiA l a = a + 1 + 1 + 1 := by unfold tiA; rw [h1]; rfl
      rw [e2]
      cases h2 : (nextV l (a + 1 + 1) 6 == 1) with
      | true =>
        have e1 : tiV l a = bsV l a * 40 := by unfold tiV; rw [h1, h2]; rfl
        rw [e1]
        have L := tif_01 B l a
        rw [b1, v64 (x := bsV l a * 40) (by omega) (by omega)] at L
        refine ⟨[], _, [false, true], _, _, [], .nil, .nil, rfl, rfl, rfl, L, pickL_ok ?_ _⟩
        repeat' (first | exact cd_nil | refine cd_cons ?_ ?_)
        all_goals first | rfl | with_reducible assumption | (with_reducible refine atB_iff.2 ?_; omega)

      | false =>
        have e1 : tiV l a = bsV l a := by unfold tiV; rw [h1, h2]; rfl
        rw [e1]
        have L := tif_00 B l a
        rw [b1] at L
        refine ⟨[], _, [false, false], _, _, [], .nil, .nil, rfl, rfl, rfl, L, pickL_ok ?_ _⟩
        repeat' (first | exact cd_nil | refine cd_cons ?_ ?_)
        all_goals first | rfl | with_reducible assumption | (with_reducible refine atB_iff.2 ?_; omega)

  · cases hg
theorem arS_ok (B : Nat) : arS.ok Try.prog (fctI B) 22 := by
  refine stream_ok (ctxOf_ok (libT0_ok B) (eq_none _)) (by kernel_rfl) Try.func22 rfl fun l a rest v a' cd hg hc => ?_
  simp only [arG] at hg
  split at hg
  · cases hg
    have hl : listB l = true := hc (listB l, true) (by simp)
    have ha : atB a = true := hc (atB a, true) (by simp)
    have ha1 := atB_iff.1 ha
    have ha5 := atB_iff.1 (hc (atB (a + 6), true) (by simp))
    have nx : ∀ n p, 1 ≤ n → 0 ≤ nextV l p n ∧ nextV l p n < n := fun n p h => nextV_in l p n h
    have g1 := nx 8 (a + 1 + 1 + 1) (by omega)
    have g2 := rangeV_in l (a + 1 + 1 + 1 + 1) (-3) 3 (by omega)
    have g3 := nx 1073741824 a (by omega)
    have g4 := nx 4 (a + 1) (by omega)
    cases h1 : (nextV l (a + 1 + 1) 3 == 0) with
    | true =>
      have e1 : arV l a = mkW (nextV l (a + 1 + 1 + 1) 8 * 536870912 + rangeV l (a + 1 + 1 + 1 + 1) (-3) 3) := by unfold arV; rw [h1]; rfl
      have e2 : arA l a = a + 1 + 1 + 1 + 1 + 1 := by unfold arA; rw [h1]; rfl
      rw [e1, e2]
      have L := arf_1 B l a
      rw [v64 (x := nextV l (a + 1 + 1 + 1) 8 * 536870912) (by omega) (by omega), v64 (x := nextV l (a + 1 + 1 + 1) 8 * 536870912 + rangeV l (a + 1 + 1 + 1 + 1) (-3) 3) (by omega) (by omega)] at L
      refine ⟨[], _, [true], _, _, [], .nil, .nil, rfl, rfl, rfl, L, pickL_ok ?_ _⟩
      repeat' (first | exact cd_nil | refine cd_cons ?_ ?_)
      all_goals first | rfl | with_reducible assumption | (with_reducible refine atB_iff.2 ?_; omega)

    | false =>
      have e1 : arV l a = mkW (nextV l a 1073741824 * 4 + nextV l (a + 1) 4) := by unfold arV; rw [h1]; rfl
      have e2 : arA l a = a + 1 + 1 + 1 := by unfold arA; rw [h1]; rfl
      rw [e1, e2]
      have L := arf_0 B l a
      rw [v64 (x := nextV l a 1073741824 * 4) (by omega) (by omega), v64 (x := nextV l a 1073741824 * 4 + nextV l (a + 1) 4) (by omega) (by omega)] at L
      refine ⟨[], _, [false], _, _, [], .nil, .nil, rfl, rfl, rfl, L, pickL_ok ?_ _⟩
      repeat' (first | exact cd_nil | refine cd_cons ?_ ?_)
      all_goals first | rfl | with_reducible assumption | (with_reducible refine atB_iff.2 ?_; omega)

  · cases hg
theorem nxS_ok (K : Int) (B : Nat) : (nxS K).ok Try.prog (fctI B) 8 := by
  intro E hp w slot args us bs out dt hrun ha hbl hm hfr hc
  have hst := nextS_ok B
  simp only [stream] at hrun
  split at hrun
  · rename_i b rest ty k j l a
    cases hty : Nat.beq ty 25 with
    | false => rw [hty] at hrun; cases hrun
    | true =>
      rw [hty] at hrun
      simp only [cond_true] at hrun
      split at hrun
      · rename_i v a' cd hg
        cases hrun
        simp only [nxG] at hg
        split at hg
        · rename_i x
          split at hg
          · rename_i n hx
            have run : nextS.run slot (.w (.one (.ptr b 0)) :: [x]) [⟨ty, [.ext k j (.ints l) 0, .int .i64 a]⟩] = some ⟨aInt .i64 (nextV l a n), [(b, streamBlk ty k j l (a + 1))], (i64B n, true) :: stC l a⟩ := by
              simp only [stream, hty, cond_true, nextG, hx]
            cases hn : (n == 4) with
            | false =>
              rw [hn] at hg
              simp only [cond_false] at hg
              cases hg
              exact hst E hp w slot _ us _ _ dt run ha hbl hm hfr hc
            | true =>
              rw [hn] at hg
              simp only [cond_true] at hg
              cases hg
              have hK : nextV l a n = K := by simpa using hc (nextV l a n == K, true) (by simp)
              subst hK
              have := hst E hp w slot _ us _ ⟨aInt .i64 (nextV l a n), [(b, streamBlk ty k j l (a + 1))], (i64B n, true) :: stC l a⟩ dt run ha hbl hm hfr (fun p hp => hc p (List.mem_cons_of_mem _ hp))
              exact this
          · cases hg
        · cases hg
      · cases hrun
  · cases hrun
set_option maxRecDepth 100000 in
theorem rr_1 (B : Nat) (n : Int) (d : Int) (x : Int) (y : Int) (rest : List (Nat × AV Fct)) : evView (ctxOf Try.prog (fctI B) (fun _ => false) []) 50 (false :: [false, true, false, true, true, true]) (loopAt (bodyOf Try.f20) [false, true, false, true, true, true]) ([(5, (.w (.one (.int .i64 x)))), (6, (.w (.one (.int .i64 y))))] ++ (ptrN 0 [4] ++ rest)) [⟨50, [.int .i64 n, .int .i64 d]⟩] 1 [5, 6, 4] [true] = some ((Ex.exit 0, [AV.w (AW.one (AC.int IntKind.i64 x)), AV.w (AW.one (AC.int IntKind.i64 y)), AV.w (AW.one (AC.ptr 0 0))], [{ ty := 50, cs := [AC.int IntKind.i64 (IntKind.i64.wrap (n.tdiv x)), AC.int IntKind.i64 (IntKind.i64.wrap (d.tdiv x))] }]), (pickL [(y == 0, true), (decide (x = 0), false)] [0, 1, 1])) := by kernel_rfl
set_option maxRecDepth 100000 in
theorem rr_0 (B : Nat) (n : Int) (d : Int) (x : Int) (y : Int) (rest : List (Nat × AV Fct)) : evView (ctxOf Try.prog (fctI B) (fun _ => false) []) 50 (false :: [false, true, false, true, true, true]) (loopAt (bodyOf Try.f20) [false, true, false, true, true, true]) ([(5, (.w (.one (.int .i64 x)))), (6, (.w (.one (.int .i64 y))))] ++ (ptrN 0 [4] ++ rest)) [⟨50, [.int .i64 n, .int .i64 d]⟩] 1 [5, 6, 4] [false] = some ((Ex.normal, [AV.w (AW.one (AC.int IntKind.i64 y)), AV.w (AW.one (AC.int IntKind.i64 (x.tmod y))), AV.w (AW.one (AC.ptr 0 0))], [{ ty := 50, cs := [AC.int IntKind.i64 n, AC.int IntKind.i64 d] }]), (pickL [(y == 0, false), (decide (y = 0), false)] [0, 1])) := by kernel_rfl
structure rrT where
  n : Int
  d : Int
  x : Int
  y : Int
def rrP (n : Int) (d : Int) (x : Int) (y : Int) : Prop := 1 ≤ x ∧ x ≤ 1099511627776 ∧ 0 ≤ y ∧ y ≤ 1099511627776 ∧ 0 ≤ n ∧ n ≤ 1099511627776 ∧ 0 ≤ d ∧ d ≤ 1099511627776
instance (n : Int) (d : Int) (x : Int) (y : Int) : Decidable (rrP n d x y) := by unfold rrP; infer_instance
def rrTm (n : Int) (d : Int) (x : Int) (y : Int) : List (Nat × AV Fct) := [(5, (.w (.one (.int .i64 x)))), (6, (.w (.one (.int .i64 y))))]
def rrS : LpSt rrT Fct where
  ps := [4]
  tm := fun t => rrTm t.n t.d t.x t.y
  hp := fun t => [⟨50, [.int .i64 t.n, .int .i64 t.d]⟩]
def rrNx (n : Int) (d : Int) (x : Int) (y : Int) : Nxt rrT Fct := if y = 0 then .out (.exit 0) (rrTm n d x y) [⟨50, [.int .i64 (n / x), .int .i64 (d / x)]⟩] else .go ⟨n, d, y, x % y⟩
def rrStep (t : rrT) : Nxt rrT Fct := if rrP t.n t.d t.x t.y then rrNx t.n t.d t.x t.y else .bad
theorem rr_go {n d x y : Int} (h : rrP n d x y) : rrStep ⟨n, d, x, y⟩ = rrNx n d x y := if_pos h
set_option maxRecDepth 100000 in
set_option maxHeartbeats 4000000 in
theorem rr_round (B : Nat) (t : rrT) (hb : (rrStep t).isBad = false) (rest : List (Nat × AV Fct)) : ∃ fuel path r, evC (ctxOf Try.prog (fctI B) (fun _ => false) []) fuel 50 (false :: [false, true, false, true, true, true]) (loopAt (bodyOf Try.f20) [false, true, false, true, true, true]) (rrS.tm t ++ (ptrN 0 rrS.ps ++ rest)) (numb 0 (rrS.hp t)) 1 path = some r ∧ (∀ p ∈ r.cd, p.1 = p.2) ∧ Gives rrS 1 r (rrStep t) := by
  obtain ⟨n, d, x, y⟩ := t
  by_cases ok : rrP n d x y
  · rw [rr_go ok]
    clear hb
    unfold rrNx
    obtain ⟨h1, h2, h3, h4, h5, h6, h7, h8⟩ := ok
    by_cases hy : y = 0
    · have c1 : (y == 0) = true := by simpa using hy
      have c2 : decide (x = 0) = false := decide_eq_false (by omega)
      have b1 : 0 ≤ n / x ∧ n / x ≤ n := ⟨Int.ediv_nonneg h5 (by omega), Int.ediv_le_self _ h5⟩
      have b2 : 0 ≤ d / x ∧ d / x ≤ d := ⟨Int.ediv_nonneg h7 (by omega), Int.ediv_le_self _ h7⟩
      have e1 : IntKind.i64.wrap (n.tdiv x) = n / x := by rw [Int.tdiv_eq_ediv_of_nonneg h5, v64 (by omega) (by omega)]
      have e2 : IntKind.i64.wrap (d.tdiv x) = d / x := by rw [Int.tdiv_eq_ediv_of_nonneg h7, v64 (by omega) (by omega)]
      rw [if_pos hy]
      have L := rr_1 B n d x y rest
      rw [e1, e2] at L
      refine round_out L rfl (pickL_ok ?_ _) rfl rfl rfl
      repeat' (first | exact cd_nil | refine cd_cons ?_ ?_)
      all_goals first | rfl | with_reducible assumption
    · have c1 : (y == 0) = false := by simpa using hy
      have c2 : decide (y = 0) = false := decide_eq_false hy
      have e1 : x.tmod y = x % y := Int.tmod_eq_emod_of_nonneg (by omega)
      rw [if_neg hy]
      have L := rr_0 B n d x y rest
      rw [e1] at L
      refine round_go L (pickL_ok ?_ _) rfl rfl rfl rfl
      repeat' (first | exact cd_nil | refine cd_cons ?_ ?_)
      all_goals first | rfl | with_reducible assumption
  · exfalso
    have : rrStep ⟨n, d, x, y⟩ = .bad := if_neg ok
    rw [this] at hb; cases hb
theorem rr_runs {n d : Int} (h5 : 0 ≤ n) (h6 : n ≤ 1099511627776) (h7 : 0 ≤ d) (h8 : d ≤ 1099511627776) : ∀ (j X Y : Nat), Y ≤ j → 1 ≤ X → X ≤ 1099511627776 → Y ≤ 1099511627776 → ∃ c, runs rrStep c ⟨n, d, X, Y⟩ = some (.exit 0, rrTm n d (Nat.gcd X Y : Nat) 0, [⟨50, [.int .i64 (n / (Nat.gcd X Y : Nat)), .int .i64 (d / (Nat.gcd X Y : Nat))]⟩])
  | j, X, Y, h0, h1, h2, h3 => by
    by_cases hy : Y = 0
    · subst hy
      refine ⟨1, ?_⟩
      rw [runs, rr_go ⟨by omega, by omega, by omega, by omega, h5, h6, h7, h8⟩]
      unfold rrNx
      rw [if_pos (show ((0 : Nat) : Int) = 0 from rfl), Nat.gcd_zero_right]
      rfl
    · cases j with
      | zero => omega
      | succ j =>
        have hm := Nat.mod_lt X (show 0 < Y by omega)
        obtain ⟨c, hc⟩ := rr_runs h5 h6 h7 h8 j Y (X % Y) (by omega) (by omega) (by omega) (by omega)
        refine ⟨c + 1, ?_⟩
        rw [runs, rr_go ⟨by omega, by omega, by omega, by omega, h5, h6, h7, h8⟩]
        unfold rrNx
        rw [if_neg (by omega)]
        have e : Nat.gcd X Y = Nat.gcd Y (X % Y) := by rw [Nat.gcd_comm X Y, Nat.gcd_rec Y X, Nat.gcd_comm]
        rw [e]
        rw [Int.natCast_emod] at hc
        exact hc
  termination_by j => j
def rrD : LpDef rrT Fct where
  ts := [5, 6]
  ps := [4]
  W := [4, 5, 6, 27, 28, 29, 30, 31, 32, 33, 34, 35, 36, 37, 38, 39, 40, 41, 42]
  dec := fun vs ks => match vs, ks with
    | [.w (.one (.int .i64 x)), .w (.one (.int .i64 y))], [⟨50, [.int .i64 n, .int .i64 d]⟩] => some ⟨n, d, x, y⟩
    | _, _ => none
  spec := fun t => some ((.exit 0), rrTm t.n t.d (gcV t.x t.y) 0, [⟨50, [.int .i64 (t.n / gcV t.x t.y), .int .i64 (t.d / gcV t.x t.y)]⟩], [(decide (rrP t.n t.d t.x t.y), true)])
theorem rrD_ok (B : Nat) (x : Code) (hx : codeAt (bodyOf Try.f20) [false, true, false, true, true, true] = some (.loop x)) : LpOk Try.prog (fctI B) 50 x (rrD.sp (fun _ => true)) := by
  obtain rfl := loopAt_eq hx
  refine lp_ok (c := ctxOf Try.prog (fctI B) (fun _ => false) []) (ctxOf_ok (lib1_nil _ _) (eq_none _)) (by kernel_rfl) hx lps_nil (S := rrS) (step := rrStep) (fun _ _ => rfl) (by kernel_rfl) (by kernel_rfl) ?_ rfl (fun t e he => ?_) (fun t hb rest => rr_round B t hb rest) ?_
  · intro vs ks s hv1 h hv2
    simp only [rrD] at h
    split at h
    · cases h
      exact ⟨rfl, fun e he => he⟩
    · cases h
  · simp only [rrS, rrTm, List.mem_cons, List.not_mem_nil, or_false] at he
    rcases he with rfl | rfl <;> rfl
  · intro s ex outs wb cd h hc
    obtain ⟨n, d, x, y⟩ := s
    simp only [rrD] at h
    cases h
    have := of_decide_eq_true (c1' hc)
    obtain ⟨h1, h2, h3, h4, h5, h6, h7, h8⟩ := this
    obtain ⟨X, rfl⟩ : ∃ X : Nat, x = X := ⟨x.toNat, by omega⟩
    obtain ⟨Y, rfl⟩ : ∃ Y : Nat, y = Y := ⟨y.toNat, by omega⟩
    have := rr_runs h5 h6 h7 h8 Y X Y (Nat.le_refl _) (by omega) (by omega) (by omega)
    have e : gcV (X : Int) (Y : Int) = ((Nat.gcd X Y : Nat) : Int) := rfl
    rw [e]
    exact this
end
end Go.Proofs.Ytoaoifiklnbknab.AtRt

