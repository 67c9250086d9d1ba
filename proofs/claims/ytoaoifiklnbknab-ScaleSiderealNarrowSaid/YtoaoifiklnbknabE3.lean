/-
  Package spymake's Rate out of streams; the walks of spykeep1.ScaleSiderealNarrow and ScaleFirst: they return true, for every list.
  Conditions: the list's elements are int64.
-/
import Derived.Test.YtoaoifiklnbknabE2
import Derived.Test.YtoaoifiklnbknabSK
import Derived.Test.YtoaoifiklnbknabBI
import Derived.Test.YtoaoifiklnbknabD5
set_option linter.unusedVariables false
set_option linter.unusedSimpArgs false
namespace Go.Proofs.Ytoaoifiklnbknab.AtRt
open Go.RowKit Ev Wd
open Go.Proofs.Ytoaoifiklnbknab
variable {F : Type}
noncomputable section

abbrev sdS : FnSp F := sp2 dRt dBd (fun r t => bA (sdB r t)) (fun r _ => [(i64B r.n, true), (i64B r.d, true)])
abbrev whS : FnSp F := sp3 dRt (dInt .i64) (dInt .i64) (fun r f a => .tup [.one (.int .i64 (whV r f a)), .one (.int .i64 (whE r f a))]) (fun r _ _ => [(i64B r.n, true), (i64B r.d, true)])
abbrev agS : FnSp F := sp2 dRt (dInt .i64) (fun r t => aInt .i64 (agV r t)) (fun r _ => [(i64B r.n, true), (i64B r.d, true)])
noncomputable abbrev rrLps : Lps Fct := [((50, [false, true, false, true, true, true]), rrD.sp (fun _ => true))]
theorem rn_in (l : List Int) (a D : Int) (h1 : 1 ≤ D) (h2 : D ≤ 1073741824) : IntKind.i64.wrap (IntKind.i64.wrap (IntKind.i64.wrap (1 + nextV l (a + 1) 60) * D) + nextV l (a + 1 + 1) D) = rnV l a D ∧ D ≤ rnV l a D ∧ rnV l a D ≤ 61 * D := by
  have g1 := nextV_in l (a + 1) 60 (by omega)
  have g2 := nextV_in l (a + 1 + 1) D h1
  have m1 : 1 * D ≤ (1 + nextV l (a + 1) 60) * D := Int.mul_le_mul_of_nonneg_right (by omega) (by omega)
  have m2 : (1 + nextV l (a + 1) 60) * D ≤ 60 * D := Int.mul_le_mul_of_nonneg_right (by omega) (by omega)
  have e : rnV l a D = (1 + nextV l (a + 1) 60) * D + nextV l (a + 1 + 1) D := rfl
  refine ⟨?_, by omega, by omega⟩
  rw [v64 (x := 1 + nextV l (a + 1) 60) (by omega) (by omega), v64 (x := (1 + nextV l (a + 1) 60) * D) (by omega) (by omega), v64 (by omega) (by omega)]
  rfl
theorem den_in (k : Int) : 1 ≤ denV k ∧ denV k ≤ 1073741824 := by unfold denV; repeat' split <;> omega
/-- A quotient in lowest terms. -/
theorem low_in {x D : Int} (h1 : 1 ≤ D) (h2 : D ≤ 1073741824) (h3 : D ≤ x) (h4 : x ≤ 61 * D) : chkQ (x / gcV x D) (D / gcV x D) = 0 ∧ 1 ≤ D / gcV x D ∧ D / gcV x D ≤ D ∧ D / gcV x D ≤ x / gcV x D ∧ x / gcV x D ≤ 61 * (D / gcV x D) ∧ x / gcV x D ≤ x := by
  obtain ⟨X, rfl⟩ : ∃ X : Nat, x = X := ⟨x.toNat, by omega⟩
  obtain ⟨Y, rfl⟩ : ∃ Y : Nat, D = Y := ⟨D.toNat, by omega⟩
  have e : gcV (X : Int) (Y : Int) = ((Nat.gcd X Y : Nat) : Int) := rfl
  rw [e]
  have hg : 0 < Nat.gcd X Y := Nat.gcd_pos_of_pos_right X (by omega)
  obtain ⟨p, hp⟩ := Nat.gcd_dvd_left X Y
  obtain ⟨q, hq⟩ := Nat.gcd_dvd_right X Y
  have e1 : (X : Int) / ((Nat.gcd X Y : Nat) : Int) = (p : Int) := by
    rw [← Int.natCast_ediv]
    congr 1
    exact Nat.div_eq_of_eq_mul_right hg hp
  have e2 : (Y : Int) / ((Nat.gcd X Y : Nat) : Int) = (q : Int) := by
    rw [← Int.natCast_ediv]
    congr 1
    exact Nat.div_eq_of_eq_mul_right hg hq
  rw [e1, e2]
  have c : Nat.gcd p q = 1 := by
    have := Nat.gcd_mul_left (Nat.gcd X Y) p q
    rw [← hp, ← hq] at this
    exact Nat.eq_of_mul_eq_mul_left hg (by omega)
  have hq1 : 1 ≤ q := by
    rcases Nat.eq_zero_or_pos q with r | r
    · subst r; simp at hq; omega
    · exact r
  have hqY : q ≤ Y := by
    have := Nat.mul_le_mul_right q hg
    omega
  have hpX : p ≤ X := by
    have := Nat.mul_le_mul_right p hg
    omega
  have hqp : q ≤ p := by
    rcases Nat.lt_or_ge p q with r | r
    · have := Nat.mul_lt_mul_of_pos_left r hg
      omega
    · exact r
  have hpq : p ≤ 61 * q := by
    rcases Nat.lt_or_ge (61 * q) p with r | r
    · have := Nat.mul_lt_mul_of_pos_left r hg
      have e3 : Nat.gcd X Y * (61 * q) = 61 * (Nat.gcd X Y * q) := Nat.mul_left_comm _ _ _
      omega
    · exact r
  have hf : fqB (p : Int) (q : Int) = true := fqB_iff.2 (by omega)
  have hI : Int.gcd (p : Int) (q : Int) = 1 := c
  refine ⟨?_, by omega, by omega, by omega, by omega, by omega⟩
  unfold chkQ
  rw [if_pos hf, hI]; rfl
/-- The rotations that streams make. -/
theorem rv_in (l : List Int) (a : Int) : rtE (rvV l a) = 0 ∧ -1728000012000 ≤ (rvV l a).t ∧ (rvV l a).t ≤ 1728000012000 ∧ (rvV l a).d ≤ (rvV l a).n ∧ (rvV l a).n ≤ 61 * (rvV l a).d ∧ 1 ≤ (rvV l a).d ∧ i64B (rvV l a).n = true ∧ i64B (rvV l a).d = true := by
  obtain ⟨h1, h2⟩ := den_in (nextV l a 4)
  obtain ⟨_, h3, h4⟩ := rn_in l a (denV (nextV l a 4)) h1 h2
  obtain ⟨c1, c2, c3, c4, c5, c6⟩ := low_in h1 h2 h3 h4
  obtain ⟨t1, t2, _, _⟩ := ti_in l (a + 1 + 1 + 1)
  obtain ⟨a1, a2, _, _⟩ := ar_in l (tiA l (a + 1 + 1 + 1))
  have ht : -1728000012000 ≤ (tiV l (a + 1 + 1 + 1)).tdiv 10 ∧ (tiV l (a + 1 + 1 + 1)).tdiv 10 ≤ 1728000012000 := by
    by_cases g : 0 ≤ tiV l (a + 1 + 1 + 1)
    · rw [Int.tdiv_eq_ediv_of_nonneg g]; omega
    · have := Int.neg_tdiv (-(tiV l (a + 1 + 1 + 1))) 10
      rw [Int.neg_neg, Int.tdiv_eq_ediv_of_nonneg (a := -(tiV l (a + 1 + 1 + 1))) (b := 10) (by omega)] at this
      rw [this]; omega
  have e1 : (rvV l a).t = (tiV l (a + 1 + 1 + 1)).tdiv 10 := rfl
  have e2 : (rvV l a).a = arV l (tiA l (a + 1 + 1 + 1)) := rfl
  have e3 : (rvV l a).n = rnV l a (denV (nextV l a 4)) / gcV (rnV l a (denV (nextV l a 4))) (denV (nextV l a 4)) := rfl
  have e4 : (rvV l a).d = denV (nextV l a 4) / gcV (rnV l a (denV (nextV l a 4))) (denV (nextV l a 4)) := rfl
  rw [← e3, ← e4] at c1 c4 c5
  rw [← e4] at c2 c3
  rw [← e3] at c6
  have hT : tmQ (rvV l a).t = true := tmQ_iff.2 (by rw [e1]; omega)
  have hA : trB (rvV l a).a = true := trB_iff.2 (by rw [e2]; omega)
  refine ⟨?_, by rw [e1]; omega, by rw [e1]; omega, c4, c5, c2, i64B_iff.2 (by omega), i64B_iff.2 (by omega)⟩
  unfold rtE
  rw [hT, hA, Bool.and_self, if_pos rfl, if_pos c1, if_neg (by omega)]
theorem rrLps_ok (B : Nat) : LpsOk Try.prog (fctI B) rrLps Try.f20.ntmps (bodyOf Try.f20) := lps_cons (fun _ x hx => rrD_ok B x hx) lps_nil
theorem libT1_ok (K : Int) (B : Nat) : LibOk Try.prog (fctI B) (lib1 (libT1 K)) := lib1_cons (nxS_ok K B) Try.call8 (lib1_cons (rangeS_ok B) Try.call9 (lib1_cons (tiS_ok B) Try.call21 (lib1_cons (arS_ok B) Try.call22 (lib1_nil _ _))))
set_option maxRecDepth 100000 in
theorem rv0_ (B : Nat) (l : List Int) (a : Int) : evS (ctxLp Try.prog (fctI B) (fun _ => false) (libT1 0) [] rrLps) Try.f20 25 l a [] [] = some (AV.w (AW.agg [AC.int IntKind.i64 (IntKind.i64.wrap ((tiV l (a + 1 + 1 + 1)).tdiv 10)), AC.int IntKind.i64 (arV l (tiA l (a + 1 + 1 + 1))), AC.int IntKind.i64 (IntKind.i64.wrap (IntKind.i64.wrap (IntKind.i64.wrap (1 + nextV l (a + 1) 60) * 1) + nextV l (a + 1 + 1) 1) / gcV (IntKind.i64.wrap (IntKind.i64.wrap (IntKind.i64.wrap (1 + nextV l (a + 1) 60) * 1) + nextV l (a + 1 + 1) 1)) 1), AC.int IntKind.i64 (1 / gcV (IntKind.i64.wrap (IntKind.i64.wrap (IntKind.i64.wrap (1 + nextV l (a + 1) 60) * 1) + nextV l (a + 1 + 1) 1)) 1)]), arA l (tiA l (a + 1 + 1 + 1)), (pickL [(nextV l a 4 == 0, true), (i64B 4, true), (listB l, true), (atB a, true), (decide (0 ≤ 0), true), (decide (0 < ((4 : Nat) : Int)), true), (i64B 60, true), (atB (a + 1), true), (i64B 1, true), (atB (a + 1 + 1), true), (decide (rrP (IntKind.i64.wrap (IntKind.i64.wrap (IntKind.i64.wrap (1 + nextV l (a + 1) 60) * 1) + nextV l (a + 1 + 1) 1)) 1 (IntKind.i64.wrap (IntKind.i64.wrap (IntKind.i64.wrap (1 + nextV l (a + 1) 60) * 1) + nextV l (a + 1 + 1) 1)) 1), true), (atB (a + 1 + 1 + 1 + 5), true), (atB (a + 1 + 1 + 1), true), (decide ((10 : Int) = 0), false), (atB (tiA l (a + 1 + 1 + 1) + 6), true), (atB (tiA l (a + 1 + 1 + 1)), true)] [0, 1, 2, 3, 4, 5, 6, 2, 7, 8, 2, 9, 10, 11, 2, 12, 13, 14, 2, 15])) := by kernel_rfl
set_option maxRecDepth 100000 in
theorem rv1_ (B : Nat) (l : List Int) (a : Int) : evS (ctxLp Try.prog (fctI B) (fun _ => false) (libT1 1) [] rrLps) Try.f20 25 l a [] [] = some (AV.w (AW.agg [AC.int IntKind.i64 (IntKind.i64.wrap ((tiV l (a + 1 + 1 + 1)).tdiv 10)), AC.int IntKind.i64 (arV l (tiA l (a + 1 + 1 + 1))), AC.int IntKind.i64 (IntKind.i64.wrap (IntKind.i64.wrap (IntKind.i64.wrap (1 + nextV l (a + 1) 60) * 7) + nextV l (a + 1 + 1) 7) / gcV (IntKind.i64.wrap (IntKind.i64.wrap (IntKind.i64.wrap (1 + nextV l (a + 1) 60) * 7) + nextV l (a + 1 + 1) 7)) 7), AC.int IntKind.i64 (7 / gcV (IntKind.i64.wrap (IntKind.i64.wrap (IntKind.i64.wrap (1 + nextV l (a + 1) 60) * 7) + nextV l (a + 1 + 1) 7)) 7)]), arA l (tiA l (a + 1 + 1 + 1)), (pickL [(nextV l a 4 == 1, true), (i64B 4, true), (listB l, true), (atB a, true), (decide (0 ≤ 1), true), (decide (1 < ((4 : Nat) : Int)), true), (i64B 60, true), (atB (a + 1), true), (i64B 7, true), (atB (a + 1 + 1), true), (decide (rrP (IntKind.i64.wrap (IntKind.i64.wrap (IntKind.i64.wrap (1 + nextV l (a + 1) 60) * 7) + nextV l (a + 1 + 1) 7)) 7 (IntKind.i64.wrap (IntKind.i64.wrap (IntKind.i64.wrap (1 + nextV l (a + 1) 60) * 7) + nextV l (a + 1 + 1) 7)) 7), true), (atB (a + 1 + 1 + 1 + 5), true), (atB (a + 1 + 1 + 1), true), (decide ((10 : Int) = 0), false), (atB (tiA l (a + 1 + 1 + 1) + 6), true), (atB (tiA l (a + 1 + 1 + 1)), true)] [0, 1, 2, 3, 4, 5, 6, 2, 7, 8, 2, 9, 10, 11, 2, 12, 13, 14, 2, 15])) := by kernel_rfl
set_option maxRecDepth 100000 in
theorem rv2_ (B : Nat) (l : List Int) (a : Int) : evS (ctxLp Try.prog (fctI B) (fun _ => false) (libT1 2) [] rrLps) Try.f20 25 l a [] [] = some (AV.w (AW.agg [AC.int IntKind.i64 (IntKind.i64.wrap ((tiV l (a + 1 + 1 + 1)).tdiv 10)), AC.int IntKind.i64 (arV l (tiA l (a + 1 + 1 + 1))), AC.int IntKind.i64 (IntKind.i64.wrap (IntKind.i64.wrap (IntKind.i64.wrap (1 + nextV l (a + 1) 60) * 1000) + nextV l (a + 1 + 1) 1000) / gcV (IntKind.i64.wrap (IntKind.i64.wrap (IntKind.i64.wrap (1 + nextV l (a + 1) 60) * 1000) + nextV l (a + 1 + 1) 1000)) 1000), AC.int IntKind.i64 (1000 / gcV (IntKind.i64.wrap (IntKind.i64.wrap (IntKind.i64.wrap (1 + nextV l (a + 1) 60) * 1000) + nextV l (a + 1 + 1) 1000)) 1000)]), arA l (tiA l (a + 1 + 1 + 1)), (pickL [(nextV l a 4 == 2, true), (i64B 4, true), (listB l, true), (atB a, true), (decide (0 ≤ 2), true), (decide (2 < ((4 : Nat) : Int)), true), (i64B 60, true), (atB (a + 1), true), (i64B 1000, true), (atB (a + 1 + 1), true), (decide (rrP (IntKind.i64.wrap (IntKind.i64.wrap (IntKind.i64.wrap (1 + nextV l (a + 1) 60) * 1000) + nextV l (a + 1 + 1) 1000)) 1000 (IntKind.i64.wrap (IntKind.i64.wrap (IntKind.i64.wrap (1 + nextV l (a + 1) 60) * 1000) + nextV l (a + 1 + 1) 1000)) 1000), true), (atB (a + 1 + 1 + 1 + 5), true), (atB (a + 1 + 1 + 1), true), (decide ((10 : Int) = 0), false), (atB (tiA l (a + 1 + 1 + 1) + 6), true), (atB (tiA l (a + 1 + 1 + 1)), true)] [0, 1, 2, 3, 4, 5, 6, 2, 7, 8, 2, 9, 10, 11, 2, 12, 13, 14, 2, 15])) := by kernel_rfl
set_option maxRecDepth 100000 in
theorem rv3_ (B : Nat) (l : List Int) (a : Int) : evS (ctxLp Try.prog (fctI B) (fun _ => false) (libT1 3) [] rrLps) Try.f20 25 l a [] [] = some (AV.w (AW.agg [AC.int IntKind.i64 (IntKind.i64.wrap ((tiV l (a + 1 + 1 + 1)).tdiv 10)), AC.int IntKind.i64 (arV l (tiA l (a + 1 + 1 + 1))), AC.int IntKind.i64 (IntKind.i64.wrap (IntKind.i64.wrap (IntKind.i64.wrap (1 + nextV l (a + 1) 60) * 1073741824) + nextV l (a + 1 + 1) 1073741824) / gcV (IntKind.i64.wrap (IntKind.i64.wrap (IntKind.i64.wrap (1 + nextV l (a + 1) 60) * 1073741824) + nextV l (a + 1 + 1) 1073741824)) 1073741824), AC.int IntKind.i64 (1073741824 / gcV (IntKind.i64.wrap (IntKind.i64.wrap (IntKind.i64.wrap (1 + nextV l (a + 1) 60) * 1073741824) + nextV l (a + 1 + 1) 1073741824)) 1073741824)]), arA l (tiA l (a + 1 + 1 + 1)), (pickL [(nextV l a 4 == 3, true), (i64B 4, true), (listB l, true), (atB a, true), (decide (0 ≤ 3), true), (decide (3 < ((4 : Nat) : Int)), true), (i64B 60, true), (atB (a + 1), true), (i64B 1073741824, true), (atB (a + 1 + 1), true), (decide (rrP (IntKind.i64.wrap (IntKind.i64.wrap (IntKind.i64.wrap (1 + nextV l (a + 1) 60) * 1073741824) + nextV l (a + 1 + 1) 1073741824)) 1073741824 (IntKind.i64.wrap (IntKind.i64.wrap (IntKind.i64.wrap (1 + nextV l (a + 1) 60) * 1073741824) + nextV l (a + 1 + 1) 1073741824)) 1073741824), true), (atB (a + 1 + 1 + 1 + 5), true), (atB (a + 1 + 1 + 1), true), (decide ((10 : Int) = 0), false), (atB (tiA l (a + 1 + 1 + 1) + 6), true), (atB (tiA l (a + 1 + 1 + 1)), true)] [0, 1, 2, 3, 4, 5, 6, 2, 7, 8, 2, 9, 10, 11, 2, 12, 13, 14, 2, 15])) := by kernel_rfl
/-- Rate's leaf at each denominator: a stream's specification by the library that fits. -/
theorem rv_leaf (B : Nat) (q : Int) (l : List Int) (a : Int) (h0 : q = 0 ∨ q = 1 ∨ q = 2 ∨ q = 3) (hk : nextV l a 4 = q) (hl : listB l = true) (ha : atB a = true) (h20 : atB (a + 20) = true) :
    ∃ (us : List Value) (u : Value) (path : List Bool) (x : AV Fct) (cd' : List (Bool × Bool)) (rest' : List (AV Fct)), All2 (fun (x : AV Fct) u => x.val = some u) [] us ∧ All2 (fun (x : AV Fct) u => x.val = some u) rest' us ∧ (rtA (rvV l a) : AV Fct).val = some u ∧ x.val = some u ∧ Nat.ble (rest'.length + 1) Try.f20.ntmps = true ∧
      evS (ctxLp Try.prog (fctI B) (fun _ => false) (libT1 q) [] rrLps) Try.f20 25 l a rest' path = some (x, rvA l a, cd') ∧ (∀ p ∈ cd', p.1 = p.2) := by
  have ha1 := atB_iff.1 ha
  have ha5 := atB_iff.1 h20
  obtain ⟨_, _, t3, t4⟩ := ti_in l (a + 1 + 1 + 1)
  have hA : rvA l a = arA l (tiA l (a + 1 + 1 + 1)) := rfl
  rw [hA]
  rcases h0 with rfl | rfl | rfl | rfl
  · obtain ⟨k1, k2⟩ : (nextV l a 4 == 0) = true ∧ denV (nextV l a 4) = 1 := by rw [hk]; exact ⟨rfl, by decide⟩
    have L := rv0_ B l a
    obtain ⟨r1, r2, r3⟩ := rn_in l a 1 (by omega) (by omega)
    have tw : IntKind.i64.wrap ((tiV l (a + 1 + 1 + 1)).tdiv 10) = (tiV l (a + 1 + 1 + 1)).tdiv 10 := by
      have := (rv_in l a).2
      have e1 : (rvV l a).t = (tiV l (a + 1 + 1 + 1)).tdiv 10 := rfl
      exact v64 (by omega) (by omega)
    rw [r1, tw] at L
    have c1 : decide (rrP (rnV l a 1) 1 (rnV l a 1) 1) = true := decide_eq_true ⟨by omega, by omega, by omega, by omega, by omega, by omega, by omega, by omega⟩
    have hv : rtA (rvV l a) = (AV.w (AW.agg [AC.int IntKind.i64 ((tiV l (a + 1 + 1 + 1)).tdiv 10), AC.int IntKind.i64 (arV l (tiA l (a + 1 + 1 + 1))), AC.int IntKind.i64 (rnV l a 1 / gcV (rnV l a 1) 1), AC.int IntKind.i64 (1 / gcV (rnV l a 1) 1)]) : AV Fct) := by
      show rtA ⟨_, _, rnV l a (denV (nextV l a 4)) / gcV (rnV l a (denV (nextV l a 4))) (denV (nextV l a 4)), denV (nextV l a 4) / gcV (rnV l a (denV (nextV l a 4))) (denV (nextV l a 4))⟩ = _
      rw [k2]
    rw [hv]
    exact ⟨[], _, [], _, _, [], .nil, .nil, rfl, rfl, rfl, L, pickL_ok (by
      repeat' (first | exact cd_nil | refine cd_cons ?_ ?_)
      all_goals first | rfl | with_reducible assumption | (with_reducible refine atB_iff.2 ?_; omega) | exact i64B_iff.2 (by omega)) _⟩

  · obtain ⟨k1, k2⟩ : (nextV l a 4 == 1) = true ∧ denV (nextV l a 4) = 7 := by rw [hk]; exact ⟨rfl, by decide⟩
    have L := rv1_ B l a
    obtain ⟨r1, r2, r3⟩ := rn_in l a 7 (by omega) (by omega)
    have tw : IntKind.i64.wrap ((tiV l (a + 1 + 1 + 1)).tdiv 10) = (tiV l (a + 1 + 1 + 1)).tdiv 10 := by
      have := (rv_in l a).2
      have e1 : (rvV l a).t = (tiV l (a + 1 + 1 + 1)).tdiv 10 := rfl
      exact v64 (by omega) (by omega)
    rw [r1, tw] at L
    have c1 : decide (rrP (rnV l a 7) 7 (rnV l a 7) 7) = true := decide_eq_true ⟨by omega, by omega, by omega, by omega, by omega, by omega, by omega, by omega⟩
    have hv : rtA (rvV l a) = (AV.w (AW.agg [AC.int IntKind.i64 ((tiV l (a + 1 + 1 + 1)).tdiv 10), AC.int IntKind.i64 (arV l (tiA l (a + 1 + 1 + 1))), AC.int IntKind.i64 (rnV l a 7 / gcV (rnV l a 7) 7), AC.int IntKind.i64 (7 / gcV (rnV l a 7) 7)]) : AV Fct) := by
      show rtA ⟨_, _, rnV l a (denV (nextV l a 4)) / gcV (rnV l a (denV (nextV l a 4))) (denV (nextV l a 4)), denV (nextV l a 4) / gcV (rnV l a (denV (nextV l a 4))) (denV (nextV l a 4))⟩ = _
      rw [k2]
    rw [hv]
    exact ⟨[], _, [], _, _, [], .nil, .nil, rfl, rfl, rfl, L, pickL_ok (by
      repeat' (first | exact cd_nil | refine cd_cons ?_ ?_)
      all_goals first | rfl | with_reducible assumption | (with_reducible refine atB_iff.2 ?_; omega) | exact i64B_iff.2 (by omega)) _⟩

  · obtain ⟨k1, k2⟩ : (nextV l a 4 == 2) = true ∧ denV (nextV l a 4) = 1000 := by rw [hk]; exact ⟨rfl, by decide⟩
    have L := rv2_ B l a
    obtain ⟨r1, r2, r3⟩ := rn_in l a 1000 (by omega) (by omega)
    have tw : IntKind.i64.wrap ((tiV l (a + 1 + 1 + 1)).tdiv 10) = (tiV l (a + 1 + 1 + 1)).tdiv 10 := by
      have := (rv_in l a).2
      have e1 : (rvV l a).t = (tiV l (a + 1 + 1 + 1)).tdiv 10 := rfl
      exact v64 (by omega) (by omega)
    rw [r1, tw] at L
    have c1 : decide (rrP (rnV l a 1000) 1000 (rnV l a 1000) 1000) = true := decide_eq_true ⟨by omega, by omega, by omega, by omega, by omega, by omega, by omega, by omega⟩
    have hv : rtA (rvV l a) = (AV.w (AW.agg [AC.int IntKind.i64 ((tiV l (a + 1 + 1 + 1)).tdiv 10), AC.int IntKind.i64 (arV l (tiA l (a + 1 + 1 + 1))), AC.int IntKind.i64 (rnV l a 1000 / gcV (rnV l a 1000) 1000), AC.int IntKind.i64 (1000 / gcV (rnV l a 1000) 1000)]) : AV Fct) := by
      show rtA ⟨_, _, rnV l a (denV (nextV l a 4)) / gcV (rnV l a (denV (nextV l a 4))) (denV (nextV l a 4)), denV (nextV l a 4) / gcV (rnV l a (denV (nextV l a 4))) (denV (nextV l a 4))⟩ = _
      rw [k2]
    rw [hv]
    exact ⟨[], _, [], _, _, [], .nil, .nil, rfl, rfl, rfl, L, pickL_ok (by
      repeat' (first | exact cd_nil | refine cd_cons ?_ ?_)
      all_goals first | rfl | with_reducible assumption | (with_reducible refine atB_iff.2 ?_; omega) | exact i64B_iff.2 (by omega)) _⟩

  · obtain ⟨k1, k2⟩ : (nextV l a 4 == 3) = true ∧ denV (nextV l a 4) = 1073741824 := by rw [hk]; exact ⟨rfl, by decide⟩
    have L := rv3_ B l a
    obtain ⟨r1, r2, r3⟩ := rn_in l a 1073741824 (by omega) (by omega)
    have tw : IntKind.i64.wrap ((tiV l (a + 1 + 1 + 1)).tdiv 10) = (tiV l (a + 1 + 1 + 1)).tdiv 10 := by
      have := (rv_in l a).2
      have e1 : (rvV l a).t = (tiV l (a + 1 + 1 + 1)).tdiv 10 := rfl
      exact v64 (by omega) (by omega)
    rw [r1, tw] at L
    have c1 : decide (rrP (rnV l a 1073741824) 1073741824 (rnV l a 1073741824) 1073741824) = true := decide_eq_true ⟨by omega, by omega, by omega, by omega, by omega, by omega, by omega, by omega⟩
    have hv : rtA (rvV l a) = (AV.w (AW.agg [AC.int IntKind.i64 ((tiV l (a + 1 + 1 + 1)).tdiv 10), AC.int IntKind.i64 (arV l (tiA l (a + 1 + 1 + 1))), AC.int IntKind.i64 (rnV l a 1073741824 / gcV (rnV l a 1073741824) 1073741824), AC.int IntKind.i64 (1073741824 / gcV (rnV l a 1073741824) 1073741824)]) : AV Fct) := by
      show rtA ⟨_, _, rnV l a (denV (nextV l a 4)) / gcV (rnV l a (denV (nextV l a 4))) (denV (nextV l a 4)), denV (nextV l a 4) / gcV (rnV l a (denV (nextV l a 4))) (denV (nextV l a 4))⟩ = _
      rw [k2]
    rw [hv]
    exact ⟨[], _, [], _, _, [], .nil, .nil, rfl, rfl, rfl, L, pickL_ok (by
      repeat' (first | exact cd_nil | refine cd_cons ?_ ?_)
      all_goals first | rfl | with_reducible assumption | (with_reducible refine atB_iff.2 ?_; omega) | exact i64B_iff.2 (by omega)) _⟩

theorem rvS_ok (B : Nat) : rvS.ok Try.prog (fctI B) 20 := by
  intro E hp w slot args us bs out dt hrun ha hbl hm hfr hc
  have hrun' := hrun
  simp only [stream] at hrun'
  split at hrun'
  · rename_i b rest ty k j l a
    have hq := nextV_in l a 4 (by omega)
    -- a specification for lists and places with this denominator
    have part : ∀ q : Int, (q = 0 ∨ q = 1 ∨ q = 2 ∨ q = 3) → (stream 25 fun l a rest => if nextV l a 4 = q then rvG l a rest else none).ok Try.prog (fctI B) 20 := fun q h0 => by
      refine stream_ok (hL := rrLps_ok B) (ctxLp_ok (libT1_ok q B) (eq_none _) (fns_nil _) (fun f fn h => by cases h)) (by kernel_rfl) Try.func20 rfl fun l a rest v a' cd hg hc => ?_
      split at hg
      · rename_i hk
        simp only [rvG] at hg
        split at hg
        · cases hg
          exact rv_leaf B q l a h0 hk (hc (listB l, true) (by simp)) (hc (atB a, true) (by simp)) (hc (atB (a + 20), true) (by simp))
        · cases hg
      · cases hg
    refine part (nextV l a 4) (by omega) E hp w slot _ us _ out dt ?_ ha hbl hm hfr hc
    simp only [stream, if_true]
    exact hrun'
  · cases hrun'
theorem normB_of (x y : Int) : normB (ofB x y) = ofB x y := by
  unfold ofB
  cases h : knB (⟨x, y, false⟩ : Bd) with
  | true => unfold normB; rw [h]; simp only [cond_true]; rw [h]; rfl
  | false => unfold normB; rw [h]; rfl
theorem normB_sub (a b : Bd) : normB (subB a b) = subB a b := by
  unfold subB addB
  cases knB a && knB (negB b) with
  | true => exact normB_of _ _
  | false => rfl
theorem sd_iso {r : Rt} {u t : Bd} (h : insB u t = true) : insB (sdB r u) (sdB r t) = true := by
  unfold sdB
  by_cases g : rtE r = 0
  · rw [if_pos g, if_pos g, normB_sub, normB_sub]
    exact iso_add (iso_sca (iso_sub h (insB_refl _))) (insB_refl _)
  · rw [if_neg g, if_neg g]; exact insB_refl _
theorem sd_none {r : Rt} {t : Bd} (h : knB t = false) : (sdB r t).u = true := by
  unfold sdB
  by_cases g : rtE r = 0
  · rw [if_pos g]
    have e1 : subB t (ofB r.t r.t) = noneB := by unfold subB addB; rw [h]; rfl
    rw [e1]; rfl
  · rw [if_neg g]; rfl
/-- The bound of the angle at known times. -/
theorem sd_val {r : Rt} {x y : Int} (hr : rtE r = 0) (hn : r.n ≤ 61 * r.d) (h1 : -17600000000000 ≤ x) (h2 : x ≤ y) (h3 : y ≤ 17600000000000) : (sdB r ⟨x, y, false⟩).u = false ∧ (sdB r ⟨x, y, false⟩).lo = wA r x := by
  obtain ⟨t1, t2, t3, t4, t5, t6, t7, _⟩ := rt_in hr
  have kx : knB (⟨x, y, false⟩ : Bd) = true := knB_iff.2 ⟨rfl, by simp only; omega, h2, by simp only; omega⟩
  obtain ⟨o1, k1⟩ := ofB_mk (lo := r.t) (hi := r.t) (by omega) (by omega) (by omega)
  obtain ⟨o2, k2⟩ := ofB_mk (lo := -r.t) (hi := -r.t) (by omega) (by omega) (by omega)
  obtain ⟨o3, k3⟩ := ofB_mk (lo := x + -r.t) (hi := y + -r.t) (by omega) (by omega) (by omega)
  have s1 : subB ⟨x, y, false⟩ (ofB r.t r.t) = ⟨x + -r.t, y + -r.t, false⟩ := by
    have hneg : negB (ofB r.t r.t) = ⟨-r.t, -r.t, false⟩ := by
      rw [o1]; unfold negB; rw [k1]; exact o2
    unfold subB addB
    rw [hneg, kx, k2]
    exact o3
  have dx := div_in (x := x - r.t) (n := r.n) (d := r.d) (K := 61) (X := 35192186044416) t6 (by omega) hn (by omega) (by omega) (by omega)
  have dy := div_in (x := y - r.t) (n := r.n) (d := r.d) (K := 61) (X := 35192186044416) t6 (by omega) hn (by omega) (by omega) (by omega)
  -- rounded up
  have up : ∀ q : Int, q / r.d ≤ (q + (r.d - 1)) / r.d ∧ (q + (r.d - 1)) / r.d ≤ q / r.d + 1 := fun q => by
    constructor
    · exact Int.ediv_le_ediv (by omega) (by omega)
    · have : (q + (r.d - 1)) / r.d < q / r.d + 1 + 1 := by
        apply Int.ediv_lt_of_lt_mul (by omega)
        have e3 := Int.emod_add_mul_ediv q r.d
        have e4 := Int.emod_lt_of_pos q (show 0 < r.d by omega)
        have e5 : (q / r.d + 1 + 1) * r.d = r.d * (q / r.d) + r.d + r.d := by rw [Int.add_mul, Int.add_mul, Int.mul_comm (q / r.d)]; omega
        omega
      omega
  have ux := up ((x - r.t) * r.n)
  have uy := up ((y - r.t) * r.n)
  have mono : (x - r.t) * r.n / r.d ≤ (y - r.t) * r.n / r.d := Int.ediv_le_ediv (by omega) (Int.mul_le_mul_of_nonneg_right (by omega) (by omega))
  have qv : ∀ z : Int, -2146723348709376 ≤ z * r.n / r.d → z * r.n / r.d ≤ 2146723348709376 → z * r.n / r.d ≤ (z * r.n + (r.d - 1)) / r.d → (z * r.n + (r.d - 1)) / r.d ≤ z * r.n / r.d + 1 → quotB z r.n r.d = ⟨z * r.n / r.d, (z * r.n + (r.d - 1)) / r.d, false⟩ ∧ knB (⟨z * r.n / r.d, (z * r.n + (r.d - 1)) / r.d, false⟩ : Bd) = true := fun z g1 g2 g3 g4 => by
    obtain ⟨o, k⟩ := ofB_mk (lo := z * r.n / r.d) (hi := (z * r.n + (r.d - 1)) / r.d) (by omega) g3 (by omega)
    refine ⟨?_, k⟩
    have e1 : divE (z * r.n) r.d = 0 := by unfold divE; rw [if_neg (by omega), if_neg (by omega)]
    have e2 : divE (z * r.n + (r.d - 1)) r.d = 0 := by unfold divE; rw [if_neg (by omega), if_neg (by omega)]
    unfold quotB
    rw [e1, e2, divV_eq t6 (by omega) (by omega), divV_eq t6 (by omega) (by omega), o]
    rfl
  have ex : x + -r.t = x - r.t := by omega
  have ey : y + -r.t = y - r.t := by omega
  obtain ⟨qx, kqx⟩ := qv (x - r.t) (by omega) (by omega) ux.1 ux.2
  obtain ⟨qy, kqy⟩ := qv (y - r.t) (by omega) (by omega) uy.1 uy.2
  have mx := maxI_sp (((x - r.t) * r.n + (r.d - 1)) / r.d) (((y - r.t) * r.n + (r.d - 1)) / r.d)
  have mn : minI ((x - r.t) * r.n / r.d) ((y - r.t) * r.n / r.d) = (x - r.t) * r.n / r.d := by unfold minI; rw [if_neg (by omega)]
  obtain ⟨o4, k4⟩ := ofB_mk (lo := (x - r.t) * r.n / r.d) (hi := maxI (((x - r.t) * r.n + (r.d - 1)) / r.d) (((y - r.t) * r.n + (r.d - 1)) / r.d)) (by omega) (by omega) (by omega)
  have s2 : scaB ⟨x + -r.t, y + -r.t, false⟩ r.n r.d = ⟨(x - r.t) * r.n / r.d, maxI (((x - r.t) * r.n + (r.d - 1)) / r.d) (((y - r.t) * r.n + (r.d - 1)) / r.d), false⟩ := by
    unfold scaB
    have hi : inB r.n = true := inB_iff.2 (by omega)
    rw [k3, hi]
    simp only [Bool.and_self, cond_true]
    rw [ex, ey, qx, qy]
    unfold hullB
    rw [kqx, kqy]
    simp only [Bool.and_self, cond_true]
    rw [mn, o4]
  obtain ⟨o5, k5⟩ := ofB_mk (lo := r.a) (hi := r.a) (by omega) (by omega) (by omega)
  obtain ⟨o6, k6⟩ := ofB_mk (lo := (x - r.t) * r.n / r.d + r.a) (hi := maxI (((x - r.t) * r.n + (r.d - 1)) / r.d) (((y - r.t) * r.n + (r.d - 1)) / r.d) + r.a) (by omega) (by omega) (by omega)
  have s3 : sdB r ⟨x, y, false⟩ = ⟨(x - r.t) * r.n / r.d + r.a, maxI (((x - r.t) * r.n + (r.d - 1)) / r.d) (((y - r.t) * r.n + (r.d - 1)) / r.d) + r.a, false⟩ := by
    unfold sdB
    rw [if_pos hr, normB_sub, s1, s2]
    unfold addB
    rw [o5, k4, k5]
    exact o6
  rw [s3]
  exact ⟨rfl, by show (x - r.t) * r.n / r.d + r.a = r.a + (x - r.t) * r.n / r.d; omega⟩
noncomputable abbrev libSN : List (Nat × FnSp Fct) := [(18, sp0 (.w (.one (.yes true)))), (20, rvS), (29, bndS), (30, withS), (31, sp2 dBd dBd (fun a b => aBool (insB a b)) (fun _ _ => [])), (25, sdS)]
theorem libSN_ok (B : Nat) : LibOk Try.prog (fctI B) (lib1 libSN) := lib1_cons (sp0_ok rfl sfact_pl) Try.call18 (lib1_cons (rvS_ok B) Try.call20 (lib1_cons (bndS_ok B) Try.call29 (lib1_cons (withS_ok B) Try.call30 (lib1_cons (sp2_ok fun a b _ => ⟨_, rfl, AtArc.inside_pl a b⟩) Try.call31 (lib1_cons (sp2_ok fun r t hc => ⟨_, rfl, sdf_pl r t (c2' hc).1 (c2' hc).2⟩) Try.call25 (lib1_nil _ _))))))
set_option maxRecDepth 100000 in
theorem sn_1 (B : Nat) (l : List Int) : evL (ctxOf Try.prog (fctI B) (fun _ => false) libSN) Try.f6 l [] [true] = some (AV.w (AW.one (AC.bool ((sdB (rvV l 0) (bndV l (rvA l 0) 268435456)).u == (bndV l (rvA l 0) 268435456).u))), (pickL [(atB (0 + 20), true), (listB l, true), (atB 0, true), (decide (0 ≤ 268435456), true), (inB 268435456, true), (atB (rvA l 0 + 5), true), (atB (rvA l 0), true), (mkB (bndV l (rvA l 0) 268435456), true), (atB (bndA l (rvA l 0) + 9), true), (atB (bndA l (rvA l 0)), true), (true, true), (i64B (rvV l 0).n, true), (i64B (rvV l 0).d, true), (insB (sdB (rvV l 0) (withV l (bndA l (rvA l 0)) (bndV l (rvA l 0) 268435456))) (sdB (rvV l 0) (bndV l (rvA l 0) 268435456)), true)] [0, 1, 2, 3, 4, 5, 1, 6, 7, 8, 1, 9, 10, 10, 10, 11, 12, 10, 10, 10, 11, 12, 10, 10, 13, 13, 13, 11, 12, 13, 13, 13, 13, 13])) := by kernel_rfl
theorem rvA_in (l : List Int) : 6 ≤ rvA l 0 ∧ rvA l 0 ≤ 12 := by
  have h1 := (ti_in l (0 + 1 + 1 + 1)).2.2
  have h2 := (ar_in l (tiA l (0 + 1 + 1 + 1))).2.2
  have e : rvA l 0 = arA l (tiA l (0 + 1 + 1 + 1)) := rfl
  omega
set_option maxRecDepth 100000 in
theorem scaleSiderealNarrow_law (l : List Int) (p : Option Addr) (cap : Nat) (hL : listB l = true) (W : World)
    (hl : fctHolds W.heap.size (.ints l) W #[.slice p l.length cap]) : Calls Try.prog 6 #[.slice p l.length cap] W fun e w' => e = .returned (.bool true) ∧ Below W.heap.size W w' := by
  obtain ⟨r1, r2, r3, r4, r5, r6, r7, r8⟩ := rv_in l 0
  have q := rvA_in l
  have q1 := bndA_in l (rvA l 0)
  have L := sn_1 W.heap.size l
  have hm : (268435456 : Int) ≤ 1152921504606846976 := by omega
  have mA := bndV_mk l (rvA l 0) 268435456 (by omega) hm
  have bd : ∀ b, b = bndV l (rvA l 0) 268435456 → b.u = false → -268435456 ≤ b.lo ∧ b.lo ≤ b.hi ∧ b.hi ≤ 268435456 := fun b hb hu => by
    subst hb
    have kn := knB_iff.1 (mkB_kn mA hu)
    unfold bndV at hu kn ⊢
    have g1 := rangeV_in l (rvA l 0 + 1) (-268435456) 268435456 (by omega)
    have g2 := rangeV_in l (rvA l 0 + 1 + 1) (-268435456) 268435456 (by omega)
    have := minI_le (rangeV l (rvA l 0 + 1) (-268435456) 268435456) (rangeV l (rvA l 0 + 1 + 1) (-268435456) 268435456)
    have := maxI_ge (rangeV l (rvA l 0 + 1) (-268435456) 268435456) (rangeV l (rvA l 0 + 1 + 1) (-268435456) 268435456)
    cases z1 : (nextV l (rvA l 0) 8 == 0) with
    | true => rw [z1] at hu; cases hu
    | false =>
      cases z2 : (nextV l (rvA l 0) 8 == 1) <;> rw [z1, z2] at kn <;> simp only [cond_true, cond_false] at kn ⊢ <;> omega
  generalize hA : bndV l (rvA l 0) 268435456 = A at *
  obtain ⟨mC, iC⟩ := withV_mk l (bndA l (rvA l 0)) A mA
  have k1 : insB (sdB (rvV l 0) (withV l (bndA l (rvA l 0)) A)) (sdB (rvV l 0) A) = true := sd_iso iC
  have V : ((sdB (rvV l 0) A).u == A.u) = true := by
    cases hu : A.u with
    | true =>
      have : knB A = false := by unfold knB; rw [hu]; rfl
      rw [sd_none this]; rfl
    | false =>
      have g := bd A rfl hu
      obtain ⟨x, y, u⟩ := A
      simp only at hu g
      subst hu
      rw [(sd_val r1 r5 (by omega) g.2.1 (by omega)).1]; rfl
  refine list_calls (B := W.heap.size) (v := .bool true) (ctxOf_ok (libSN_ok _) (eq_none _)) (by kernel_rfl) Try.func6 rfl L rfl .nil (congrArg (fun b => some (Value.bool b)) V) W rfl hl ?_
  clear L
  refine pickL_ok ?_ _
  repeat' (first | exact cd_nil | refine cd_cons ?_ ?_)
  all_goals first | with_reducible assumption | rfl | (with_reducible refine atB_iff.2 ?_; omega)
noncomputable abbrev fnsSF1 : List (Nat × Func) := [(24, Try.f24)]
noncomputable abbrev libSF1 : List (Nat × FnSp Fct) := [(18, sp0 (.w (.one (.yes true)))), (20, rvS), (21, tiS), (22, arS), (23, whS), (26, sp1 (dInt .i64) (fun x => bA (ofB x x)) (fun _ => [])), (25, sdS), (27, mdS), (28, agS)]
theorem fnsSF1_ok : FnsOk Try.prog fnsSF1 := fns_cons Try.func24 rfl Try.call24 (fns_nil _)
theorem libSF1_ok (B : Nat) : LibOk Try.prog (fctI B) (lib1 libSF1) := lib1_cons (sp0_ok rfl sfact_pl) Try.call18 (lib1_cons (rvS_ok B) Try.call20 (lib1_cons (tiS_ok B) Try.call21 (lib1_cons (arS_ok B) Try.call22 (lib1_cons (sp3_ok fun r f a hc => ⟨_, rfl, whf_pl r f a (c2' hc).1 (c2' hc).2⟩) Try.call23 (lib1_cons (sp1_ok fun x _ => ⟨_, rfl, AtTick.exact_pl x⟩) Try.call26 (lib1_cons (sp2_ok fun r t hc => ⟨_, rfl, sdf_pl r t (c2' hc).1 (c2' hc).2⟩) Try.call25 (lib1_cons (mdS_ok _) Try.call27 (lib1_cons (sp2_ok fun r t hc => ⟨_, rfl, agf_pl r t (c2' hc).1 (c2' hc).2⟩) Try.call28 (lib1_nil _ _)))))))))
set_option maxRecDepth 100000 in
theorem sfi_0011 (B : Nat) (l : List Int) : evL (ctxIn Try.prog (fctI B) (fun _ => false) libSF1 fnsSF1) Try.f5 l [] [false, false, true, true] = some (AV.w (AW.one (AC.bool (agV (rvV l 0) (IntKind.i64.wrap ((tiV l (rvA l 0)).tdiv 10)) == mdV (sdB (rvV l 0) (ofB (IntKind.i64.wrap ((tiV l (rvA l 0)).tdiv 10)) (IntKind.i64.wrap ((tiV l (rvA l 0)).tdiv 10)))).lo 4294967296))), (pickL [(atB (0 + 20), true), (listB l, true), (atB 0, true), (atB (rvA l 0 + 5), true), (atB (rvA l 0), true), (decide ((10 : Int) = 0), false), (atB (tiA l (rvA l 0) + 6), true), (atB (tiA l (rvA l 0)), true), (i64B (rvV l 0).n, true), (i64B (rvV l 0).d, true), (!true, false), (whE (rvV l 0) (IntKind.i64.wrap ((tiV l (rvA l 0)).tdiv 10)) (arV l (tiA l (rvA l 0))) != 0, false), (decide (whV (rvV l 0) (IntKind.i64.wrap ((tiV l (rvA l 0)).tdiv 10)) (arV l (tiA l (rvA l 0))) < IntKind.i64.wrap ((tiV l (rvA l 0)).tdiv 10)), false), (i64B (IntKind.i64.wrap (arV l (tiA l (rvA l 0)) - (sdB (rvV l 0) (ofB (IntKind.i64.wrap ((tiV l (rvA l 0)).tdiv 10)) (IntKind.i64.wrap ((tiV l (rvA l 0)).tdiv 10)))).lo)), true), (i64B 4294967296, true), (decide ((sdB (rvV l 0) (ofB (whV (rvV l 0) (IntKind.i64.wrap ((tiV l (rvA l 0)).tdiv 10)) (arV l (tiA l (rvA l 0)))) (whV (rvV l 0) (IntKind.i64.wrap ((tiV l (rvA l 0)).tdiv 10)) (arV l (tiA l (rvA l 0)))))).lo ≥ IntKind.i64.wrap ((sdB (rvV l 0) (ofB (IntKind.i64.wrap ((tiV l (rvA l 0)).tdiv 10)) (IntKind.i64.wrap ((tiV l (rvA l 0)).tdiv 10)))).lo + mdV (IntKind.i64.wrap (arV l (tiA l (rvA l 0)) - (sdB (rvV l 0) (ofB (IntKind.i64.wrap ((tiV l (rvA l 0)).tdiv 10)) (IntKind.i64.wrap ((tiV l (rvA l 0)).tdiv 10)))).lo)) 4294967296)), true), (whV (rvV l 0) (IntKind.i64.wrap ((tiV l (rvA l 0)).tdiv 10)) (arV l (tiA l (rvA l 0))) == IntKind.i64.wrap ((tiV l (rvA l 0)).tdiv 10), true), (true, true), (i64B (sdB (rvV l 0) (ofB (IntKind.i64.wrap ((tiV l (rvA l 0)).tdiv 10)) (IntKind.i64.wrap ((tiV l (rvA l 0)).tdiv 10)))).lo, true)] [0, 1, 2, 3, 1, 4, 5, 6, 1, 7, 8, 9, 10, 10, 10, 11, 11, 11, 11, 12, 8, 9, 8, 9, 13, 14, 8, 9, 15, 15, 15, 15, 16, 16, 16, 16, 16, 16, 15, 16, 15, 17, 17, 17, 8, 9, 17, 17, 17, 8, 9, 17, 18, 14, 17, 17])) := by kernel_rfl
set_option maxRecDepth 100000 in
theorem sfi_00101 (B : Nat) (l : List Int) : evL (ctxIn Try.prog (fctI B) (fun _ => false) libSF1 fnsSF1) Try.f5 l [] [false, false, true, false, true] = some (AV.w (AW.one (AC.bool (agV (rvV l 0) (IntKind.i64.wrap ((tiV l (rvA l 0)).tdiv 10)) == mdV (sdB (rvV l 0) (ofB (IntKind.i64.wrap ((tiV l (rvA l 0)).tdiv 10)) (IntKind.i64.wrap ((tiV l (rvA l 0)).tdiv 10)))).lo 4294967296))), (pickL [(atB (0 + 20), true), (listB l, true), (atB 0, true), (atB (rvA l 0 + 5), true), (atB (rvA l 0), true), (decide ((10 : Int) = 0), false), (atB (tiA l (rvA l 0) + 6), true), (atB (tiA l (rvA l 0)), true), (i64B (rvV l 0).n, true), (i64B (rvV l 0).d, true), (!true, false), (whE (rvV l 0) (IntKind.i64.wrap ((tiV l (rvA l 0)).tdiv 10)) (arV l (tiA l (rvA l 0))) != 0, false), (decide (whV (rvV l 0) (IntKind.i64.wrap ((tiV l (rvA l 0)).tdiv 10)) (arV l (tiA l (rvA l 0))) < IntKind.i64.wrap ((tiV l (rvA l 0)).tdiv 10)), false), (i64B (IntKind.i64.wrap (arV l (tiA l (rvA l 0)) - (sdB (rvV l 0) (ofB (IntKind.i64.wrap ((tiV l (rvA l 0)).tdiv 10)) (IntKind.i64.wrap ((tiV l (rvA l 0)).tdiv 10)))).lo)), true), (i64B 4294967296, true), (decide ((sdB (rvV l 0) (ofB (whV (rvV l 0) (IntKind.i64.wrap ((tiV l (rvA l 0)).tdiv 10)) (arV l (tiA l (rvA l 0)))) (whV (rvV l 0) (IntKind.i64.wrap ((tiV l (rvA l 0)).tdiv 10)) (arV l (tiA l (rvA l 0)))))).lo ≥ IntKind.i64.wrap ((sdB (rvV l 0) (ofB (IntKind.i64.wrap ((tiV l (rvA l 0)).tdiv 10)) (IntKind.i64.wrap ((tiV l (rvA l 0)).tdiv 10)))).lo + mdV (IntKind.i64.wrap (arV l (tiA l (rvA l 0)) - (sdB (rvV l 0) (ofB (IntKind.i64.wrap ((tiV l (rvA l 0)).tdiv 10)) (IntKind.i64.wrap ((tiV l (rvA l 0)).tdiv 10)))).lo)) 4294967296)), true), (whV (rvV l 0) (IntKind.i64.wrap ((tiV l (rvA l 0)).tdiv 10)) (arV l (tiA l (rvA l 0))) == IntKind.i64.wrap ((tiV l (rvA l 0)).tdiv 10), false), (decide ((sdB (rvV l 0) (ofB (IntKind.i64.wrap (whV (rvV l 0) (IntKind.i64.wrap ((tiV l (rvA l 0)).tdiv 10)) (arV l (tiA l (rvA l 0))) - 1)) (IntKind.i64.wrap (whV (rvV l 0) (IntKind.i64.wrap ((tiV l (rvA l 0)).tdiv 10)) (arV l (tiA l (rvA l 0))) - 1)))).lo < IntKind.i64.wrap ((sdB (rvV l 0) (ofB (IntKind.i64.wrap ((tiV l (rvA l 0)).tdiv 10)) (IntKind.i64.wrap ((tiV l (rvA l 0)).tdiv 10)))).lo + mdV (IntKind.i64.wrap (arV l (tiA l (rvA l 0)) - (sdB (rvV l 0) (ofB (IntKind.i64.wrap ((tiV l (rvA l 0)).tdiv 10)) (IntKind.i64.wrap ((tiV l (rvA l 0)).tdiv 10)))).lo)) 4294967296)), true), (i64B (sdB (rvV l 0) (ofB (IntKind.i64.wrap ((tiV l (rvA l 0)).tdiv 10)) (IntKind.i64.wrap ((tiV l (rvA l 0)).tdiv 10)))).lo, true)] [0, 1, 2, 3, 1, 4, 5, 6, 1, 7, 8, 9, 10, 10, 10, 11, 11, 11, 11, 12, 8, 9, 8, 9, 13, 14, 8, 9, 15, 15, 15, 15, 16, 16, 16, 16, 8, 9, 16, 16, 15, 16, 15, 17, 17, 17, 8, 9, 17, 17, 17, 8, 9, 17, 18, 14, 17, 17])) := by kernel_rfl
/-- When finds a time within a turn. -/
theorem wh_first {r : Rt} {f a : Int} (hr : rtE r = 0) (hd : r.d ≤ r.n) (t1 : -1728000012000 ≤ r.t) (t2 : r.t ≤ 1728000012000) (f1 : -1728000012000 ≤ f) (f2 : f ≤ 1728000012000) (ha : trB a = true) :
    whE r f a = 0 ∧ f ≤ whV r f a ∧ whV r f a ≤ f + 4294967296 ∧ goV r f a ≤ wA r (whV r f a) ∧ (whV r f a = f ∨ wA r (whV r f a - 1) < goV r f a) := by
  have hf : tmQ f = true := tmQ_iff.2 (by omega)
  obtain ⟨_, _, h3, _, _, h6, _⟩ := rt_in hr
  obtain ⟨_, _, _, _, _, g1, g2⟩ := go_in hr hf ha
  have turn : wA r f + 4294967296 ≤ wA r (f + 4294967296) := by
    unfold wA
    have e : (f + 4294967296 - r.t) * r.n = (f - r.t) * r.n + 4294967296 * r.n := by rw [show f + 4294967296 - r.t = (f - r.t) + 4294967296 by omega, Int.add_mul]
    have h : (f - r.t) * r.n + 4294967296 * r.d ≤ (f + 4294967296 - r.t) * r.n := by
      rw [e]
      have : 4294967296 * r.d ≤ 4294967296 * r.n := by omega
      omega
    have h2 : ((f - r.t) * r.n + 4294967296 * r.d) / r.d ≤ (f + 4294967296 - r.t) * r.n / r.d := Int.ediv_le_ediv (by omega) h
    rw [Int.add_mul_ediv_right _ _ (by omega)] at h2
    omega
  have hc : r.t + ceW r f a ≤ f + 4294967296 := (ce_iff hr).1 (by omega)
  have lo := ce_low hr hf ha
  obtain ⟨w1, w2⟩ : waE r f a = 0 ∧ waV r f a = ceW r f a := by
    rcases wa_cases hr hf ha with h | h
    · exact h
    · omega
  have e : whE r f a = 0 := by
    unfold whE
    rw [if_neg (by omega), if_neg (by rw [hf, ha]; simp), if_neg (by omega)]
  have hv : whV r f a = maxI f (r.t + ceW r f a) := by
    have : whV r f a = maxI f (r.t + waV r f a) := if_pos e
    rw [this, w2]
  have mx := maxI_sp f (r.t + ceW r f a)
  rw [hv]
  refine ⟨e, by omega, by omega, (ce_iff hr).2 (by omega), ?_⟩
  rcases mx.2.2 with h | h
  · exact .inl h
  · by_cases g : maxI f (r.t + ceW r f a) = f
    · exact .inl g
    · right
      rcases (show wA r (maxI f (r.t + ceW r f a) - 1) < goV r f a ∨ goV r f a ≤ wA r (maxI f (r.t + ceW r f a) - 1) by omega) with q | q
      · exact q
      · have := (ce_iff hr).1 q
        omega
set_option maxRecDepth 100000 in
theorem scaleFirst_law (l : List Int) (p : Option Addr) (cap : Nat) (hL : listB l = true) (W : World)
    (hl : fctHolds W.heap.size (.ints l) W #[.slice p l.length cap]) : Calls Try.prog 5 #[.slice p l.length cap] W fun e w' => e = .returned (.bool true) ∧ Below W.heap.size W w' := by
  obtain ⟨r1, r2, r3, r4, r5, r6, r7, r8⟩ := rv_in l 0
  have q := rvA_in l
  obtain ⟨t1, t2, t3, t4⟩ := ti_in l (rvA l 0)
  obtain ⟨a1, a2, a3, a4⟩ := ar_in l (tiA l (rvA l 0))
  have ht : -1728000012000 ≤ (tiV l (rvA l 0)).tdiv 10 ∧ (tiV l (rvA l 0)).tdiv 10 ≤ 1728000012000 := by
    by_cases g : 0 ≤ tiV l (rvA l 0)
    · rw [Int.tdiv_eq_ediv_of_nonneg g]; omega
    · have := Int.neg_tdiv (-(tiV l (rvA l 0))) 10
      rw [Int.neg_neg, Int.tdiv_eq_ediv_of_nonneg (a := -(tiV l (rvA l 0))) (b := 10) (by omega)] at this
      rw [this]; omega
  obtain ⟨F, hF⟩ : ∃ F, IntKind.i64.wrap ((tiV l (rvA l 0)).tdiv 10) = F := ⟨_, rfl⟩
  have hFv : F = (tiV l (rvA l 0)).tdiv 10 := by rw [← hF]; exact v64 (by omega) (by omega)
  have n1 : atB (rvA l 0 + 5) = true := atB_iff.2 (by omega)
  have n2 : atB (rvA l 0) = true := atB_iff.2 (by omega)
  have n3 : atB (tiA l (rvA l 0) + 6) = true := atB_iff.2 (by omega)
  have n4 : atB (tiA l (rvA l 0)) = true := atB_iff.2 (by omega)
  have hA : trB (arV l (tiA l (rvA l 0))) = true := trB_iff.2 ⟨a1, a2⟩
  obtain ⟨R, hR⟩ : ∃ R, rvV l 0 = R := ⟨_, rfl⟩
  rw [hR] at r1 r2 r3 r4 r5 r6 r7 r8
  obtain ⟨A, hAq⟩ : ∃ A, arV l (tiA l (rvA l 0)) = A := ⟨_, rfl⟩
  rw [hAq] at hA
  have f1 : -1728000012000 ≤ F := by omega
  have f2 : F ≤ 1728000012000 := by omega
  obtain ⟨w1, w2, w3, w4, w5⟩ := wh_first r1 r4 r2 r3 f1 f2 hA
  have sd : ∀ x, -17600000000000 ≤ x → x ≤ 17600000000000 → (sdB R (ofB x x)).lo = wA R x := fun x h1 h2 => by
    rw [(ofB_mk (lo := x) (hi := x) (by omega) (by omega) (by omega)).1]
    exact (sd_val r1 r5 h1 (by omega) h2).2
  have hf : tmQ F = true := tmQ_iff.2 (by omega)
  obtain ⟨g1, g2, g3, g4, g5, g6, g7⟩ := go_in r1 hf hA
  have wr := wA_in r1 hf
  obtain ⟨u, hu⟩ : ∃ u, whV R F A = u := ⟨_, rfl⟩
  rw [hu] at w2 w3 w4 w5
  have e1 : (sdB R (ofB F F)).lo = wA R F := sd F (by omega) (by omega)
  have e2 : (sdB R (ofB u u)).lo = wA R u := sd u (by omega) (by omega)
  have wu : IntKind.i64.wrap (u - 1) = u - 1 := v64 (by omega) (by omega)
  have e3 : (sdB R (ofB (IntKind.i64.wrap (u - 1)) (IntKind.i64.wrap (u - 1)))).lo = wA R (u - 1) := by rw [wu]; exact sd (u - 1) (by omega) (by omega)
  have c1 : (whE R F A != 0) = false := by rw [w1]; rfl
  have c2 : decide (u < F) = false := decide_eq_false (by omega)
  have c3 : decide (wA R u ≥ goV R F A) = true := decide_eq_true w4
  have c4 : i64B (wA R F) = true := i64B_iff.2 (by omega)
  have V : (agV R F == mdV (wA R F) 4294967296) = true := by
    rw [mdV_eq]
    unfold agV
    rw [if_pos ⟨r1, hf⟩]
    exact beq_self_eq_true _
  by_cases h : u = F
  · have c5 : (u == F) = true := by simpa using h
    have L := sfi_0011 W.heap.size l
    rw [hF] at L
    rw [hR] at L
    rw [hAq] at L
    rw [e1, hu] at L
    try rw [e2] at L
    try rw [e3] at L
    try rw [g1, g2] at L
    refine list_calls (B := W.heap.size) (v := .bool true) (ctxIn_ok (libSF1_ok _) (eq_none _) fnsSF1_ok) (by kernel_rfl) Try.func5 rfl L rfl .nil (congrArg (fun b => some (Value.bool b)) V) W rfl hl ?_
    clear L
    refine pickL_ok ?_ _
    repeat' (first | exact cd_nil | refine cd_cons ?_ ?_)
    all_goals first | with_reducible assumption | rfl | (with_reducible refine atB_iff.2 ?_; omega)
  · have c5 : (u == F) = false := by simpa using h
    have c6 : decide (wA R (u - 1) < goV R F A) = true := decide_eq_true (by rcases w5 with q | q; exact absurd q h; exact q)
    have L := sfi_00101 W.heap.size l
    rw [hF] at L
    rw [hR] at L
    rw [hAq] at L
    rw [e1, hu] at L
    try rw [e2] at L
    try rw [e3] at L
    try rw [g1, g2] at L
    refine list_calls (B := W.heap.size) (v := .bool true) (ctxIn_ok (libSF1_ok _) (eq_none _) fnsSF1_ok) (by kernel_rfl) Try.func5 rfl L rfl .nil (congrArg (fun b => some (Value.bool b)) V) W rfl hl ?_
    clear L
    refine pickL_ok ?_ _
    repeat' (first | exact cd_nil | refine cd_cons ?_ ?_)
    all_goals first | with_reducible assumption | rfl | (with_reducible refine atB_iff.2 ?_; omega)
end
end Go.Proofs.Ytoaoifiklnbknab.AtRt

