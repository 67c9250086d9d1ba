/-
  Package spymake: what Arc, Slope, Site and Vec make out of streams.
  Conditions: those of each theorem.
-/
import Derived.Test.YtbkeohcoahdgcaaH1
import Derived.Test.YtbkeohcoahdgcaaST
set_option linter.unusedVariables false
set_option linter.unusedSimpArgs false
namespace Go.Proofs.Ytbkeohcoahdgcaa.AtHz
open Go.RowKit Ev Wd
open Go.Proofs.Ytbkeohcoahdgcaa
variable {F : Type}
noncomputable section

def mkW (a : Int) : Int := IntKind.i64.wrap ((BitVec.ofInt IntKind.i64.bits a &&& BitVec.ofInt IntKind.i64.bits 4294967295).toNat : Int)
def arV (l : List Int) (a : Int) : Int := bif nextV l (a + 1 + 1) 3 == 0 then mkW (nextV l (a + 1 + 1 + 1) 8 * 536870912 + rangeV l (a + 1 + 1 + 1 + 1) (-3) 3) else mkW (nextV l a 1073741824 * 4 + nextV l (a + 1) 4)
def arZ (l : List Int) (a : Int) : Int := bif nextV l (a + 1 + 1) 3 == 0 then a + 1 + 1 + 1 + 1 + 1 else a + 1 + 1 + 1
def slV (l : List Int) (a : Int) : Int := (arV l a).tdiv 2 - 1073741824
def stV (l : List Int) (a : Int) : Si := ⟨slV l a, arV l (arZ l a)⟩
def stZ (l : List Int) (a : Int) : Int := arZ l (arZ l a)
def moV (k : Int) : Int := if k = 0 then 3 else if k = 1 then 100 else if k = 2 then 5000 else 1048576
def v0V (l : List Int) (a m : Int) : V3 := ⟨rangeV l (a + 1) (-m) m, rangeV l (a + 1 + 1) (-m) m, rangeV l (a + 1 + 1 + 1) (-m) m⟩
def veV (l : List Int) (a : Int) : V3 := if zeC (v0V l a (moV (nextV l a 4))) = true then ⟨1, 0, 0⟩ else v0V l a (moV (nextV l a 4))
abbrev arG (l : List Int) (a : Int) (rest : List (AV Fct)) : Option (AV Fct × Int × List (Bool × Bool)) := match rest with
  | [] => some (aInt .i64 (arV l a), arZ l a, (atB (a + 6), true) :: stC l a)
  | _ => none
abbrev slG (l : List Int) (a : Int) (rest : List (AV Fct)) : Option (AV Fct × Int × List (Bool × Bool)) := match rest with
  | [] => some (aInt .i64 (slV l a), arZ l a, (atB (a + 6), true) :: stC l a)
  | _ => none
abbrev siG (l : List Int) (a : Int) (rest : List (AV Fct)) : Option (AV Fct × Int × List (Bool × Bool)) := match rest with
  | [] => some (siA (stV l a), stZ l a, (atB (a + 12), true) :: stC l a)
  | _ => none
abbrev veG (l : List Int) (a : Int) (rest : List (AV Fct)) : Option (AV Fct × Int × List (Bool × Bool)) := match rest with
  | [] => some (v3A (veV l a), a + 1 + 1 + 1 + 1, (atB (a + 6), true) :: stC l a)
  | _ => none
abbrev nxG (K : Int) (l : List Int) (a : Int) (rest : List (AV Fct)) : Option (AV Fct × Int × List (Bool × Bool)) := match rest with
  | [x] => match (dInt .i64).dec x with
    | some n => bif n == 4 then some (aInt .i64 K, a + 1, (nextV l a n == K, true) :: (i64B n, true) :: stC l a) else some (aInt .i64 (nextV l a n), a + 1, (i64B n, true) :: stC l a)
    | none => none
  | _ => none
abbrev arS : FnSp Fct := stream 25 arG
abbrev slS : FnSp Fct := stream 25 slG
abbrev sitS : FnSp Fct := stream 25 siG
abbrev veS : FnSp Fct := stream 25 veG
abbrev nxS (K : Int) : FnSp Fct := stream 25 (nxG K)
abbrev libZ0 : List (Nat × FnSp Fct) := (22, rangeS) :: libS2
abbrev libY1 : List (Nat × FnSp Fct) := []

abbrev libZ1 : List (Nat × FnSp Fct) := []

abbrev libZ2 (K : Int) : List (Nat × FnSp Fct) := [(17, nxS K), (22, rangeS)]
theorem libZ0_ok (B : Nat) : LibOk Try.prog (fctI B) (lib1 libZ0) := lib1_cons (rangeS_ok B) Try.call22 (libS2_ok B)
theorem mkW_eq (a : Int) : mkW a = a % 4294967296 := by
  unfold mkW
  rw [BitVec.toNat_and]
  have e : (BitVec.ofInt IntKind.i64.bits 4294967295).toNat = 2 ^ 32 - 1 := by decide
  rw [e, Nat.and_two_pow_sub_one_eq_mod]
  have h : (BitVec.ofInt IntKind.i64.bits a).toNat = (a % 18446744073709551616).toNat := BitVec.toNat_ofInt a
  rw [h, IntKind.wrap_i64]
  omega
theorem ar_in (l : List Int) (a : Int) : 0 ≤ arV l a ∧ arV l a < 4294967296 ∧ a + 3 ≤ arZ l a ∧ arZ l a ≤ a + 5 := by
  unfold arV arZ
  rw [mkW_eq, mkW_eq]
  cases nextV l (a + 1 + 1) 3 == 0 <;> simp only [cond_true, cond_false] <;> omega
theorem sl_in (l : List Int) (a : Int) : -1073741824 ≤ slV l a ∧ slV l a ≤ 1073741824 := by
  have := ar_in l a
  unfold slV
  rw [Int.tdiv_eq_ediv_of_nonneg (by omega)]
  omega
theorem st_in (l : List Int) (a : Int) : sE (stV l a) = 0 ∧ a + 6 ≤ stZ l a ∧ stZ l a ≤ a + 10 := by
  have h1 := ar_in l a
  have h2 := ar_in l (arZ l a)
  have h3 := sl_in l a
  refine ⟨sE_iff.2 ?_, ?_, ?_⟩
  · unfold stV; simp only; omega
  · unfold stZ; omega
  · unfold stZ; omega
theorem mo_in (k : Int) : 1 ≤ moV k ∧ moV k ≤ 1048576 := by unfold moV; split <;> (try split) <;> (try split) <;> omega
theorem ve_in (l : List Int) (a : Int) : vE (veV l a) = 0 := by
  have m := mo_in (nextV l a 4)
  unfold veV
  generalize moV (nextV l a 4) = M at *
  have h1 := rangeV_in l (a + 1) (-M) M (by omega)
  have h2 := rangeV_in l (a + 1 + 1) (-M) M (by omega)
  have h3 := rangeV_in l (a + 1 + 1 + 1) (-M) M (by omega)
  by_cases h : zeC (v0V l a M) = true
  · rw [if_pos h]; decide
  · rw [if_neg h, vE_iff]
    rw [zeC_iff] at h
    unfold v0V at *
    simp only at *
    omega
theorem libY1_ok (B : Nat) : LibOk Try.prog (fctI B) (lib1 libY1) := (lib1_nil _ _)

theorem libZ1_ok (B : Nat) : LibOk Try.prog (fctI B) (lib1 libZ1) := (lib1_nil _ _)

theorem nxS_ok (K : Int) (B : Nat) : (nxS K).ok Try.prog (fctI B) 17 := by
  intro E hp w slot args us bs out dt hrun ha hbl hm hfr hc
  have hst := nextS_ok B
  simp only [stream] at hrun
  split at hrun
  · rename_i b rest ty k j l a
    cases hty : Nat.beq ty 25 with
    | false => rw [hty] at hrun; cases hrun
    | true =>
      rw [hty] at hrun
      simp only [cond_true] at hrun
      split at hrun
      · rename_i v a' cd hg
        cases hrun
        simp only [nxG] at hg
        split at hg
        · rename_i x
          split at hg
          · rename_i n hx
            have run : nextS.run slot (.w (.one (.ptr b 0)) :: [x]) [⟨ty, [.ext k j (.ints l) 0, .int .i64 a]⟩] = some ⟨aInt .i64 (nextV l a n), [(b, streamBlk ty k j l (a + 1))], (i64B n, true) :: stC l a⟩ := by
              simp only [stream, hty, cond_true, nextG, hx]
            cases hn : (n == 4) with
            | false =>
              rw [hn] at hg
              simp only [cond_false] at hg
              cases hg
              exact hst E hp w slot _ us _ _ dt run ha hbl hm hfr hc
            | true =>
              rw [hn] at hg
              simp only [cond_true] at hg
              cases hg
              have hK : nextV l a n = K := by simpa using hc (nextV l a n == K, true) (by simp)
              subst hK
              have := hst E hp w slot _ us _ ⟨aInt .i64 (nextV l a n), [(b, streamBlk ty k j l (a + 1))], (i64B n, true) :: stC l a⟩ dt run ha hbl hm hfr (fun p hp => hc p (List.mem_cons_of_mem _ hp))
              exact this
          · cases hg
        · cases hg
      · cases hrun
  · cases hrun
theorem libZ2_ok (K : Int) (B : Nat) : LibOk Try.prog (fctI B) (lib1 (libZ2 K)) := lib1_cons (nxS_ok K B) Try.call17 (lib1_cons (rangeS_ok B) Try.call22 (lib1_nil _ _))
theorem eqV_ok' : EqOk Try.prog (tabOf Try.prog) (fun t => Nat.beq t 27) := eq_of fun t ht => by
  have := Nat.eq_of_beq_eq_true ht
  subst this
  exact ⟨by kernel_rfl, by kernel_rfl, by kernel_rfl⟩
set_option maxRecDepth 100000 in
theorem ve0_1 (B : Nat) (l : List Int) (a : Int) : evS (ctxOf Try.prog (fctI B) (fun t => Nat.beq t 27) (libZ2 0)) Try.f5 25 l a [] [true] = some (AV.w (AW.agg [AC.int IntKind.i64 1, AC.int IntKind.i64 (rangeV l (a + 1 + 1) (IntKind.i64.wrap (0 - 3)) 3), AC.int IntKind.i64 (rangeV l (a + 1 + 1 + 1) (IntKind.i64.wrap (0 - 3)) 3)]), a + 1 + 1 + 1 + 1, (pickL [(nextV l a 4 == 0, true), (i64B 4, true), (listB l, true), (atB a, true), (decide (0 ≤ 0), true), (decide (0 < ((4 : Nat) : Int)), true), (decide (3 < IntKind.i64.wrap (0 - 3)), false), (rB (IntKind.i64.wrap (0 - 3)), true), (rB 3, true), (atB (a + 1), true), (atB (a + 1 + 1), true), (atB (a + 1 + 1 + 1), true), (rangeV l (a + 1) (IntKind.i64.wrap (0 - 3)) 3 == 0 && (rangeV l (a + 1 + 1) (IntKind.i64.wrap (0 - 3)) 3 == 0 && (rangeV l (a + 1 + 1 + 1) (IntKind.i64.wrap (0 - 3)) 3 == 0 && true)), true)] [0, 1, 2, 3, 4, 5, 6, 7, 8, 2, 9, 6, 7, 8, 2, 10, 6, 7, 8, 2, 11, 12])) := by kernel_rfl
set_option maxRecDepth 100000 in
theorem ve0_0 (B : Nat) (l : List Int) (a : Int) : evS (ctxOf Try.prog (fctI B) (fun t => Nat.beq t 27) (libZ2 0)) Try.f5 25 l a [] [false] = some (AV.w (AW.agg [AC.int IntKind.i64 (rangeV l (a + 1) (IntKind.i64.wrap (0 - 3)) 3), AC.int IntKind.i64 (rangeV l (a + 1 + 1) (IntKind.i64.wrap (0 - 3)) 3), AC.int IntKind.i64 (rangeV l (a + 1 + 1 + 1) (IntKind.i64.wrap (0 - 3)) 3)]), a + 1 + 1 + 1 + 1, (pickL [(nextV l a 4 == 0, true), (i64B 4, true), (listB l, true), (atB a, true), (decide (0 ≤ 0), true), (decide (0 < ((4 : Nat) : Int)), true), (decide (3 < IntKind.i64.wrap (0 - 3)), false), (rB (IntKind.i64.wrap (0 - 3)), true), (rB 3, true), (atB (a + 1), true), (atB (a + 1 + 1), true), (atB (a + 1 + 1 + 1), true), (rangeV l (a + 1) (IntKind.i64.wrap (0 - 3)) 3 == 0 && (rangeV l (a + 1 + 1) (IntKind.i64.wrap (0 - 3)) 3 == 0 && (rangeV l (a + 1 + 1 + 1) (IntKind.i64.wrap (0 - 3)) 3 == 0 && true)), false)] [0, 1, 2, 3, 4, 5, 6, 7, 8, 2, 9, 6, 7, 8, 2, 10, 6, 7, 8, 2, 11, 12])) := by kernel_rfl
set_option maxRecDepth 100000 in
theorem ve1_1 (B : Nat) (l : List Int) (a : Int) : evS (ctxOf Try.prog (fctI B) (fun t => Nat.beq t 27) (libZ2 1)) Try.f5 25 l a [] [true] = some (AV.w (AW.agg [AC.int IntKind.i64 1, AC.int IntKind.i64 (rangeV l (a + 1 + 1) (IntKind.i64.wrap (0 - 100)) 100), AC.int IntKind.i64 (rangeV l (a + 1 + 1 + 1) (IntKind.i64.wrap (0 - 100)) 100)]), a + 1 + 1 + 1 + 1, (pickL [(nextV l a 4 == 1, true), (i64B 4, true), (listB l, true), (atB a, true), (decide (0 ≤ 1), true), (decide (1 < ((4 : Nat) : Int)), true), (decide (100 < IntKind.i64.wrap (0 - 100)), false), (rB (IntKind.i64.wrap (0 - 100)), true), (rB 100, true), (atB (a + 1), true), (atB (a + 1 + 1), true), (atB (a + 1 + 1 + 1), true), (rangeV l (a + 1) (IntKind.i64.wrap (0 - 100)) 100 == 0 && (rangeV l (a + 1 + 1) (IntKind.i64.wrap (0 - 100)) 100 == 0 && (rangeV l (a + 1 + 1 + 1) (IntKind.i64.wrap (0 - 100)) 100 == 0 && true)), true)] [0, 1, 2, 3, 4, 5, 6, 7, 8, 2, 9, 6, 7, 8, 2, 10, 6, 7, 8, 2, 11, 12])) := by kernel_rfl
set_option maxRecDepth 100000 in
theorem ve1_0 (B : Nat) (l : List Int) (a : Int) : evS (ctxOf Try.prog (fctI B) (fun t => Nat.beq t 27) (libZ2 1)) Try.f5 25 l a [] [false] = some (AV.w (AW.agg [AC.int IntKind.i64 (rangeV l (a + 1) (IntKind.i64.wrap (0 - 100)) 100), AC.int IntKind.i64 (rangeV l (a + 1 + 1) (IntKind.i64.wrap (0 - 100)) 100), AC.int IntKind.i64 (rangeV l (a + 1 + 1 + 1) (IntKind.i64.wrap (0 - 100)) 100)]), a + 1 + 1 + 1 + 1, (pickL [(nextV l a 4 == 1, true), (i64B 4, true), (listB l, true), (atB a, true), (decide (0 ≤ 1), true), (decide (1 < ((4 : Nat) : Int)), true), (decide (100 < IntKind.i64.wrap (0 - 100)), false), (rB (IntKind.i64.wrap (0 - 100)), true), (rB 100, true), (atB (a + 1), true), (atB (a + 1 + 1), true), (atB (a + 1 + 1 + 1), true), (rangeV l (a + 1) (IntKind.i64.wrap (0 - 100)) 100 == 0 && (rangeV l (a + 1 + 1) (IntKind.i64.wrap (0 - 100)) 100 == 0 && (rangeV l (a + 1 + 1 + 1) (IntKind.i64.wrap (0 - 100)) 100 == 0 && true)), false)] [0, 1, 2, 3, 4, 5, 6, 7, 8, 2, 9, 6, 7, 8, 2, 10, 6, 7, 8, 2, 11, 12])) := by kernel_rfl
set_option maxRecDepth 100000 in
theorem ve2_1 (B : Nat) (l : List Int) (a : Int) : evS (ctxOf Try.prog (fctI B) (fun t => Nat.beq t 27) (libZ2 2)) Try.f5 25 l a [] [true] = some (AV.w (AW.agg [AC.int IntKind.i64 1, AC.int IntKind.i64 (rangeV l (a + 1 + 1) (IntKind.i64.wrap (0 - 5000)) 5000), AC.int IntKind.i64 (rangeV l (a + 1 + 1 + 1) (IntKind.i64.wrap (0 - 5000)) 5000)]), a + 1 + 1 + 1 + 1, (pickL [(nextV l a 4 == 2, true), (i64B 4, true), (listB l, true), (atB a, true), (decide (0 ≤ 2), true), (decide (2 < ((4 : Nat) : Int)), true), (decide (5000 < IntKind.i64.wrap (0 - 5000)), false), (rB (IntKind.i64.wrap (0 - 5000)), true), (rB 5000, true), (atB (a + 1), true), (atB (a + 1 + 1), true), (atB (a + 1 + 1 + 1), true), (rangeV l (a + 1) (IntKind.i64.wrap (0 - 5000)) 5000 == 0 && (rangeV l (a + 1 + 1) (IntKind.i64.wrap (0 - 5000)) 5000 == 0 && (rangeV l (a + 1 + 1 + 1) (IntKind.i64.wrap (0 - 5000)) 5000 == 0 && true)), true)] [0, 1, 2, 3, 4, 5, 6, 7, 8, 2, 9, 6, 7, 8, 2, 10, 6, 7, 8, 2, 11, 12])) := by kernel_rfl
set_option maxRecDepth 100000 in
theorem ve2_0 (B : Nat) (l : List Int) (a : Int) : evS (ctxOf Try.prog (fctI B) (fun t => Nat.beq t 27) (libZ2 2)) Try.f5 25 l a [] [false] = some (AV.w (AW.agg [AC.int IntKind.i64 (rangeV l (a + 1) (IntKind.i64.wrap (0 - 5000)) 5000), AC.int IntKind.i64 (rangeV l (a + 1 + 1) (IntKind.i64.wrap (0 - 5000)) 5000), AC.int IntKind.i64 (rangeV l (a + 1 + 1 + 1) (IntKind.i64.wrap (0 - 5000)) 5000)]), a + 1 + 1 + 1 + 1, (pickL [(nextV l a 4 == 2, true), (i64B 4, true), (listB l, true), (atB a, true), (decide (0 ≤ 2), true), (decide (2 < ((4 : Nat) : Int)), true), (decide (5000 < IntKind.i64.wrap (0 - 5000)), false), (rB (IntKind.i64.wrap (0 - 5000)), true), (rB 5000, true), (atB (a + 1), true), (atB (a + 1 + 1), true), (atB (a + 1 + 1 + 1), true), (rangeV l (a + 1) (IntKind.i64.wrap (0 - 5000)) 5000 == 0 && (rangeV l (a + 1 + 1) (IntKind.i64.wrap (0 - 5000)) 5000 == 0 && (rangeV l (a + 1 + 1 + 1) (IntKind.i64.wrap (0 - 5000)) 5000 == 0 && true)), false)] [0, 1, 2, 3, 4, 5, 6, 7, 8, 2, 9, 6, 7, 8, 2, 10, 6, 7, 8, 2, 11, 12])) := by kernel_rfl
set_option maxRecDepth 100000 in
theorem ve3_1 (B : Nat) (l : List Int) (a : Int) : evS (ctxOf Try.prog (fctI B) (fun t => Nat.beq t 27) (libZ2 3)) Try.f5 25 l a [] [true] = some (AV.w (AW.agg [AC.int IntKind.i64 1, AC.int IntKind.i64 (rangeV l (a + 1 + 1) (IntKind.i64.wrap (0 - 1048576)) 1048576), AC.int IntKind.i64 (rangeV l (a + 1 + 1 + 1) (IntKind.i64.wrap (0 - 1048576)) 1048576)]), a + 1 + 1 + 1 + 1, (pickL [(nextV l a 4 == 3, true), (i64B 4, true), (listB l, true), (atB a, true), (decide (0 ≤ 3), true), (decide (3 < ((4 : Nat) : Int)), true), (decide (1048576 < IntKind.i64.wrap (0 - 1048576)), false), (rB (IntKind.i64.wrap (0 - 1048576)), true), (rB 1048576, true), (atB (a + 1), true), (atB (a + 1 + 1), true), (atB (a + 1 + 1 + 1), true), (rangeV l (a + 1) (IntKind.i64.wrap (0 - 1048576)) 1048576 == 0 && (rangeV l (a + 1 + 1) (IntKind.i64.wrap (0 - 1048576)) 1048576 == 0 && (rangeV l (a + 1 + 1 + 1) (IntKind.i64.wrap (0 - 1048576)) 1048576 == 0 && true)), true)] [0, 1, 2, 3, 4, 5, 6, 7, 8, 2, 9, 6, 7, 8, 2, 10, 6, 7, 8, 2, 11, 12])) := by kernel_rfl
set_option maxRecDepth 100000 in
theorem ve3_0 (B : Nat) (l : List Int) (a : Int) : evS (ctxOf Try.prog (fctI B) (fun t => Nat.beq t 27) (libZ2 3)) Try.f5 25 l a [] [false] = some (AV.w (AW.agg [AC.int IntKind.i64 (rangeV l (a + 1) (IntKind.i64.wrap (0 - 1048576)) 1048576), AC.int IntKind.i64 (rangeV l (a + 1 + 1) (IntKind.i64.wrap (0 - 1048576)) 1048576), AC.int IntKind.i64 (rangeV l (a + 1 + 1 + 1) (IntKind.i64.wrap (0 - 1048576)) 1048576)]), a + 1 + 1 + 1 + 1, (pickL [(nextV l a 4 == 3, true), (i64B 4, true), (listB l, true), (atB a, true), (decide (0 ≤ 3), true), (decide (3 < ((4 : Nat) : Int)), true), (decide (1048576 < IntKind.i64.wrap (0 - 1048576)), false), (rB (IntKind.i64.wrap (0 - 1048576)), true), (rB 1048576, true), (atB (a + 1), true), (atB (a + 1 + 1), true), (atB (a + 1 + 1 + 1), true), (rangeV l (a + 1) (IntKind.i64.wrap (0 - 1048576)) 1048576 == 0 && (rangeV l (a + 1 + 1) (IntKind.i64.wrap (0 - 1048576)) 1048576 == 0 && (rangeV l (a + 1 + 1 + 1) (IntKind.i64.wrap (0 - 1048576)) 1048576 == 0 && true)), false)] [0, 1, 2, 3, 4, 5, 6, 7, 8, 2, 9, 6, 7, 8, 2, 10, 6, 7, 8, 2, 11, 12])) := by kernel_rfl
theorem veS_ok (B : Nat) : veS.ok Try.prog (fctI B) 5 := by
  intro E hp w slot args us bs out dt hrun ha hbl hm hfr hc
  have hrun' := hrun
  simp only [stream] at hrun'
  split at hrun'
  · rename_i b rest ty k j l a
    have hq := nextV_in l a 4 (by omega)
    have part : ∀ q : Int, (q = 0 ∨ q = 1 ∨ q = 2 ∨ q = 3) → (stream 25 fun l a rest => if nextV l a 4 = q then veG l a rest else none).ok Try.prog (fctI B) 5 := fun q h0 => by
      refine stream_ok (ctxOf_ok (libZ2_ok q B) eqV_ok') (by kernel_rfl) Try.func5 rfl fun l a rest v a' cd hg hc => ?_
      split at hg
      · rename_i hk
        simp only [veG] at hg
        split at hg
        · cases hg
          rcases h0 with rfl | rfl | rfl | rfl
          · have hl : listB l = true := hc (listB l, true) (by simp)
            have ha : atB a = true := hc (atB a, true) (by simp)
            have ha1 := atB_iff.1 ha
            have ha5 := atB_iff.1 (hc (atB (a + 6), true) (by simp))
            have q : (nextV l a 4 == 0) = true := by rw [hk]; rfl
            have mo : moV (nextV l a 4) = 3 := by rw [hk]; rfl
            have hm : IntKind.i64.wrap (0 - 3) = -3 := by decide
            unfold veV
            rw [mo]
            by_cases hz : zeC (v0V l a 3) = true
            · have h := zeC_iff.1 hz
              simp only [v0V] at h
              rw [if_pos hz]
              have c1 : (rangeV l (a + 1) (-3) 3 == 0 && (rangeV l (a + 1 + 1) (-3) 3 == 0 && (rangeV l (a + 1 + 1 + 1) (-3) 3 == 0 && true))) = true := by rw [h.1, h.2.1, h.2.2]; rfl
              have L := ve0_1 B l a
              rw [hm] at L
              rw [h.2.1, h.2.2] at L
              rw [h.2.1, h.2.2] at c1
              refine ⟨[], _, [true], _, _, [], .nil, .nil, rfl, rfl, rfl, L, pickL_ok ?_ _⟩
              repeat' (first | exact cd_nil | refine cd_cons ?_ ?_)
              all_goals first | rfl | with_reducible assumption | (with_reducible refine atB_iff.2 ?_; omega)
            · rw [if_neg hz]
              have c1 : (rangeV l (a + 1) (-3) 3 == 0 && (rangeV l (a + 1 + 1) (-3) 3 == 0 && (rangeV l (a + 1 + 1 + 1) (-3) 3 == 0 && true))) = false := by
                have h : zeC (v0V l a 3) = false := by simpa using hz
                simpa [zeC, v0V] using h
              have L := ve0_0 B l a
              rw [hm] at L
              refine ⟨[], _, [false], _, _, [], .nil, .nil, rfl, rfl, rfl, L, pickL_ok ?_ _⟩
              repeat' (first | exact cd_nil | refine cd_cons ?_ ?_)
              all_goals first | rfl | with_reducible assumption | (with_reducible refine atB_iff.2 ?_; omega)
          · have hl : listB l = true := hc (listB l, true) (by simp)
            have ha : atB a = true := hc (atB a, true) (by simp)
            have ha1 := atB_iff.1 ha
            have ha5 := atB_iff.1 (hc (atB (a + 6), true) (by simp))
            have q : (nextV l a 4 == 1) = true := by rw [hk]; rfl
            have mo : moV (nextV l a 4) = 100 := by rw [hk]; rfl
            have hm : IntKind.i64.wrap (0 - 100) = -100 := by decide
            unfold veV
            rw [mo]
            by_cases hz : zeC (v0V l a 100) = true
            · have h := zeC_iff.1 hz
              simp only [v0V] at h
              rw [if_pos hz]
              have c1 : (rangeV l (a + 1) (-100) 100 == 0 && (rangeV l (a + 1 + 1) (-100) 100 == 0 && (rangeV l (a + 1 + 1 + 1) (-100) 100 == 0 && true))) = true := by rw [h.1, h.2.1, h.2.2]; rfl
              have L := ve1_1 B l a
              rw [hm] at L
              rw [h.2.1, h.2.2] at L
              rw [h.2.1, h.2.2] at c1
              refine ⟨[], _, [true], _, _, [], .nil, .nil, rfl, rfl, rfl, L, pickL_ok ?_ _⟩
              repeat' (first | exact cd_nil | refine cd_cons ?_ ?_)
              all_goals first | rfl | with_reducible assumption | (with_reducible refine atB_iff.2 ?_; omega)
            · rw [if_neg hz]
              have c1 : (rangeV l (a + 1) (-100) 100 == 0 && (rangeV l (a + 1 + 1) (-100) 100 == 0 && (rangeV l (a + 1 + 1 + 1) (-100) 100 == 0 && true))) = false := by
                have h : zeC (v0V l a 100) = false := by simpa using hz
                simpa [zeC, v0V] using h
              have L := ve1_0 B l a
              rw [hm] at L
              refine ⟨[], _, [false], _, _, [], .nil, .nil, rfl, rfl, rfl, L, pickL_ok ?_ _⟩
              repeat' (first | exact cd_nil | refine cd_cons ?_ ?_)
              all_goals first | rfl | with_reducible assumption | (with_reducible refine atB_iff.2 ?_; omega)
          · have hl : listB l = true := hc (listB l, true) (by simp)
            have ha : atB a = true := hc (atB a, true) (by simp)
            have ha1 := atB_iff.1 ha
            have ha5 := atB_iff.1 (hc (atB (a + 6), true) (by simp))
            have q : (nextV l a 4 == 2) = true := by rw [hk]; rfl
            have mo : moV (nextV l a 4) = 5000 := by rw [hk]; rfl
            have hm : IntKind.i64.wrap (0 - 5000) = -5000 := by decide
            unfold veV
            rw [mo]
            by_cases hz : zeC (v0V l a 5000) = true
            · have h := zeC_iff.1 hz
              simp only [v0V] at h
              rw [if_pos hz]
              have c1 : (rangeV l (a + 1) (-5000) 5000 == 0 && (rangeV l (a + 1 + 1) (-5000) 5000 == 0 && (rangeV l (a + 1 + 1 + 1) (-5000) 5000 == 0 && true))) = true := by rw [h.1, h.2.1, h.2.2]; rfl
              have L := ve2_1 B l a
              rw [hm] at L
              rw [h.2.1, h.2.2] at L
              rw [h.2.1, h.2.2] at c1
              refine ⟨[], _, [true], _, _, [], .nil, .nil, rfl, rfl, rfl, L, pickL_ok ?_ _⟩
              repeat' (first | exact cd_nil | refine cd_cons ?_ ?_)
              all_goals first | rfl | with_reducible assumption | (with_reducible refine atB_iff.2 ?_; omega)
            · rw [if_neg hz]
              have c1 : (rangeV l (a + 1) (-5000) 5000 == 0 && (rangeV l (a + 1 + 1) (-5000) 5000 == 0 && (rangeV l (a + 1 + 1 + 1) (-5000) 5000 == 0 && true))) = false := by
                have h : zeC (v0V l a 5000) = false := by simpa using hz
                simpa [zeC, v0V] using h
              have L := ve2_0 B l a
              rw [hm] at L
              refine ⟨[], _, [false], _, _, [], .nil, .nil, rfl, rfl, rfl, L, pickL_ok ?_ _⟩
              repeat' (first | exact cd_nil | refine cd_cons ?_ ?_)
              all_goals first | rfl | with_reducible assumption | (with_reducible refine atB_iff.2 ?_; omega)
          · have hl : listB l = true := hc (listB l, true) (by simp)
            have ha : atB a = true := hc (atB a, true) (by simp)
            have ha1 := atB_iff.1 ha
            have ha5 := atB_iff.1 (hc (atB (a + 6), true) (by simp))
            have q : (nextV l a 4 == 3) = true := by rw [hk]; rfl
            have mo : moV (nextV l a 4) = 1048576 := by rw [hk]; rfl
            have hm : IntKind.i64.wrap (0 - 1048576) = -1048576 := by decide
            unfold veV
            rw [mo]
            by_cases hz : zeC (v0V l a 1048576) = true
            · have h := zeC_iff.1 hz
              simp only [v0V] at h
              rw [if_pos hz]
              have c1 : (rangeV l (a + 1) (-1048576) 1048576 == 0 && (rangeV l (a + 1 + 1) (-1048576) 1048576 == 0 && (rangeV l (a + 1 + 1 + 1) (-1048576) 1048576 == 0 && true))) = true := by rw [h.1, h.2.1, h.2.2]; rfl
              have L := ve3_1 B l a
              rw [hm] at L
              rw [h.2.1, h.2.2] at L
              rw [h.2.1, h.2.2] at c1
              refine ⟨[], _, [true], _, _, [], .nil, .nil, rfl, rfl, rfl, L, pickL_ok ?_ _⟩
              repeat' (first | exact cd_nil | refine cd_cons ?_ ?_)
              all_goals first | rfl | with_reducible assumption | (with_reducible refine atB_iff.2 ?_; omega)
            · rw [if_neg hz]
              have c1 : (rangeV l (a + 1) (-1048576) 1048576 == 0 && (rangeV l (a + 1 + 1) (-1048576) 1048576 == 0 && (rangeV l (a + 1 + 1 + 1) (-1048576) 1048576 == 0 && true))) = false := by
                have h : zeC (v0V l a 1048576) = false := by simpa using hz
                simpa [zeC, v0V] using h
              have L := ve3_0 B l a
              rw [hm] at L
              refine ⟨[], _, [false], _, _, [], .nil, .nil, rfl, rfl, rfl, L, pickL_ok ?_ _⟩
              repeat' (first | exact cd_nil | refine cd_cons ?_ ?_)
              all_goals first | rfl | with_reducible assumption | (with_reducible refine atB_iff.2 ?_; omega)
        · cases hg
      · cases hg
    refine part (nextV l a 4) (by omega) E hp w slot _ us _ out dt ?_ ha hbl hm hfr hc
    simp only [stream, if_true]
    exact hrun'
  · cases hrun'
end
end Go.Proofs.Ytbkeohcoahdgcaa.AtHz

