/-
  The closed fact of spylaw1's laws on horizons.
  Conditions: none.
-/
import Derived.Test.YtagbpehfieejcaaH2
set_option linter.unusedVariables false
set_option linter.unusedSimpArgs false
namespace Go.Proofs.Ytagbpehfieejcaa.AtHz
open Go.RowKit Ev Wd Tg
open Go.Proofs.Ytagbpehfieejcaa
variable {F : Type}
noncomputable section

noncomputable abbrev libA0 : List (Nat × FnSp Empty) := [(29, sp3 dSi (dInt .i64) dV3 (fun s t v => .tup [.agg [.int .i64 (aimAz s t v), .int .i64 (aimAl s t v)], .one (.int .i64 (aimE s t v))]) (fun _ t _ => [(i64B t, true)]))]
theorem libA0_ok : LibOk Try.prog noFacts (lib1 libA0) := (lib1_cons (sp3_ok fun s t v hc => ⟨_, rfl, aimf_pl s t v (c1' hc)⟩) Try.call29 (lib1_nil _ _))
theorem eqP_ok : EqOk Try.prog (tabOf Try.prog) (fun t => Nat.beq t 55) := eq_of fun t ht => by
  have := Nat.eq_of_beq_eq_true ht
  subst this
  exact ⟨by kernel_rfl, by kernel_rfl, by kernel_rfl⟩
theorem eqQ_ok : EqOk Try.prog (tabOf Try.prog) (fun t => Nat.beq t 55 || Nat.beq t 24) := eq_of fun t ht => by
  rcases Bool.or_eq_true_iff.1 ht with h | h
  · have := Nat.eq_of_beq_eq_true h
    subst this
    exact ⟨by kernel_rfl, by kernel_rfl, by kernel_rfl⟩
  · have := Nat.eq_of_beq_eq_true h
    subst this
    exact ⟨by kernel_rfl, by kernel_rfl, by kernel_rfl⟩
set_option maxRecDepth 100000 in
theorem hfa_1  : evR (ctxOf Try.prog noFacts (fun t => Nat.beq t 55) libA0) Try.f31 [] [true] = some (AV.w (AW.one (AC.bool (aimAz { lat := 536870912, lon := 0 } 0 { x := 0, y := 0, z := 1 } == 0 && (aimAl { lat := 536870912, lon := 0 } 0 { x := 0, y := 0, z := 1 } == 536870912 && true)))), (pickL [(i64B 0, true), (aimE { lat := 536870912, lon := 0 } 0 { x := 0, y := 0, z := 1 } == 0, true)] [0, 1, 1, 1, 1])) := by kernel_rfl
theorem isq_mul (n : Nat) : isq (n * n) = n := (isq_unique (Nat.le_refl _) (Nat.mul_lt_mul'' (by omega) (by omega))).symm
theorem hz_num : hzU ⟨536870912, 0⟩ 0 ⟨0, 0, 1⟩ = 759250125 ∧ hzN ⟨536870912, 0⟩ 0 ⟨0, 0, 1⟩ = 759250125 ∧ hzE ⟨536870912, 0⟩ 0 ⟨0, 0, 1⟩ = 0 := by decide +kernel
theorem hz_S : hzS ⟨536870912, 0⟩ 0 ⟨0, 0, 1⟩ = 759250125 := by
  unfold hzS
  rw [hz_num.2.1, hz_num.2.2, show ((759250125 : Int) * 759250125 + 0 * 0).toNat = 759250125 * 759250125 by decide +kernel, isq_mul]; rfl
theorem hfa_pl : Pl Try.prog 31 [] (.bool true) := fun w => by
  have hs : sE ⟨536870912, 0⟩ = 0 := by decide +kernel
  have hv : vE ⟨0, 0, 1⟩ = 0 := by decide +kernel
  have e1 : aimAz ⟨536870912, 0⟩ 0 ⟨0, 0, 1⟩ = 0 := by
    unfold aimAz azA; rw [if_neg (fun h => h hs), if_neg (fun h => h hv), hz_num.2.1, hz_num.2.2]; decide +kernel
  have e2 : aimAl ⟨536870912, 0⟩ 0 ⟨0, 0, 1⟩ = 536870912 := by
    unfold aimAl alA; rw [if_neg (fun h => h hs), if_neg (fun h => h hv), hz_num.1, hz_S]; decide +kernel
  have k1 : (aimE ⟨536870912, 0⟩ 0 ⟨0, 0, 1⟩ == 0) = true := by unfold aimE; rw [if_neg (fun h => h hs), hv]; rfl
  have L := hfa_1
  rw [e1, e2] at L
  refine evR_calls (I := noFacts) (v := .bool true) (ctxOf_ok libA0_ok eqP_ok) (by kernel_rfl) Try.func31 rfl lps_nil L rfl (all2_R .nil) rfl w (Nat.zero_le _) (pickL_ok ?_ _)
  repeat' (first | exact cd_nil | refine cd_cons ?_ ?_)
  all_goals first | rfl | with_reducible assumption
end
end Go.Proofs.Ytagbpehfieejcaa.AtHz

