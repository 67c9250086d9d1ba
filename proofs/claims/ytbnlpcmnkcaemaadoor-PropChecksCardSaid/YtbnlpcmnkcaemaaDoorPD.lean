/-
  Package prop: names, proposals and requests: what they lack, by the program and by the reference.
  Conditions: those of each theorem.
-/
import Derived.Test.YtbnlpcmnkcaemaaDoorPC
set_option linter.unusedVariables false
set_option linter.unusedSimpArgs false
namespace Go.Proofs.YtbnlpcmnkcaemaaDoor.AtPr
open Go.RowKit Ev Wd AtRt AtHz
open Go.Proofs.YtbnlpcmnkcaemaaDoor
variable {F : Type}
noncomputable section

noncomputable abbrev naLps : Lps Empty := [((36, [false, true, false, true, true]), naD.sp (fun _ => false))]
noncomputable abbrev nbLps : Lps Empty := [((56, [false, true, false, true, true]), nbD.sp (fun _ => false))]
theorem naLps_ok : LpsOk Tryd.prog noFacts naLps Tryd.f9.ntmps (bodyOf Tryd.f9) := lps_cons (fun _ x hx => naD_ok x hx) lps_nil
theorem nbLps_ok : LpsOk Tryd.prog noFacts nbLps Tryd.f10.ntmps (bodyOf Tryd.f10) := lps_cons (fun _ x hx => nbD_ok x hx) lps_nil
theorem str_dn {s : ByteArray} : ∀ (m i : Nat), 1 ≤ i → strAll okn s m i = strAll okd s m i
  | 0, _, _ => rfl
  | m + 1, i, h => by
    rw [strAll, strAll, str_dn m (i + 1) (by omega)]
    congr 1
    unfold okn okd okc
    rw [decide_eq_true (show (0 : Int) < i by omega), Bool.and_true]
theorem nm_ref {s : ByteArray} (h : inR (sLen s) 1 12 = true) : strAll okn s s.size 0 = (inR (sAt s 0) 97 122 && strAll okd s s.size 0) := by
  have h1 := (inR_iff.1 h).1
  unfold sLen at h1
  obtain ⟨m, hm⟩ : ∃ m, s.size = m + 1 := ⟨s.size - 1, by omega⟩
  rw [hm, strAll, strAll, str_dn m 1 (by omega)]
  unfold okn okd okc
  simp only [Int.natCast_zero, Int.lt_irrefl, decide_false, Bool.and_false, Bool.or_false]
  cases inR (sAt s 0) 97 122 <;> simp
set_option maxRecDepth 100000 in
theorem nam_1 (s : ByteArray) : evR (ctxLp Tryd.prog noFacts (fun _ => false) libC1 [] naLps) Tryd.f9 [(.w (.one (.lit (.string s))))] [true] = some (AV.w (AW.one (AC.yes false)), (pickL [(!inR (sLen s) 1 12, true), (true, true)] [0, 0, 0, 0, 0, 1])) := by kernel_rfl
set_option maxRecDepth 100000 in
theorem nam_01 (s : ByteArray) : evR (ctxLp Tryd.prog noFacts (fun _ => false) libC1 [] naLps) Tryd.f9 [(.w (.one (.lit (.string s))))] [false, true] = some (AV.w (AW.one (AC.yes false)), (pickL [(!inR (sLen s) 1 12, false), (decide ((0 : Int) ≤ 0), true), (decide ((0 : Int) < sLen s), true), (!inR (sAt s 0) 97 122, true)] [0, 0, 1, 2, 0, 0, 0, 3])) := by kernel_rfl
set_option maxRecDepth 100000 in
theorem nam_001 (s : ByteArray) : evR (ctxLp Tryd.prog noFacts (fun _ => false) libC1 [] naLps) Tryd.f9 [(.w (.one (.lit (.string s))))] [false, false, true] = some (AV.w (AW.one (AC.yes true)), (pickL [(!inR (sLen s) 1 12, false), (decide ((0 : Int) ≤ 0), true), (decide ((0 : Int) < sLen s), true), (!inR (sAt s 0) 97 122, false), (strAll okd s s.size 0, true), (decide ((0 : Int) = 0) && decide (sLen s = sLen s) && decide (sLen s ≤ 9223372036854775807), true)] [0, 0, 1, 2, 0, 0, 0, 3, 4, 5])) := by kernel_rfl
set_option maxRecDepth 100000 in
theorem nam_000 (s : ByteArray) : evR (ctxLp Tryd.prog noFacts (fun _ => false) libC1 [] naLps) Tryd.f9 [(.w (.one (.lit (.string s))))] [false, false, false] = some (AV.w (AW.one (AC.yes false)), (pickL [(!inR (sLen s) 1 12, false), (decide ((0 : Int) ≤ 0), true), (decide ((0 : Int) < sLen s), true), (!inR (sAt s 0) 97 122, false), (strAll okd s s.size 0, false), (decide ((0 : Int) = 0) && decide (sLen s = sLen s) && decide (sLen s ≤ 9223372036854775807), true)] [0, 0, 1, 2, 0, 0, 0, 3, 4, 5])) := by kernel_rfl
theorem nam_pl (s : ByteArray)  : Pl Tryd.prog 9 [.string s] (.bool (nmB s)) := fun w => by
  cases k0 : (!inR (sLen s) 1 12) with
  | true =>
    have V : (nmB s) = (false) := by
      unfold nmB
      simp_all
    rw [V]
    refine evR_calls (I := noFacts) (v := .bool (false)) (ctxLp_ok libC1_ok (eq_none _) (fns_nil _) (fun f fn h => by cases h)) (by kernel_rfl) Tryd.func9 rfl naLps_ok (nam_1 s) rfl (all2_R (.cons rfl .nil)) rfl w (Nat.zero_le _) (pickL_ok ?_ _)
    repeat' (first | exact cd_nil | refine cd_cons ?_ ?_)
    all_goals first | with_reducible rfl | with_reducible assumption | rfl | (have hh : sLen s ≤ 9223372036854775807 := (by simp only [beq_iff_eq, beq_eq_false_iff_ne, ne_eq, bne_iff_ne, bne_eq_false_iff_eq, decide_eq_true_eq, decide_eq_false_iff_not, Bool.not_eq_true', Bool.not_eq_false', inR_iff, gt_iff_lt] at *; omega); simp [hh]; done) | (simp only [beq_iff_eq, beq_eq_false_iff_ne, ne_eq, bne_iff_ne, bne_eq_false_iff_eq, decide_eq_true_eq, decide_eq_false_iff_not, Bool.not_eq_true', Bool.not_eq_false', inR_iff, gt_iff_lt] at *; omega)

  | false =>
    cases k1 : (!inR (sAt s 0) 97 122) with
    | true =>
      have V : (nmB s) = (false) := by
        unfold nmB
        simp_all
      rw [V]
      refine evR_calls (I := noFacts) (v := .bool (false)) (ctxLp_ok libC1_ok (eq_none _) (fns_nil _) (fun f fn h => by cases h)) (by kernel_rfl) Tryd.func9 rfl naLps_ok (nam_01 s) rfl (all2_R (.cons rfl .nil)) rfl w (Nat.zero_le _) (pickL_ok ?_ _)
      repeat' (first | exact cd_nil | refine cd_cons ?_ ?_)
      all_goals first | with_reducible rfl | with_reducible assumption | rfl | (have hh : sLen s ≤ 9223372036854775807 := (by simp only [beq_iff_eq, beq_eq_false_iff_ne, ne_eq, bne_iff_ne, bne_eq_false_iff_eq, decide_eq_true_eq, decide_eq_false_iff_not, Bool.not_eq_true', Bool.not_eq_false', inR_iff, gt_iff_lt] at *; omega); simp [hh]; done) | (simp only [beq_iff_eq, beq_eq_false_iff_ne, ne_eq, bne_iff_ne, bne_eq_false_iff_eq, decide_eq_true_eq, decide_eq_false_iff_not, Bool.not_eq_true', Bool.not_eq_false', inR_iff, gt_iff_lt] at *; omega)

    | false =>
      cases k2 : (strAll okd s s.size 0) with
      | true =>
        have V : (nmB s) = (true) := by
          unfold nmB
          simp_all
        rw [V]
        refine evR_calls (I := noFacts) (v := .bool (true)) (ctxLp_ok libC1_ok (eq_none _) (fns_nil _) (fun f fn h => by cases h)) (by kernel_rfl) Tryd.func9 rfl naLps_ok (nam_001 s) rfl (all2_R (.cons rfl .nil)) rfl w (Nat.zero_le _) (pickL_ok ?_ _)
        repeat' (first | exact cd_nil | refine cd_cons ?_ ?_)
        all_goals first | with_reducible rfl | with_reducible assumption | rfl | (have hh : sLen s ≤ 9223372036854775807 := (by simp only [beq_iff_eq, beq_eq_false_iff_ne, ne_eq, bne_iff_ne, bne_eq_false_iff_eq, decide_eq_true_eq, decide_eq_false_iff_not, Bool.not_eq_true', Bool.not_eq_false', inR_iff, gt_iff_lt] at *; omega); simp [hh]; done) | (simp only [beq_iff_eq, beq_eq_false_iff_ne, ne_eq, bne_iff_ne, bne_eq_false_iff_eq, decide_eq_true_eq, decide_eq_false_iff_not, Bool.not_eq_true', Bool.not_eq_false', inR_iff, gt_iff_lt] at *; omega)

      | false =>
        have V : (nmB s) = (false) := by
          unfold nmB
          simp_all
        rw [V]
        refine evR_calls (I := noFacts) (v := .bool (false)) (ctxLp_ok libC1_ok (eq_none _) (fns_nil _) (fun f fn h => by cases h)) (by kernel_rfl) Tryd.func9 rfl naLps_ok (nam_000 s) rfl (all2_R (.cons rfl .nil)) rfl w (Nat.zero_le _) (pickL_ok ?_ _)
        repeat' (first | exact cd_nil | refine cd_cons ?_ ?_)
        all_goals first | with_reducible rfl | with_reducible assumption | rfl | (have hh : sLen s ≤ 9223372036854775807 := (by simp only [beq_iff_eq, beq_eq_false_iff_ne, ne_eq, bne_iff_ne, bne_eq_false_iff_eq, decide_eq_true_eq, decide_eq_false_iff_not, Bool.not_eq_true', Bool.not_eq_false', inR_iff, gt_iff_lt] at *; omega); simp [hh]; done) | (simp only [beq_iff_eq, beq_eq_false_iff_ne, ne_eq, bne_iff_ne, bne_eq_false_iff_eq, decide_eq_true_eq, decide_eq_false_iff_not, Bool.not_eq_true', Bool.not_eq_false', inR_iff, gt_iff_lt] at *; omega)
set_option maxRecDepth 100000 in
theorem nao_1 (s : ByteArray) : evR (ctxLp Tryd.prog noFacts (fun _ => false) [] [] nbLps) Tryd.f10 [(.w (.one (.lit (.string s))))] [true] = some (AV.w (AW.one (AC.yes false)), (pickL [(decide (sLen s < 1), true), (true, true)] [0, 0, 0, 0, 1])) := by kernel_rfl
set_option maxRecDepth 100000 in
theorem nao_01 (s : ByteArray) : evR (ctxLp Tryd.prog noFacts (fun _ => false) [] [] nbLps) Tryd.f10 [(.w (.one (.lit (.string s))))] [false, true] = some (AV.w (AW.one (AC.yes false)), (pickL [(decide (sLen s < 1), false), (decide (sLen s > 12), true)] [0, 0, 0, 0, 1])) := by kernel_rfl
set_option maxRecDepth 100000 in
theorem nao_001 (s : ByteArray) : evR (ctxLp Tryd.prog noFacts (fun _ => false) [] [] nbLps) Tryd.f10 [(.w (.one (.lit (.string s))))] [false, false, true] = some (AV.w (AW.one (AC.yes true)), (pickL [(decide (sLen s < 1), false), (decide (sLen s > 12), false), (strAll okn s s.size 0, true), (decide ((0 : Int) = 0) && decide (sLen s ≤ 9223372036854775807), true)] [0, 0, 0, 0, 1, 2, 3])) := by kernel_rfl
set_option maxRecDepth 100000 in
theorem nao_000 (s : ByteArray) : evR (ctxLp Tryd.prog noFacts (fun _ => false) [] [] nbLps) Tryd.f10 [(.w (.one (.lit (.string s))))] [false, false, false] = some (AV.w (AW.one (AC.yes false)), (pickL [(decide (sLen s < 1), false), (decide (sLen s > 12), false), (strAll okn s s.size 0, false), (decide ((0 : Int) = 0) && decide (sLen s ≤ 9223372036854775807), true)] [0, 0, 0, 0, 1, 2, 3])) := by kernel_rfl
theorem nao_pl (s : ByteArray)  : Pl Tryd.prog 10 [.string s] (.bool (nmB s)) := fun w => by
  cases k0 : (decide (sLen s < 1)) with
  | true =>
    have V : (nmB s) = (false) := by
      have hI : ∀ b, inR (sLen s) 1 12 = b → nmB s = (b && (inR (sAt s 0) 97 122 && strAll okd s s.size 0)) := fun b h => by rw [← h]; rfl
      have hin : (¬ sLen s < 1 → ¬ sLen s > 12 → inR (sLen s) 1 12 = true) ∧ ((sLen s < 1 ∨ sLen s > 12) → inR (sLen s) 1 12 = false) := by
        refine ⟨fun a b => inR_iff.2 ⟨by omega, by omega⟩, fun a => ?_⟩
        rw [← Bool.not_eq_true, inR_iff]; omega
      simp only [beq_iff_eq, beq_eq_false_iff_ne, ne_eq, bne_iff_ne, bne_eq_false_iff_eq, decide_eq_true_eq, decide_eq_false_iff_not, Bool.not_eq_true', Bool.not_eq_false', gt_iff_lt] at *
      rw [hI false (hin.2 (by omega))]; rfl
    rw [V]
    refine evR_calls (I := noFacts) (v := .bool (false)) (ctxLp_ok (lib1_nil _ _) (eq_none _) (fns_nil _) (fun f fn h => by cases h)) (by kernel_rfl) Tryd.func10 rfl nbLps_ok (nao_1 s) rfl (all2_R (.cons rfl .nil)) rfl w (Nat.zero_le _) (pickL_ok ?_ _)
    repeat' (first | exact cd_nil | refine cd_cons ?_ ?_)
    all_goals first | with_reducible rfl | with_reducible assumption | rfl | (have hh : sLen s ≤ 9223372036854775807 := (by simp only [beq_iff_eq, beq_eq_false_iff_ne, ne_eq, bne_iff_ne, bne_eq_false_iff_eq, decide_eq_true_eq, decide_eq_false_iff_not, Bool.not_eq_true', Bool.not_eq_false', inR_iff, gt_iff_lt] at *; omega); simp [hh]; done) | (simp only [beq_iff_eq, beq_eq_false_iff_ne, ne_eq, bne_iff_ne, bne_eq_false_iff_eq, decide_eq_true_eq, decide_eq_false_iff_not, Bool.not_eq_true', Bool.not_eq_false', inR_iff, gt_iff_lt] at *; omega)

  | false =>
    cases k1 : (decide (sLen s > 12)) with
    | true =>
      have V : (nmB s) = (false) := by
        have hI : ∀ b, inR (sLen s) 1 12 = b → nmB s = (b && (inR (sAt s 0) 97 122 && strAll okd s s.size 0)) := fun b h => by rw [← h]; rfl
        have hin : (¬ sLen s < 1 → ¬ sLen s > 12 → inR (sLen s) 1 12 = true) ∧ ((sLen s < 1 ∨ sLen s > 12) → inR (sLen s) 1 12 = false) := by
          refine ⟨fun a b => inR_iff.2 ⟨by omega, by omega⟩, fun a => ?_⟩
          rw [← Bool.not_eq_true, inR_iff]; omega
        simp only [beq_iff_eq, beq_eq_false_iff_ne, ne_eq, bne_iff_ne, bne_eq_false_iff_eq, decide_eq_true_eq, decide_eq_false_iff_not, Bool.not_eq_true', Bool.not_eq_false', gt_iff_lt] at *
        rw [hI false (hin.2 (by omega))]; rfl
      rw [V]
      refine evR_calls (I := noFacts) (v := .bool (false)) (ctxLp_ok (lib1_nil _ _) (eq_none _) (fns_nil _) (fun f fn h => by cases h)) (by kernel_rfl) Tryd.func10 rfl nbLps_ok (nao_01 s) rfl (all2_R (.cons rfl .nil)) rfl w (Nat.zero_le _) (pickL_ok ?_ _)
      repeat' (first | exact cd_nil | refine cd_cons ?_ ?_)
      all_goals first | with_reducible rfl | with_reducible assumption | rfl | (have hh : sLen s ≤ 9223372036854775807 := (by simp only [beq_iff_eq, beq_eq_false_iff_ne, ne_eq, bne_iff_ne, bne_eq_false_iff_eq, decide_eq_true_eq, decide_eq_false_iff_not, Bool.not_eq_true', Bool.not_eq_false', inR_iff, gt_iff_lt] at *; omega); simp [hh]; done) | (simp only [beq_iff_eq, beq_eq_false_iff_ne, ne_eq, bne_iff_ne, bne_eq_false_iff_eq, decide_eq_true_eq, decide_eq_false_iff_not, Bool.not_eq_true', Bool.not_eq_false', inR_iff, gt_iff_lt] at *; omega)

    | false =>
      cases k2 : (strAll okn s s.size 0) with
      | true =>
        have V : (nmB s) = (true) := by
          have hI : ∀ b, inR (sLen s) 1 12 = b → nmB s = (b && (inR (sAt s 0) 97 122 && strAll okd s s.size 0)) := fun b h => by rw [← h]; rfl
          have hin : (¬ sLen s < 1 → ¬ sLen s > 12 → inR (sLen s) 1 12 = true) ∧ ((sLen s < 1 ∨ sLen s > 12) → inR (sLen s) 1 12 = false) := by
            refine ⟨fun a b => inR_iff.2 ⟨by omega, by omega⟩, fun a => ?_⟩
            rw [← Bool.not_eq_true, inR_iff]; omega
          simp only [beq_iff_eq, beq_eq_false_iff_ne, ne_eq, bne_iff_ne, bne_eq_false_iff_eq, decide_eq_true_eq, decide_eq_false_iff_not, Bool.not_eq_true', Bool.not_eq_false', gt_iff_lt] at *
          rw [hI true (hin.1 (by omega) (by omega)), Bool.true_and, ← nm_ref (hin.1 (by omega) (by omega))]
          assumption
        rw [V]
        refine evR_calls (I := noFacts) (v := .bool (true)) (ctxLp_ok (lib1_nil _ _) (eq_none _) (fns_nil _) (fun f fn h => by cases h)) (by kernel_rfl) Tryd.func10 rfl nbLps_ok (nao_001 s) rfl (all2_R (.cons rfl .nil)) rfl w (Nat.zero_le _) (pickL_ok ?_ _)
        repeat' (first | exact cd_nil | refine cd_cons ?_ ?_)
        all_goals first | with_reducible rfl | with_reducible assumption | rfl | (have hh : sLen s ≤ 9223372036854775807 := (by simp only [beq_iff_eq, beq_eq_false_iff_ne, ne_eq, bne_iff_ne, bne_eq_false_iff_eq, decide_eq_true_eq, decide_eq_false_iff_not, Bool.not_eq_true', Bool.not_eq_false', inR_iff, gt_iff_lt] at *; omega); simp [hh]; done) | (simp only [beq_iff_eq, beq_eq_false_iff_ne, ne_eq, bne_iff_ne, bne_eq_false_iff_eq, decide_eq_true_eq, decide_eq_false_iff_not, Bool.not_eq_true', Bool.not_eq_false', inR_iff, gt_iff_lt] at *; omega)

      | false =>
        have V : (nmB s) = (false) := by
          have hI : ∀ b, inR (sLen s) 1 12 = b → nmB s = (b && (inR (sAt s 0) 97 122 && strAll okd s s.size 0)) := fun b h => by rw [← h]; rfl
          have hin : (¬ sLen s < 1 → ¬ sLen s > 12 → inR (sLen s) 1 12 = true) ∧ ((sLen s < 1 ∨ sLen s > 12) → inR (sLen s) 1 12 = false) := by
            refine ⟨fun a b => inR_iff.2 ⟨by omega, by omega⟩, fun a => ?_⟩
            rw [← Bool.not_eq_true, inR_iff]; omega
          simp only [beq_iff_eq, beq_eq_false_iff_ne, ne_eq, bne_iff_ne, bne_eq_false_iff_eq, decide_eq_true_eq, decide_eq_false_iff_not, Bool.not_eq_true', Bool.not_eq_false', gt_iff_lt] at *
          rw [hI true (hin.1 (by omega) (by omega)), Bool.true_and, ← nm_ref (hin.1 (by omega) (by omega))]
          assumption
        rw [V]
        refine evR_calls (I := noFacts) (v := .bool (false)) (ctxLp_ok (lib1_nil _ _) (eq_none _) (fns_nil _) (fun f fn h => by cases h)) (by kernel_rfl) Tryd.func10 rfl nbLps_ok (nao_000 s) rfl (all2_R (.cons rfl .nil)) rfl w (Nat.zero_le _) (pickL_ok ?_ _)
        repeat' (first | exact cd_nil | refine cd_cons ?_ ?_)
        all_goals first | with_reducible rfl | with_reducible assumption | rfl | (have hh : sLen s ≤ 9223372036854775807 := (by simp only [beq_iff_eq, beq_eq_false_iff_ne, ne_eq, bne_iff_ne, bne_eq_false_iff_eq, decide_eq_true_eq, decide_eq_false_iff_not, Bool.not_eq_true', Bool.not_eq_false', inR_iff, gt_iff_lt] at *; omega); simp [hh]; done) | (simp only [beq_iff_eq, beq_eq_false_iff_ne, ne_eq, bne_iff_ne, bne_eq_false_iff_eq, decide_eq_true_eq, decide_eq_false_iff_not, Bool.not_eq_true', Bool.not_eq_false', inR_iff, gt_iff_lt] at *; omega)
noncomputable abbrev libC3 : List (Nat × FnSp Empty) := [(9, namS), (37, inRS), (43, inRS), (41, vES)]
theorem libC3_ok : LibOk Tryd.prog noFacts (lib1 libC3) := (lib1_cons (sp1_ok fun s _ => ⟨_, rfl, nam_pl s⟩) Tryd.call9 (lib1_cons (sp3_ok fun x lo hi _ => ⟨_, rfl, wi1_pl x lo hi⟩) Tryd.call37 (lib1_cons (sp3_ok fun x lo hi _ => ⟨_, rfl, wi2_pl x lo hi⟩) Tryd.call43 (lib1_cons (sp1_ok fun v _ => ⟨_, rfl, vch_pl v⟩) Tryd.call41 (lib1_nil _ _)))))
noncomputable abbrev libC4 : List (Nat × FnSp Empty) := [(10, namS), (40, inRS), (44, diS)]
theorem libC4_ok : LibOk Tryd.prog noFacts (lib1 libC4) := (lib1_cons (sp1_ok fun s _ => ⟨_, rfl, nao_pl s⟩) Tryd.call10 (lib1_cons (sp3_ok fun x lo hi _ => ⟨_, rfl, inr2_pl x lo hi⟩) Tryd.call40 (lib1_cons (sp1_ok fun v _ => ⟨_, rfl, dok_pl v⟩) Tryd.call44 (lib1_nil _ _))))
theorem fnsG_ok : FnsOk Tryd.prog [(42, Tryd.f42), (71, Tryd.f71)] := (fns_cons Tryd.func42 rfl Tryd.call42 (fns_cons Tryd.func71 rfl Tryd.call71 (fns_nil _)))
set_option maxRecDepth 100000 in
theorem cpr_1 (s : ByteArray) (h : Int) : evR (ctxOf Tryd.prog noFacts (fun _ => false) libC3) Tryd.f11 [(.w (.agg [.lit (.string s), .int .i64 h]))] [true] = some (AV.w (AW.one (AC.int IntKind.i64 6)), (pickL [(!nmB s, true)] [0])) := by kernel_rfl
set_option maxRecDepth 100000 in
theorem cpr_01 (s : ByteArray) (h : Int) : evR (ctxOf Tryd.prog noFacts (fun _ => false) libC3) Tryd.f11 [(.w (.agg [.lit (.string s), .int .i64 h]))] [false, true] = some (AV.w (AW.one (AC.int IntKind.i64 4)), (pickL [(!nmB s, false), (!inR h 1 100, true)] [0, 1])) := by kernel_rfl
set_option maxRecDepth 100000 in
theorem cpr_00 (s : ByteArray) (h : Int) : evR (ctxOf Tryd.prog noFacts (fun _ => false) libC3) Tryd.f11 [(.w (.agg [.lit (.string s), .int .i64 h]))] [false, false] = some (AV.w (AW.one (AC.int IntKind.i64 0)), (pickL [(!nmB s, false), (!inR h 1 100, false)] [0, 1])) := by kernel_rfl
theorem cpr_pl (s : ByteArray) (h : Int)  : Pl Tryd.prog 11 [.agg #[.string s, .int .i64 h]] (.int .i64 (prE s h)) := fun w => by
  cases k0 : (!nmB s) with
  | true =>
    have V : (prE s h) = (6) := by
      unfold prE
      simp_all
    rw [V]
    refine evR_calls (I := noFacts) (v := .int .i64 (6)) (ctxOf_ok libC3_ok (eq_none _)) (by kernel_rfl) Tryd.func11 rfl lps_nil (cpr_1 s h) rfl (all2_R (.cons rfl .nil)) rfl w (Nat.zero_le _) (pickL_ok ?_ _)
    repeat' (first | exact cd_nil | refine cd_cons ?_ ?_)
    all_goals first | rfl | with_reducible assumption

  | false =>
    cases k1 : (!inR h 1 100) with
    | true =>
      have V : (prE s h) = (4) := by
        unfold prE
        simp_all
      rw [V]
      refine evR_calls (I := noFacts) (v := .int .i64 (4)) (ctxOf_ok libC3_ok (eq_none _)) (by kernel_rfl) Tryd.func11 rfl lps_nil (cpr_01 s h) rfl (all2_R (.cons rfl .nil)) rfl w (Nat.zero_le _) (pickL_ok ?_ _)
      repeat' (first | exact cd_nil | refine cd_cons ?_ ?_)
      all_goals first | rfl | with_reducible assumption

    | false =>
      have V : (prE s h) = (0) := by
        unfold prE
        simp_all
      rw [V]
      refine evR_calls (I := noFacts) (v := .int .i64 (0)) (ctxOf_ok libC3_ok (eq_none _)) (by kernel_rfl) Tryd.func11 rfl lps_nil (cpr_00 s h) rfl (all2_R (.cons rfl .nil)) rfl w (Nat.zero_le _) (pickL_ok ?_ _)
      repeat' (first | exact cd_nil | refine cd_cons ?_ ?_)
      all_goals first | rfl | with_reducible assumption
set_option maxRecDepth 100000 in
theorem prf_1 (s : ByteArray) (h : Int) : evR (ctxOf Tryd.prog noFacts (fun _ => false) libC4) Tryd.f12 [(.w (.agg [.lit (.string s), .int .i64 h]))] [true] = some (AV.w (AW.one (AC.int IntKind.i64 6)), (pickL [(!nmB s, true)] [0])) := by kernel_rfl
set_option maxRecDepth 100000 in
theorem prf_01 (s : ByteArray) (h : Int) : evR (ctxOf Tryd.prog noFacts (fun _ => false) libC4) Tryd.f12 [(.w (.agg [.lit (.string s), .int .i64 h]))] [false, true] = some (AV.w (AW.one (AC.int IntKind.i64 4)), (pickL [(!nmB s, false), (!inR h 1 100, true)] [0, 1])) := by kernel_rfl
set_option maxRecDepth 100000 in
theorem prf_00 (s : ByteArray) (h : Int) : evR (ctxOf Tryd.prog noFacts (fun _ => false) libC4) Tryd.f12 [(.w (.agg [.lit (.string s), .int .i64 h]))] [false, false] = some (AV.w (AW.one (AC.int IntKind.i64 0)), (pickL [(!nmB s, false), (!inR h 1 100, false)] [0, 1])) := by kernel_rfl
theorem prf_pl (s : ByteArray) (h : Int)  : Pl Tryd.prog 12 [.agg #[.string s, .int .i64 h]] (.int .i64 (prE s h)) := fun w => by
  cases k0 : (!nmB s) with
  | true =>
    have V : (prE s h) = (6) := by
      unfold prE
      simp_all
    rw [V]
    refine evR_calls (I := noFacts) (v := .int .i64 (6)) (ctxOf_ok libC4_ok (eq_none _)) (by kernel_rfl) Tryd.func12 rfl lps_nil (prf_1 s h) rfl (all2_R (.cons rfl .nil)) rfl w (Nat.zero_le _) (pickL_ok ?_ _)
    repeat' (first | exact cd_nil | refine cd_cons ?_ ?_)
    all_goals first | rfl | with_reducible assumption

  | false =>
    cases k1 : (!inR h 1 100) with
    | true =>
      have V : (prE s h) = (4) := by
        unfold prE
        simp_all
      rw [V]
      refine evR_calls (I := noFacts) (v := .int .i64 (4)) (ctxOf_ok libC4_ok (eq_none _)) (by kernel_rfl) Tryd.func12 rfl lps_nil (prf_01 s h) rfl (all2_R (.cons rfl .nil)) rfl w (Nat.zero_le _) (pickL_ok ?_ _)
      repeat' (first | exact cd_nil | refine cd_cons ?_ ?_)
      all_goals first | rfl | with_reducible assumption

    | false =>
      have V : (prE s h) = (0) := by
        unfold prE
        simp_all
      rw [V]
      refine evR_calls (I := noFacts) (v := .int .i64 (0)) (ctxOf_ok libC4_ok (eq_none _)) (by kernel_rfl) Tryd.func12 rfl lps_nil (prf_00 s h) rfl (all2_R (.cons rfl .nil)) rfl w (Nat.zero_le _) (pickL_ok ?_ _)
      repeat' (first | exact cd_nil | refine cd_cons ?_ ?_)
      all_goals first | rfl | with_reducible assumption
theorem rq_ar {q0 q1 q2 q3 q4 q5 q6 q7 q8 q9 q10 q11 q12 : Int} : rqE [q0, q1, q2, q3, q4, q5, q6, q7, q8, q9, q10, q11, q12] = if (1 ≤ q0 ∧ q0 ≤ 999999) then (if vE ⟨q2, q3, q4⟩ = 0 then (if (1 ≤ q5 ∧ q5 ≤ 8) ∧ 1 ≤ q6 ∧ q6 ≤ 4 then (if q6 = 1 ∧ (q7 ≠ 0 ∨ q8 ≠ 0) then 3 else if 1 < q6 ∧ ¬ ((1 ≤ q7 ∧ q7 ≤ 64) ∧ q7 ≤ q8 ∧ q8 ≤ 64) then 4 else if (-1073741824 ≤ q9 ∧ q9 ≤ 1073741824) ∧ (-1073741824 ≤ q10 ∧ q10 ≤ 1073741824) ∧ (0 ≤ q11 ∧ q11 ≤ 4) ∧ 1 ≤ q12 ∧ q12 ≤ 100 then 0 else 4) else 4) else 3) else 4 := by
  unfold rqE
  simp only [Bool.and_eq_true, inR_iff]
  rfl
theorem inR_fp {x lo hi : Int} : inR x lo hi = false ↔ ¬ (lo ≤ x ∧ x ≤ hi) := by rw [← inR_iff, Bool.not_eq_true]
set_option maxRecDepth 100000 in
theorem crq_1 (q0 : Int) (q1 : Int) (q2 : Int) (q3 : Int) (q4 : Int) (q5 : Int) (q6 : Int) (q7 : Int) (q8 : Int) (q9 : Int) (q10 : Int) (q11 : Int) (q12 : Int) : evR (ctxIn Tryd.prog noFacts (fun _ => false) libC3 [(42, Tryd.f42), (71, Tryd.f71)]) Tryd.f13 [(.w (.agg [.int .i64 q0, .int .i64 q1, .int .i64 q2, .int .i64 q3, .int .i64 q4, .int .i64 q5, .int .i64 q6, .int .i64 q7, .int .i64 q8, .int .i64 q9, .int .i64 q10, .int .i64 q11, .int .i64 q12]))] [true] = some (AV.w (AW.one (AC.int IntKind.i64 4)), (pickL [(!inR q0 1 999999, true)] [0])) := by kernel_rfl
set_option maxRecDepth 100000 in
theorem crq_01 (q0 : Int) (q1 : Int) (q2 : Int) (q3 : Int) (q4 : Int) (q5 : Int) (q6 : Int) (q7 : Int) (q8 : Int) (q9 : Int) (q10 : Int) (q11 : Int) (q12 : Int) : evR (ctxIn Tryd.prog noFacts (fun _ => false) libC3 [(42, Tryd.f42), (71, Tryd.f71)]) Tryd.f13 [(.w (.agg [.int .i64 q0, .int .i64 q1, .int .i64 q2, .int .i64 q3, .int .i64 q4, .int .i64 q5, .int .i64 q6, .int .i64 q7, .int .i64 q8, .int .i64 q9, .int .i64 q10, .int .i64 q11, .int .i64 q12]))] [false, true] = some (AV.w (AW.one (AC.int IntKind.i64 3)), (pickL [(!inR q0 1 999999, false), (vE { x := q2, y := q3, z := q4 } != 0, true)] [0, 1])) := by kernel_rfl
set_option maxRecDepth 100000 in
theorem crq_001 (q0 : Int) (q1 : Int) (q2 : Int) (q3 : Int) (q4 : Int) (q5 : Int) (q6 : Int) (q7 : Int) (q8 : Int) (q9 : Int) (q10 : Int) (q11 : Int) (q12 : Int) : evR (ctxIn Tryd.prog noFacts (fun _ => false) libC3 [(42, Tryd.f42), (71, Tryd.f71)]) Tryd.f13 [(.w (.agg [.int .i64 q0, .int .i64 q1, .int .i64 q2, .int .i64 q3, .int .i64 q4, .int .i64 q5, .int .i64 q6, .int .i64 q7, .int .i64 q8, .int .i64 q9, .int .i64 q10, .int .i64 q11, .int .i64 q12]))] [false, false, true] = some (AV.w (AW.one (AC.int IntKind.i64 4)), (pickL [(!inR q0 1 999999, false), (vE { x := q2, y := q3, z := q4 } != 0, false), (!inR q5 1 8, true), (true, true)] [0, 1, 2, 2, 2, 2, 2, 3])) := by kernel_rfl
set_option maxRecDepth 100000 in
theorem crq_0001 (q0 : Int) (q1 : Int) (q2 : Int) (q3 : Int) (q4 : Int) (q5 : Int) (q6 : Int) (q7 : Int) (q8 : Int) (q9 : Int) (q10 : Int) (q11 : Int) (q12 : Int) : evR (ctxIn Tryd.prog noFacts (fun _ => false) libC3 [(42, Tryd.f42), (71, Tryd.f71)]) Tryd.f13 [(.w (.agg [.int .i64 q0, .int .i64 q1, .int .i64 q2, .int .i64 q3, .int .i64 q4, .int .i64 q5, .int .i64 q6, .int .i64 q7, .int .i64 q8, .int .i64 q9, .int .i64 q10, .int .i64 q11, .int .i64 q12]))] [false, false, false, true] = some (AV.w (AW.one (AC.int IntKind.i64 4)), (pickL [(!inR q0 1 999999, false), (vE { x := q2, y := q3, z := q4 } != 0, false), (!inR q5 1 8, false), (!inR q6 1 4, true)] [0, 1, 2, 2, 2, 2, 2, 3])) := by kernel_rfl
set_option maxRecDepth 100000 in
theorem crq_0000111 (q0 : Int) (q1 : Int) (q2 : Int) (q3 : Int) (q4 : Int) (q5 : Int) (q6 : Int) (q7 : Int) (q8 : Int) (q9 : Int) (q10 : Int) (q11 : Int) (q12 : Int) : evR (ctxIn Tryd.prog noFacts (fun _ => false) libC3 [(42, Tryd.f42), (71, Tryd.f71)]) Tryd.f13 [(.w (.agg [.int .i64 q0, .int .i64 q1, .int .i64 q2, .int .i64 q3, .int .i64 q4, .int .i64 q5, .int .i64 q6, .int .i64 q7, .int .i64 q8, .int .i64 q9, .int .i64 q10, .int .i64 q11, .int .i64 q12]))] [false, false, false, false, true, true, true] = some (AV.w (AW.one (AC.int IntKind.i64 3)), (pickL [(!inR q0 1 999999, false), (vE { x := q2, y := q3, z := q4 } != 0, false), (!inR q5 1 8, false), (!inR q6 1 4, false), (!decide (q6 > 1), true), (q7 != 0, true), (true, true), ((3 : Int) != 0, true)] [0, 1, 2, 2, 2, 2, 2, 3, 4, 4, 4, 4, 5, 5, 5, 4, 5, 4, 6, 7])) := by kernel_rfl
set_option maxRecDepth 100000 in
theorem crq_00001011 (q0 : Int) (q1 : Int) (q2 : Int) (q3 : Int) (q4 : Int) (q5 : Int) (q6 : Int) (q7 : Int) (q8 : Int) (q9 : Int) (q10 : Int) (q11 : Int) (q12 : Int) : evR (ctxIn Tryd.prog noFacts (fun _ => false) libC3 [(42, Tryd.f42), (71, Tryd.f71)]) Tryd.f13 [(.w (.agg [.int .i64 q0, .int .i64 q1, .int .i64 q2, .int .i64 q3, .int .i64 q4, .int .i64 q5, .int .i64 q6, .int .i64 q7, .int .i64 q8, .int .i64 q9, .int .i64 q10, .int .i64 q11, .int .i64 q12]))] [false, false, false, false, true, false, true, true] = some (AV.w (AW.one (AC.int IntKind.i64 3)), (pickL [(!inR q0 1 999999, false), (vE { x := q2, y := q3, z := q4 } != 0, false), (!inR q5 1 8, false), (!inR q6 1 4, false), (!decide (q6 > 1), true), (q7 != 0, false), (q8 != 0, true), ((3 : Int) != 0, true)] [0, 1, 2, 2, 2, 2, 2, 3, 4, 4, 4, 4, 5, 5, 5, 4, 5, 4, 6, 7])) := by kernel_rfl
set_option maxRecDepth 100000 in
theorem crq_0000100111 (q0 : Int) (q1 : Int) (q2 : Int) (q3 : Int) (q4 : Int) (q5 : Int) (q6 : Int) (q7 : Int) (q8 : Int) (q9 : Int) (q10 : Int) (q11 : Int) (q12 : Int) : evR (ctxIn Tryd.prog noFacts (fun _ => false) libC3 [(42, Tryd.f42), (71, Tryd.f71)]) Tryd.f13 [(.w (.agg [.int .i64 q0, .int .i64 q1, .int .i64 q2, .int .i64 q3, .int .i64 q4, .int .i64 q5, .int .i64 q6, .int .i64 q7, .int .i64 q8, .int .i64 q9, .int .i64 q10, .int .i64 q11, .int .i64 q12]))] [false, false, false, false, true, false, false, true, true, true] = some (AV.w (AW.one (AC.int IntKind.i64 4)), (pickL [(!inR q0 1 999999, false), (vE { x := q2, y := q3, z := q4 } != 0, false), (!inR q5 1 8, false), (!inR q6 1 4, false), (!decide (q6 > 1), true), (q7 != 0, false), (q8 != 0, false), (decide (q6 > 1), true), (!inR q7 1 64, true), (true, true), ((4 : Int) != 0, true)] [0, 1, 2, 2, 2, 2, 2, 3, 4, 4, 4, 4, 5, 5, 5, 4, 5, 4, 6, 7, 7, 7, 7, 7, 8, 8, 8, 8, 8, 8, 7, 8, 7, 9, 10])) := by kernel_rfl
set_option maxRecDepth 100000 in
theorem crq_00001001011 (q0 : Int) (q1 : Int) (q2 : Int) (q3 : Int) (q4 : Int) (q5 : Int) (q6 : Int) (q7 : Int) (q8 : Int) (q9 : Int) (q10 : Int) (q11 : Int) (q12 : Int) : evR (ctxIn Tryd.prog noFacts (fun _ => false) libC3 [(42, Tryd.f42), (71, Tryd.f71)]) Tryd.f13 [(.w (.agg [.int .i64 q0, .int .i64 q1, .int .i64 q2, .int .i64 q3, .int .i64 q4, .int .i64 q5, .int .i64 q6, .int .i64 q7, .int .i64 q8, .int .i64 q9, .int .i64 q10, .int .i64 q11, .int .i64 q12]))] [false, false, false, false, true, false, false, true, false, true, true] = some (AV.w (AW.one (AC.int IntKind.i64 4)), (pickL [(!inR q0 1 999999, false), (vE { x := q2, y := q3, z := q4 } != 0, false), (!inR q5 1 8, false), (!inR q6 1 4, false), (!decide (q6 > 1), true), (q7 != 0, false), (q8 != 0, false), (decide (q6 > 1), true), (!inR q7 1 64, false), (!inR q8 q7 64, true), ((4 : Int) != 0, true)] [0, 1, 2, 2, 2, 2, 2, 3, 4, 4, 4, 4, 5, 5, 5, 4, 5, 4, 6, 7, 7, 7, 7, 7, 8, 8, 8, 8, 8, 8, 7, 8, 7, 9, 10])) := by kernel_rfl
set_option maxRecDepth 100000 in
theorem crq_000010010001 (q0 : Int) (q1 : Int) (q2 : Int) (q3 : Int) (q4 : Int) (q5 : Int) (q6 : Int) (q7 : Int) (q8 : Int) (q9 : Int) (q10 : Int) (q11 : Int) (q12 : Int) : evR (ctxIn Tryd.prog noFacts (fun _ => false) libC3 [(42, Tryd.f42), (71, Tryd.f71)]) Tryd.f13 [(.w (.agg [.int .i64 q0, .int .i64 q1, .int .i64 q2, .int .i64 q3, .int .i64 q4, .int .i64 q5, .int .i64 q6, .int .i64 q7, .int .i64 q8, .int .i64 q9, .int .i64 q10, .int .i64 q11, .int .i64 q12]))] [false, false, false, false, true, false, false, true, false, false, false, true] = some (AV.w (AW.one (AC.int IntKind.i64 4)), (pickL [(!inR q0 1 999999, false), (vE { x := q2, y := q3, z := q4 } != 0, false), (!inR q5 1 8, false), (!inR q6 1 4, false), (!decide (q6 > 1), true), (q7 != 0, false), (q8 != 0, false), (decide (q6 > 1), true), (!inR q7 1 64, false), (!inR q8 q7 64, false), ((0 : Int) != 0, false), (!inR q9 (-1073741824) 1073741824, true), (true, true)] [0, 1, 2, 2, 2, 2, 2, 3, 4, 4, 4, 4, 5, 5, 5, 4, 5, 4, 6, 7, 7, 7, 7, 7, 8, 8, 8, 8, 8, 8, 7, 8, 7, 9, 10, 11, 11, 11, 11, 11, 12, 12, 12, 12, 12, 12, 12, 12, 12, 12, 12])) := by kernel_rfl
set_option maxRecDepth 100000 in
theorem crq_0000100100001 (q0 : Int) (q1 : Int) (q2 : Int) (q3 : Int) (q4 : Int) (q5 : Int) (q6 : Int) (q7 : Int) (q8 : Int) (q9 : Int) (q10 : Int) (q11 : Int) (q12 : Int) : evR (ctxIn Tryd.prog noFacts (fun _ => false) libC3 [(42, Tryd.f42), (71, Tryd.f71)]) Tryd.f13 [(.w (.agg [.int .i64 q0, .int .i64 q1, .int .i64 q2, .int .i64 q3, .int .i64 q4, .int .i64 q5, .int .i64 q6, .int .i64 q7, .int .i64 q8, .int .i64 q9, .int .i64 q10, .int .i64 q11, .int .i64 q12]))] [false, false, false, false, true, false, false, true, false, false, false, false, true] = some (AV.w (AW.one (AC.int IntKind.i64 4)), (pickL [(!inR q0 1 999999, false), (vE { x := q2, y := q3, z := q4 } != 0, false), (!inR q5 1 8, false), (!inR q6 1 4, false), (!decide (q6 > 1), true), (q7 != 0, false), (q8 != 0, false), (decide (q6 > 1), true), (!inR q7 1 64, false), (!inR q8 q7 64, false), ((0 : Int) != 0, false), (!inR q9 (-1073741824) 1073741824, false), (!inR q10 (-1073741824) 1073741824, true), (true, true)] [0, 1, 2, 2, 2, 2, 2, 3, 4, 4, 4, 4, 5, 5, 5, 4, 5, 4, 6, 7, 7, 7, 7, 7, 8, 8, 8, 8, 8, 8, 7, 8, 7, 9, 10, 11, 11, 11, 11, 11, 12, 12, 12, 12, 12, 13, 13, 13, 13, 13, 13])) := by kernel_rfl
set_option maxRecDepth 100000 in
theorem crq_00001001000001 (q0 : Int) (q1 : Int) (q2 : Int) (q3 : Int) (q4 : Int) (q5 : Int) (q6 : Int) (q7 : Int) (q8 : Int) (q9 : Int) (q10 : Int) (q11 : Int) (q12 : Int) : evR (ctxIn Tryd.prog noFacts (fun _ => false) libC3 [(42, Tryd.f42), (71, Tryd.f71)]) Tryd.f13 [(.w (.agg [.int .i64 q0, .int .i64 q1, .int .i64 q2, .int .i64 q3, .int .i64 q4, .int .i64 q5, .int .i64 q6, .int .i64 q7, .int .i64 q8, .int .i64 q9, .int .i64 q10, .int .i64 q11, .int .i64 q12]))] [false, false, false, false, true, false, false, true, false, false, false, false, false, true] = some (AV.w (AW.one (AC.int IntKind.i64 4)), (pickL [(!inR q0 1 999999, false), (vE { x := q2, y := q3, z := q4 } != 0, false), (!inR q5 1 8, false), (!inR q6 1 4, false), (!decide (q6 > 1), true), (q7 != 0, false), (q8 != 0, false), (decide (q6 > 1), true), (!inR q7 1 64, false), (!inR q8 q7 64, false), ((0 : Int) != 0, false), (!inR q9 (-1073741824) 1073741824, false), (!inR q10 (-1073741824) 1073741824, false), (!inR q11 0 4, true), (true, true)] [0, 1, 2, 2, 2, 2, 2, 3, 4, 4, 4, 4, 5, 5, 5, 4, 5, 4, 6, 7, 7, 7, 7, 7, 8, 8, 8, 8, 8, 8, 7, 8, 7, 9, 10, 11, 11, 11, 11, 11, 12, 12, 12, 12, 12, 13, 13, 13, 13, 13, 14])) := by kernel_rfl
set_option maxRecDepth 100000 in
theorem crq_000010010000001 (q0 : Int) (q1 : Int) (q2 : Int) (q3 : Int) (q4 : Int) (q5 : Int) (q6 : Int) (q7 : Int) (q8 : Int) (q9 : Int) (q10 : Int) (q11 : Int) (q12 : Int) : evR (ctxIn Tryd.prog noFacts (fun _ => false) libC3 [(42, Tryd.f42), (71, Tryd.f71)]) Tryd.f13 [(.w (.agg [.int .i64 q0, .int .i64 q1, .int .i64 q2, .int .i64 q3, .int .i64 q4, .int .i64 q5, .int .i64 q6, .int .i64 q7, .int .i64 q8, .int .i64 q9, .int .i64 q10, .int .i64 q11, .int .i64 q12]))] [false, false, false, false, true, false, false, true, false, false, false, false, false, false, true] = some (AV.w (AW.one (AC.int IntKind.i64 4)), (pickL [(!inR q0 1 999999, false), (vE { x := q2, y := q3, z := q4 } != 0, false), (!inR q5 1 8, false), (!inR q6 1 4, false), (!decide (q6 > 1), true), (q7 != 0, false), (q8 != 0, false), (decide (q6 > 1), true), (!inR q7 1 64, false), (!inR q8 q7 64, false), ((0 : Int) != 0, false), (!inR q9 (-1073741824) 1073741824, false), (!inR q10 (-1073741824) 1073741824, false), (!inR q11 0 4, false), (!inR q12 1 100, true)] [0, 1, 2, 2, 2, 2, 2, 3, 4, 4, 4, 4, 5, 5, 5, 4, 5, 4, 6, 7, 7, 7, 7, 7, 8, 8, 8, 8, 8, 8, 7, 8, 7, 9, 10, 11, 11, 11, 11, 11, 12, 12, 12, 12, 12, 13, 13, 13, 13, 13, 14])) := by kernel_rfl
set_option maxRecDepth 100000 in
theorem crq_000010010000000 (q0 : Int) (q1 : Int) (q2 : Int) (q3 : Int) (q4 : Int) (q5 : Int) (q6 : Int) (q7 : Int) (q8 : Int) (q9 : Int) (q10 : Int) (q11 : Int) (q12 : Int) : evR (ctxIn Tryd.prog noFacts (fun _ => false) libC3 [(42, Tryd.f42), (71, Tryd.f71)]) Tryd.f13 [(.w (.agg [.int .i64 q0, .int .i64 q1, .int .i64 q2, .int .i64 q3, .int .i64 q4, .int .i64 q5, .int .i64 q6, .int .i64 q7, .int .i64 q8, .int .i64 q9, .int .i64 q10, .int .i64 q11, .int .i64 q12]))] [false, false, false, false, true, false, false, true, false, false, false, false, false, false, false] = some (AV.w (AW.one (AC.int IntKind.i64 0)), (pickL [(!inR q0 1 999999, false), (vE { x := q2, y := q3, z := q4 } != 0, false), (!inR q5 1 8, false), (!inR q6 1 4, false), (!decide (q6 > 1), true), (q7 != 0, false), (q8 != 0, false), (decide (q6 > 1), true), (!inR q7 1 64, false), (!inR q8 q7 64, false), ((0 : Int) != 0, false), (!inR q9 (-1073741824) 1073741824, false), (!inR q10 (-1073741824) 1073741824, false), (!inR q11 0 4, false), (!inR q12 1 100, false)] [0, 1, 2, 2, 2, 2, 2, 3, 4, 4, 4, 4, 5, 5, 5, 4, 5, 4, 6, 7, 7, 7, 7, 7, 8, 8, 8, 8, 8, 8, 7, 8, 7, 9, 10, 11, 11, 11, 11, 11, 12, 12, 12, 12, 12, 13, 13, 13, 13, 13, 14])) := by kernel_rfl
set_option maxRecDepth 100000 in
theorem crq_0000100001 (q0 : Int) (q1 : Int) (q2 : Int) (q3 : Int) (q4 : Int) (q5 : Int) (q6 : Int) (q7 : Int) (q8 : Int) (q9 : Int) (q10 : Int) (q11 : Int) (q12 : Int) : evR (ctxIn Tryd.prog noFacts (fun _ => false) libC3 [(42, Tryd.f42), (71, Tryd.f71)]) Tryd.f13 [(.w (.agg [.int .i64 q0, .int .i64 q1, .int .i64 q2, .int .i64 q3, .int .i64 q4, .int .i64 q5, .int .i64 q6, .int .i64 q7, .int .i64 q8, .int .i64 q9, .int .i64 q10, .int .i64 q11, .int .i64 q12]))] [false, false, false, false, true, false, false, false, false, true] = some (AV.w (AW.one (AC.int IntKind.i64 4)), (pickL [(!inR q0 1 999999, false), (vE { x := q2, y := q3, z := q4 } != 0, false), (!inR q5 1 8, false), (!inR q6 1 4, false), (!decide (q6 > 1), true), (q7 != 0, false), (q8 != 0, false), (decide (q6 > 1), false), (false, false), ((0 : Int) != 0, false), (!inR q9 (-1073741824) 1073741824, true), (true, true)] [0, 1, 2, 2, 2, 2, 2, 3, 4, 4, 4, 4, 5, 5, 5, 4, 5, 4, 6, 7, 7, 7, 7, 7, 7, 7, 8, 9, 10, 10, 10, 10, 10, 11, 11, 11, 11, 11, 11, 11, 11, 11, 11, 11])) := by kernel_rfl
set_option maxRecDepth 100000 in
theorem crq_00001000001 (q0 : Int) (q1 : Int) (q2 : Int) (q3 : Int) (q4 : Int) (q5 : Int) (q6 : Int) (q7 : Int) (q8 : Int) (q9 : Int) (q10 : Int) (q11 : Int) (q12 : Int) : evR (ctxIn Tryd.prog noFacts (fun _ => false) libC3 [(42, Tryd.f42), (71, Tryd.f71)]) Tryd.f13 [(.w (.agg [.int .i64 q0, .int .i64 q1, .int .i64 q2, .int .i64 q3, .int .i64 q4, .int .i64 q5, .int .i64 q6, .int .i64 q7, .int .i64 q8, .int .i64 q9, .int .i64 q10, .int .i64 q11, .int .i64 q12]))] [false, false, false, false, true, false, false, false, false, false, true] = some (AV.w (AW.one (AC.int IntKind.i64 4)), (pickL [(!inR q0 1 999999, false), (vE { x := q2, y := q3, z := q4 } != 0, false), (!inR q5 1 8, false), (!inR q6 1 4, false), (!decide (q6 > 1), true), (q7 != 0, false), (q8 != 0, false), (decide (q6 > 1), false), (false, false), ((0 : Int) != 0, false), (!inR q9 (-1073741824) 1073741824, false), (!inR q10 (-1073741824) 1073741824, true), (true, true)] [0, 1, 2, 2, 2, 2, 2, 3, 4, 4, 4, 4, 5, 5, 5, 4, 5, 4, 6, 7, 7, 7, 7, 7, 7, 7, 8, 9, 10, 10, 10, 10, 10, 11, 11, 11, 11, 11, 12, 12, 12, 12, 12, 12])) := by kernel_rfl
set_option maxRecDepth 100000 in
theorem crq_000010000001 (q0 : Int) (q1 : Int) (q2 : Int) (q3 : Int) (q4 : Int) (q5 : Int) (q6 : Int) (q7 : Int) (q8 : Int) (q9 : Int) (q10 : Int) (q11 : Int) (q12 : Int) : evR (ctxIn Tryd.prog noFacts (fun _ => false) libC3 [(42, Tryd.f42), (71, Tryd.f71)]) Tryd.f13 [(.w (.agg [.int .i64 q0, .int .i64 q1, .int .i64 q2, .int .i64 q3, .int .i64 q4, .int .i64 q5, .int .i64 q6, .int .i64 q7, .int .i64 q8, .int .i64 q9, .int .i64 q10, .int .i64 q11, .int .i64 q12]))] [false, false, false, false, true, false, false, false, false, false, false, true] = some (AV.w (AW.one (AC.int IntKind.i64 4)), (pickL [(!inR q0 1 999999, false), (vE { x := q2, y := q3, z := q4 } != 0, false), (!inR q5 1 8, false), (!inR q6 1 4, false), (!decide (q6 > 1), true), (q7 != 0, false), (q8 != 0, false), (decide (q6 > 1), false), (false, false), ((0 : Int) != 0, false), (!inR q9 (-1073741824) 1073741824, false), (!inR q10 (-1073741824) 1073741824, false), (!inR q11 0 4, true), (true, true)] [0, 1, 2, 2, 2, 2, 2, 3, 4, 4, 4, 4, 5, 5, 5, 4, 5, 4, 6, 7, 7, 7, 7, 7, 7, 7, 8, 9, 10, 10, 10, 10, 10, 11, 11, 11, 11, 11, 12, 12, 12, 12, 12, 13])) := by kernel_rfl
set_option maxRecDepth 100000 in
theorem crq_0000100000001 (q0 : Int) (q1 : Int) (q2 : Int) (q3 : Int) (q4 : Int) (q5 : Int) (q6 : Int) (q7 : Int) (q8 : Int) (q9 : Int) (q10 : Int) (q11 : Int) (q12 : Int) : evR (ctxIn Tryd.prog noFacts (fun _ => false) libC3 [(42, Tryd.f42), (71, Tryd.f71)]) Tryd.f13 [(.w (.agg [.int .i64 q0, .int .i64 q1, .int .i64 q2, .int .i64 q3, .int .i64 q4, .int .i64 q5, .int .i64 q6, .int .i64 q7, .int .i64 q8, .int .i64 q9, .int .i64 q10, .int .i64 q11, .int .i64 q12]))] [false, false, false, false, true, false, false, false, false, false, false, false, true] = some (AV.w (AW.one (AC.int IntKind.i64 4)), (pickL [(!inR q0 1 999999, false), (vE { x := q2, y := q3, z := q4 } != 0, false), (!inR q5 1 8, false), (!inR q6 1 4, false), (!decide (q6 > 1), true), (q7 != 0, false), (q8 != 0, false), (decide (q6 > 1), false), (false, false), ((0 : Int) != 0, false), (!inR q9 (-1073741824) 1073741824, false), (!inR q10 (-1073741824) 1073741824, false), (!inR q11 0 4, false), (!inR q12 1 100, true)] [0, 1, 2, 2, 2, 2, 2, 3, 4, 4, 4, 4, 5, 5, 5, 4, 5, 4, 6, 7, 7, 7, 7, 7, 7, 7, 8, 9, 10, 10, 10, 10, 10, 11, 11, 11, 11, 11, 12, 12, 12, 12, 12, 13])) := by kernel_rfl
set_option maxRecDepth 100000 in
theorem crq_0000100000000 (q0 : Int) (q1 : Int) (q2 : Int) (q3 : Int) (q4 : Int) (q5 : Int) (q6 : Int) (q7 : Int) (q8 : Int) (q9 : Int) (q10 : Int) (q11 : Int) (q12 : Int) : evR (ctxIn Tryd.prog noFacts (fun _ => false) libC3 [(42, Tryd.f42), (71, Tryd.f71)]) Tryd.f13 [(.w (.agg [.int .i64 q0, .int .i64 q1, .int .i64 q2, .int .i64 q3, .int .i64 q4, .int .i64 q5, .int .i64 q6, .int .i64 q7, .int .i64 q8, .int .i64 q9, .int .i64 q10, .int .i64 q11, .int .i64 q12]))] [false, false, false, false, true, false, false, false, false, false, false, false, false] = some (AV.w (AW.one (AC.int IntKind.i64 0)), (pickL [(!inR q0 1 999999, false), (vE { x := q2, y := q3, z := q4 } != 0, false), (!inR q5 1 8, false), (!inR q6 1 4, false), (!decide (q6 > 1), true), (q7 != 0, false), (q8 != 0, false), (decide (q6 > 1), false), (false, false), ((0 : Int) != 0, false), (!inR q9 (-1073741824) 1073741824, false), (!inR q10 (-1073741824) 1073741824, false), (!inR q11 0 4, false), (!inR q12 1 100, false)] [0, 1, 2, 2, 2, 2, 2, 3, 4, 4, 4, 4, 5, 5, 5, 4, 5, 4, 6, 7, 7, 7, 7, 7, 7, 7, 8, 9, 10, 10, 10, 10, 10, 11, 11, 11, 11, 11, 12, 12, 12, 12, 12, 13])) := by kernel_rfl
set_option maxRecDepth 100000 in
theorem crq_00000111 (q0 : Int) (q1 : Int) (q2 : Int) (q3 : Int) (q4 : Int) (q5 : Int) (q6 : Int) (q7 : Int) (q8 : Int) (q9 : Int) (q10 : Int) (q11 : Int) (q12 : Int) : evR (ctxIn Tryd.prog noFacts (fun _ => false) libC3 [(42, Tryd.f42), (71, Tryd.f71)]) Tryd.f13 [(.w (.agg [.int .i64 q0, .int .i64 q1, .int .i64 q2, .int .i64 q3, .int .i64 q4, .int .i64 q5, .int .i64 q6, .int .i64 q7, .int .i64 q8, .int .i64 q9, .int .i64 q10, .int .i64 q11, .int .i64 q12]))] [false, false, false, false, false, true, true, true] = some (AV.w (AW.one (AC.int IntKind.i64 4)), (pickL [(!inR q0 1 999999, false), (vE { x := q2, y := q3, z := q4 } != 0, false), (!inR q5 1 8, false), (!inR q6 1 4, false), (!decide (q6 > 1), false), (false, false), (decide (q6 > 1), true), (!inR q7 1 64, true), (true, true), ((4 : Int) != 0, true)] [0, 1, 2, 2, 2, 2, 2, 3, 4, 4, 4, 4, 4, 4, 5, 6, 6, 6, 6, 6, 7, 7, 7, 7, 7, 7, 6, 7, 6, 8, 9])) := by kernel_rfl
set_option maxRecDepth 100000 in
theorem crq_000001011 (q0 : Int) (q1 : Int) (q2 : Int) (q3 : Int) (q4 : Int) (q5 : Int) (q6 : Int) (q7 : Int) (q8 : Int) (q9 : Int) (q10 : Int) (q11 : Int) (q12 : Int) : evR (ctxIn Tryd.prog noFacts (fun _ => false) libC3 [(42, Tryd.f42), (71, Tryd.f71)]) Tryd.f13 [(.w (.agg [.int .i64 q0, .int .i64 q1, .int .i64 q2, .int .i64 q3, .int .i64 q4, .int .i64 q5, .int .i64 q6, .int .i64 q7, .int .i64 q8, .int .i64 q9, .int .i64 q10, .int .i64 q11, .int .i64 q12]))] [false, false, false, false, false, true, false, true, true] = some (AV.w (AW.one (AC.int IntKind.i64 4)), (pickL [(!inR q0 1 999999, false), (vE { x := q2, y := q3, z := q4 } != 0, false), (!inR q5 1 8, false), (!inR q6 1 4, false), (!decide (q6 > 1), false), (false, false), (decide (q6 > 1), true), (!inR q7 1 64, false), (!inR q8 q7 64, true), ((4 : Int) != 0, true)] [0, 1, 2, 2, 2, 2, 2, 3, 4, 4, 4, 4, 4, 4, 5, 6, 6, 6, 6, 6, 7, 7, 7, 7, 7, 7, 6, 7, 6, 8, 9])) := by kernel_rfl
set_option maxRecDepth 100000 in
theorem crq_0000010001 (q0 : Int) (q1 : Int) (q2 : Int) (q3 : Int) (q4 : Int) (q5 : Int) (q6 : Int) (q7 : Int) (q8 : Int) (q9 : Int) (q10 : Int) (q11 : Int) (q12 : Int) : evR (ctxIn Tryd.prog noFacts (fun _ => false) libC3 [(42, Tryd.f42), (71, Tryd.f71)]) Tryd.f13 [(.w (.agg [.int .i64 q0, .int .i64 q1, .int .i64 q2, .int .i64 q3, .int .i64 q4, .int .i64 q5, .int .i64 q6, .int .i64 q7, .int .i64 q8, .int .i64 q9, .int .i64 q10, .int .i64 q11, .int .i64 q12]))] [false, false, false, false, false, true, false, false, false, true] = some (AV.w (AW.one (AC.int IntKind.i64 4)), (pickL [(!inR q0 1 999999, false), (vE { x := q2, y := q3, z := q4 } != 0, false), (!inR q5 1 8, false), (!inR q6 1 4, false), (!decide (q6 > 1), false), (false, false), (decide (q6 > 1), true), (!inR q7 1 64, false), (!inR q8 q7 64, false), ((0 : Int) != 0, false), (!inR q9 (-1073741824) 1073741824, true), (true, true)] [0, 1, 2, 2, 2, 2, 2, 3, 4, 4, 4, 4, 4, 4, 5, 6, 6, 6, 6, 6, 7, 7, 7, 7, 7, 7, 6, 7, 6, 8, 9, 10, 10, 10, 10, 10, 11, 11, 11, 11, 11, 11, 11, 11, 11, 11, 11])) := by kernel_rfl
set_option maxRecDepth 100000 in
theorem crq_00000100001 (q0 : Int) (q1 : Int) (q2 : Int) (q3 : Int) (q4 : Int) (q5 : Int) (q6 : Int) (q7 : Int) (q8 : Int) (q9 : Int) (q10 : Int) (q11 : Int) (q12 : Int) : evR (ctxIn Tryd.prog noFacts (fun _ => false) libC3 [(42, Tryd.f42), (71, Tryd.f71)]) Tryd.f13 [(.w (.agg [.int .i64 q0, .int .i64 q1, .int .i64 q2, .int .i64 q3, .int .i64 q4, .int .i64 q5, .int .i64 q6, .int .i64 q7, .int .i64 q8, .int .i64 q9, .int .i64 q10, .int .i64 q11, .int .i64 q12]))] [false, false, false, false, false, true, false, false, false, false, true] = some (AV.w (AW.one (AC.int IntKind.i64 4)), (pickL [(!inR q0 1 999999, false), (vE { x := q2, y := q3, z := q4 } != 0, false), (!inR q5 1 8, false), (!inR q6 1 4, false), (!decide (q6 > 1), false), (false, false), (decide (q6 > 1), true), (!inR q7 1 64, false), (!inR q8 q7 64, false), ((0 : Int) != 0, false), (!inR q9 (-1073741824) 1073741824, false), (!inR q10 (-1073741824) 1073741824, true), (true, true)] [0, 1, 2, 2, 2, 2, 2, 3, 4, 4, 4, 4, 4, 4, 5, 6, 6, 6, 6, 6, 7, 7, 7, 7, 7, 7, 6, 7, 6, 8, 9, 10, 10, 10, 10, 10, 11, 11, 11, 11, 11, 12, 12, 12, 12, 12, 12])) := by kernel_rfl
set_option maxRecDepth 100000 in
theorem crq_000001000001 (q0 : Int) (q1 : Int) (q2 : Int) (q3 : Int) (q4 : Int) (q5 : Int) (q6 : Int) (q7 : Int) (q8 : Int) (q9 : Int) (q10 : Int) (q11 : Int) (q12 : Int) : evR (ctxIn Tryd.prog noFacts (fun _ => false) libC3 [(42, Tryd.f42), (71, Tryd.f71)]) Tryd.f13 [(.w (.agg [.int .i64 q0, .int .i64 q1, .int .i64 q2, .int .i64 q3, .int .i64 q4, .int .i64 q5, .int .i64 q6, .int .i64 q7, .int .i64 q8, .int .i64 q9, .int .i64 q10, .int .i64 q11, .int .i64 q12]))] [false, false, false, false, false, true, false, false, false, false, false, true] = some (AV.w (AW.one (AC.int IntKind.i64 4)), (pickL [(!inR q0 1 999999, false), (vE { x := q2, y := q3, z := q4 } != 0, false), (!inR q5 1 8, false), (!inR q6 1 4, false), (!decide (q6 > 1), false), (false, false), (decide (q6 > 1), true), (!inR q7 1 64, false), (!inR q8 q7 64, false), ((0 : Int) != 0, false), (!inR q9 (-1073741824) 1073741824, false), (!inR q10 (-1073741824) 1073741824, false), (!inR q11 0 4, true), (true, true)] [0, 1, 2, 2, 2, 2, 2, 3, 4, 4, 4, 4, 4, 4, 5, 6, 6, 6, 6, 6, 7, 7, 7, 7, 7, 7, 6, 7, 6, 8, 9, 10, 10, 10, 10, 10, 11, 11, 11, 11, 11, 12, 12, 12, 12, 12, 13])) := by kernel_rfl
set_option maxRecDepth 100000 in
theorem crq_0000010000001 (q0 : Int) (q1 : Int) (q2 : Int) (q3 : Int) (q4 : Int) (q5 : Int) (q6 : Int) (q7 : Int) (q8 : Int) (q9 : Int) (q10 : Int) (q11 : Int) (q12 : Int) : evR (ctxIn Tryd.prog noFacts (fun _ => false) libC3 [(42, Tryd.f42), (71, Tryd.f71)]) Tryd.f13 [(.w (.agg [.int .i64 q0, .int .i64 q1, .int .i64 q2, .int .i64 q3, .int .i64 q4, .int .i64 q5, .int .i64 q6, .int .i64 q7, .int .i64 q8, .int .i64 q9, .int .i64 q10, .int .i64 q11, .int .i64 q12]))] [false, false, false, false, false, true, false, false, false, false, false, false, true] = some (AV.w (AW.one (AC.int IntKind.i64 4)), (pickL [(!inR q0 1 999999, false), (vE { x := q2, y := q3, z := q4 } != 0, false), (!inR q5 1 8, false), (!inR q6 1 4, false), (!decide (q6 > 1), false), (false, false), (decide (q6 > 1), true), (!inR q7 1 64, false), (!inR q8 q7 64, false), ((0 : Int) != 0, false), (!inR q9 (-1073741824) 1073741824, false), (!inR q10 (-1073741824) 1073741824, false), (!inR q11 0 4, false), (!inR q12 1 100, true)] [0, 1, 2, 2, 2, 2, 2, 3, 4, 4, 4, 4, 4, 4, 5, 6, 6, 6, 6, 6, 7, 7, 7, 7, 7, 7, 6, 7, 6, 8, 9, 10, 10, 10, 10, 10, 11, 11, 11, 11, 11, 12, 12, 12, 12, 12, 13])) := by kernel_rfl
set_option maxRecDepth 100000 in
theorem crq_0000010000000 (q0 : Int) (q1 : Int) (q2 : Int) (q3 : Int) (q4 : Int) (q5 : Int) (q6 : Int) (q7 : Int) (q8 : Int) (q9 : Int) (q10 : Int) (q11 : Int) (q12 : Int) : evR (ctxIn Tryd.prog noFacts (fun _ => false) libC3 [(42, Tryd.f42), (71, Tryd.f71)]) Tryd.f13 [(.w (.agg [.int .i64 q0, .int .i64 q1, .int .i64 q2, .int .i64 q3, .int .i64 q4, .int .i64 q5, .int .i64 q6, .int .i64 q7, .int .i64 q8, .int .i64 q9, .int .i64 q10, .int .i64 q11, .int .i64 q12]))] [false, false, false, false, false, true, false, false, false, false, false, false, false] = some (AV.w (AW.one (AC.int IntKind.i64 0)), (pickL [(!inR q0 1 999999, false), (vE { x := q2, y := q3, z := q4 } != 0, false), (!inR q5 1 8, false), (!inR q6 1 4, false), (!decide (q6 > 1), false), (false, false), (decide (q6 > 1), true), (!inR q7 1 64, false), (!inR q8 q7 64, false), ((0 : Int) != 0, false), (!inR q9 (-1073741824) 1073741824, false), (!inR q10 (-1073741824) 1073741824, false), (!inR q11 0 4, false), (!inR q12 1 100, false)] [0, 1, 2, 2, 2, 2, 2, 3, 4, 4, 4, 4, 4, 4, 5, 6, 6, 6, 6, 6, 7, 7, 7, 7, 7, 7, 6, 7, 6, 8, 9, 10, 10, 10, 10, 10, 11, 11, 11, 11, 11, 12, 12, 12, 12, 12, 13])) := by kernel_rfl
set_option maxRecDepth 100000 in
theorem crq_00000001 (q0 : Int) (q1 : Int) (q2 : Int) (q3 : Int) (q4 : Int) (q5 : Int) (q6 : Int) (q7 : Int) (q8 : Int) (q9 : Int) (q10 : Int) (q11 : Int) (q12 : Int) : evR (ctxIn Tryd.prog noFacts (fun _ => false) libC3 [(42, Tryd.f42), (71, Tryd.f71)]) Tryd.f13 [(.w (.agg [.int .i64 q0, .int .i64 q1, .int .i64 q2, .int .i64 q3, .int .i64 q4, .int .i64 q5, .int .i64 q6, .int .i64 q7, .int .i64 q8, .int .i64 q9, .int .i64 q10, .int .i64 q11, .int .i64 q12]))] [false, false, false, false, false, false, false, true] = some (AV.w (AW.one (AC.int IntKind.i64 4)), (pickL [(!inR q0 1 999999, false), (vE { x := q2, y := q3, z := q4 } != 0, false), (!inR q5 1 8, false), (!inR q6 1 4, false), (!decide (q6 > 1), false), (false, false), (decide (q6 > 1), false), ((0 : Int) != 0, false), (!inR q9 (-1073741824) 1073741824, true), (true, true)] [0, 1, 2, 2, 2, 2, 2, 3, 4, 4, 4, 4, 4, 4, 5, 6, 6, 6, 6, 6, 6, 6, 5, 7, 8, 8, 8, 8, 8, 9, 9, 9, 9, 9, 9, 9, 9, 9, 9, 9])) := by kernel_rfl
set_option maxRecDepth 100000 in
theorem crq_000000001 (q0 : Int) (q1 : Int) (q2 : Int) (q3 : Int) (q4 : Int) (q5 : Int) (q6 : Int) (q7 : Int) (q8 : Int) (q9 : Int) (q10 : Int) (q11 : Int) (q12 : Int) : evR (ctxIn Tryd.prog noFacts (fun _ => false) libC3 [(42, Tryd.f42), (71, Tryd.f71)]) Tryd.f13 [(.w (.agg [.int .i64 q0, .int .i64 q1, .int .i64 q2, .int .i64 q3, .int .i64 q4, .int .i64 q5, .int .i64 q6, .int .i64 q7, .int .i64 q8, .int .i64 q9, .int .i64 q10, .int .i64 q11, .int .i64 q12]))] [false, false, false, false, false, false, false, false, true] = some (AV.w (AW.one (AC.int IntKind.i64 4)), (pickL [(!inR q0 1 999999, false), (vE { x := q2, y := q3, z := q4 } != 0, false), (!inR q5 1 8, false), (!inR q6 1 4, false), (!decide (q6 > 1), false), (false, false), (decide (q6 > 1), false), ((0 : Int) != 0, false), (!inR q9 (-1073741824) 1073741824, false), (!inR q10 (-1073741824) 1073741824, true), (true, true)] [0, 1, 2, 2, 2, 2, 2, 3, 4, 4, 4, 4, 4, 4, 5, 6, 6, 6, 6, 6, 6, 6, 5, 7, 8, 8, 8, 8, 8, 9, 9, 9, 9, 9, 10, 10, 10, 10, 10, 10])) := by kernel_rfl
set_option maxRecDepth 100000 in
theorem crq_0000000001 (q0 : Int) (q1 : Int) (q2 : Int) (q3 : Int) (q4 : Int) (q5 : Int) (q6 : Int) (q7 : Int) (q8 : Int) (q9 : Int) (q10 : Int) (q11 : Int) (q12 : Int) : evR (ctxIn Tryd.prog noFacts (fun _ => false) libC3 [(42, Tryd.f42), (71, Tryd.f71)]) Tryd.f13 [(.w (.agg [.int .i64 q0, .int .i64 q1, .int .i64 q2, .int .i64 q3, .int .i64 q4, .int .i64 q5, .int .i64 q6, .int .i64 q7, .int .i64 q8, .int .i64 q9, .int .i64 q10, .int .i64 q11, .int .i64 q12]))] [false, false, false, false, false, false, false, false, false, true] = some (AV.w (AW.one (AC.int IntKind.i64 4)), (pickL [(!inR q0 1 999999, false), (vE { x := q2, y := q3, z := q4 } != 0, false), (!inR q5 1 8, false), (!inR q6 1 4, false), (!decide (q6 > 1), false), (false, false), (decide (q6 > 1), false), ((0 : Int) != 0, false), (!inR q9 (-1073741824) 1073741824, false), (!inR q10 (-1073741824) 1073741824, false), (!inR q11 0 4, true), (true, true)] [0, 1, 2, 2, 2, 2, 2, 3, 4, 4, 4, 4, 4, 4, 5, 6, 6, 6, 6, 6, 6, 6, 5, 7, 8, 8, 8, 8, 8, 9, 9, 9, 9, 9, 10, 10, 10, 10, 10, 11])) := by kernel_rfl
set_option maxRecDepth 100000 in
theorem crq_00000000001 (q0 : Int) (q1 : Int) (q2 : Int) (q3 : Int) (q4 : Int) (q5 : Int) (q6 : Int) (q7 : Int) (q8 : Int) (q9 : Int) (q10 : Int) (q11 : Int) (q12 : Int) : evR (ctxIn Tryd.prog noFacts (fun _ => false) libC3 [(42, Tryd.f42), (71, Tryd.f71)]) Tryd.f13 [(.w (.agg [.int .i64 q0, .int .i64 q1, .int .i64 q2, .int .i64 q3, .int .i64 q4, .int .i64 q5, .int .i64 q6, .int .i64 q7, .int .i64 q8, .int .i64 q9, .int .i64 q10, .int .i64 q11, .int .i64 q12]))] [false, false, false, false, false, false, false, false, false, false, true] = some (AV.w (AW.one (AC.int IntKind.i64 4)), (pickL [(!inR q0 1 999999, false), (vE { x := q2, y := q3, z := q4 } != 0, false), (!inR q5 1 8, false), (!inR q6 1 4, false), (!decide (q6 > 1), false), (false, false), (decide (q6 > 1), false), ((0 : Int) != 0, false), (!inR q9 (-1073741824) 1073741824, false), (!inR q10 (-1073741824) 1073741824, false), (!inR q11 0 4, false), (!inR q12 1 100, true)] [0, 1, 2, 2, 2, 2, 2, 3, 4, 4, 4, 4, 4, 4, 5, 6, 6, 6, 6, 6, 6, 6, 5, 7, 8, 8, 8, 8, 8, 9, 9, 9, 9, 9, 10, 10, 10, 10, 10, 11])) := by kernel_rfl
set_option maxRecDepth 100000 in
theorem crq_00000000000 (q0 : Int) (q1 : Int) (q2 : Int) (q3 : Int) (q4 : Int) (q5 : Int) (q6 : Int) (q7 : Int) (q8 : Int) (q9 : Int) (q10 : Int) (q11 : Int) (q12 : Int) : evR (ctxIn Tryd.prog noFacts (fun _ => false) libC3 [(42, Tryd.f42), (71, Tryd.f71)]) Tryd.f13 [(.w (.agg [.int .i64 q0, .int .i64 q1, .int .i64 q2, .int .i64 q3, .int .i64 q4, .int .i64 q5, .int .i64 q6, .int .i64 q7, .int .i64 q8, .int .i64 q9, .int .i64 q10, .int .i64 q11, .int .i64 q12]))] [false, false, false, false, false, false, false, false, false, false, false] = some (AV.w (AW.one (AC.int IntKind.i64 0)), (pickL [(!inR q0 1 999999, false), (vE { x := q2, y := q3, z := q4 } != 0, false), (!inR q5 1 8, false), (!inR q6 1 4, false), (!decide (q6 > 1), false), (false, false), (decide (q6 > 1), false), ((0 : Int) != 0, false), (!inR q9 (-1073741824) 1073741824, false), (!inR q10 (-1073741824) 1073741824, false), (!inR q11 0 4, false), (!inR q12 1 100, false)] [0, 1, 2, 2, 2, 2, 2, 3, 4, 4, 4, 4, 4, 4, 5, 6, 6, 6, 6, 6, 6, 6, 5, 7, 8, 8, 8, 8, 8, 9, 9, 9, 9, 9, 10, 10, 10, 10, 10, 11])) := by kernel_rfl
theorem crq_pl (q0 : Int) (q1 : Int) (q2 : Int) (q3 : Int) (q4 : Int) (q5 : Int) (q6 : Int) (q7 : Int) (q8 : Int) (q9 : Int) (q10 : Int) (q11 : Int) (q12 : Int)  : Pl Tryd.prog 13 [.agg #[.int .i64 q0, .int .i64 q1, .int .i64 q2, .int .i64 q3, .int .i64 q4, .int .i64 q5, .int .i64 q6, .int .i64 q7, .int .i64 q8, .int .i64 q9, .int .i64 q10, .int .i64 q11, .int .i64 q12]] (.int .i64 (rqE [q0, q1, q2, q3, q4, q5, q6, q7, q8, q9, q10, q11, q12])) := fun w => by
  cases k0 : (!inR q0 1 999999) with
  | true =>
    have V : (rqE [q0, q1, q2, q3, q4, q5, q6, q7, q8, q9, q10, q11, q12]) = (4) := by
      simp only [beq_iff_eq, beq_eq_false_iff_ne, ne_eq, bne_iff_ne, bne_eq_false_iff_eq, decide_eq_true_eq, decide_eq_false_iff_not, Bool.not_eq_true', Bool.not_eq_false', inR_iff, inR_fp, gt_iff_lt] at *
      rw [rq_ar]
      grind
    rw [V]
    refine evR_calls (I := noFacts) (v := .int .i64 (4)) (ctxIn_ok libC3_ok (eq_none _) fnsG_ok) (by kernel_rfl) Tryd.func13 rfl lps_nil (crq_1 q0 q1 q2 q3 q4 q5 q6 q7 q8 q9 q10 q11 q12) rfl (all2_R (.cons rfl .nil)) rfl w (Nat.zero_le _) (pickL_ok ?_ _)
    repeat' (first | exact cd_nil | refine cd_cons ?_ ?_)
    all_goals first | with_reducible rfl | with_reducible assumption | rfl | simp_all

  | false =>
    cases k1 : (vE { x := q2, y := q3, z := q4 } != 0) with
    | true =>
      have V : (rqE [q0, q1, q2, q3, q4, q5, q6, q7, q8, q9, q10, q11, q12]) = (3) := by
        simp only [beq_iff_eq, beq_eq_false_iff_ne, ne_eq, bne_iff_ne, bne_eq_false_iff_eq, decide_eq_true_eq, decide_eq_false_iff_not, Bool.not_eq_true', Bool.not_eq_false', inR_iff, inR_fp, gt_iff_lt] at *
        rw [rq_ar]
        grind
      rw [V]
      refine evR_calls (I := noFacts) (v := .int .i64 (3)) (ctxIn_ok libC3_ok (eq_none _) fnsG_ok) (by kernel_rfl) Tryd.func13 rfl lps_nil (crq_01 q0 q1 q2 q3 q4 q5 q6 q7 q8 q9 q10 q11 q12) rfl (all2_R (.cons rfl .nil)) rfl w (Nat.zero_le _) (pickL_ok ?_ _)
      repeat' (first | exact cd_nil | refine cd_cons ?_ ?_)
      all_goals first | with_reducible rfl | with_reducible assumption | rfl | simp_all

    | false =>
      cases k2 : (!inR q5 1 8) with
      | true =>
        have V : (rqE [q0, q1, q2, q3, q4, q5, q6, q7, q8, q9, q10, q11, q12]) = (4) := by
          simp only [beq_iff_eq, beq_eq_false_iff_ne, ne_eq, bne_iff_ne, bne_eq_false_iff_eq, decide_eq_true_eq, decide_eq_false_iff_not, Bool.not_eq_true', Bool.not_eq_false', inR_iff, inR_fp, gt_iff_lt] at *
          rw [rq_ar]
          grind
        rw [V]
        refine evR_calls (I := noFacts) (v := .int .i64 (4)) (ctxIn_ok libC3_ok (eq_none _) fnsG_ok) (by kernel_rfl) Tryd.func13 rfl lps_nil (crq_001 q0 q1 q2 q3 q4 q5 q6 q7 q8 q9 q10 q11 q12) rfl (all2_R (.cons rfl .nil)) rfl w (Nat.zero_le _) (pickL_ok ?_ _)
        repeat' (first | exact cd_nil | refine cd_cons ?_ ?_)
        all_goals first | with_reducible rfl | with_reducible assumption | rfl | simp_all

      | false =>
        cases k3 : (!inR q6 1 4) with
        | true =>
          have V : (rqE [q0, q1, q2, q3, q4, q5, q6, q7, q8, q9, q10, q11, q12]) = (4) := by
            simp only [beq_iff_eq, beq_eq_false_iff_ne, ne_eq, bne_iff_ne, bne_eq_false_iff_eq, decide_eq_true_eq, decide_eq_false_iff_not, Bool.not_eq_true', Bool.not_eq_false', inR_iff, inR_fp, gt_iff_lt] at *
            rw [rq_ar]
            grind
          rw [V]
          refine evR_calls (I := noFacts) (v := .int .i64 (4)) (ctxIn_ok libC3_ok (eq_none _) fnsG_ok) (by kernel_rfl) Tryd.func13 rfl lps_nil (crq_0001 q0 q1 q2 q3 q4 q5 q6 q7 q8 q9 q10 q11 q12) rfl (all2_R (.cons rfl .nil)) rfl w (Nat.zero_le _) (pickL_ok ?_ _)
          repeat' (first | exact cd_nil | refine cd_cons ?_ ?_)
          all_goals first | with_reducible rfl | with_reducible assumption | rfl | simp_all

        | false =>
          cases k4 : (!decide (q6 > 1)) with
          | true =>
            cases k5 : (q7 != 0) with
            | true =>
              have k6 : ((3 : Int) != 0) = true := rfl
              have V : (rqE [q0, q1, q2, q3, q4, q5, q6, q7, q8, q9, q10, q11, q12]) = (3) := by
                simp only [beq_iff_eq, beq_eq_false_iff_ne, ne_eq, bne_iff_ne, bne_eq_false_iff_eq, decide_eq_true_eq, decide_eq_false_iff_not, Bool.not_eq_true', Bool.not_eq_false', inR_iff, inR_fp, gt_iff_lt] at *
                rw [rq_ar]
                grind
              rw [V]
              refine evR_calls (I := noFacts) (v := .int .i64 (3)) (ctxIn_ok libC3_ok (eq_none _) fnsG_ok) (by kernel_rfl) Tryd.func13 rfl lps_nil (crq_0000111 q0 q1 q2 q3 q4 q5 q6 q7 q8 q9 q10 q11 q12) rfl (all2_R (.cons rfl .nil)) rfl w (Nat.zero_le _) (pickL_ok ?_ _)
              repeat' (first | exact cd_nil | refine cd_cons ?_ ?_)
              all_goals first | with_reducible rfl | with_reducible assumption | rfl | simp_all

            | false =>
              cases k7 : (q8 != 0) with
              | true =>
                have k8 : ((3 : Int) != 0) = true := rfl
                have V : (rqE [q0, q1, q2, q3, q4, q5, q6, q7, q8, q9, q10, q11, q12]) = (3) := by
                  simp only [beq_iff_eq, beq_eq_false_iff_ne, ne_eq, bne_iff_ne, bne_eq_false_iff_eq, decide_eq_true_eq, decide_eq_false_iff_not, Bool.not_eq_true', Bool.not_eq_false', inR_iff, inR_fp, gt_iff_lt] at *
                  rw [rq_ar]
                  grind
                rw [V]
                refine evR_calls (I := noFacts) (v := .int .i64 (3)) (ctxIn_ok libC3_ok (eq_none _) fnsG_ok) (by kernel_rfl) Tryd.func13 rfl lps_nil (crq_00001011 q0 q1 q2 q3 q4 q5 q6 q7 q8 q9 q10 q11 q12) rfl (all2_R (.cons rfl .nil)) rfl w (Nat.zero_le _) (pickL_ok ?_ _)
                repeat' (first | exact cd_nil | refine cd_cons ?_ ?_)
                all_goals first | with_reducible rfl | with_reducible assumption | rfl | simp_all

              | false =>
                cases k9 : (decide (q6 > 1)) with
                | true =>
                  cases k10 : (!inR q7 1 64) with
                  | true =>
                    have k11 : ((4 : Int) != 0) = true := rfl
                    have V : (rqE [q0, q1, q2, q3, q4, q5, q6, q7, q8, q9, q10, q11, q12]) = (4) := by
                      simp only [beq_iff_eq, beq_eq_false_iff_ne, ne_eq, bne_iff_ne, bne_eq_false_iff_eq, decide_eq_true_eq, decide_eq_false_iff_not, Bool.not_eq_true', Bool.not_eq_false', inR_iff, inR_fp, gt_iff_lt] at *
                      rw [rq_ar]
                      grind
                    rw [V]
                    refine evR_calls (I := noFacts) (v := .int .i64 (4)) (ctxIn_ok libC3_ok (eq_none _) fnsG_ok) (by kernel_rfl) Tryd.func13 rfl lps_nil (crq_0000100111 q0 q1 q2 q3 q4 q5 q6 q7 q8 q9 q10 q11 q12) rfl (all2_R (.cons rfl .nil)) rfl w (Nat.zero_le _) (pickL_ok ?_ _)
                    repeat' (first | exact cd_nil | refine cd_cons ?_ ?_)
                    all_goals first | with_reducible rfl | with_reducible assumption | rfl | simp_all

                  | false =>
                    cases k12 : (!inR q8 q7 64) with
                    | true =>
                      have k13 : ((4 : Int) != 0) = true := rfl
                      have V : (rqE [q0, q1, q2, q3, q4, q5, q6, q7, q8, q9, q10, q11, q12]) = (4) := by
                        simp only [beq_iff_eq, beq_eq_false_iff_ne, ne_eq, bne_iff_ne, bne_eq_false_iff_eq, decide_eq_true_eq, decide_eq_false_iff_not, Bool.not_eq_true', Bool.not_eq_false', inR_iff, inR_fp, gt_iff_lt] at *
                        rw [rq_ar]
                        grind
                      rw [V]
                      refine evR_calls (I := noFacts) (v := .int .i64 (4)) (ctxIn_ok libC3_ok (eq_none _) fnsG_ok) (by kernel_rfl) Tryd.func13 rfl lps_nil (crq_00001001011 q0 q1 q2 q3 q4 q5 q6 q7 q8 q9 q10 q11 q12) rfl (all2_R (.cons rfl .nil)) rfl w (Nat.zero_le _) (pickL_ok ?_ _)
                      repeat' (first | exact cd_nil | refine cd_cons ?_ ?_)
                      all_goals first | with_reducible rfl | with_reducible assumption | rfl | simp_all

                    | false =>
                      have k14 : ((0 : Int) != 0) = false := rfl
                      cases k15 : (!inR q9 (-1073741824) 1073741824) with
                      | true =>
                        have V : (rqE [q0, q1, q2, q3, q4, q5, q6, q7, q8, q9, q10, q11, q12]) = (4) := by
                          simp only [beq_iff_eq, beq_eq_false_iff_ne, ne_eq, bne_iff_ne, bne_eq_false_iff_eq, decide_eq_true_eq, decide_eq_false_iff_not, Bool.not_eq_true', Bool.not_eq_false', inR_iff, inR_fp, gt_iff_lt] at *
                          rw [rq_ar]
                          grind
                        rw [V]
                        refine evR_calls (I := noFacts) (v := .int .i64 (4)) (ctxIn_ok libC3_ok (eq_none _) fnsG_ok) (by kernel_rfl) Tryd.func13 rfl lps_nil (crq_000010010001 q0 q1 q2 q3 q4 q5 q6 q7 q8 q9 q10 q11 q12) rfl (all2_R (.cons rfl .nil)) rfl w (Nat.zero_le _) (pickL_ok ?_ _)
                        repeat' (first | exact cd_nil | refine cd_cons ?_ ?_)
                        all_goals first | with_reducible rfl | with_reducible assumption | rfl | simp_all

                      | false =>
                        cases k16 : (!inR q10 (-1073741824) 1073741824) with
                        | true =>
                          have V : (rqE [q0, q1, q2, q3, q4, q5, q6, q7, q8, q9, q10, q11, q12]) = (4) := by
                            simp only [beq_iff_eq, beq_eq_false_iff_ne, ne_eq, bne_iff_ne, bne_eq_false_iff_eq, decide_eq_true_eq, decide_eq_false_iff_not, Bool.not_eq_true', Bool.not_eq_false', inR_iff, inR_fp, gt_iff_lt] at *
                            rw [rq_ar]
                            grind
                          rw [V]
                          refine evR_calls (I := noFacts) (v := .int .i64 (4)) (ctxIn_ok libC3_ok (eq_none _) fnsG_ok) (by kernel_rfl) Tryd.func13 rfl lps_nil (crq_0000100100001 q0 q1 q2 q3 q4 q5 q6 q7 q8 q9 q10 q11 q12) rfl (all2_R (.cons rfl .nil)) rfl w (Nat.zero_le _) (pickL_ok ?_ _)
                          repeat' (first | exact cd_nil | refine cd_cons ?_ ?_)
                          all_goals first | with_reducible rfl | with_reducible assumption | rfl | simp_all

                        | false =>
                          cases k17 : (!inR q11 0 4) with
                          | true =>
                            have V : (rqE [q0, q1, q2, q3, q4, q5, q6, q7, q8, q9, q10, q11, q12]) = (4) := by
                              simp only [beq_iff_eq, beq_eq_false_iff_ne, ne_eq, bne_iff_ne, bne_eq_false_iff_eq, decide_eq_true_eq, decide_eq_false_iff_not, Bool.not_eq_true', Bool.not_eq_false', inR_iff, inR_fp, gt_iff_lt] at *
                              rw [rq_ar]
                              grind
                            rw [V]
                            refine evR_calls (I := noFacts) (v := .int .i64 (4)) (ctxIn_ok libC3_ok (eq_none _) fnsG_ok) (by kernel_rfl) Tryd.func13 rfl lps_nil (crq_00001001000001 q0 q1 q2 q3 q4 q5 q6 q7 q8 q9 q10 q11 q12) rfl (all2_R (.cons rfl .nil)) rfl w (Nat.zero_le _) (pickL_ok ?_ _)
                            repeat' (first | exact cd_nil | refine cd_cons ?_ ?_)
                            all_goals first | with_reducible rfl | with_reducible assumption | rfl | simp_all

                          | false =>
                            cases k18 : (!inR q12 1 100) with
                            | true =>
                              have V : (rqE [q0, q1, q2, q3, q4, q5, q6, q7, q8, q9, q10, q11, q12]) = (4) := by
                                simp only [beq_iff_eq, beq_eq_false_iff_ne, ne_eq, bne_iff_ne, bne_eq_false_iff_eq, decide_eq_true_eq, decide_eq_false_iff_not, Bool.not_eq_true', Bool.not_eq_false', inR_iff, inR_fp, gt_iff_lt] at *
                                rw [rq_ar]
                                grind
                              rw [V]
                              refine evR_calls (I := noFacts) (v := .int .i64 (4)) (ctxIn_ok libC3_ok (eq_none _) fnsG_ok) (by kernel_rfl) Tryd.func13 rfl lps_nil (crq_000010010000001 q0 q1 q2 q3 q4 q5 q6 q7 q8 q9 q10 q11 q12) rfl (all2_R (.cons rfl .nil)) rfl w (Nat.zero_le _) (pickL_ok ?_ _)
                              repeat' (first | exact cd_nil | refine cd_cons ?_ ?_)
                              all_goals first | with_reducible rfl | with_reducible assumption | rfl | simp_all

                            | false =>
                              have V : (rqE [q0, q1, q2, q3, q4, q5, q6, q7, q8, q9, q10, q11, q12]) = (0) := by
                                simp only [beq_iff_eq, beq_eq_false_iff_ne, ne_eq, bne_iff_ne, bne_eq_false_iff_eq, decide_eq_true_eq, decide_eq_false_iff_not, Bool.not_eq_true', Bool.not_eq_false', inR_iff, inR_fp, gt_iff_lt] at *
                                rw [rq_ar]
                                grind
                              rw [V]
                              refine evR_calls (I := noFacts) (v := .int .i64 (0)) (ctxIn_ok libC3_ok (eq_none _) fnsG_ok) (by kernel_rfl) Tryd.func13 rfl lps_nil (crq_000010010000000 q0 q1 q2 q3 q4 q5 q6 q7 q8 q9 q10 q11 q12) rfl (all2_R (.cons rfl .nil)) rfl w (Nat.zero_le _) (pickL_ok ?_ _)
                              repeat' (first | exact cd_nil | refine cd_cons ?_ ?_)
                              all_goals first | with_reducible rfl | with_reducible assumption | rfl | simp_all

                | false =>
                  have k19 : ((0 : Int) != 0) = false := rfl
                  cases k20 : (!inR q9 (-1073741824) 1073741824) with
                  | true =>
                    have V : (rqE [q0, q1, q2, q3, q4, q5, q6, q7, q8, q9, q10, q11, q12]) = (4) := by
                      simp only [beq_iff_eq, beq_eq_false_iff_ne, ne_eq, bne_iff_ne, bne_eq_false_iff_eq, decide_eq_true_eq, decide_eq_false_iff_not, Bool.not_eq_true', Bool.not_eq_false', inR_iff, inR_fp, gt_iff_lt] at *
                      rw [rq_ar]
                      grind
                    rw [V]
                    refine evR_calls (I := noFacts) (v := .int .i64 (4)) (ctxIn_ok libC3_ok (eq_none _) fnsG_ok) (by kernel_rfl) Tryd.func13 rfl lps_nil (crq_0000100001 q0 q1 q2 q3 q4 q5 q6 q7 q8 q9 q10 q11 q12) rfl (all2_R (.cons rfl .nil)) rfl w (Nat.zero_le _) (pickL_ok ?_ _)
                    repeat' (first | exact cd_nil | refine cd_cons ?_ ?_)
                    all_goals first | with_reducible rfl | with_reducible assumption | rfl | simp_all

                  | false =>
                    cases k21 : (!inR q10 (-1073741824) 1073741824) with
                    | true =>
                      have V : (rqE [q0, q1, q2, q3, q4, q5, q6, q7, q8, q9, q10, q11, q12]) = (4) := by
                        simp only [beq_iff_eq, beq_eq_false_iff_ne, ne_eq, bne_iff_ne, bne_eq_false_iff_eq, decide_eq_true_eq, decide_eq_false_iff_not, Bool.not_eq_true', Bool.not_eq_false', inR_iff, inR_fp, gt_iff_lt] at *
                        rw [rq_ar]
                        grind
                      rw [V]
                      refine evR_calls (I := noFacts) (v := .int .i64 (4)) (ctxIn_ok libC3_ok (eq_none _) fnsG_ok) (by kernel_rfl) Tryd.func13 rfl lps_nil (crq_00001000001 q0 q1 q2 q3 q4 q5 q6 q7 q8 q9 q10 q11 q12) rfl (all2_R (.cons rfl .nil)) rfl w (Nat.zero_le _) (pickL_ok ?_ _)
                      repeat' (first | exact cd_nil | refine cd_cons ?_ ?_)
                      all_goals first | with_reducible rfl | with_reducible assumption | rfl | simp_all

                    | false =>
                      cases k22 : (!inR q11 0 4) with
                      | true =>
                        have V : (rqE [q0, q1, q2, q3, q4, q5, q6, q7, q8, q9, q10, q11, q12]) = (4) := by
                          simp only [beq_iff_eq, beq_eq_false_iff_ne, ne_eq, bne_iff_ne, bne_eq_false_iff_eq, decide_eq_true_eq, decide_eq_false_iff_not, Bool.not_eq_true', Bool.not_eq_false', inR_iff, inR_fp, gt_iff_lt] at *
                          rw [rq_ar]
                          grind
                        rw [V]
                        refine evR_calls (I := noFacts) (v := .int .i64 (4)) (ctxIn_ok libC3_ok (eq_none _) fnsG_ok) (by kernel_rfl) Tryd.func13 rfl lps_nil (crq_000010000001 q0 q1 q2 q3 q4 q5 q6 q7 q8 q9 q10 q11 q12) rfl (all2_R (.cons rfl .nil)) rfl w (Nat.zero_le _) (pickL_ok ?_ _)
                        repeat' (first | exact cd_nil | refine cd_cons ?_ ?_)
                        all_goals first | with_reducible rfl | with_reducible assumption | rfl | simp_all

                      | false =>
                        cases k23 : (!inR q12 1 100) with
                        | true =>
                          have V : (rqE [q0, q1, q2, q3, q4, q5, q6, q7, q8, q9, q10, q11, q12]) = (4) := by
                            simp only [beq_iff_eq, beq_eq_false_iff_ne, ne_eq, bne_iff_ne, bne_eq_false_iff_eq, decide_eq_true_eq, decide_eq_false_iff_not, Bool.not_eq_true', Bool.not_eq_false', inR_iff, inR_fp, gt_iff_lt] at *
                            rw [rq_ar]
                            grind
                          rw [V]
                          refine evR_calls (I := noFacts) (v := .int .i64 (4)) (ctxIn_ok libC3_ok (eq_none _) fnsG_ok) (by kernel_rfl) Tryd.func13 rfl lps_nil (crq_0000100000001 q0 q1 q2 q3 q4 q5 q6 q7 q8 q9 q10 q11 q12) rfl (all2_R (.cons rfl .nil)) rfl w (Nat.zero_le _) (pickL_ok ?_ _)
                          repeat' (first | exact cd_nil | refine cd_cons ?_ ?_)
                          all_goals first | with_reducible rfl | with_reducible assumption | rfl | simp_all

                        | false =>
                          have V : (rqE [q0, q1, q2, q3, q4, q5, q6, q7, q8, q9, q10, q11, q12]) = (0) := by
                            simp only [beq_iff_eq, beq_eq_false_iff_ne, ne_eq, bne_iff_ne, bne_eq_false_iff_eq, decide_eq_true_eq, decide_eq_false_iff_not, Bool.not_eq_true', Bool.not_eq_false', inR_iff, inR_fp, gt_iff_lt] at *
                            rw [rq_ar]
                            grind
                          rw [V]
                          refine evR_calls (I := noFacts) (v := .int .i64 (0)) (ctxIn_ok libC3_ok (eq_none _) fnsG_ok) (by kernel_rfl) Tryd.func13 rfl lps_nil (crq_0000100000000 q0 q1 q2 q3 q4 q5 q6 q7 q8 q9 q10 q11 q12) rfl (all2_R (.cons rfl .nil)) rfl w (Nat.zero_le _) (pickL_ok ?_ _)
                          repeat' (first | exact cd_nil | refine cd_cons ?_ ?_)
                          all_goals first | with_reducible rfl | with_reducible assumption | rfl | simp_all

          | false =>
            cases k24 : (decide (q6 > 1)) with
            | true =>
              cases k25 : (!inR q7 1 64) with
              | true =>
                have k26 : ((4 : Int) != 0) = true := rfl
                have V : (rqE [q0, q1, q2, q3, q4, q5, q6, q7, q8, q9, q10, q11, q12]) = (4) := by
                  simp only [beq_iff_eq, beq_eq_false_iff_ne, ne_eq, bne_iff_ne, bne_eq_false_iff_eq, decide_eq_true_eq, decide_eq_false_iff_not, Bool.not_eq_true', Bool.not_eq_false', inR_iff, inR_fp, gt_iff_lt] at *
                  rw [rq_ar]
                  grind
                rw [V]
                refine evR_calls (I := noFacts) (v := .int .i64 (4)) (ctxIn_ok libC3_ok (eq_none _) fnsG_ok) (by kernel_rfl) Tryd.func13 rfl lps_nil (crq_00000111 q0 q1 q2 q3 q4 q5 q6 q7 q8 q9 q10 q11 q12) rfl (all2_R (.cons rfl .nil)) rfl w (Nat.zero_le _) (pickL_ok ?_ _)
                repeat' (first | exact cd_nil | refine cd_cons ?_ ?_)
                all_goals first | with_reducible rfl | with_reducible assumption | rfl | simp_all

              | false =>
                cases k27 : (!inR q8 q7 64) with
                | true =>
                  have k28 : ((4 : Int) != 0) = true := rfl
                  have V : (rqE [q0, q1, q2, q3, q4, q5, q6, q7, q8, q9, q10, q11, q12]) = (4) := by
                    simp only [beq_iff_eq, beq_eq_false_iff_ne, ne_eq, bne_iff_ne, bne_eq_false_iff_eq, decide_eq_true_eq, decide_eq_false_iff_not, Bool.not_eq_true', Bool.not_eq_false', inR_iff, inR_fp, gt_iff_lt] at *
                    rw [rq_ar]
                    grind
                  rw [V]
                  refine evR_calls (I := noFacts) (v := .int .i64 (4)) (ctxIn_ok libC3_ok (eq_none _) fnsG_ok) (by kernel_rfl) Tryd.func13 rfl lps_nil (crq_000001011 q0 q1 q2 q3 q4 q5 q6 q7 q8 q9 q10 q11 q12) rfl (all2_R (.cons rfl .nil)) rfl w (Nat.zero_le _) (pickL_ok ?_ _)
                  repeat' (first | exact cd_nil | refine cd_cons ?_ ?_)
                  all_goals first | with_reducible rfl | with_reducible assumption | rfl | simp_all

                | false =>
                  have k29 : ((0 : Int) != 0) = false := rfl
                  cases k30 : (!inR q9 (-1073741824) 1073741824) with
                  | true =>
                    have V : (rqE [q0, q1, q2, q3, q4, q5, q6, q7, q8, q9, q10, q11, q12]) = (4) := by
                      simp only [beq_iff_eq, beq_eq_false_iff_ne, ne_eq, bne_iff_ne, bne_eq_false_iff_eq, decide_eq_true_eq, decide_eq_false_iff_not, Bool.not_eq_true', Bool.not_eq_false', inR_iff, inR_fp, gt_iff_lt] at *
                      rw [rq_ar]
                      grind
                    rw [V]
                    refine evR_calls (I := noFacts) (v := .int .i64 (4)) (ctxIn_ok libC3_ok (eq_none _) fnsG_ok) (by kernel_rfl) Tryd.func13 rfl lps_nil (crq_0000010001 q0 q1 q2 q3 q4 q5 q6 q7 q8 q9 q10 q11 q12) rfl (all2_R (.cons rfl .nil)) rfl w (Nat.zero_le _) (pickL_ok ?_ _)
                    repeat' (first | exact cd_nil | refine cd_cons ?_ ?_)
                    all_goals first | with_reducible rfl | with_reducible assumption | rfl | simp_all

                  | false =>
                    cases k31 : (!inR q10 (-1073741824) 1073741824) with
                    | true =>
                      have V : (rqE [q0, q1, q2, q3, q4, q5, q6, q7, q8, q9, q10, q11, q12]) = (4) := by
                        simp only [beq_iff_eq, beq_eq_false_iff_ne, ne_eq, bne_iff_ne, bne_eq_false_iff_eq, decide_eq_true_eq, decide_eq_false_iff_not, Bool.not_eq_true', Bool.not_eq_false', inR_iff, inR_fp, gt_iff_lt] at *
                        rw [rq_ar]
                        grind
                      rw [V]
                      refine evR_calls (I := noFacts) (v := .int .i64 (4)) (ctxIn_ok libC3_ok (eq_none _) fnsG_ok) (by kernel_rfl) Tryd.func13 rfl lps_nil (crq_00000100001 q0 q1 q2 q3 q4 q5 q6 q7 q8 q9 q10 q11 q12) rfl (all2_R (.cons rfl .nil)) rfl w (Nat.zero_le _) (pickL_ok ?_ _)
                      repeat' (first | exact cd_nil | refine cd_cons ?_ ?_)
                      all_goals first | with_reducible rfl | with_reducible assumption | rfl | simp_all

                    | false =>
                      cases k32 : (!inR q11 0 4) with
                      | true =>
                        have V : (rqE [q0, q1, q2, q3, q4, q5, q6, q7, q8, q9, q10, q11, q12]) = (4) := by
                          simp only [beq_iff_eq, beq_eq_false_iff_ne, ne_eq, bne_iff_ne, bne_eq_false_iff_eq, decide_eq_true_eq, decide_eq_false_iff_not, Bool.not_eq_true', Bool.not_eq_false', inR_iff, inR_fp, gt_iff_lt] at *
                          rw [rq_ar]
                          grind
                        rw [V]
                        refine evR_calls (I := noFacts) (v := .int .i64 (4)) (ctxIn_ok libC3_ok (eq_none _) fnsG_ok) (by kernel_rfl) Tryd.func13 rfl lps_nil (crq_000001000001 q0 q1 q2 q3 q4 q5 q6 q7 q8 q9 q10 q11 q12) rfl (all2_R (.cons rfl .nil)) rfl w (Nat.zero_le _) (pickL_ok ?_ _)
                        repeat' (first | exact cd_nil | refine cd_cons ?_ ?_)
                        all_goals first | with_reducible rfl | with_reducible assumption | rfl | simp_all

                      | false =>
                        cases k33 : (!inR q12 1 100) with
                        | true =>
                          have V : (rqE [q0, q1, q2, q3, q4, q5, q6, q7, q8, q9, q10, q11, q12]) = (4) := by
                            simp only [beq_iff_eq, beq_eq_false_iff_ne, ne_eq, bne_iff_ne, bne_eq_false_iff_eq, decide_eq_true_eq, decide_eq_false_iff_not, Bool.not_eq_true', Bool.not_eq_false', inR_iff, inR_fp, gt_iff_lt] at *
                            rw [rq_ar]
                            grind
                          rw [V]
                          refine evR_calls (I := noFacts) (v := .int .i64 (4)) (ctxIn_ok libC3_ok (eq_none _) fnsG_ok) (by kernel_rfl) Tryd.func13 rfl lps_nil (crq_0000010000001 q0 q1 q2 q3 q4 q5 q6 q7 q8 q9 q10 q11 q12) rfl (all2_R (.cons rfl .nil)) rfl w (Nat.zero_le _) (pickL_ok ?_ _)
                          repeat' (first | exact cd_nil | refine cd_cons ?_ ?_)
                          all_goals first | with_reducible rfl | with_reducible assumption | rfl | simp_all

                        | false =>
                          have V : (rqE [q0, q1, q2, q3, q4, q5, q6, q7, q8, q9, q10, q11, q12]) = (0) := by
                            simp only [beq_iff_eq, beq_eq_false_iff_ne, ne_eq, bne_iff_ne, bne_eq_false_iff_eq, decide_eq_true_eq, decide_eq_false_iff_not, Bool.not_eq_true', Bool.not_eq_false', inR_iff, inR_fp, gt_iff_lt] at *
                            rw [rq_ar]
                            grind
                          rw [V]
                          refine evR_calls (I := noFacts) (v := .int .i64 (0)) (ctxIn_ok libC3_ok (eq_none _) fnsG_ok) (by kernel_rfl) Tryd.func13 rfl lps_nil (crq_0000010000000 q0 q1 q2 q3 q4 q5 q6 q7 q8 q9 q10 q11 q12) rfl (all2_R (.cons rfl .nil)) rfl w (Nat.zero_le _) (pickL_ok ?_ _)
                          repeat' (first | exact cd_nil | refine cd_cons ?_ ?_)
                          all_goals first | with_reducible rfl | with_reducible assumption | rfl | simp_all

            | false =>
              have k34 : ((0 : Int) != 0) = false := rfl
              cases k35 : (!inR q9 (-1073741824) 1073741824) with
              | true =>
                have V : (rqE [q0, q1, q2, q3, q4, q5, q6, q7, q8, q9, q10, q11, q12]) = (4) := by
                  simp only [beq_iff_eq, beq_eq_false_iff_ne, ne_eq, bne_iff_ne, bne_eq_false_iff_eq, decide_eq_true_eq, decide_eq_false_iff_not, Bool.not_eq_true', Bool.not_eq_false', inR_iff, inR_fp, gt_iff_lt] at *
                  rw [rq_ar]
                  grind
                rw [V]
                refine evR_calls (I := noFacts) (v := .int .i64 (4)) (ctxIn_ok libC3_ok (eq_none _) fnsG_ok) (by kernel_rfl) Tryd.func13 rfl lps_nil (crq_00000001 q0 q1 q2 q3 q4 q5 q6 q7 q8 q9 q10 q11 q12) rfl (all2_R (.cons rfl .nil)) rfl w (Nat.zero_le _) (pickL_ok ?_ _)
                repeat' (first | exact cd_nil | refine cd_cons ?_ ?_)
                all_goals first | with_reducible rfl | with_reducible assumption | rfl | simp_all

              | false =>
                cases k36 : (!inR q10 (-1073741824) 1073741824) with
                | true =>
                  have V : (rqE [q0, q1, q2, q3, q4, q5, q6, q7, q8, q9, q10, q11, q12]) = (4) := by
                    simp only [beq_iff_eq, beq_eq_false_iff_ne, ne_eq, bne_iff_ne, bne_eq_false_iff_eq, decide_eq_true_eq, decide_eq_false_iff_not, Bool.not_eq_true', Bool.not_eq_false', inR_iff, inR_fp, gt_iff_lt] at *
                    rw [rq_ar]
                    grind
                  rw [V]
                  refine evR_calls (I := noFacts) (v := .int .i64 (4)) (ctxIn_ok libC3_ok (eq_none _) fnsG_ok) (by kernel_rfl) Tryd.func13 rfl lps_nil (crq_000000001 q0 q1 q2 q3 q4 q5 q6 q7 q8 q9 q10 q11 q12) rfl (all2_R (.cons rfl .nil)) rfl w (Nat.zero_le _) (pickL_ok ?_ _)
                  repeat' (first | exact cd_nil | refine cd_cons ?_ ?_)
                  all_goals first | with_reducible rfl | with_reducible assumption | rfl | simp_all

                | false =>
                  cases k37 : (!inR q11 0 4) with
                  | true =>
                    have V : (rqE [q0, q1, q2, q3, q4, q5, q6, q7, q8, q9, q10, q11, q12]) = (4) := by
                      simp only [beq_iff_eq, beq_eq_false_iff_ne, ne_eq, bne_iff_ne, bne_eq_false_iff_eq, decide_eq_true_eq, decide_eq_false_iff_not, Bool.not_eq_true', Bool.not_eq_false', inR_iff, inR_fp, gt_iff_lt] at *
                      rw [rq_ar]
                      grind
                    rw [V]
                    refine evR_calls (I := noFacts) (v := .int .i64 (4)) (ctxIn_ok libC3_ok (eq_none _) fnsG_ok) (by kernel_rfl) Tryd.func13 rfl lps_nil (crq_0000000001 q0 q1 q2 q3 q4 q5 q6 q7 q8 q9 q10 q11 q12) rfl (all2_R (.cons rfl .nil)) rfl w (Nat.zero_le _) (pickL_ok ?_ _)
                    repeat' (first | exact cd_nil | refine cd_cons ?_ ?_)
                    all_goals first | with_reducible rfl | with_reducible assumption | rfl | simp_all

                  | false =>
                    cases k38 : (!inR q12 1 100) with
                    | true =>
                      have V : (rqE [q0, q1, q2, q3, q4, q5, q6, q7, q8, q9, q10, q11, q12]) = (4) := by
                        simp only [beq_iff_eq, beq_eq_false_iff_ne, ne_eq, bne_iff_ne, bne_eq_false_iff_eq, decide_eq_true_eq, decide_eq_false_iff_not, Bool.not_eq_true', Bool.not_eq_false', inR_iff, inR_fp, gt_iff_lt] at *
                        rw [rq_ar]
                        grind
                      rw [V]
                      refine evR_calls (I := noFacts) (v := .int .i64 (4)) (ctxIn_ok libC3_ok (eq_none _) fnsG_ok) (by kernel_rfl) Tryd.func13 rfl lps_nil (crq_00000000001 q0 q1 q2 q3 q4 q5 q6 q7 q8 q9 q10 q11 q12) rfl (all2_R (.cons rfl .nil)) rfl w (Nat.zero_le _) (pickL_ok ?_ _)
                      repeat' (first | exact cd_nil | refine cd_cons ?_ ?_)
                      all_goals first | with_reducible rfl | with_reducible assumption | rfl | simp_all

                    | false =>
                      have V : (rqE [q0, q1, q2, q3, q4, q5, q6, q7, q8, q9, q10, q11, q12]) = (0) := by
                        simp only [beq_iff_eq, beq_eq_false_iff_ne, ne_eq, bne_iff_ne, bne_eq_false_iff_eq, decide_eq_true_eq, decide_eq_false_iff_not, Bool.not_eq_true', Bool.not_eq_false', inR_iff, inR_fp, gt_iff_lt] at *
                        rw [rq_ar]
                        grind
                      rw [V]
                      refine evR_calls (I := noFacts) (v := .int .i64 (0)) (ctxIn_ok libC3_ok (eq_none _) fnsG_ok) (by kernel_rfl) Tryd.func13 rfl lps_nil (crq_00000000000 q0 q1 q2 q3 q4 q5 q6 q7 q8 q9 q10 q11 q12) rfl (all2_R (.cons rfl .nil)) rfl w (Nat.zero_le _) (pickL_ok ?_ _)
                      repeat' (first | exact cd_nil | refine cd_cons ?_ ?_)
                      all_goals first | with_reducible rfl | with_reducible assumption | rfl | simp_all
set_option maxRecDepth 100000 in
theorem rrf_1 (q0 : Int) (q1 : Int) (q2 : Int) (q3 : Int) (q4 : Int) (q5 : Int) (q6 : Int) (q7 : Int) (q8 : Int) (q9 : Int) (q10 : Int) (q11 : Int) (q12 : Int) : evR (ctxOf Tryd.prog noFacts (fun _ => false) libC4) Tryd.f14 [(.w (.agg [.int .i64 q0, .int .i64 q1, .int .i64 q2, .int .i64 q3, .int .i64 q4, .int .i64 q5, .int .i64 q6, .int .i64 q7, .int .i64 q8, .int .i64 q9, .int .i64 q10, .int .i64 q11, .int .i64 q12]))] [true] = some (AV.w (AW.one (AC.int IntKind.i64 4)), (pickL [(!inR q0 1 999999, true)] [0])) := by kernel_rfl
set_option maxRecDepth 100000 in
theorem rrf_01 (q0 : Int) (q1 : Int) (q2 : Int) (q3 : Int) (q4 : Int) (q5 : Int) (q6 : Int) (q7 : Int) (q8 : Int) (q9 : Int) (q10 : Int) (q11 : Int) (q12 : Int) : evR (ctxOf Tryd.prog noFacts (fun _ => false) libC4) Tryd.f14 [(.w (.agg [.int .i64 q0, .int .i64 q1, .int .i64 q2, .int .i64 q3, .int .i64 q4, .int .i64 q5, .int .i64 q6, .int .i64 q7, .int .i64 q8, .int .i64 q9, .int .i64 q10, .int .i64 q11, .int .i64 q12]))] [false, true] = some (AV.w (AW.one (AC.int IntKind.i64 3)), (pickL [(!inR q0 1 999999, false), (!vE { x := q2, y := q3, z := q4 } == 0, true)] [0, 1])) := by kernel_rfl
set_option maxRecDepth 100000 in
theorem rrf_001 (q0 : Int) (q1 : Int) (q2 : Int) (q3 : Int) (q4 : Int) (q5 : Int) (q6 : Int) (q7 : Int) (q8 : Int) (q9 : Int) (q10 : Int) (q11 : Int) (q12 : Int) : evR (ctxOf Tryd.prog noFacts (fun _ => false) libC4) Tryd.f14 [(.w (.agg [.int .i64 q0, .int .i64 q1, .int .i64 q2, .int .i64 q3, .int .i64 q4, .int .i64 q5, .int .i64 q6, .int .i64 q7, .int .i64 q8, .int .i64 q9, .int .i64 q10, .int .i64 q11, .int .i64 q12]))] [false, false, true] = some (AV.w (AW.one (AC.int IntKind.i64 4)), (pickL [(!inR q0 1 999999, false), (!vE { x := q2, y := q3, z := q4 } == 0, false), (!inR q5 1 8, true), (true, true)] [0, 1, 2, 2, 2, 2, 2, 3])) := by kernel_rfl
set_option maxRecDepth 100000 in
theorem rrf_0001 (q0 : Int) (q1 : Int) (q2 : Int) (q3 : Int) (q4 : Int) (q5 : Int) (q6 : Int) (q7 : Int) (q8 : Int) (q9 : Int) (q10 : Int) (q11 : Int) (q12 : Int) : evR (ctxOf Tryd.prog noFacts (fun _ => false) libC4) Tryd.f14 [(.w (.agg [.int .i64 q0, .int .i64 q1, .int .i64 q2, .int .i64 q3, .int .i64 q4, .int .i64 q5, .int .i64 q6, .int .i64 q7, .int .i64 q8, .int .i64 q9, .int .i64 q10, .int .i64 q11, .int .i64 q12]))] [false, false, false, true] = some (AV.w (AW.one (AC.int IntKind.i64 4)), (pickL [(!inR q0 1 999999, false), (!vE { x := q2, y := q3, z := q4 } == 0, false), (!inR q5 1 8, false), (!inR q6 1 4, true)] [0, 1, 2, 2, 2, 2, 2, 3])) := by kernel_rfl
set_option maxRecDepth 100000 in
theorem rrf_000011 (q0 : Int) (q1 : Int) (q2 : Int) (q3 : Int) (q4 : Int) (q5 : Int) (q6 : Int) (q7 : Int) (q8 : Int) (q9 : Int) (q10 : Int) (q11 : Int) (q12 : Int) : evR (ctxOf Tryd.prog noFacts (fun _ => false) libC4) Tryd.f14 [(.w (.agg [.int .i64 q0, .int .i64 q1, .int .i64 q2, .int .i64 q3, .int .i64 q4, .int .i64 q5, .int .i64 q6, .int .i64 q7, .int .i64 q8, .int .i64 q9, .int .i64 q10, .int .i64 q11, .int .i64 q12]))] [false, false, false, false, true, true] = some (AV.w (AW.one (AC.int IntKind.i64 3)), (pickL [(!inR q0 1 999999, false), (!vE { x := q2, y := q3, z := q4 } == 0, false), (!inR q5 1 8, false), (!inR q6 1 4, false), (q6 == 1, true), (q7 != 0, true), (true, true)] [0, 1, 2, 2, 2, 2, 2, 3, 4, 4, 4, 4, 5, 5, 5, 4, 5, 4, 6])) := by kernel_rfl
set_option maxRecDepth 100000 in
theorem rrf_0000101 (q0 : Int) (q1 : Int) (q2 : Int) (q3 : Int) (q4 : Int) (q5 : Int) (q6 : Int) (q7 : Int) (q8 : Int) (q9 : Int) (q10 : Int) (q11 : Int) (q12 : Int) : evR (ctxOf Tryd.prog noFacts (fun _ => false) libC4) Tryd.f14 [(.w (.agg [.int .i64 q0, .int .i64 q1, .int .i64 q2, .int .i64 q3, .int .i64 q4, .int .i64 q5, .int .i64 q6, .int .i64 q7, .int .i64 q8, .int .i64 q9, .int .i64 q10, .int .i64 q11, .int .i64 q12]))] [false, false, false, false, true, false, true] = some (AV.w (AW.one (AC.int IntKind.i64 3)), (pickL [(!inR q0 1 999999, false), (!vE { x := q2, y := q3, z := q4 } == 0, false), (!inR q5 1 8, false), (!inR q6 1 4, false), (q6 == 1, true), (q7 != 0, false), (q8 != 0, true)] [0, 1, 2, 2, 2, 2, 2, 3, 4, 4, 4, 4, 5, 5, 5, 4, 5, 4, 6])) := by kernel_rfl
set_option maxRecDepth 100000 in
theorem rrf_000010011 (q0 : Int) (q1 : Int) (q2 : Int) (q3 : Int) (q4 : Int) (q5 : Int) (q6 : Int) (q7 : Int) (q8 : Int) (q9 : Int) (q10 : Int) (q11 : Int) (q12 : Int) : evR (ctxOf Tryd.prog noFacts (fun _ => false) libC4) Tryd.f14 [(.w (.agg [.int .i64 q0, .int .i64 q1, .int .i64 q2, .int .i64 q3, .int .i64 q4, .int .i64 q5, .int .i64 q6, .int .i64 q7, .int .i64 q8, .int .i64 q9, .int .i64 q10, .int .i64 q11, .int .i64 q12]))] [false, false, false, false, true, false, false, true, true] = some (AV.w (AW.one (AC.int IntKind.i64 4)), (pickL [(!inR q0 1 999999, false), (!vE { x := q2, y := q3, z := q4 } == 0, false), (!inR q5 1 8, false), (!inR q6 1 4, false), (q6 == 1, true), (q7 != 0, false), (q8 != 0, false), (decide (q6 > 1), true), (!inR q7 1 64, true), (true, true)] [0, 1, 2, 2, 2, 2, 2, 3, 4, 4, 4, 4, 5, 5, 5, 4, 5, 4, 6, 7, 7, 7, 7, 7, 8, 8, 8, 8, 8, 8, 7, 8, 7, 9])) := by kernel_rfl
set_option maxRecDepth 100000 in
theorem rrf_0000100101 (q0 : Int) (q1 : Int) (q2 : Int) (q3 : Int) (q4 : Int) (q5 : Int) (q6 : Int) (q7 : Int) (q8 : Int) (q9 : Int) (q10 : Int) (q11 : Int) (q12 : Int) : evR (ctxOf Tryd.prog noFacts (fun _ => false) libC4) Tryd.f14 [(.w (.agg [.int .i64 q0, .int .i64 q1, .int .i64 q2, .int .i64 q3, .int .i64 q4, .int .i64 q5, .int .i64 q6, .int .i64 q7, .int .i64 q8, .int .i64 q9, .int .i64 q10, .int .i64 q11, .int .i64 q12]))] [false, false, false, false, true, false, false, true, false, true] = some (AV.w (AW.one (AC.int IntKind.i64 4)), (pickL [(!inR q0 1 999999, false), (!vE { x := q2, y := q3, z := q4 } == 0, false), (!inR q5 1 8, false), (!inR q6 1 4, false), (q6 == 1, true), (q7 != 0, false), (q8 != 0, false), (decide (q6 > 1), true), (!inR q7 1 64, false), (!inR q8 q7 64, true)] [0, 1, 2, 2, 2, 2, 2, 3, 4, 4, 4, 4, 5, 5, 5, 4, 5, 4, 6, 7, 7, 7, 7, 7, 8, 8, 8, 8, 8, 8, 7, 8, 7, 9])) := by kernel_rfl
set_option maxRecDepth 100000 in
theorem rrf_00001001001 (q0 : Int) (q1 : Int) (q2 : Int) (q3 : Int) (q4 : Int) (q5 : Int) (q6 : Int) (q7 : Int) (q8 : Int) (q9 : Int) (q10 : Int) (q11 : Int) (q12 : Int) : evR (ctxOf Tryd.prog noFacts (fun _ => false) libC4) Tryd.f14 [(.w (.agg [.int .i64 q0, .int .i64 q1, .int .i64 q2, .int .i64 q3, .int .i64 q4, .int .i64 q5, .int .i64 q6, .int .i64 q7, .int .i64 q8, .int .i64 q9, .int .i64 q10, .int .i64 q11, .int .i64 q12]))] [false, false, false, false, true, false, false, true, false, false, true] = some (AV.w (AW.one (AC.int IntKind.i64 4)), (pickL [(!inR q0 1 999999, false), (!vE { x := q2, y := q3, z := q4 } == 0, false), (!inR q5 1 8, false), (!inR q6 1 4, false), (q6 == 1, true), (q7 != 0, false), (q8 != 0, false), (decide (q6 > 1), true), (!inR q7 1 64, false), (!inR q8 q7 64, false), (decide (q9 < -1073741824), true), (true, true)] [0, 1, 2, 2, 2, 2, 2, 3, 4, 4, 4, 4, 5, 5, 5, 4, 5, 4, 6, 7, 7, 7, 7, 7, 8, 8, 8, 8, 8, 8, 7, 8, 7, 9, 10, 10, 10, 10, 11, 11, 11, 11, 11, 11, 11, 11, 11])) := by kernel_rfl
set_option maxRecDepth 100000 in
theorem rrf_000010010001 (q0 : Int) (q1 : Int) (q2 : Int) (q3 : Int) (q4 : Int) (q5 : Int) (q6 : Int) (q7 : Int) (q8 : Int) (q9 : Int) (q10 : Int) (q11 : Int) (q12 : Int) : evR (ctxOf Tryd.prog noFacts (fun _ => false) libC4) Tryd.f14 [(.w (.agg [.int .i64 q0, .int .i64 q1, .int .i64 q2, .int .i64 q3, .int .i64 q4, .int .i64 q5, .int .i64 q6, .int .i64 q7, .int .i64 q8, .int .i64 q9, .int .i64 q10, .int .i64 q11, .int .i64 q12]))] [false, false, false, false, true, false, false, true, false, false, false, true] = some (AV.w (AW.one (AC.int IntKind.i64 4)), (pickL [(!inR q0 1 999999, false), (!vE { x := q2, y := q3, z := q4 } == 0, false), (!inR q5 1 8, false), (!inR q6 1 4, false), (q6 == 1, true), (q7 != 0, false), (q8 != 0, false), (decide (q6 > 1), true), (!inR q7 1 64, false), (!inR q8 q7 64, false), (decide (q9 < -1073741824), false), (decide (q9 > 1073741824), true), (true, true)] [0, 1, 2, 2, 2, 2, 2, 3, 4, 4, 4, 4, 5, 5, 5, 4, 5, 4, 6, 7, 7, 7, 7, 7, 8, 8, 8, 8, 8, 8, 7, 8, 7, 9, 10, 10, 10, 10, 11, 11, 11, 11, 12, 12, 12, 12, 12])) := by kernel_rfl
set_option maxRecDepth 100000 in
theorem rrf_0000100100001 (q0 : Int) (q1 : Int) (q2 : Int) (q3 : Int) (q4 : Int) (q5 : Int) (q6 : Int) (q7 : Int) (q8 : Int) (q9 : Int) (q10 : Int) (q11 : Int) (q12 : Int) : evR (ctxOf Tryd.prog noFacts (fun _ => false) libC4) Tryd.f14 [(.w (.agg [.int .i64 q0, .int .i64 q1, .int .i64 q2, .int .i64 q3, .int .i64 q4, .int .i64 q5, .int .i64 q6, .int .i64 q7, .int .i64 q8, .int .i64 q9, .int .i64 q10, .int .i64 q11, .int .i64 q12]))] [false, false, false, false, true, false, false, true, false, false, false, false, true] = some (AV.w (AW.one (AC.int IntKind.i64 4)), (pickL [(!inR q0 1 999999, false), (!vE { x := q2, y := q3, z := q4 } == 0, false), (!inR q5 1 8, false), (!inR q6 1 4, false), (q6 == 1, true), (q7 != 0, false), (q8 != 0, false), (decide (q6 > 1), true), (!inR q7 1 64, false), (!inR q8 q7 64, false), (decide (q9 < -1073741824), false), (decide (q9 > 1073741824), false), (decide (q10 < -1073741824), true), (true, true)] [0, 1, 2, 2, 2, 2, 2, 3, 4, 4, 4, 4, 5, 5, 5, 4, 5, 4, 6, 7, 7, 7, 7, 7, 8, 8, 8, 8, 8, 8, 7, 8, 7, 9, 10, 10, 10, 10, 11, 11, 11, 11, 12, 12, 12, 12, 13])) := by kernel_rfl
set_option maxRecDepth 100000 in
theorem rrf_00001001000001 (q0 : Int) (q1 : Int) (q2 : Int) (q3 : Int) (q4 : Int) (q5 : Int) (q6 : Int) (q7 : Int) (q8 : Int) (q9 : Int) (q10 : Int) (q11 : Int) (q12 : Int) : evR (ctxOf Tryd.prog noFacts (fun _ => false) libC4) Tryd.f14 [(.w (.agg [.int .i64 q0, .int .i64 q1, .int .i64 q2, .int .i64 q3, .int .i64 q4, .int .i64 q5, .int .i64 q6, .int .i64 q7, .int .i64 q8, .int .i64 q9, .int .i64 q10, .int .i64 q11, .int .i64 q12]))] [false, false, false, false, true, false, false, true, false, false, false, false, false, true] = some (AV.w (AW.one (AC.int IntKind.i64 4)), (pickL [(!inR q0 1 999999, false), (!vE { x := q2, y := q3, z := q4 } == 0, false), (!inR q5 1 8, false), (!inR q6 1 4, false), (q6 == 1, true), (q7 != 0, false), (q8 != 0, false), (decide (q6 > 1), true), (!inR q7 1 64, false), (!inR q8 q7 64, false), (decide (q9 < -1073741824), false), (decide (q9 > 1073741824), false), (decide (q10 < -1073741824), false), (decide (q10 > 1073741824), true)] [0, 1, 2, 2, 2, 2, 2, 3, 4, 4, 4, 4, 5, 5, 5, 4, 5, 4, 6, 7, 7, 7, 7, 7, 8, 8, 8, 8, 8, 8, 7, 8, 7, 9, 10, 10, 10, 10, 11, 11, 11, 11, 12, 12, 12, 12, 13])) := by kernel_rfl
set_option maxRecDepth 100000 in
theorem rrf_000010010000001 (q0 : Int) (q1 : Int) (q2 : Int) (q3 : Int) (q4 : Int) (q5 : Int) (q6 : Int) (q7 : Int) (q8 : Int) (q9 : Int) (q10 : Int) (q11 : Int) (q12 : Int) : evR (ctxOf Tryd.prog noFacts (fun _ => false) libC4) Tryd.f14 [(.w (.agg [.int .i64 q0, .int .i64 q1, .int .i64 q2, .int .i64 q3, .int .i64 q4, .int .i64 q5, .int .i64 q6, .int .i64 q7, .int .i64 q8, .int .i64 q9, .int .i64 q10, .int .i64 q11, .int .i64 q12]))] [false, false, false, false, true, false, false, true, false, false, false, false, false, false, true] = some (AV.w (AW.one (AC.int IntKind.i64 4)), (pickL [(!inR q0 1 999999, false), (!vE { x := q2, y := q3, z := q4 } == 0, false), (!inR q5 1 8, false), (!inR q6 1 4, false), (q6 == 1, true), (q7 != 0, false), (q8 != 0, false), (decide (q6 > 1), true), (!inR q7 1 64, false), (!inR q8 q7 64, false), (decide (q9 < -1073741824), false), (decide (q9 > 1073741824), false), (decide (q10 < -1073741824), false), (decide (q10 > 1073741824), false), (!inR q11 0 4, true), (true, true)] [0, 1, 2, 2, 2, 2, 2, 3, 4, 4, 4, 4, 5, 5, 5, 4, 5, 4, 6, 7, 7, 7, 7, 7, 8, 8, 8, 8, 8, 8, 7, 8, 7, 9, 10, 10, 10, 10, 11, 11, 11, 11, 12, 12, 12, 12, 13, 14, 14, 14, 14, 14, 15])) := by kernel_rfl
set_option maxRecDepth 100000 in
theorem rrf_0000100100000001 (q0 : Int) (q1 : Int) (q2 : Int) (q3 : Int) (q4 : Int) (q5 : Int) (q6 : Int) (q7 : Int) (q8 : Int) (q9 : Int) (q10 : Int) (q11 : Int) (q12 : Int) : evR (ctxOf Tryd.prog noFacts (fun _ => false) libC4) Tryd.f14 [(.w (.agg [.int .i64 q0, .int .i64 q1, .int .i64 q2, .int .i64 q3, .int .i64 q4, .int .i64 q5, .int .i64 q6, .int .i64 q7, .int .i64 q8, .int .i64 q9, .int .i64 q10, .int .i64 q11, .int .i64 q12]))] [false, false, false, false, true, false, false, true, false, false, false, false, false, false, false, true] = some (AV.w (AW.one (AC.int IntKind.i64 4)), (pickL [(!inR q0 1 999999, false), (!vE { x := q2, y := q3, z := q4 } == 0, false), (!inR q5 1 8, false), (!inR q6 1 4, false), (q6 == 1, true), (q7 != 0, false), (q8 != 0, false), (decide (q6 > 1), true), (!inR q7 1 64, false), (!inR q8 q7 64, false), (decide (q9 < -1073741824), false), (decide (q9 > 1073741824), false), (decide (q10 < -1073741824), false), (decide (q10 > 1073741824), false), (!inR q11 0 4, false), (!inR q12 1 100, true)] [0, 1, 2, 2, 2, 2, 2, 3, 4, 4, 4, 4, 5, 5, 5, 4, 5, 4, 6, 7, 7, 7, 7, 7, 8, 8, 8, 8, 8, 8, 7, 8, 7, 9, 10, 10, 10, 10, 11, 11, 11, 11, 12, 12, 12, 12, 13, 14, 14, 14, 14, 14, 15])) := by kernel_rfl
set_option maxRecDepth 100000 in
theorem rrf_0000100100000000 (q0 : Int) (q1 : Int) (q2 : Int) (q3 : Int) (q4 : Int) (q5 : Int) (q6 : Int) (q7 : Int) (q8 : Int) (q9 : Int) (q10 : Int) (q11 : Int) (q12 : Int) : evR (ctxOf Tryd.prog noFacts (fun _ => false) libC4) Tryd.f14 [(.w (.agg [.int .i64 q0, .int .i64 q1, .int .i64 q2, .int .i64 q3, .int .i64 q4, .int .i64 q5, .int .i64 q6, .int .i64 q7, .int .i64 q8, .int .i64 q9, .int .i64 q10, .int .i64 q11, .int .i64 q12]))] [false, false, false, false, true, false, false, true, false, false, false, false, false, false, false, false] = some (AV.w (AW.one (AC.int IntKind.i64 0)), (pickL [(!inR q0 1 999999, false), (!vE { x := q2, y := q3, z := q4 } == 0, false), (!inR q5 1 8, false), (!inR q6 1 4, false), (q6 == 1, true), (q7 != 0, false), (q8 != 0, false), (decide (q6 > 1), true), (!inR q7 1 64, false), (!inR q8 q7 64, false), (decide (q9 < -1073741824), false), (decide (q9 > 1073741824), false), (decide (q10 < -1073741824), false), (decide (q10 > 1073741824), false), (!inR q11 0 4, false), (!inR q12 1 100, false)] [0, 1, 2, 2, 2, 2, 2, 3, 4, 4, 4, 4, 5, 5, 5, 4, 5, 4, 6, 7, 7, 7, 7, 7, 8, 8, 8, 8, 8, 8, 7, 8, 7, 9, 10, 10, 10, 10, 11, 11, 11, 11, 12, 12, 12, 12, 13, 14, 14, 14, 14, 14, 15])) := by kernel_rfl
set_option maxRecDepth 100000 in
theorem rrf_000010001 (q0 : Int) (q1 : Int) (q2 : Int) (q3 : Int) (q4 : Int) (q5 : Int) (q6 : Int) (q7 : Int) (q8 : Int) (q9 : Int) (q10 : Int) (q11 : Int) (q12 : Int) : evR (ctxOf Tryd.prog noFacts (fun _ => false) libC4) Tryd.f14 [(.w (.agg [.int .i64 q0, .int .i64 q1, .int .i64 q2, .int .i64 q3, .int .i64 q4, .int .i64 q5, .int .i64 q6, .int .i64 q7, .int .i64 q8, .int .i64 q9, .int .i64 q10, .int .i64 q11, .int .i64 q12]))] [false, false, false, false, true, false, false, false, true] = some (AV.w (AW.one (AC.int IntKind.i64 4)), (pickL [(!inR q0 1 999999, false), (!vE { x := q2, y := q3, z := q4 } == 0, false), (!inR q5 1 8, false), (!inR q6 1 4, false), (q6 == 1, true), (q7 != 0, false), (q8 != 0, false), (decide (q6 > 1), false), (false, false), (decide (q9 < -1073741824), true), (true, true)] [0, 1, 2, 2, 2, 2, 2, 3, 4, 4, 4, 4, 5, 5, 5, 4, 5, 4, 6, 7, 7, 7, 7, 7, 7, 7, 8, 9, 9, 9, 9, 10, 10, 10, 10, 10, 10, 10, 10, 10])) := by kernel_rfl
set_option maxRecDepth 100000 in
theorem rrf_0000100001 (q0 : Int) (q1 : Int) (q2 : Int) (q3 : Int) (q4 : Int) (q5 : Int) (q6 : Int) (q7 : Int) (q8 : Int) (q9 : Int) (q10 : Int) (q11 : Int) (q12 : Int) : evR (ctxOf Tryd.prog noFacts (fun _ => false) libC4) Tryd.f14 [(.w (.agg [.int .i64 q0, .int .i64 q1, .int .i64 q2, .int .i64 q3, .int .i64 q4, .int .i64 q5, .int .i64 q6, .int .i64 q7, .int .i64 q8, .int .i64 q9, .int .i64 q10, .int .i64 q11, .int .i64 q12]))] [false, false, false, false, true, false, false, false, false, true] = some (AV.w (AW.one (AC.int IntKind.i64 4)), (pickL [(!inR q0 1 999999, false), (!vE { x := q2, y := q3, z := q4 } == 0, false), (!inR q5 1 8, false), (!inR q6 1 4, false), (q6 == 1, true), (q7 != 0, false), (q8 != 0, false), (decide (q6 > 1), false), (false, false), (decide (q9 < -1073741824), false), (decide (q9 > 1073741824), true), (true, true)] [0, 1, 2, 2, 2, 2, 2, 3, 4, 4, 4, 4, 5, 5, 5, 4, 5, 4, 6, 7, 7, 7, 7, 7, 7, 7, 8, 9, 9, 9, 9, 10, 10, 10, 10, 11, 11, 11, 11, 11])) := by kernel_rfl
set_option maxRecDepth 100000 in
theorem rrf_00001000001 (q0 : Int) (q1 : Int) (q2 : Int) (q3 : Int) (q4 : Int) (q5 : Int) (q6 : Int) (q7 : Int) (q8 : Int) (q9 : Int) (q10 : Int) (q11 : Int) (q12 : Int) : evR (ctxOf Tryd.prog noFacts (fun _ => false) libC4) Tryd.f14 [(.w (.agg [.int .i64 q0, .int .i64 q1, .int .i64 q2, .int .i64 q3, .int .i64 q4, .int .i64 q5, .int .i64 q6, .int .i64 q7, .int .i64 q8, .int .i64 q9, .int .i64 q10, .int .i64 q11, .int .i64 q12]))] [false, false, false, false, true, false, false, false, false, false, true] = some (AV.w (AW.one (AC.int IntKind.i64 4)), (pickL [(!inR q0 1 999999, false), (!vE { x := q2, y := q3, z := q4 } == 0, false), (!inR q5 1 8, false), (!inR q6 1 4, false), (q6 == 1, true), (q7 != 0, false), (q8 != 0, false), (decide (q6 > 1), false), (false, false), (decide (q9 < -1073741824), false), (decide (q9 > 1073741824), false), (decide (q10 < -1073741824), true), (true, true)] [0, 1, 2, 2, 2, 2, 2, 3, 4, 4, 4, 4, 5, 5, 5, 4, 5, 4, 6, 7, 7, 7, 7, 7, 7, 7, 8, 9, 9, 9, 9, 10, 10, 10, 10, 11, 11, 11, 11, 12])) := by kernel_rfl
set_option maxRecDepth 100000 in
theorem rrf_000010000001 (q0 : Int) (q1 : Int) (q2 : Int) (q3 : Int) (q4 : Int) (q5 : Int) (q6 : Int) (q7 : Int) (q8 : Int) (q9 : Int) (q10 : Int) (q11 : Int) (q12 : Int) : evR (ctxOf Tryd.prog noFacts (fun _ => false) libC4) Tryd.f14 [(.w (.agg [.int .i64 q0, .int .i64 q1, .int .i64 q2, .int .i64 q3, .int .i64 q4, .int .i64 q5, .int .i64 q6, .int .i64 q7, .int .i64 q8, .int .i64 q9, .int .i64 q10, .int .i64 q11, .int .i64 q12]))] [false, false, false, false, true, false, false, false, false, false, false, true] = some (AV.w (AW.one (AC.int IntKind.i64 4)), (pickL [(!inR q0 1 999999, false), (!vE { x := q2, y := q3, z := q4 } == 0, false), (!inR q5 1 8, false), (!inR q6 1 4, false), (q6 == 1, true), (q7 != 0, false), (q8 != 0, false), (decide (q6 > 1), false), (false, false), (decide (q9 < -1073741824), false), (decide (q9 > 1073741824), false), (decide (q10 < -1073741824), false), (decide (q10 > 1073741824), true)] [0, 1, 2, 2, 2, 2, 2, 3, 4, 4, 4, 4, 5, 5, 5, 4, 5, 4, 6, 7, 7, 7, 7, 7, 7, 7, 8, 9, 9, 9, 9, 10, 10, 10, 10, 11, 11, 11, 11, 12])) := by kernel_rfl
set_option maxRecDepth 100000 in
theorem rrf_0000100000001 (q0 : Int) (q1 : Int) (q2 : Int) (q3 : Int) (q4 : Int) (q5 : Int) (q6 : Int) (q7 : Int) (q8 : Int) (q9 : Int) (q10 : Int) (q11 : Int) (q12 : Int) : evR (ctxOf Tryd.prog noFacts (fun _ => false) libC4) Tryd.f14 [(.w (.agg [.int .i64 q0, .int .i64 q1, .int .i64 q2, .int .i64 q3, .int .i64 q4, .int .i64 q5, .int .i64 q6, .int .i64 q7, .int .i64 q8, .int .i64 q9, .int .i64 q10, .int .i64 q11, .int .i64 q12]))] [false, false, false, false, true, false, false, false, false, false, false, false, true] = some (AV.w (AW.one (AC.int IntKind.i64 4)), (pickL [(!inR q0 1 999999, false), (!vE { x := q2, y := q3, z := q4 } == 0, false), (!inR q5 1 8, false), (!inR q6 1 4, false), (q6 == 1, true), (q7 != 0, false), (q8 != 0, false), (decide (q6 > 1), false), (false, false), (decide (q9 < -1073741824), false), (decide (q9 > 1073741824), false), (decide (q10 < -1073741824), false), (decide (q10 > 1073741824), false), (!inR q11 0 4, true), (true, true)] [0, 1, 2, 2, 2, 2, 2, 3, 4, 4, 4, 4, 5, 5, 5, 4, 5, 4, 6, 7, 7, 7, 7, 7, 7, 7, 8, 9, 9, 9, 9, 10, 10, 10, 10, 11, 11, 11, 11, 12, 13, 13, 13, 13, 13, 14])) := by kernel_rfl
set_option maxRecDepth 100000 in
theorem rrf_00001000000001 (q0 : Int) (q1 : Int) (q2 : Int) (q3 : Int) (q4 : Int) (q5 : Int) (q6 : Int) (q7 : Int) (q8 : Int) (q9 : Int) (q10 : Int) (q11 : Int) (q12 : Int) : evR (ctxOf Tryd.prog noFacts (fun _ => false) libC4) Tryd.f14 [(.w (.agg [.int .i64 q0, .int .i64 q1, .int .i64 q2, .int .i64 q3, .int .i64 q4, .int .i64 q5, .int .i64 q6, .int .i64 q7, .int .i64 q8, .int .i64 q9, .int .i64 q10, .int .i64 q11, .int .i64 q12]))] [false, false, false, false, true, false, false, false, false, false, false, false, false, true] = some (AV.w (AW.one (AC.int IntKind.i64 4)), (pickL [(!inR q0 1 999999, false), (!vE { x := q2, y := q3, z := q4 } == 0, false), (!inR q5 1 8, false), (!inR q6 1 4, false), (q6 == 1, true), (q7 != 0, false), (q8 != 0, false), (decide (q6 > 1), false), (false, false), (decide (q9 < -1073741824), false), (decide (q9 > 1073741824), false), (decide (q10 < -1073741824), false), (decide (q10 > 1073741824), false), (!inR q11 0 4, false), (!inR q12 1 100, true)] [0, 1, 2, 2, 2, 2, 2, 3, 4, 4, 4, 4, 5, 5, 5, 4, 5, 4, 6, 7, 7, 7, 7, 7, 7, 7, 8, 9, 9, 9, 9, 10, 10, 10, 10, 11, 11, 11, 11, 12, 13, 13, 13, 13, 13, 14])) := by kernel_rfl
set_option maxRecDepth 100000 in
theorem rrf_00001000000000 (q0 : Int) (q1 : Int) (q2 : Int) (q3 : Int) (q4 : Int) (q5 : Int) (q6 : Int) (q7 : Int) (q8 : Int) (q9 : Int) (q10 : Int) (q11 : Int) (q12 : Int) : evR (ctxOf Tryd.prog noFacts (fun _ => false) libC4) Tryd.f14 [(.w (.agg [.int .i64 q0, .int .i64 q1, .int .i64 q2, .int .i64 q3, .int .i64 q4, .int .i64 q5, .int .i64 q6, .int .i64 q7, .int .i64 q8, .int .i64 q9, .int .i64 q10, .int .i64 q11, .int .i64 q12]))] [false, false, false, false, true, false, false, false, false, false, false, false, false, false] = some (AV.w (AW.one (AC.int IntKind.i64 0)), (pickL [(!inR q0 1 999999, false), (!vE { x := q2, y := q3, z := q4 } == 0, false), (!inR q5 1 8, false), (!inR q6 1 4, false), (q6 == 1, true), (q7 != 0, false), (q8 != 0, false), (decide (q6 > 1), false), (false, false), (decide (q9 < -1073741824), false), (decide (q9 > 1073741824), false), (decide (q10 < -1073741824), false), (decide (q10 > 1073741824), false), (!inR q11 0 4, false), (!inR q12 1 100, false)] [0, 1, 2, 2, 2, 2, 2, 3, 4, 4, 4, 4, 5, 5, 5, 4, 5, 4, 6, 7, 7, 7, 7, 7, 7, 7, 8, 9, 9, 9, 9, 10, 10, 10, 10, 11, 11, 11, 11, 12, 13, 13, 13, 13, 13, 14])) := by kernel_rfl
set_option maxRecDepth 100000 in
theorem rrf_0000011 (q0 : Int) (q1 : Int) (q2 : Int) (q3 : Int) (q4 : Int) (q5 : Int) (q6 : Int) (q7 : Int) (q8 : Int) (q9 : Int) (q10 : Int) (q11 : Int) (q12 : Int) : evR (ctxOf Tryd.prog noFacts (fun _ => false) libC4) Tryd.f14 [(.w (.agg [.int .i64 q0, .int .i64 q1, .int .i64 q2, .int .i64 q3, .int .i64 q4, .int .i64 q5, .int .i64 q6, .int .i64 q7, .int .i64 q8, .int .i64 q9, .int .i64 q10, .int .i64 q11, .int .i64 q12]))] [false, false, false, false, false, true, true] = some (AV.w (AW.one (AC.int IntKind.i64 4)), (pickL [(!inR q0 1 999999, false), (!vE { x := q2, y := q3, z := q4 } == 0, false), (!inR q5 1 8, false), (!inR q6 1 4, false), (q6 == 1, false), (false, false), (decide (q6 > 1), true), (!inR q7 1 64, true), (true, true)] [0, 1, 2, 2, 2, 2, 2, 3, 4, 4, 4, 4, 4, 4, 5, 6, 6, 6, 6, 6, 7, 7, 7, 7, 7, 7, 6, 7, 6, 8])) := by kernel_rfl
set_option maxRecDepth 100000 in
theorem rrf_00000101 (q0 : Int) (q1 : Int) (q2 : Int) (q3 : Int) (q4 : Int) (q5 : Int) (q6 : Int) (q7 : Int) (q8 : Int) (q9 : Int) (q10 : Int) (q11 : Int) (q12 : Int) : evR (ctxOf Tryd.prog noFacts (fun _ => false) libC4) Tryd.f14 [(.w (.agg [.int .i64 q0, .int .i64 q1, .int .i64 q2, .int .i64 q3, .int .i64 q4, .int .i64 q5, .int .i64 q6, .int .i64 q7, .int .i64 q8, .int .i64 q9, .int .i64 q10, .int .i64 q11, .int .i64 q12]))] [false, false, false, false, false, true, false, true] = some (AV.w (AW.one (AC.int IntKind.i64 4)), (pickL [(!inR q0 1 999999, false), (!vE { x := q2, y := q3, z := q4 } == 0, false), (!inR q5 1 8, false), (!inR q6 1 4, false), (q6 == 1, false), (false, false), (decide (q6 > 1), true), (!inR q7 1 64, false), (!inR q8 q7 64, true)] [0, 1, 2, 2, 2, 2, 2, 3, 4, 4, 4, 4, 4, 4, 5, 6, 6, 6, 6, 6, 7, 7, 7, 7, 7, 7, 6, 7, 6, 8])) := by kernel_rfl
set_option maxRecDepth 100000 in
theorem rrf_000001001 (q0 : Int) (q1 : Int) (q2 : Int) (q3 : Int) (q4 : Int) (q5 : Int) (q6 : Int) (q7 : Int) (q8 : Int) (q9 : Int) (q10 : Int) (q11 : Int) (q12 : Int) : evR (ctxOf Tryd.prog noFacts (fun _ => false) libC4) Tryd.f14 [(.w (.agg [.int .i64 q0, .int .i64 q1, .int .i64 q2, .int .i64 q3, .int .i64 q4, .int .i64 q5, .int .i64 q6, .int .i64 q7, .int .i64 q8, .int .i64 q9, .int .i64 q10, .int .i64 q11, .int .i64 q12]))] [false, false, false, false, false, true, false, false, true] = some (AV.w (AW.one (AC.int IntKind.i64 4)), (pickL [(!inR q0 1 999999, false), (!vE { x := q2, y := q3, z := q4 } == 0, false), (!inR q5 1 8, false), (!inR q6 1 4, false), (q6 == 1, false), (false, false), (decide (q6 > 1), true), (!inR q7 1 64, false), (!inR q8 q7 64, false), (decide (q9 < -1073741824), true), (true, true)] [0, 1, 2, 2, 2, 2, 2, 3, 4, 4, 4, 4, 4, 4, 5, 6, 6, 6, 6, 6, 7, 7, 7, 7, 7, 7, 6, 7, 6, 8, 9, 9, 9, 9, 10, 10, 10, 10, 10, 10, 10, 10, 10])) := by kernel_rfl
set_option maxRecDepth 100000 in
theorem rrf_0000010001 (q0 : Int) (q1 : Int) (q2 : Int) (q3 : Int) (q4 : Int) (q5 : Int) (q6 : Int) (q7 : Int) (q8 : Int) (q9 : Int) (q10 : Int) (q11 : Int) (q12 : Int) : evR (ctxOf Tryd.prog noFacts (fun _ => false) libC4) Tryd.f14 [(.w (.agg [.int .i64 q0, .int .i64 q1, .int .i64 q2, .int .i64 q3, .int .i64 q4, .int .i64 q5, .int .i64 q6, .int .i64 q7, .int .i64 q8, .int .i64 q9, .int .i64 q10, .int .i64 q11, .int .i64 q12]))] [false, false, false, false, false, true, false, false, false, true] = some (AV.w (AW.one (AC.int IntKind.i64 4)), (pickL [(!inR q0 1 999999, false), (!vE { x := q2, y := q3, z := q4 } == 0, false), (!inR q5 1 8, false), (!inR q6 1 4, false), (q6 == 1, false), (false, false), (decide (q6 > 1), true), (!inR q7 1 64, false), (!inR q8 q7 64, false), (decide (q9 < -1073741824), false), (decide (q9 > 1073741824), true), (true, true)] [0, 1, 2, 2, 2, 2, 2, 3, 4, 4, 4, 4, 4, 4, 5, 6, 6, 6, 6, 6, 7, 7, 7, 7, 7, 7, 6, 7, 6, 8, 9, 9, 9, 9, 10, 10, 10, 10, 11, 11, 11, 11, 11])) := by kernel_rfl
set_option maxRecDepth 100000 in
theorem rrf_00000100001 (q0 : Int) (q1 : Int) (q2 : Int) (q3 : Int) (q4 : Int) (q5 : Int) (q6 : Int) (q7 : Int) (q8 : Int) (q9 : Int) (q10 : Int) (q11 : Int) (q12 : Int) : evR (ctxOf Tryd.prog noFacts (fun _ => false) libC4) Tryd.f14 [(.w (.agg [.int .i64 q0, .int .i64 q1, .int .i64 q2, .int .i64 q3, .int .i64 q4, .int .i64 q5, .int .i64 q6, .int .i64 q7, .int .i64 q8, .int .i64 q9, .int .i64 q10, .int .i64 q11, .int .i64 q12]))] [false, false, false, false, false, true, false, false, false, false, true] = some (AV.w (AW.one (AC.int IntKind.i64 4)), (pickL [(!inR q0 1 999999, false), (!vE { x := q2, y := q3, z := q4 } == 0, false), (!inR q5 1 8, false), (!inR q6 1 4, false), (q6 == 1, false), (false, false), (decide (q6 > 1), true), (!inR q7 1 64, false), (!inR q8 q7 64, false), (decide (q9 < -1073741824), false), (decide (q9 > 1073741824), false), (decide (q10 < -1073741824), true), (true, true)] [0, 1, 2, 2, 2, 2, 2, 3, 4, 4, 4, 4, 4, 4, 5, 6, 6, 6, 6, 6, 7, 7, 7, 7, 7, 7, 6, 7, 6, 8, 9, 9, 9, 9, 10, 10, 10, 10, 11, 11, 11, 11, 12])) := by kernel_rfl
set_option maxRecDepth 100000 in
theorem rrf_000001000001 (q0 : Int) (q1 : Int) (q2 : Int) (q3 : Int) (q4 : Int) (q5 : Int) (q6 : Int) (q7 : Int) (q8 : Int) (q9 : Int) (q10 : Int) (q11 : Int) (q12 : Int) : evR (ctxOf Tryd.prog noFacts (fun _ => false) libC4) Tryd.f14 [(.w (.agg [.int .i64 q0, .int .i64 q1, .int .i64 q2, .int .i64 q3, .int .i64 q4, .int .i64 q5, .int .i64 q6, .int .i64 q7, .int .i64 q8, .int .i64 q9, .int .i64 q10, .int .i64 q11, .int .i64 q12]))] [false, false, false, false, false, true, false, false, false, false, false, true] = some (AV.w (AW.one (AC.int IntKind.i64 4)), (pickL [(!inR q0 1 999999, false), (!vE { x := q2, y := q3, z := q4 } == 0, false), (!inR q5 1 8, false), (!inR q6 1 4, false), (q6 == 1, false), (false, false), (decide (q6 > 1), true), (!inR q7 1 64, false), (!inR q8 q7 64, false), (decide (q9 < -1073741824), false), (decide (q9 > 1073741824), false), (decide (q10 < -1073741824), false), (decide (q10 > 1073741824), true)] [0, 1, 2, 2, 2, 2, 2, 3, 4, 4, 4, 4, 4, 4, 5, 6, 6, 6, 6, 6, 7, 7, 7, 7, 7, 7, 6, 7, 6, 8, 9, 9, 9, 9, 10, 10, 10, 10, 11, 11, 11, 11, 12])) := by kernel_rfl
set_option maxRecDepth 100000 in
theorem rrf_0000010000001 (q0 : Int) (q1 : Int) (q2 : Int) (q3 : Int) (q4 : Int) (q5 : Int) (q6 : Int) (q7 : Int) (q8 : Int) (q9 : Int) (q10 : Int) (q11 : Int) (q12 : Int) : evR (ctxOf Tryd.prog noFacts (fun _ => false) libC4) Tryd.f14 [(.w (.agg [.int .i64 q0, .int .i64 q1, .int .i64 q2, .int .i64 q3, .int .i64 q4, .int .i64 q5, .int .i64 q6, .int .i64 q7, .int .i64 q8, .int .i64 q9, .int .i64 q10, .int .i64 q11, .int .i64 q12]))] [false, false, false, false, false, true, false, false, false, false, false, false, true] = some (AV.w (AW.one (AC.int IntKind.i64 4)), (pickL [(!inR q0 1 999999, false), (!vE { x := q2, y := q3, z := q4 } == 0, false), (!inR q5 1 8, false), (!inR q6 1 4, false), (q6 == 1, false), (false, false), (decide (q6 > 1), true), (!inR q7 1 64, false), (!inR q8 q7 64, false), (decide (q9 < -1073741824), false), (decide (q9 > 1073741824), false), (decide (q10 < -1073741824), false), (decide (q10 > 1073741824), false), (!inR q11 0 4, true), (true, true)] [0, 1, 2, 2, 2, 2, 2, 3, 4, 4, 4, 4, 4, 4, 5, 6, 6, 6, 6, 6, 7, 7, 7, 7, 7, 7, 6, 7, 6, 8, 9, 9, 9, 9, 10, 10, 10, 10, 11, 11, 11, 11, 12, 13, 13, 13, 13, 13, 14])) := by kernel_rfl
set_option maxRecDepth 100000 in
theorem rrf_00000100000001 (q0 : Int) (q1 : Int) (q2 : Int) (q3 : Int) (q4 : Int) (q5 : Int) (q6 : Int) (q7 : Int) (q8 : Int) (q9 : Int) (q10 : Int) (q11 : Int) (q12 : Int) : evR (ctxOf Tryd.prog noFacts (fun _ => false) libC4) Tryd.f14 [(.w (.agg [.int .i64 q0, .int .i64 q1, .int .i64 q2, .int .i64 q3, .int .i64 q4, .int .i64 q5, .int .i64 q6, .int .i64 q7, .int .i64 q8, .int .i64 q9, .int .i64 q10, .int .i64 q11, .int .i64 q12]))] [false, false, false, false, false, true, false, false, false, false, false, false, false, true] = some (AV.w (AW.one (AC.int IntKind.i64 4)), (pickL [(!inR q0 1 999999, false), (!vE { x := q2, y := q3, z := q4 } == 0, false), (!inR q5 1 8, false), (!inR q6 1 4, false), (q6 == 1, false), (false, false), (decide (q6 > 1), true), (!inR q7 1 64, false), (!inR q8 q7 64, false), (decide (q9 < -1073741824), false), (decide (q9 > 1073741824), false), (decide (q10 < -1073741824), false), (decide (q10 > 1073741824), false), (!inR q11 0 4, false), (!inR q12 1 100, true)] [0, 1, 2, 2, 2, 2, 2, 3, 4, 4, 4, 4, 4, 4, 5, 6, 6, 6, 6, 6, 7, 7, 7, 7, 7, 7, 6, 7, 6, 8, 9, 9, 9, 9, 10, 10, 10, 10, 11, 11, 11, 11, 12, 13, 13, 13, 13, 13, 14])) := by kernel_rfl
set_option maxRecDepth 100000 in
theorem rrf_00000100000000 (q0 : Int) (q1 : Int) (q2 : Int) (q3 : Int) (q4 : Int) (q5 : Int) (q6 : Int) (q7 : Int) (q8 : Int) (q9 : Int) (q10 : Int) (q11 : Int) (q12 : Int) : evR (ctxOf Tryd.prog noFacts (fun _ => false) libC4) Tryd.f14 [(.w (.agg [.int .i64 q0, .int .i64 q1, .int .i64 q2, .int .i64 q3, .int .i64 q4, .int .i64 q5, .int .i64 q6, .int .i64 q7, .int .i64 q8, .int .i64 q9, .int .i64 q10, .int .i64 q11, .int .i64 q12]))] [false, false, false, false, false, true, false, false, false, false, false, false, false, false] = some (AV.w (AW.one (AC.int IntKind.i64 0)), (pickL [(!inR q0 1 999999, false), (!vE { x := q2, y := q3, z := q4 } == 0, false), (!inR q5 1 8, false), (!inR q6 1 4, false), (q6 == 1, false), (false, false), (decide (q6 > 1), true), (!inR q7 1 64, false), (!inR q8 q7 64, false), (decide (q9 < -1073741824), false), (decide (q9 > 1073741824), false), (decide (q10 < -1073741824), false), (decide (q10 > 1073741824), false), (!inR q11 0 4, false), (!inR q12 1 100, false)] [0, 1, 2, 2, 2, 2, 2, 3, 4, 4, 4, 4, 4, 4, 5, 6, 6, 6, 6, 6, 7, 7, 7, 7, 7, 7, 6, 7, 6, 8, 9, 9, 9, 9, 10, 10, 10, 10, 11, 11, 11, 11, 12, 13, 13, 13, 13, 13, 14])) := by kernel_rfl
set_option maxRecDepth 100000 in
theorem rrf_0000001 (q0 : Int) (q1 : Int) (q2 : Int) (q3 : Int) (q4 : Int) (q5 : Int) (q6 : Int) (q7 : Int) (q8 : Int) (q9 : Int) (q10 : Int) (q11 : Int) (q12 : Int) : evR (ctxOf Tryd.prog noFacts (fun _ => false) libC4) Tryd.f14 [(.w (.agg [.int .i64 q0, .int .i64 q1, .int .i64 q2, .int .i64 q3, .int .i64 q4, .int .i64 q5, .int .i64 q6, .int .i64 q7, .int .i64 q8, .int .i64 q9, .int .i64 q10, .int .i64 q11, .int .i64 q12]))] [false, false, false, false, false, false, true] = some (AV.w (AW.one (AC.int IntKind.i64 4)), (pickL [(!inR q0 1 999999, false), (!vE { x := q2, y := q3, z := q4 } == 0, false), (!inR q5 1 8, false), (!inR q6 1 4, false), (q6 == 1, false), (false, false), (decide (q6 > 1), false), (decide (q9 < -1073741824), true), (true, true)] [0, 1, 2, 2, 2, 2, 2, 3, 4, 4, 4, 4, 4, 4, 5, 6, 6, 6, 6, 6, 6, 6, 5, 7, 7, 7, 7, 8, 8, 8, 8, 8, 8, 8, 8, 8])) := by kernel_rfl
set_option maxRecDepth 100000 in
theorem rrf_00000001 (q0 : Int) (q1 : Int) (q2 : Int) (q3 : Int) (q4 : Int) (q5 : Int) (q6 : Int) (q7 : Int) (q8 : Int) (q9 : Int) (q10 : Int) (q11 : Int) (q12 : Int) : evR (ctxOf Tryd.prog noFacts (fun _ => false) libC4) Tryd.f14 [(.w (.agg [.int .i64 q0, .int .i64 q1, .int .i64 q2, .int .i64 q3, .int .i64 q4, .int .i64 q5, .int .i64 q6, .int .i64 q7, .int .i64 q8, .int .i64 q9, .int .i64 q10, .int .i64 q11, .int .i64 q12]))] [false, false, false, false, false, false, false, true] = some (AV.w (AW.one (AC.int IntKind.i64 4)), (pickL [(!inR q0 1 999999, false), (!vE { x := q2, y := q3, z := q4 } == 0, false), (!inR q5 1 8, false), (!inR q6 1 4, false), (q6 == 1, false), (false, false), (decide (q6 > 1), false), (decide (q9 < -1073741824), false), (decide (q9 > 1073741824), true), (true, true)] [0, 1, 2, 2, 2, 2, 2, 3, 4, 4, 4, 4, 4, 4, 5, 6, 6, 6, 6, 6, 6, 6, 5, 7, 7, 7, 7, 8, 8, 8, 8, 9, 9, 9, 9, 9])) := by kernel_rfl
set_option maxRecDepth 100000 in
theorem rrf_000000001 (q0 : Int) (q1 : Int) (q2 : Int) (q3 : Int) (q4 : Int) (q5 : Int) (q6 : Int) (q7 : Int) (q8 : Int) (q9 : Int) (q10 : Int) (q11 : Int) (q12 : Int) : evR (ctxOf Tryd.prog noFacts (fun _ => false) libC4) Tryd.f14 [(.w (.agg [.int .i64 q0, .int .i64 q1, .int .i64 q2, .int .i64 q3, .int .i64 q4, .int .i64 q5, .int .i64 q6, .int .i64 q7, .int .i64 q8, .int .i64 q9, .int .i64 q10, .int .i64 q11, .int .i64 q12]))] [false, false, false, false, false, false, false, false, true] = some (AV.w (AW.one (AC.int IntKind.i64 4)), (pickL [(!inR q0 1 999999, false), (!vE { x := q2, y := q3, z := q4 } == 0, false), (!inR q5 1 8, false), (!inR q6 1 4, false), (q6 == 1, false), (false, false), (decide (q6 > 1), false), (decide (q9 < -1073741824), false), (decide (q9 > 1073741824), false), (decide (q10 < -1073741824), true), (true, true)] [0, 1, 2, 2, 2, 2, 2, 3, 4, 4, 4, 4, 4, 4, 5, 6, 6, 6, 6, 6, 6, 6, 5, 7, 7, 7, 7, 8, 8, 8, 8, 9, 9, 9, 9, 10])) := by kernel_rfl
set_option maxRecDepth 100000 in
theorem rrf_0000000001 (q0 : Int) (q1 : Int) (q2 : Int) (q3 : Int) (q4 : Int) (q5 : Int) (q6 : Int) (q7 : Int) (q8 : Int) (q9 : Int) (q10 : Int) (q11 : Int) (q12 : Int) : evR (ctxOf Tryd.prog noFacts (fun _ => false) libC4) Tryd.f14 [(.w (.agg [.int .i64 q0, .int .i64 q1, .int .i64 q2, .int .i64 q3, .int .i64 q4, .int .i64 q5, .int .i64 q6, .int .i64 q7, .int .i64 q8, .int .i64 q9, .int .i64 q10, .int .i64 q11, .int .i64 q12]))] [false, false, false, false, false, false, false, false, false, true] = some (AV.w (AW.one (AC.int IntKind.i64 4)), (pickL [(!inR q0 1 999999, false), (!vE { x := q2, y := q3, z := q4 } == 0, false), (!inR q5 1 8, false), (!inR q6 1 4, false), (q6 == 1, false), (false, false), (decide (q6 > 1), false), (decide (q9 < -1073741824), false), (decide (q9 > 1073741824), false), (decide (q10 < -1073741824), false), (decide (q10 > 1073741824), true)] [0, 1, 2, 2, 2, 2, 2, 3, 4, 4, 4, 4, 4, 4, 5, 6, 6, 6, 6, 6, 6, 6, 5, 7, 7, 7, 7, 8, 8, 8, 8, 9, 9, 9, 9, 10])) := by kernel_rfl
set_option maxRecDepth 100000 in
theorem rrf_00000000001 (q0 : Int) (q1 : Int) (q2 : Int) (q3 : Int) (q4 : Int) (q5 : Int) (q6 : Int) (q7 : Int) (q8 : Int) (q9 : Int) (q10 : Int) (q11 : Int) (q12 : Int) : evR (ctxOf Tryd.prog noFacts (fun _ => false) libC4) Tryd.f14 [(.w (.agg [.int .i64 q0, .int .i64 q1, .int .i64 q2, .int .i64 q3, .int .i64 q4, .int .i64 q5, .int .i64 q6, .int .i64 q7, .int .i64 q8, .int .i64 q9, .int .i64 q10, .int .i64 q11, .int .i64 q12]))] [false, false, false, false, false, false, false, false, false, false, true] = some (AV.w (AW.one (AC.int IntKind.i64 4)), (pickL [(!inR q0 1 999999, false), (!vE { x := q2, y := q3, z := q4 } == 0, false), (!inR q5 1 8, false), (!inR q6 1 4, false), (q6 == 1, false), (false, false), (decide (q6 > 1), false), (decide (q9 < -1073741824), false), (decide (q9 > 1073741824), false), (decide (q10 < -1073741824), false), (decide (q10 > 1073741824), false), (!inR q11 0 4, true), (true, true)] [0, 1, 2, 2, 2, 2, 2, 3, 4, 4, 4, 4, 4, 4, 5, 6, 6, 6, 6, 6, 6, 6, 5, 7, 7, 7, 7, 8, 8, 8, 8, 9, 9, 9, 9, 10, 11, 11, 11, 11, 11, 12])) := by kernel_rfl
set_option maxRecDepth 100000 in
theorem rrf_000000000001 (q0 : Int) (q1 : Int) (q2 : Int) (q3 : Int) (q4 : Int) (q5 : Int) (q6 : Int) (q7 : Int) (q8 : Int) (q9 : Int) (q10 : Int) (q11 : Int) (q12 : Int) : evR (ctxOf Tryd.prog noFacts (fun _ => false) libC4) Tryd.f14 [(.w (.agg [.int .i64 q0, .int .i64 q1, .int .i64 q2, .int .i64 q3, .int .i64 q4, .int .i64 q5, .int .i64 q6, .int .i64 q7, .int .i64 q8, .int .i64 q9, .int .i64 q10, .int .i64 q11, .int .i64 q12]))] [false, false, false, false, false, false, false, false, false, false, false, true] = some (AV.w (AW.one (AC.int IntKind.i64 4)), (pickL [(!inR q0 1 999999, false), (!vE { x := q2, y := q3, z := q4 } == 0, false), (!inR q5 1 8, false), (!inR q6 1 4, false), (q6 == 1, false), (false, false), (decide (q6 > 1), false), (decide (q9 < -1073741824), false), (decide (q9 > 1073741824), false), (decide (q10 < -1073741824), false), (decide (q10 > 1073741824), false), (!inR q11 0 4, false), (!inR q12 1 100, true)] [0, 1, 2, 2, 2, 2, 2, 3, 4, 4, 4, 4, 4, 4, 5, 6, 6, 6, 6, 6, 6, 6, 5, 7, 7, 7, 7, 8, 8, 8, 8, 9, 9, 9, 9, 10, 11, 11, 11, 11, 11, 12])) := by kernel_rfl
set_option maxRecDepth 100000 in
theorem rrf_000000000000 (q0 : Int) (q1 : Int) (q2 : Int) (q3 : Int) (q4 : Int) (q5 : Int) (q6 : Int) (q7 : Int) (q8 : Int) (q9 : Int) (q10 : Int) (q11 : Int) (q12 : Int) : evR (ctxOf Tryd.prog noFacts (fun _ => false) libC4) Tryd.f14 [(.w (.agg [.int .i64 q0, .int .i64 q1, .int .i64 q2, .int .i64 q3, .int .i64 q4, .int .i64 q5, .int .i64 q6, .int .i64 q7, .int .i64 q8, .int .i64 q9, .int .i64 q10, .int .i64 q11, .int .i64 q12]))] [false, false, false, false, false, false, false, false, false, false, false, false] = some (AV.w (AW.one (AC.int IntKind.i64 0)), (pickL [(!inR q0 1 999999, false), (!vE { x := q2, y := q3, z := q4 } == 0, false), (!inR q5 1 8, false), (!inR q6 1 4, false), (q6 == 1, false), (false, false), (decide (q6 > 1), false), (decide (q9 < -1073741824), false), (decide (q9 > 1073741824), false), (decide (q10 < -1073741824), false), (decide (q10 > 1073741824), false), (!inR q11 0 4, false), (!inR q12 1 100, false)] [0, 1, 2, 2, 2, 2, 2, 3, 4, 4, 4, 4, 4, 4, 5, 6, 6, 6, 6, 6, 6, 6, 5, 7, 7, 7, 7, 8, 8, 8, 8, 9, 9, 9, 9, 10, 11, 11, 11, 11, 11, 12])) := by kernel_rfl
theorem rrf_pl (q0 : Int) (q1 : Int) (q2 : Int) (q3 : Int) (q4 : Int) (q5 : Int) (q6 : Int) (q7 : Int) (q8 : Int) (q9 : Int) (q10 : Int) (q11 : Int) (q12 : Int)  : Pl Tryd.prog 14 [.agg #[.int .i64 q0, .int .i64 q1, .int .i64 q2, .int .i64 q3, .int .i64 q4, .int .i64 q5, .int .i64 q6, .int .i64 q7, .int .i64 q8, .int .i64 q9, .int .i64 q10, .int .i64 q11, .int .i64 q12]] (.int .i64 (rqE [q0, q1, q2, q3, q4, q5, q6, q7, q8, q9, q10, q11, q12])) := fun w => by
  cases k0 : (!inR q0 1 999999) with
  | true =>
    have V : (rqE [q0, q1, q2, q3, q4, q5, q6, q7, q8, q9, q10, q11, q12]) = (4) := by
      simp only [beq_iff_eq, beq_eq_false_iff_ne, ne_eq, bne_iff_ne, bne_eq_false_iff_eq, decide_eq_true_eq, decide_eq_false_iff_not, Bool.not_eq_true', Bool.not_eq_false', inR_iff, inR_fp, gt_iff_lt] at *
      rw [rq_ar]
      grind
    rw [V]
    refine evR_calls (I := noFacts) (v := .int .i64 (4)) (ctxOf_ok libC4_ok (eq_none _)) (by kernel_rfl) Tryd.func14 rfl lps_nil (rrf_1 q0 q1 q2 q3 q4 q5 q6 q7 q8 q9 q10 q11 q12) rfl (all2_R (.cons rfl .nil)) rfl w (Nat.zero_le _) (pickL_ok ?_ _)
    repeat' (first | exact cd_nil | refine cd_cons ?_ ?_)
    all_goals first | with_reducible rfl | with_reducible assumption | rfl | simp_all

  | false =>
    cases k1 : (!vE { x := q2, y := q3, z := q4 } == 0) with
    | true =>
      have V : (rqE [q0, q1, q2, q3, q4, q5, q6, q7, q8, q9, q10, q11, q12]) = (3) := by
        simp only [beq_iff_eq, beq_eq_false_iff_ne, ne_eq, bne_iff_ne, bne_eq_false_iff_eq, decide_eq_true_eq, decide_eq_false_iff_not, Bool.not_eq_true', Bool.not_eq_false', inR_iff, inR_fp, gt_iff_lt] at *
        rw [rq_ar]
        grind
      rw [V]
      refine evR_calls (I := noFacts) (v := .int .i64 (3)) (ctxOf_ok libC4_ok (eq_none _)) (by kernel_rfl) Tryd.func14 rfl lps_nil (rrf_01 q0 q1 q2 q3 q4 q5 q6 q7 q8 q9 q10 q11 q12) rfl (all2_R (.cons rfl .nil)) rfl w (Nat.zero_le _) (pickL_ok ?_ _)
      repeat' (first | exact cd_nil | refine cd_cons ?_ ?_)
      all_goals first | with_reducible rfl | with_reducible assumption | rfl | simp_all

    | false =>
      cases k2 : (!inR q5 1 8) with
      | true =>
        have V : (rqE [q0, q1, q2, q3, q4, q5, q6, q7, q8, q9, q10, q11, q12]) = (4) := by
          simp only [beq_iff_eq, beq_eq_false_iff_ne, ne_eq, bne_iff_ne, bne_eq_false_iff_eq, decide_eq_true_eq, decide_eq_false_iff_not, Bool.not_eq_true', Bool.not_eq_false', inR_iff, inR_fp, gt_iff_lt] at *
          rw [rq_ar]
          grind
        rw [V]
        refine evR_calls (I := noFacts) (v := .int .i64 (4)) (ctxOf_ok libC4_ok (eq_none _)) (by kernel_rfl) Tryd.func14 rfl lps_nil (rrf_001 q0 q1 q2 q3 q4 q5 q6 q7 q8 q9 q10 q11 q12) rfl (all2_R (.cons rfl .nil)) rfl w (Nat.zero_le _) (pickL_ok ?_ _)
        repeat' (first | exact cd_nil | refine cd_cons ?_ ?_)
        all_goals first | with_reducible rfl | with_reducible assumption | rfl | simp_all

      | false =>
        cases k3 : (!inR q6 1 4) with
        | true =>
          have V : (rqE [q0, q1, q2, q3, q4, q5, q6, q7, q8, q9, q10, q11, q12]) = (4) := by
            simp only [beq_iff_eq, beq_eq_false_iff_ne, ne_eq, bne_iff_ne, bne_eq_false_iff_eq, decide_eq_true_eq, decide_eq_false_iff_not, Bool.not_eq_true', Bool.not_eq_false', inR_iff, inR_fp, gt_iff_lt] at *
            rw [rq_ar]
            grind
          rw [V]
          refine evR_calls (I := noFacts) (v := .int .i64 (4)) (ctxOf_ok libC4_ok (eq_none _)) (by kernel_rfl) Tryd.func14 rfl lps_nil (rrf_0001 q0 q1 q2 q3 q4 q5 q6 q7 q8 q9 q10 q11 q12) rfl (all2_R (.cons rfl .nil)) rfl w (Nat.zero_le _) (pickL_ok ?_ _)
          repeat' (first | exact cd_nil | refine cd_cons ?_ ?_)
          all_goals first | with_reducible rfl | with_reducible assumption | rfl | simp_all

        | false =>
          cases k4 : (q6 == 1) with
          | true =>
            cases k5 : (q7 != 0) with
            | true =>
              have V : (rqE [q0, q1, q2, q3, q4, q5, q6, q7, q8, q9, q10, q11, q12]) = (3) := by
                simp only [beq_iff_eq, beq_eq_false_iff_ne, ne_eq, bne_iff_ne, bne_eq_false_iff_eq, decide_eq_true_eq, decide_eq_false_iff_not, Bool.not_eq_true', Bool.not_eq_false', inR_iff, inR_fp, gt_iff_lt] at *
                rw [rq_ar]
                grind
              rw [V]
              refine evR_calls (I := noFacts) (v := .int .i64 (3)) (ctxOf_ok libC4_ok (eq_none _)) (by kernel_rfl) Tryd.func14 rfl lps_nil (rrf_000011 q0 q1 q2 q3 q4 q5 q6 q7 q8 q9 q10 q11 q12) rfl (all2_R (.cons rfl .nil)) rfl w (Nat.zero_le _) (pickL_ok ?_ _)
              repeat' (first | exact cd_nil | refine cd_cons ?_ ?_)
              all_goals first | with_reducible rfl | with_reducible assumption | rfl | simp_all

            | false =>
              cases k6 : (q8 != 0) with
              | true =>
                have V : (rqE [q0, q1, q2, q3, q4, q5, q6, q7, q8, q9, q10, q11, q12]) = (3) := by
                  simp only [beq_iff_eq, beq_eq_false_iff_ne, ne_eq, bne_iff_ne, bne_eq_false_iff_eq, decide_eq_true_eq, decide_eq_false_iff_not, Bool.not_eq_true', Bool.not_eq_false', inR_iff, inR_fp, gt_iff_lt] at *
                  rw [rq_ar]
                  grind
                rw [V]
                refine evR_calls (I := noFacts) (v := .int .i64 (3)) (ctxOf_ok libC4_ok (eq_none _)) (by kernel_rfl) Tryd.func14 rfl lps_nil (rrf_0000101 q0 q1 q2 q3 q4 q5 q6 q7 q8 q9 q10 q11 q12) rfl (all2_R (.cons rfl .nil)) rfl w (Nat.zero_le _) (pickL_ok ?_ _)
                repeat' (first | exact cd_nil | refine cd_cons ?_ ?_)
                all_goals first | with_reducible rfl | with_reducible assumption | rfl | simp_all

              | false =>
                cases k7 : (decide (q6 > 1)) with
                | true =>
                  cases k8 : (!inR q7 1 64) with
                  | true =>
                    have V : (rqE [q0, q1, q2, q3, q4, q5, q6, q7, q8, q9, q10, q11, q12]) = (4) := by
                      simp only [beq_iff_eq, beq_eq_false_iff_ne, ne_eq, bne_iff_ne, bne_eq_false_iff_eq, decide_eq_true_eq, decide_eq_false_iff_not, Bool.not_eq_true', Bool.not_eq_false', inR_iff, inR_fp, gt_iff_lt] at *
                      rw [rq_ar]
                      grind
                    rw [V]
                    refine evR_calls (I := noFacts) (v := .int .i64 (4)) (ctxOf_ok libC4_ok (eq_none _)) (by kernel_rfl) Tryd.func14 rfl lps_nil (rrf_000010011 q0 q1 q2 q3 q4 q5 q6 q7 q8 q9 q10 q11 q12) rfl (all2_R (.cons rfl .nil)) rfl w (Nat.zero_le _) (pickL_ok ?_ _)
                    repeat' (first | exact cd_nil | refine cd_cons ?_ ?_)
                    all_goals first | with_reducible rfl | with_reducible assumption | rfl | simp_all

                  | false =>
                    cases k9 : (!inR q8 q7 64) with
                    | true =>
                      have V : (rqE [q0, q1, q2, q3, q4, q5, q6, q7, q8, q9, q10, q11, q12]) = (4) := by
                        simp only [beq_iff_eq, beq_eq_false_iff_ne, ne_eq, bne_iff_ne, bne_eq_false_iff_eq, decide_eq_true_eq, decide_eq_false_iff_not, Bool.not_eq_true', Bool.not_eq_false', inR_iff, inR_fp, gt_iff_lt] at *
                        rw [rq_ar]
                        grind
                      rw [V]
                      refine evR_calls (I := noFacts) (v := .int .i64 (4)) (ctxOf_ok libC4_ok (eq_none _)) (by kernel_rfl) Tryd.func14 rfl lps_nil (rrf_0000100101 q0 q1 q2 q3 q4 q5 q6 q7 q8 q9 q10 q11 q12) rfl (all2_R (.cons rfl .nil)) rfl w (Nat.zero_le _) (pickL_ok ?_ _)
                      repeat' (first | exact cd_nil | refine cd_cons ?_ ?_)
                      all_goals first | with_reducible rfl | with_reducible assumption | rfl | simp_all

                    | false =>
                      cases k10 : (decide (q9 < -1073741824)) with
                      | true =>
                        have V : (rqE [q0, q1, q2, q3, q4, q5, q6, q7, q8, q9, q10, q11, q12]) = (4) := by
                          simp only [beq_iff_eq, beq_eq_false_iff_ne, ne_eq, bne_iff_ne, bne_eq_false_iff_eq, decide_eq_true_eq, decide_eq_false_iff_not, Bool.not_eq_true', Bool.not_eq_false', inR_iff, inR_fp, gt_iff_lt] at *
                          rw [rq_ar]
                          grind
                        rw [V]
                        refine evR_calls (I := noFacts) (v := .int .i64 (4)) (ctxOf_ok libC4_ok (eq_none _)) (by kernel_rfl) Tryd.func14 rfl lps_nil (rrf_00001001001 q0 q1 q2 q3 q4 q5 q6 q7 q8 q9 q10 q11 q12) rfl (all2_R (.cons rfl .nil)) rfl w (Nat.zero_le _) (pickL_ok ?_ _)
                        repeat' (first | exact cd_nil | refine cd_cons ?_ ?_)
                        all_goals first | with_reducible rfl | with_reducible assumption | rfl | simp_all

                      | false =>
                        cases k11 : (decide (q9 > 1073741824)) with
                        | true =>
                          have V : (rqE [q0, q1, q2, q3, q4, q5, q6, q7, q8, q9, q10, q11, q12]) = (4) := by
                            simp only [beq_iff_eq, beq_eq_false_iff_ne, ne_eq, bne_iff_ne, bne_eq_false_iff_eq, decide_eq_true_eq, decide_eq_false_iff_not, Bool.not_eq_true', Bool.not_eq_false', inR_iff, inR_fp, gt_iff_lt] at *
                            rw [rq_ar]
                            grind
                          rw [V]
                          refine evR_calls (I := noFacts) (v := .int .i64 (4)) (ctxOf_ok libC4_ok (eq_none _)) (by kernel_rfl) Tryd.func14 rfl lps_nil (rrf_000010010001 q0 q1 q2 q3 q4 q5 q6 q7 q8 q9 q10 q11 q12) rfl (all2_R (.cons rfl .nil)) rfl w (Nat.zero_le _) (pickL_ok ?_ _)
                          repeat' (first | exact cd_nil | refine cd_cons ?_ ?_)
                          all_goals first | with_reducible rfl | with_reducible assumption | rfl | simp_all

                        | false =>
                          cases k12 : (decide (q10 < -1073741824)) with
                          | true =>
                            have V : (rqE [q0, q1, q2, q3, q4, q5, q6, q7, q8, q9, q10, q11, q12]) = (4) := by
                              simp only [beq_iff_eq, beq_eq_false_iff_ne, ne_eq, bne_iff_ne, bne_eq_false_iff_eq, decide_eq_true_eq, decide_eq_false_iff_not, Bool.not_eq_true', Bool.not_eq_false', inR_iff, inR_fp, gt_iff_lt] at *
                              rw [rq_ar]
                              grind
                            rw [V]
                            refine evR_calls (I := noFacts) (v := .int .i64 (4)) (ctxOf_ok libC4_ok (eq_none _)) (by kernel_rfl) Tryd.func14 rfl lps_nil (rrf_0000100100001 q0 q1 q2 q3 q4 q5 q6 q7 q8 q9 q10 q11 q12) rfl (all2_R (.cons rfl .nil)) rfl w (Nat.zero_le _) (pickL_ok ?_ _)
                            repeat' (first | exact cd_nil | refine cd_cons ?_ ?_)
                            all_goals first | with_reducible rfl | with_reducible assumption | rfl | simp_all

                          | false =>
                            cases k13 : (decide (q10 > 1073741824)) with
                            | true =>
                              have V : (rqE [q0, q1, q2, q3, q4, q5, q6, q7, q8, q9, q10, q11, q12]) = (4) := by
                                simp only [beq_iff_eq, beq_eq_false_iff_ne, ne_eq, bne_iff_ne, bne_eq_false_iff_eq, decide_eq_true_eq, decide_eq_false_iff_not, Bool.not_eq_true', Bool.not_eq_false', inR_iff, inR_fp, gt_iff_lt] at *
                                rw [rq_ar]
                                grind
                              rw [V]
                              refine evR_calls (I := noFacts) (v := .int .i64 (4)) (ctxOf_ok libC4_ok (eq_none _)) (by kernel_rfl) Tryd.func14 rfl lps_nil (rrf_00001001000001 q0 q1 q2 q3 q4 q5 q6 q7 q8 q9 q10 q11 q12) rfl (all2_R (.cons rfl .nil)) rfl w (Nat.zero_le _) (pickL_ok ?_ _)
                              repeat' (first | exact cd_nil | refine cd_cons ?_ ?_)
                              all_goals first | with_reducible rfl | with_reducible assumption | rfl | simp_all

                            | false =>
                              cases k14 : (!inR q11 0 4) with
                              | true =>
                                have V : (rqE [q0, q1, q2, q3, q4, q5, q6, q7, q8, q9, q10, q11, q12]) = (4) := by
                                  simp only [beq_iff_eq, beq_eq_false_iff_ne, ne_eq, bne_iff_ne, bne_eq_false_iff_eq, decide_eq_true_eq, decide_eq_false_iff_not, Bool.not_eq_true', Bool.not_eq_false', inR_iff, inR_fp, gt_iff_lt] at *
                                  rw [rq_ar]
                                  grind
                                rw [V]
                                refine evR_calls (I := noFacts) (v := .int .i64 (4)) (ctxOf_ok libC4_ok (eq_none _)) (by kernel_rfl) Tryd.func14 rfl lps_nil (rrf_000010010000001 q0 q1 q2 q3 q4 q5 q6 q7 q8 q9 q10 q11 q12) rfl (all2_R (.cons rfl .nil)) rfl w (Nat.zero_le _) (pickL_ok ?_ _)
                                repeat' (first | exact cd_nil | refine cd_cons ?_ ?_)
                                all_goals first | with_reducible rfl | with_reducible assumption | rfl | simp_all

                              | false =>
                                cases k15 : (!inR q12 1 100) with
                                | true =>
                                  have V : (rqE [q0, q1, q2, q3, q4, q5, q6, q7, q8, q9, q10, q11, q12]) = (4) := by
                                    simp only [beq_iff_eq, beq_eq_false_iff_ne, ne_eq, bne_iff_ne, bne_eq_false_iff_eq, decide_eq_true_eq, decide_eq_false_iff_not, Bool.not_eq_true', Bool.not_eq_false', inR_iff, inR_fp, gt_iff_lt] at *
                                    rw [rq_ar]
                                    grind
                                  rw [V]
                                  refine evR_calls (I := noFacts) (v := .int .i64 (4)) (ctxOf_ok libC4_ok (eq_none _)) (by kernel_rfl) Tryd.func14 rfl lps_nil (rrf_0000100100000001 q0 q1 q2 q3 q4 q5 q6 q7 q8 q9 q10 q11 q12) rfl (all2_R (.cons rfl .nil)) rfl w (Nat.zero_le _) (pickL_ok ?_ _)
                                  repeat' (first | exact cd_nil | refine cd_cons ?_ ?_)
                                  all_goals first | with_reducible rfl | with_reducible assumption | rfl | simp_all

                                | false =>
                                  have V : (rqE [q0, q1, q2, q3, q4, q5, q6, q7, q8, q9, q10, q11, q12]) = (0) := by
                                    simp only [beq_iff_eq, beq_eq_false_iff_ne, ne_eq, bne_iff_ne, bne_eq_false_iff_eq, decide_eq_true_eq, decide_eq_false_iff_not, Bool.not_eq_true', Bool.not_eq_false', inR_iff, inR_fp, gt_iff_lt] at *
                                    rw [rq_ar]
                                    grind
                                  rw [V]
                                  refine evR_calls (I := noFacts) (v := .int .i64 (0)) (ctxOf_ok libC4_ok (eq_none _)) (by kernel_rfl) Tryd.func14 rfl lps_nil (rrf_0000100100000000 q0 q1 q2 q3 q4 q5 q6 q7 q8 q9 q10 q11 q12) rfl (all2_R (.cons rfl .nil)) rfl w (Nat.zero_le _) (pickL_ok ?_ _)
                                  repeat' (first | exact cd_nil | refine cd_cons ?_ ?_)
                                  all_goals first | with_reducible rfl | with_reducible assumption | rfl | simp_all

                | false =>
                  cases k16 : (decide (q9 < -1073741824)) with
                  | true =>
                    have V : (rqE [q0, q1, q2, q3, q4, q5, q6, q7, q8, q9, q10, q11, q12]) = (4) := by
                      simp only [beq_iff_eq, beq_eq_false_iff_ne, ne_eq, bne_iff_ne, bne_eq_false_iff_eq, decide_eq_true_eq, decide_eq_false_iff_not, Bool.not_eq_true', Bool.not_eq_false', inR_iff, inR_fp, gt_iff_lt] at *
                      rw [rq_ar]
                      grind
                    rw [V]
                    refine evR_calls (I := noFacts) (v := .int .i64 (4)) (ctxOf_ok libC4_ok (eq_none _)) (by kernel_rfl) Tryd.func14 rfl lps_nil (rrf_000010001 q0 q1 q2 q3 q4 q5 q6 q7 q8 q9 q10 q11 q12) rfl (all2_R (.cons rfl .nil)) rfl w (Nat.zero_le _) (pickL_ok ?_ _)
                    repeat' (first | exact cd_nil | refine cd_cons ?_ ?_)
                    all_goals first | with_reducible rfl | with_reducible assumption | rfl | simp_all

                  | false =>
                    cases k17 : (decide (q9 > 1073741824)) with
                    | true =>
                      have V : (rqE [q0, q1, q2, q3, q4, q5, q6, q7, q8, q9, q10, q11, q12]) = (4) := by
                        simp only [beq_iff_eq, beq_eq_false_iff_ne, ne_eq, bne_iff_ne, bne_eq_false_iff_eq, decide_eq_true_eq, decide_eq_false_iff_not, Bool.not_eq_true', Bool.not_eq_false', inR_iff, inR_fp, gt_iff_lt] at *
                        rw [rq_ar]
                        grind
                      rw [V]
                      refine evR_calls (I := noFacts) (v := .int .i64 (4)) (ctxOf_ok libC4_ok (eq_none _)) (by kernel_rfl) Tryd.func14 rfl lps_nil (rrf_0000100001 q0 q1 q2 q3 q4 q5 q6 q7 q8 q9 q10 q11 q12) rfl (all2_R (.cons rfl .nil)) rfl w (Nat.zero_le _) (pickL_ok ?_ _)
                      repeat' (first | exact cd_nil | refine cd_cons ?_ ?_)
                      all_goals first | with_reducible rfl | with_reducible assumption | rfl | simp_all

                    | false =>
                      cases k18 : (decide (q10 < -1073741824)) with
                      | true =>
                        have V : (rqE [q0, q1, q2, q3, q4, q5, q6, q7, q8, q9, q10, q11, q12]) = (4) := by
                          simp only [beq_iff_eq, beq_eq_false_iff_ne, ne_eq, bne_iff_ne, bne_eq_false_iff_eq, decide_eq_true_eq, decide_eq_false_iff_not, Bool.not_eq_true', Bool.not_eq_false', inR_iff, inR_fp, gt_iff_lt] at *
                          rw [rq_ar]
                          grind
                        rw [V]
                        refine evR_calls (I := noFacts) (v := .int .i64 (4)) (ctxOf_ok libC4_ok (eq_none _)) (by kernel_rfl) Tryd.func14 rfl lps_nil (rrf_00001000001 q0 q1 q2 q3 q4 q5 q6 q7 q8 q9 q10 q11 q12) rfl (all2_R (.cons rfl .nil)) rfl w (Nat.zero_le _) (pickL_ok ?_ _)
                        repeat' (first | exact cd_nil | refine cd_cons ?_ ?_)
                        all_goals first | with_reducible rfl | with_reducible assumption | rfl | simp_all

                      | false =>
                        cases k19 : (decide (q10 > 1073741824)) with
                        | true =>
                          have V : (rqE [q0, q1, q2, q3, q4, q5, q6, q7, q8, q9, q10, q11, q12]) = (4) := by
                            simp only [beq_iff_eq, beq_eq_false_iff_ne, ne_eq, bne_iff_ne, bne_eq_false_iff_eq, decide_eq_true_eq, decide_eq_false_iff_not, Bool.not_eq_true', Bool.not_eq_false', inR_iff, inR_fp, gt_iff_lt] at *
                            rw [rq_ar]
                            grind
                          rw [V]
                          refine evR_calls (I := noFacts) (v := .int .i64 (4)) (ctxOf_ok libC4_ok (eq_none _)) (by kernel_rfl) Tryd.func14 rfl lps_nil (rrf_000010000001 q0 q1 q2 q3 q4 q5 q6 q7 q8 q9 q10 q11 q12) rfl (all2_R (.cons rfl .nil)) rfl w (Nat.zero_le _) (pickL_ok ?_ _)
                          repeat' (first | exact cd_nil | refine cd_cons ?_ ?_)
                          all_goals first | with_reducible rfl | with_reducible assumption | rfl | simp_all

                        | false =>
                          cases k20 : (!inR q11 0 4) with
                          | true =>
                            have V : (rqE [q0, q1, q2, q3, q4, q5, q6, q7, q8, q9, q10, q11, q12]) = (4) := by
                              simp only [beq_iff_eq, beq_eq_false_iff_ne, ne_eq, bne_iff_ne, bne_eq_false_iff_eq, decide_eq_true_eq, decide_eq_false_iff_not, Bool.not_eq_true', Bool.not_eq_false', inR_iff, inR_fp, gt_iff_lt] at *
                              rw [rq_ar]
                              grind
                            rw [V]
                            refine evR_calls (I := noFacts) (v := .int .i64 (4)) (ctxOf_ok libC4_ok (eq_none _)) (by kernel_rfl) Tryd.func14 rfl lps_nil (rrf_0000100000001 q0 q1 q2 q3 q4 q5 q6 q7 q8 q9 q10 q11 q12) rfl (all2_R (.cons rfl .nil)) rfl w (Nat.zero_le _) (pickL_ok ?_ _)
                            repeat' (first | exact cd_nil | refine cd_cons ?_ ?_)
                            all_goals first | with_reducible rfl | with_reducible assumption | rfl | simp_all

                          | false =>
                            cases k21 : (!inR q12 1 100) with
                            | true =>
                              have V : (rqE [q0, q1, q2, q3, q4, q5, q6, q7, q8, q9, q10, q11, q12]) = (4) := by
                                simp only [beq_iff_eq, beq_eq_false_iff_ne, ne_eq, bne_iff_ne, bne_eq_false_iff_eq, decide_eq_true_eq, decide_eq_false_iff_not, Bool.not_eq_true', Bool.not_eq_false', inR_iff, inR_fp, gt_iff_lt] at *
                                rw [rq_ar]
                                grind
                              rw [V]
                              refine evR_calls (I := noFacts) (v := .int .i64 (4)) (ctxOf_ok libC4_ok (eq_none _)) (by kernel_rfl) Tryd.func14 rfl lps_nil (rrf_00001000000001 q0 q1 q2 q3 q4 q5 q6 q7 q8 q9 q10 q11 q12) rfl (all2_R (.cons rfl .nil)) rfl w (Nat.zero_le _) (pickL_ok ?_ _)
                              repeat' (first | exact cd_nil | refine cd_cons ?_ ?_)
                              all_goals first | with_reducible rfl | with_reducible assumption | rfl | simp_all

                            | false =>
                              have V : (rqE [q0, q1, q2, q3, q4, q5, q6, q7, q8, q9, q10, q11, q12]) = (0) := by
                                simp only [beq_iff_eq, beq_eq_false_iff_ne, ne_eq, bne_iff_ne, bne_eq_false_iff_eq, decide_eq_true_eq, decide_eq_false_iff_not, Bool.not_eq_true', Bool.not_eq_false', inR_iff, inR_fp, gt_iff_lt] at *
                                rw [rq_ar]
                                grind
                              rw [V]
                              refine evR_calls (I := noFacts) (v := .int .i64 (0)) (ctxOf_ok libC4_ok (eq_none _)) (by kernel_rfl) Tryd.func14 rfl lps_nil (rrf_00001000000000 q0 q1 q2 q3 q4 q5 q6 q7 q8 q9 q10 q11 q12) rfl (all2_R (.cons rfl .nil)) rfl w (Nat.zero_le _) (pickL_ok ?_ _)
                              repeat' (first | exact cd_nil | refine cd_cons ?_ ?_)
                              all_goals first | with_reducible rfl | with_reducible assumption | rfl | simp_all

          | false =>
            cases k22 : (decide (q6 > 1)) with
            | true =>
              cases k23 : (!inR q7 1 64) with
              | true =>
                have V : (rqE [q0, q1, q2, q3, q4, q5, q6, q7, q8, q9, q10, q11, q12]) = (4) := by
                  simp only [beq_iff_eq, beq_eq_false_iff_ne, ne_eq, bne_iff_ne, bne_eq_false_iff_eq, decide_eq_true_eq, decide_eq_false_iff_not, Bool.not_eq_true', Bool.not_eq_false', inR_iff, inR_fp, gt_iff_lt] at *
                  rw [rq_ar]
                  grind
                rw [V]
                refine evR_calls (I := noFacts) (v := .int .i64 (4)) (ctxOf_ok libC4_ok (eq_none _)) (by kernel_rfl) Tryd.func14 rfl lps_nil (rrf_0000011 q0 q1 q2 q3 q4 q5 q6 q7 q8 q9 q10 q11 q12) rfl (all2_R (.cons rfl .nil)) rfl w (Nat.zero_le _) (pickL_ok ?_ _)
                repeat' (first | exact cd_nil | refine cd_cons ?_ ?_)
                all_goals first | with_reducible rfl | with_reducible assumption | rfl | simp_all

              | false =>
                cases k24 : (!inR q8 q7 64) with
                | true =>
                  have V : (rqE [q0, q1, q2, q3, q4, q5, q6, q7, q8, q9, q10, q11, q12]) = (4) := by
                    simp only [beq_iff_eq, beq_eq_false_iff_ne, ne_eq, bne_iff_ne, bne_eq_false_iff_eq, decide_eq_true_eq, decide_eq_false_iff_not, Bool.not_eq_true', Bool.not_eq_false', inR_iff, inR_fp, gt_iff_lt] at *
                    rw [rq_ar]
                    grind
                  rw [V]
                  refine evR_calls (I := noFacts) (v := .int .i64 (4)) (ctxOf_ok libC4_ok (eq_none _)) (by kernel_rfl) Tryd.func14 rfl lps_nil (rrf_00000101 q0 q1 q2 q3 q4 q5 q6 q7 q8 q9 q10 q11 q12) rfl (all2_R (.cons rfl .nil)) rfl w (Nat.zero_le _) (pickL_ok ?_ _)
                  repeat' (first | exact cd_nil | refine cd_cons ?_ ?_)
                  all_goals first | with_reducible rfl | with_reducible assumption | rfl | simp_all

                | false =>
                  cases k25 : (decide (q9 < -1073741824)) with
                  | true =>
                    have V : (rqE [q0, q1, q2, q3, q4, q5, q6, q7, q8, q9, q10, q11, q12]) = (4) := by
                      simp only [beq_iff_eq, beq_eq_false_iff_ne, ne_eq, bne_iff_ne, bne_eq_false_iff_eq, decide_eq_true_eq, decide_eq_false_iff_not, Bool.not_eq_true', Bool.not_eq_false', inR_iff, inR_fp, gt_iff_lt] at *
                      rw [rq_ar]
                      grind
                    rw [V]
                    refine evR_calls (I := noFacts) (v := .int .i64 (4)) (ctxOf_ok libC4_ok (eq_none _)) (by kernel_rfl) Tryd.func14 rfl lps_nil (rrf_000001001 q0 q1 q2 q3 q4 q5 q6 q7 q8 q9 q10 q11 q12) rfl (all2_R (.cons rfl .nil)) rfl w (Nat.zero_le _) (pickL_ok ?_ _)
                    repeat' (first | exact cd_nil | refine cd_cons ?_ ?_)
                    all_goals first | with_reducible rfl | with_reducible assumption | rfl | simp_all

                  | false =>
                    cases k26 : (decide (q9 > 1073741824)) with
                    | true =>
                      have V : (rqE [q0, q1, q2, q3, q4, q5, q6, q7, q8, q9, q10, q11, q12]) = (4) := by
                        simp only [beq_iff_eq, beq_eq_false_iff_ne, ne_eq, bne_iff_ne, bne_eq_false_iff_eq, decide_eq_true_eq, decide_eq_false_iff_not, Bool.not_eq_true', Bool.not_eq_false', inR_iff, inR_fp, gt_iff_lt] at *
                        rw [rq_ar]
                        grind
                      rw [V]
                      refine evR_calls (I := noFacts) (v := .int .i64 (4)) (ctxOf_ok libC4_ok (eq_none _)) (by kernel_rfl) Tryd.func14 rfl lps_nil (rrf_0000010001 q0 q1 q2 q3 q4 q5 q6 q7 q8 q9 q10 q11 q12) rfl (all2_R (.cons rfl .nil)) rfl w (Nat.zero_le _) (pickL_ok ?_ _)
                      repeat' (first | exact cd_nil | refine cd_cons ?_ ?_)
                      all_goals first | with_reducible rfl | with_reducible assumption | rfl | simp_all

                    | false =>
                      cases k27 : (decide (q10 < -1073741824)) with
                      | true =>
                        have V : (rqE [q0, q1, q2, q3, q4, q5, q6, q7, q8, q9, q10, q11, q12]) = (4) := by
                          simp only [beq_iff_eq, beq_eq_false_iff_ne, ne_eq, bne_iff_ne, bne_eq_false_iff_eq, decide_eq_true_eq, decide_eq_false_iff_not, Bool.not_eq_true', Bool.not_eq_false', inR_iff, inR_fp, gt_iff_lt] at *
                          rw [rq_ar]
                          grind
                        rw [V]
                        refine evR_calls (I := noFacts) (v := .int .i64 (4)) (ctxOf_ok libC4_ok (eq_none _)) (by kernel_rfl) Tryd.func14 rfl lps_nil (rrf_00000100001 q0 q1 q2 q3 q4 q5 q6 q7 q8 q9 q10 q11 q12) rfl (all2_R (.cons rfl .nil)) rfl w (Nat.zero_le _) (pickL_ok ?_ _)
                        repeat' (first | exact cd_nil | refine cd_cons ?_ ?_)
                        all_goals first | with_reducible rfl | with_reducible assumption | rfl | simp_all

                      | false =>
                        cases k28 : (decide (q10 > 1073741824)) with
                        | true =>
                          have V : (rqE [q0, q1, q2, q3, q4, q5, q6, q7, q8, q9, q10, q11, q12]) = (4) := by
                            simp only [beq_iff_eq, beq_eq_false_iff_ne, ne_eq, bne_iff_ne, bne_eq_false_iff_eq, decide_eq_true_eq, decide_eq_false_iff_not, Bool.not_eq_true', Bool.not_eq_false', inR_iff, inR_fp, gt_iff_lt] at *
                            rw [rq_ar]
                            grind
                          rw [V]
                          refine evR_calls (I := noFacts) (v := .int .i64 (4)) (ctxOf_ok libC4_ok (eq_none _)) (by kernel_rfl) Tryd.func14 rfl lps_nil (rrf_000001000001 q0 q1 q2 q3 q4 q5 q6 q7 q8 q9 q10 q11 q12) rfl (all2_R (.cons rfl .nil)) rfl w (Nat.zero_le _) (pickL_ok ?_ _)
                          repeat' (first | exact cd_nil | refine cd_cons ?_ ?_)
                          all_goals first | with_reducible rfl | with_reducible assumption | rfl | simp_all

                        | false =>
                          cases k29 : (!inR q11 0 4) with
                          | true =>
                            have V : (rqE [q0, q1, q2, q3, q4, q5, q6, q7, q8, q9, q10, q11, q12]) = (4) := by
                              simp only [beq_iff_eq, beq_eq_false_iff_ne, ne_eq, bne_iff_ne, bne_eq_false_iff_eq, decide_eq_true_eq, decide_eq_false_iff_not, Bool.not_eq_true', Bool.not_eq_false', inR_iff, inR_fp, gt_iff_lt] at *
                              rw [rq_ar]
                              grind
                            rw [V]
                            refine evR_calls (I := noFacts) (v := .int .i64 (4)) (ctxOf_ok libC4_ok (eq_none _)) (by kernel_rfl) Tryd.func14 rfl lps_nil (rrf_0000010000001 q0 q1 q2 q3 q4 q5 q6 q7 q8 q9 q10 q11 q12) rfl (all2_R (.cons rfl .nil)) rfl w (Nat.zero_le _) (pickL_ok ?_ _)
                            repeat' (first | exact cd_nil | refine cd_cons ?_ ?_)
                            all_goals first | with_reducible rfl | with_reducible assumption | rfl | simp_all

                          | false =>
                            cases k30 : (!inR q12 1 100) with
                            | true =>
                              have V : (rqE [q0, q1, q2, q3, q4, q5, q6, q7, q8, q9, q10, q11, q12]) = (4) := by
                                simp only [beq_iff_eq, beq_eq_false_iff_ne, ne_eq, bne_iff_ne, bne_eq_false_iff_eq, decide_eq_true_eq, decide_eq_false_iff_not, Bool.not_eq_true', Bool.not_eq_false', inR_iff, inR_fp, gt_iff_lt] at *
                                rw [rq_ar]
                                grind
                              rw [V]
                              refine evR_calls (I := noFacts) (v := .int .i64 (4)) (ctxOf_ok libC4_ok (eq_none _)) (by kernel_rfl) Tryd.func14 rfl lps_nil (rrf_00000100000001 q0 q1 q2 q3 q4 q5 q6 q7 q8 q9 q10 q11 q12) rfl (all2_R (.cons rfl .nil)) rfl w (Nat.zero_le _) (pickL_ok ?_ _)
                              repeat' (first | exact cd_nil | refine cd_cons ?_ ?_)
                              all_goals first | with_reducible rfl | with_reducible assumption | rfl | simp_all

                            | false =>
                              have V : (rqE [q0, q1, q2, q3, q4, q5, q6, q7, q8, q9, q10, q11, q12]) = (0) := by
                                simp only [beq_iff_eq, beq_eq_false_iff_ne, ne_eq, bne_iff_ne, bne_eq_false_iff_eq, decide_eq_true_eq, decide_eq_false_iff_not, Bool.not_eq_true', Bool.not_eq_false', inR_iff, inR_fp, gt_iff_lt] at *
                                rw [rq_ar]
                                grind
                              rw [V]
                              refine evR_calls (I := noFacts) (v := .int .i64 (0)) (ctxOf_ok libC4_ok (eq_none _)) (by kernel_rfl) Tryd.func14 rfl lps_nil (rrf_00000100000000 q0 q1 q2 q3 q4 q5 q6 q7 q8 q9 q10 q11 q12) rfl (all2_R (.cons rfl .nil)) rfl w (Nat.zero_le _) (pickL_ok ?_ _)
                              repeat' (first | exact cd_nil | refine cd_cons ?_ ?_)
                              all_goals first | with_reducible rfl | with_reducible assumption | rfl | simp_all

            | false =>
              cases k31 : (decide (q9 < -1073741824)) with
              | true =>
                have V : (rqE [q0, q1, q2, q3, q4, q5, q6, q7, q8, q9, q10, q11, q12]) = (4) := by
                  simp only [beq_iff_eq, beq_eq_false_iff_ne, ne_eq, bne_iff_ne, bne_eq_false_iff_eq, decide_eq_true_eq, decide_eq_false_iff_not, Bool.not_eq_true', Bool.not_eq_false', inR_iff, inR_fp, gt_iff_lt] at *
                  rw [rq_ar]
                  grind
                rw [V]
                refine evR_calls (I := noFacts) (v := .int .i64 (4)) (ctxOf_ok libC4_ok (eq_none _)) (by kernel_rfl) Tryd.func14 rfl lps_nil (rrf_0000001 q0 q1 q2 q3 q4 q5 q6 q7 q8 q9 q10 q11 q12) rfl (all2_R (.cons rfl .nil)) rfl w (Nat.zero_le _) (pickL_ok ?_ _)
                repeat' (first | exact cd_nil | refine cd_cons ?_ ?_)
                all_goals first | with_reducible rfl | with_reducible assumption | rfl | simp_all

              | false =>
                cases k32 : (decide (q9 > 1073741824)) with
                | true =>
                  have V : (rqE [q0, q1, q2, q3, q4, q5, q6, q7, q8, q9, q10, q11, q12]) = (4) := by
                    simp only [beq_iff_eq, beq_eq_false_iff_ne, ne_eq, bne_iff_ne, bne_eq_false_iff_eq, decide_eq_true_eq, decide_eq_false_iff_not, Bool.not_eq_true', Bool.not_eq_false', inR_iff, inR_fp, gt_iff_lt] at *
                    rw [rq_ar]
                    grind
                  rw [V]
                  refine evR_calls (I := noFacts) (v := .int .i64 (4)) (ctxOf_ok libC4_ok (eq_none _)) (by kernel_rfl) Tryd.func14 rfl lps_nil (rrf_00000001 q0 q1 q2 q3 q4 q5 q6 q7 q8 q9 q10 q11 q12) rfl (all2_R (.cons rfl .nil)) rfl w (Nat.zero_le _) (pickL_ok ?_ _)
                  repeat' (first | exact cd_nil | refine cd_cons ?_ ?_)
                  all_goals first | with_reducible rfl | with_reducible assumption | rfl | simp_all

                | false =>
                  cases k33 : (decide (q10 < -1073741824)) with
                  | true =>
                    have V : (rqE [q0, q1, q2, q3, q4, q5, q6, q7, q8, q9, q10, q11, q12]) = (4) := by
                      simp only [beq_iff_eq, beq_eq_false_iff_ne, ne_eq, bne_iff_ne, bne_eq_false_iff_eq, decide_eq_true_eq, decide_eq_false_iff_not, Bool.not_eq_true', Bool.not_eq_false', inR_iff, inR_fp, gt_iff_lt] at *
                      rw [rq_ar]
                      grind
                    rw [V]
                    refine evR_calls (I := noFacts) (v := .int .i64 (4)) (ctxOf_ok libC4_ok (eq_none _)) (by kernel_rfl) Tryd.func14 rfl lps_nil (rrf_000000001 q0 q1 q2 q3 q4 q5 q6 q7 q8 q9 q10 q11 q12) rfl (all2_R (.cons rfl .nil)) rfl w (Nat.zero_le _) (pickL_ok ?_ _)
                    repeat' (first | exact cd_nil | refine cd_cons ?_ ?_)
                    all_goals first | with_reducible rfl | with_reducible assumption | rfl | simp_all

                  | false =>
                    cases k34 : (decide (q10 > 1073741824)) with
                    | true =>
                      have V : (rqE [q0, q1, q2, q3, q4, q5, q6, q7, q8, q9, q10, q11, q12]) = (4) := by
                        simp only [beq_iff_eq, beq_eq_false_iff_ne, ne_eq, bne_iff_ne, bne_eq_false_iff_eq, decide_eq_true_eq, decide_eq_false_iff_not, Bool.not_eq_true', Bool.not_eq_false', inR_iff, inR_fp, gt_iff_lt] at *
                        rw [rq_ar]
                        grind
                      rw [V]
                      refine evR_calls (I := noFacts) (v := .int .i64 (4)) (ctxOf_ok libC4_ok (eq_none _)) (by kernel_rfl) Tryd.func14 rfl lps_nil (rrf_0000000001 q0 q1 q2 q3 q4 q5 q6 q7 q8 q9 q10 q11 q12) rfl (all2_R (.cons rfl .nil)) rfl w (Nat.zero_le _) (pickL_ok ?_ _)
                      repeat' (first | exact cd_nil | refine cd_cons ?_ ?_)
                      all_goals first | with_reducible rfl | with_reducible assumption | rfl | simp_all

                    | false =>
                      cases k35 : (!inR q11 0 4) with
                      | true =>
                        have V : (rqE [q0, q1, q2, q3, q4, q5, q6, q7, q8, q9, q10, q11, q12]) = (4) := by
                          simp only [beq_iff_eq, beq_eq_false_iff_ne, ne_eq, bne_iff_ne, bne_eq_false_iff_eq, decide_eq_true_eq, decide_eq_false_iff_not, Bool.not_eq_true', Bool.not_eq_false', inR_iff, inR_fp, gt_iff_lt] at *
                          rw [rq_ar]
                          grind
                        rw [V]
                        refine evR_calls (I := noFacts) (v := .int .i64 (4)) (ctxOf_ok libC4_ok (eq_none _)) (by kernel_rfl) Tryd.func14 rfl lps_nil (rrf_00000000001 q0 q1 q2 q3 q4 q5 q6 q7 q8 q9 q10 q11 q12) rfl (all2_R (.cons rfl .nil)) rfl w (Nat.zero_le _) (pickL_ok ?_ _)
                        repeat' (first | exact cd_nil | refine cd_cons ?_ ?_)
                        all_goals first | with_reducible rfl | with_reducible assumption | rfl | simp_all

                      | false =>
                        cases k36 : (!inR q12 1 100) with
                        | true =>
                          have V : (rqE [q0, q1, q2, q3, q4, q5, q6, q7, q8, q9, q10, q11, q12]) = (4) := by
                            simp only [beq_iff_eq, beq_eq_false_iff_ne, ne_eq, bne_iff_ne, bne_eq_false_iff_eq, decide_eq_true_eq, decide_eq_false_iff_not, Bool.not_eq_true', Bool.not_eq_false', inR_iff, inR_fp, gt_iff_lt] at *
                            rw [rq_ar]
                            grind
                          rw [V]
                          refine evR_calls (I := noFacts) (v := .int .i64 (4)) (ctxOf_ok libC4_ok (eq_none _)) (by kernel_rfl) Tryd.func14 rfl lps_nil (rrf_000000000001 q0 q1 q2 q3 q4 q5 q6 q7 q8 q9 q10 q11 q12) rfl (all2_R (.cons rfl .nil)) rfl w (Nat.zero_le _) (pickL_ok ?_ _)
                          repeat' (first | exact cd_nil | refine cd_cons ?_ ?_)
                          all_goals first | with_reducible rfl | with_reducible assumption | rfl | simp_all

                        | false =>
                          have V : (rqE [q0, q1, q2, q3, q4, q5, q6, q7, q8, q9, q10, q11, q12]) = (0) := by
                            simp only [beq_iff_eq, beq_eq_false_iff_ne, ne_eq, bne_iff_ne, bne_eq_false_iff_eq, decide_eq_true_eq, decide_eq_false_iff_not, Bool.not_eq_true', Bool.not_eq_false', inR_iff, inR_fp, gt_iff_lt] at *
                            rw [rq_ar]
                            grind
                          rw [V]
                          refine evR_calls (I := noFacts) (v := .int .i64 (0)) (ctxOf_ok libC4_ok (eq_none _)) (by kernel_rfl) Tryd.func14 rfl lps_nil (rrf_000000000000 q0 q1 q2 q3 q4 q5 q6 q7 q8 q9 q10 q11 q12) rfl (all2_R (.cons rfl .nil)) rfl w (Nat.zero_le _) (pickL_ok ?_ _)
                          repeat' (first | exact cd_nil | refine cd_cons ?_ ?_)
                          all_goals first | with_reducible rfl | with_reducible assumption | rfl | simp_all
end
end Go.Proofs.YtbnlpcmnkcaemaaDoor.AtPr

