/-
  frac.From as a function of facts.
  Conditions: those of each theorem.
-/
import Derived.Test.YtocheeocnbfbiaaDoorKK
set_option linter.unusedVariables false
set_option linter.unusedSimpArgs false
namespace Go.Proofs.YtocheeocnbfbiaaDoor
open Go.RowKit Go.Shelf Ev Wd

abbrev libH : List (Nat × FnSp Nm) := (30, factSp gCT) :: libG
theorem libH_ok : LibOk Tryd.prog rowI (lib1 libH) := lib1_cons gCT_ok Tryd.call30 libG_ok.rows
set_option maxRecDepth 100000 in
theorem fm_1 (l : List Int) : evR (ctxLp Tryd.prog rowI eqsF libH [] frLps) Tryd.f10 [(.w (.one (.fv (.row l))))] [true] = some (AV.tup [AW.agg [AC.int IntKind.i64 0, AC.int IntKind.i64 0], AW.one (AC.int IntKind.i64 (ctV l))], (pickL [(decide (lenI l ≤ 9223372036854775807), true), (ctV l != 0, true)] [0, 1])) := by kernel_rfl
set_option maxRecDepth 100000 in
theorem fm_01 (l : List Int) : evR (ctxLp Tryd.prog rowI eqsF libH [] frLps) Tryd.f10 [(.w (.one (.fv (.row l))))] [false, true] = some (AV.tup [AW.agg [AC.int IntKind.i64 (frR l (IntKind.i64.wrap (lenI l - 1) + 1).toNat 1 0).snd.fst, AC.int IntKind.i64 (frR l (IntKind.i64.wrap (lenI l - 1) + 1).toNat 1 0).snd.snd], AW.one (AC.int IntKind.i64 0)], (pickL [(decide (lenI l ≤ 9223372036854775807), true), (ctV l != 0, false), ((frR l (IntKind.i64.wrap (lenI l - 1) + 1).toNat 1 0).fst, true), (okR l (IntKind.i64.wrap (lenI l - 1)) 1 0, true)] [0, 1, 2, 3])) := by kernel_rfl
set_option maxRecDepth 100000 in
theorem fm_00 (l : List Int) : evR (ctxLp Tryd.prog rowI eqsF libH [] frLps) Tryd.f10 [(.w (.one (.fv (.row l))))] [false, false] = some (AV.tup [AW.agg [AC.int IntKind.i64 0, AC.int IntKind.i64 0], AW.one (AC.int IntKind.i64 2)], (pickL [(decide (lenI l ≤ 9223372036854775807), true), (ctV l != 0, false), ((frR l (IntKind.i64.wrap (lenI l - 1) + 1).toNat 1 0).fst, false), (okR l (IntKind.i64.wrap (lenI l - 1)) 1 0, true)] [0, 1, 2, 3])) := by kernel_rfl
def fmA (l : List Int) : Int := if ctV l = 0 then limA (kN l).1 (kN l).2 else 0
def fmB (l : List Int) : Int := if ctV l = 0 then limB (kN l).1 (kN l).2 else 0
def fmE (l : List Int) : Int := if ctV l = 0 then limE (kN l).1 (kN l).2 else ctV l
theorem ctV_zero {l : List Int} (h : ctV l = 0) : l ≠ [] ∧ rg (-1152921504606846976) l = true := by
  unfold ctV at h
  split at h
  · cases h
  · rename_i hn
    split at h
    · rename_i hr; exact ⟨hn, hr⟩
    · cases h
/-- frac.From. -/
def gFrom : List (AV Nm) → Option (AV Nm × List (Bool × Bool))
  | [.w (.one (.fv (.row l)))] => some (.tup [frA (fmA l) (fmB l), .one (.int .i64 (fmE l))], [(decide (lenI l ≤ 9223372036854775807), true)])
  | _ => none
set_option maxRecDepth 100000 in
theorem gFrom_ok : (factSp gFrom).ok Tryd.prog rowI 10 :=
  factR_ok (ctxLp_ok libH_ok eqsF_ok (fns_nil _) (fun f fn h => by cases h)) (by kernel_rfl) Tryd.func10 rfl frLps_ok fun args v cd hg hc => by
    unfold gFrom at hg
    split at hg
    · rename_i l
      cases hg
      refine ⟨rfl, rfl, rfl, ?_⟩
      have h1 : lenI l ≤ 9223372036854775807 := of_decide_eq_true (hc (decide (lenI l ≤ 9223372036854775807), true) (by simp))
      have c0 : decide (lenI l ≤ 9223372036854775807) = true := decide_eq_true h1
      by_cases hz : ctV l = 0
      · obtain ⟨hn, hr⟩ := ctV_zero hz
        have hp : 0 < l.length := List.length_pos_iff.2 hn
        have w1 : IntKind.i64.wrap (lenI l - 1) = lenI l - 1 := by rw [IntKind.wrap_i64]; unfold lenI at h1 ⊢; omega
        have w2 : (IntKind.i64.wrap (lenI l - 1) + 1).toNat = l.length := by rw [w1]; unfold lenI; omega
        have c1 : (ctV l != 0) = false := by rw [hz]; rfl
        have c2 : okR l (IntKind.i64.wrap (lenI l - 1)) 1 0 = true := by
          rw [w1]
          simp only [okR, Bool.and_eq_true, decide_eq_true_eq]
          refine ⟨⟨⟨⟨⟨⟨⟨hr, ?_⟩, ?_⟩, h1⟩, by omega⟩, by omega⟩, by omega⟩, by omega⟩ <;> unfold lenI <;> omega
        obtain ⟨k1, k2⟩ := frR_is hr l.length (Nat.le_refl _) (fun h => by omega)
        rw [List.drop_eq_nil_of_le (Nat.le_refl _)] at k1 k2
        by_cases hf : frOk (kN l).1 (kN l).2 = true
        · have c3 : (frR l (IntKind.i64.wrap (lenI l - 1) + 1).toNat 1 0).fst = true := by rw [w2]; exact k1.trans hf
          refine ⟨[false, true], _, _, fm_01 l, fun E u hu => ?_, pickL_ok ?_ _⟩
          · obtain ⟨e1, e2, e3⟩ := lim_yes (frOk_iff.1 hf)
            have k3 : (frR l l.length 1 0).2 = kN l := k2 hf
            rw [w2, k3] at hu
            rw [show fmA l = (kN l).1 by rw [fmA, if_pos hz, e1], show fmB l = (kN l).2 by rw [fmB, if_pos hz, e2], show fmE l = 0 by rw [fmE, if_pos hz, e3]]
            exact hu
          repeat' (first | exact cd_nil | refine cd_cons ?_ ?_)
          all_goals first | rfl | with_reducible assumption
        · have c3 : (frR l (IntKind.i64.wrap (lenI l - 1) + 1).toNat 1 0).fst = false := by rw [w2]; exact k1.trans (by simpa using hf)
          refine ⟨[false, false], _, _, fm_00 l, fun E u hu => ?_, pickL_ok ?_ _⟩
          · obtain ⟨e1, e2, e3⟩ := lim_no (fun h => hf (frOk_iff.2 h))
            rw [show fmA l = 0 by rw [fmA, if_pos hz, e1], show fmB l = 0 by rw [fmB, if_pos hz, e2], show fmE l = 2 by rw [fmE, if_pos hz, e3]]
            exact hu
          repeat' (first | exact cd_nil | refine cd_cons ?_ ?_)
          all_goals first | rfl | with_reducible assumption
      · have c1 : (ctV l != 0) = true := by simpa using hz
        refine ⟨[true], _, _, fm_1 l, fun E u hu => ?_, pickL_ok ?_ _⟩
        · rw [show fmA l = 0 by rw [fmA, if_neg hz], show fmB l = 0 by rw [fmB, if_neg hz], show fmE l = ctV l by rw [fmE, if_neg hz]]
          exact hu
        repeat' (first | exact cd_nil | refine cd_cons ?_ ?_)
        all_goals first | rfl | with_reducible assumption
    · cases hg

end Go.Proofs.YtocheeocnbfbiaaDoor

