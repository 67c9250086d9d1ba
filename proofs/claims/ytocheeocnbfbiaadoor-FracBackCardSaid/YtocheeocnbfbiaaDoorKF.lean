/-
  frac.Terms as a function of facts: it returns a slice that holds the terms of a continued fraction.
  Conditions: those of each theorem.
-/
import Derived.Test.YtocheeocnbfbiaaDoorKE
set_option linter.unusedVariables false
set_option linter.unusedSimpArgs false
namespace Go.Proofs.YtocheeocnbfbiaaDoor
open Go.RowKit Go.Shelf Ev Wd

/-- Slices of int64 are rows from where they are declared. -/
def rowN (t : TypeId) : Option Nm := bif Nat.beq t 31 then some (.row []) else none
def rowI : Interp Nm := numI.rows rowN (fun t g D w h => by
  unfold rowN at h
  cases hb : Nat.beq t 31 with
  | false => rw [hb] at h; cases h
  | true => rw [hb] at h; cases h; exact nil_row D w)
abbrev checkS : FnSp Nm := sp1 dFr (fun x => aInt .i64 (chkV x.n x.d)) (fun x => [(i64B x.n, true), (i64B x.d, true)])
theorem checkS_ok (I : Interp Nm) : checkS.ok Tryd.prog I 22 := sp1_ok fun x hc => by
  obtain ⟨h1, h2⟩ := cd2 hc
  rw [i64B_iff] at h1 h2
  exact ⟨_, rfl, fun w => check_any x.n x.d h1.1 h1.2 h2.1 h2.2 w⟩
abbrev libF : List (Nat × FnSp Nm) := [(22, checkS), (29, floordivS), (28, modS)]
theorem libF_ok : LibOk Tryd.prog rowI (lib1 libF) := (lib1_cons (checkS_ok rowI) Tryd.call22 (lib1_cons (floordivS_ok rowI) Tryd.call29 (lib1_cons modS_ok.rows Tryd.call28 (lib1_nil _ _))))
abbrev teLps : Lps Nm := [((30, [false, true, false, true, true, true]), teD.sp nmSafe)]
theorem teLps_ok : LpsOk Tryd.prog rowI teLps Tryd.f9.ntmps (bodyOf Tryd.f9) := lps_cons (fun _ x hx => (teD_ok x hx).rows) lps_nil
set_option maxRecDepth 100000 in
theorem tf_1 (n d : Int) : evR (ctxLp Tryd.prog rowI eqsF libF [] teLps) Tryd.f9 [.w (frA n d)] [true] = some (.tup [.one (.tip 9 0 (.row [])), .one (.int .i64 (chkV n d))], [(i64B n, true), (i64B d, true), (chkV n d != 0, true)]) := by kernel_rfl
set_option maxRecDepth 100000 in
theorem tf_0 (n d : Int) : evR (ctxLp Tryd.prog rowI eqsF libF [] teLps) Tryd.f9 [.w (frA n d)] [false] = some (.tup [.one (.tip 8 (0 + (cf n d.toNat).length) (.row ([] ++ cf n d.toNat))), .one (.int .i64 0)], [(i64B n, true), (i64B d, true), (chkV n d != 0, false), (TE.ok ⟨n, d, [], 0, 0⟩ && decide (0 + (cf n d.toNat).length ≤ 1000), true)]) := by kernel_rfl
/-- frac.Terms. -/
def gTerms : List (AV Nm) → Option (AV Nm × List (Bool × Bool))
  | [.w (.agg [.int .i64 n, .int .i64 d])] => some (.tup [.one (.fv (.row (tmsV n d))), .one (.int .i64 (chkV n d))], [(i64B n, true), (i64B d, true)])
  | _ => none
theorem gTerms_ok : (factSp gTerms).ok Tryd.prog rowI 9 :=
  factR_ok (ctxLp_ok libF_ok eqsF_ok (fns_nil _) (fun f fn h => by cases h)) (by kernel_rfl) Tryd.func9 rfl teLps_ok fun args v cd hg hc => by
    unfold gTerms at hg
    split at hg
    · rename_i n d
      cases hg
      refine ⟨rfl, rfl, rfl, ?_⟩
      have h1 := hc (i64B n, true) (by simp)
      have h2 := hc (i64B d, true) (by simp)
      simp only at h1 h2
      by_cases hz : chkV n d = 0
      · have hv := (chkV_zero.1 hz).bd
        have hl : (cf n d.toNat).length ≤ 2 * 61 := cf_len 61 n d.toNat (by omega)
        have hok : (TE.ok ⟨n, d, [], 0, 0⟩ && decide (0 + (cf n d.toNat).length ≤ 1000)) = true := by
          rw [Bool.and_eq_true]
          refine ⟨?_, decide_eq_true (by omega)⟩
          show okE n d 0 0 = true
          simp only [okE, Bool.and_eq_true, decide_eq_true_eq, and_true]
          omega
        have h3 : (chkV n d != 0) = false := by simp [hz]
        refine ⟨[false], _, _, tf_0 n d, ?_, ?_⟩
        · intro E u hu; simp only [tmsV, hz, if_true]; exact hu
        · repeat' (first | exact cd_nil | refine cd_cons ?_ ?_)
          all_goals with_reducible assumption
      · have h3 : (chkV n d != 0) = true := by simp [hz]
        refine ⟨[true], _, _, tf_1 n d, ?_, ?_⟩
        · intro E u hu; simp only [tmsV, hz, if_false]; exact hu
        · repeat' (first | exact cd_nil | refine cd_cons ?_ ?_)
          all_goals with_reducible assumption
    · cases hg
end Go.Proofs.YtocheeocnbfbiaaDoor

