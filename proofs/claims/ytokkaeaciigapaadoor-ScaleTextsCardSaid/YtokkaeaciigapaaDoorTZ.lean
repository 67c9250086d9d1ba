/-
  The reference's CivilRead as a function, and the walk of the law ScaleTexts.
  Conditions: those of each theorem; hD: what Digits returns.
-/
import Derived.Test.YtokkaeaciigapaaDoorTY
set_option linter.unusedVariables false
set_option linter.unusedSimpArgs false
namespace Go.Proofs.YtokkaeaciigapaaDoor.AtSx
open Ev Go.RowKit Sc RL Wd
open Go.Proofs.YtokkaeaciigapaaDoor
variable {F : Type}
noncomputable section

abbrev txS : FnSp F := sp1 dCv (fun c => .tup [.one (.lit (.string (txV c))), .one (.int .i64 (cvE c))]) (fun _ => [])
/-- What Digits returns of up to six digits. -/
def nDig : List Ar → Option (List Rs × List (Bool × Bool))
  | [.pl (.string s)] => some ([.num (spS s)], [(dgB s, true)])
  | _ => none
noncomputable abbrev fnsTR : List (Nat × Func) := [(15, Tryd.f15)]
noncomputable abbrev libTR : List (Nat × FnSp Nm) := [(16, nfn nDig), (17, nfn nSmall), (11, civS)]
noncomputable abbrev libTL : List (Nat × FnSp Empty) := [(4, txS), (5, txS), (6, rdS), (7, rdS), (8, sp0 (aBool true))]
theorem fnsTR_ok : FnsOk Tryd.prog fnsTR := fns_cons Tryd.func15 rfl Tryd.call15 (fns_nil _)
theorem fnlTR : ∀ f fn, Ev.look f fnsTR = some fn → LpsOk Tryd.prog numI lcLps fn.ntmps (bodyOf fn) := fun f fn h => by
  unfold fnsTR at h
  rw [look_cons] at h
  split at h
  · cases h
    refine lps_cons (fun e => ?_) lps_nil
    exfalso
    have : Nat.beq (Tryd.f15).ntmps 81 = false := by kernel_rfl
    rw [e] at this
    exact absurd this (by decide)
  · cases h
theorem libTR_ok (hD : (nfn nDig).ok Tryd.prog numI 16) : LibOk Tryd.prog numI (lib1 libTR) := (lib1_cons hD Tryd.call16 (lib1_cons nSmall_ok Tryd.call17 (lib1_cons (sp1_ok fun c _ => ⟨_, rfl, cef_pl c⟩) Tryd.call11 (lib1_nil _ _))))
theorem spS_in {s : ByteArray} (h : dgB s = true) : 0 ≤ spS s ∧ spS s < 1000000 := by
  obtain ⟨_, ha, hs⟩ := dgB_p h
  have h1 := spl_lt s.data.toList 0 0 ha (by decide)
  have h2 : 10 ^ (0 + s.data.toList.length) ≤ 10 ^ 6 := Nat.pow_le_pow_right (by omega) (by have : s.data.toList.length = s.size := rfl; omega)
  unfold spS
  omega
theorem sp_sm {s : ByteArray} (h : dgB s = true) : smV (spS s) = spS s := by
  have := spS_in h
  unfold smV
  rw [if_pos (by omega)]
theorem sp_sz {s : ByteArray} (h : dgB s = true) : szB (spS s) = true := by
  have := spS_in h
  exact (Dl.lit (by omega) (by omega)).sz (by omega)
set_option maxRecDepth 100000 in
theorem crf_1 (s : ByteArray) : evR (ctxLp Tryd.prog numI (fun _ => false) libTR fnsTR lcLps) Tryd.f7 [(.w (.one (.lit (.string s))))] [true] = some (AV.tup [AW.agg [AC.int IntKind.i64 0, AC.int IntKind.i64 0, AC.int IntKind.i64 0, AC.int IntKind.i64 0, AC.int IntKind.i64 0, AC.int IntKind.i64 0, AC.int IntKind.i64 0], AW.one (AC.int IntKind.i64 5)], (pickL [(sLen s != 23, true)] [0])) := by kernel_rfl
set_option maxRecDepth 100000 in
theorem crf_011 (s : ByteArray) : evR (ctxLp Tryd.prog numI (fun _ => false) libTR fnsTR lcLps) Tryd.f7 [(.w (.one (.lit (.string s))))] [false, true, true] = some (AV.tup [AW.agg [AC.int IntKind.i64 0, AC.int IntKind.i64 0, AC.int IntKind.i64 0, AC.int IntKind.i64 0, AC.int IntKind.i64 0, AC.int IntKind.i64 0, AC.int IntKind.i64 0], AW.one (AC.int IntKind.i64 (cvE { y := smV (spS (sSub s 0 4)), m := smV (spS (sSub s 5 7)), d := smV (spS (sSub s 8 10)), H := smV (spS (sSub s 11 13)), M := smV (spS (sSub s 14 16)), S := smV (spS (sSub s 17 19)), ms := smV (spS (sSub s 20 23)) }))], (pickL [(sLen s != 23, false), (okFrom s 23 0, true), (decide ((0 : Int) = 0) && decide (sLen s = sLen s) && decide (sLen s = 23), true), (decide ((0 : Int) ≤ 0), true), (decide ((0 : Int) ≤ 4), true), (decide ((4 : Int) ≤ sLen s), true), (dgB (sSub s 0 4), true), (decide (spS (sSub s 0 4) < 0) == decide (spS (sSub s 0 4) < 0), true), (szB (spS (sSub s 0 4)), true), (decide ((0 : Int) ≤ 5), true), (decide ((5 : Int) ≤ 7), true), (decide ((7 : Int) ≤ sLen s), true), (dgB (sSub s 5 7), true), (decide (spS (sSub s 5 7) < 0) == decide (spS (sSub s 5 7) < 0), true), (szB (spS (sSub s 5 7)), true), (decide ((0 : Int) ≤ 8), true), (decide ((8 : Int) ≤ 10), true), (decide ((10 : Int) ≤ sLen s), true), (dgB (sSub s 8 10), true), (decide (spS (sSub s 8 10) < 0) == decide (spS (sSub s 8 10) < 0), true), (szB (spS (sSub s 8 10)), true), (decide ((0 : Int) ≤ 11), true), (decide ((11 : Int) ≤ 13), true), (decide ((13 : Int) ≤ sLen s), true), (dgB (sSub s 11 13), true), (decide (spS (sSub s 11 13) < 0) == decide (spS (sSub s 11 13) < 0), true), (szB (spS (sSub s 11 13)), true), (decide ((0 : Int) ≤ 14), true), (decide ((14 : Int) ≤ 16), true), (decide ((16 : Int) ≤ sLen s), true), (dgB (sSub s 14 16), true), (decide (spS (sSub s 14 16) < 0) == decide (spS (sSub s 14 16) < 0), true), (szB (spS (sSub s 14 16)), true), (decide ((0 : Int) ≤ 17), true), (decide ((17 : Int) ≤ 19), true), (decide ((19 : Int) ≤ sLen s), true), (dgB (sSub s 17 19), true), (decide (spS (sSub s 17 19) < 0) == decide (spS (sSub s 17 19) < 0), true), (szB (spS (sSub s 17 19)), true), (decide ((0 : Int) ≤ 20), true), (decide ((20 : Int) ≤ 23), true), (decide ((23 : Int) ≤ sLen s), true), (dgB (sSub s 20 23), true), (decide (spS (sSub s 20 23) < 0) == decide (spS (sSub s 20 23) < 0), true), (szB (spS (sSub s 20 23)), true), (cvE { y := smV (spS (sSub s 0 4)), m := smV (spS (sSub s 5 7)), d := smV (spS (sSub s 8 10)), H := smV (spS (sSub s 11 13)), M := smV (spS (sSub s 14 16)), S := smV (spS (sSub s 17 19)), ms := smV (spS (sSub s 20 23)) } != 0, true)] [0, 1, 2, 3, 4, 5, 6, 7, 8, 9, 10, 11, 12, 13, 14, 15, 16, 17, 18, 19, 20, 21, 22, 23, 24, 25, 26, 27, 28, 29, 30, 31, 32, 33, 34, 35, 36, 37, 38, 39, 40, 41, 42, 43, 44, 45])) := by kernel_rfl
set_option maxRecDepth 100000 in
theorem crf_010 (s : ByteArray) : evR (ctxLp Tryd.prog numI (fun _ => false) libTR fnsTR lcLps) Tryd.f7 [(.w (.one (.lit (.string s))))] [false, true, false] = some (AV.tup [AW.agg [AC.int IntKind.i64 (smV (spS (sSub s 0 4))), AC.int IntKind.i64 (smV (spS (sSub s 5 7))), AC.int IntKind.i64 (smV (spS (sSub s 8 10))), AC.int IntKind.i64 (smV (spS (sSub s 11 13))), AC.int IntKind.i64 (smV (spS (sSub s 14 16))), AC.int IntKind.i64 (smV (spS (sSub s 17 19))), AC.int IntKind.i64 (smV (spS (sSub s 20 23)))], AW.one (AC.int IntKind.i64 0)], (pickL [(sLen s != 23, false), (okFrom s 23 0, true), (decide ((0 : Int) = 0) && decide (sLen s = sLen s) && decide (sLen s = 23), true), (decide ((0 : Int) ≤ 0), true), (decide ((0 : Int) ≤ 4), true), (decide ((4 : Int) ≤ sLen s), true), (dgB (sSub s 0 4), true), (decide (spS (sSub s 0 4) < 0) == decide (spS (sSub s 0 4) < 0), true), (szB (spS (sSub s 0 4)), true), (decide ((0 : Int) ≤ 5), true), (decide ((5 : Int) ≤ 7), true), (decide ((7 : Int) ≤ sLen s), true), (dgB (sSub s 5 7), true), (decide (spS (sSub s 5 7) < 0) == decide (spS (sSub s 5 7) < 0), true), (szB (spS (sSub s 5 7)), true), (decide ((0 : Int) ≤ 8), true), (decide ((8 : Int) ≤ 10), true), (decide ((10 : Int) ≤ sLen s), true), (dgB (sSub s 8 10), true), (decide (spS (sSub s 8 10) < 0) == decide (spS (sSub s 8 10) < 0), true), (szB (spS (sSub s 8 10)), true), (decide ((0 : Int) ≤ 11), true), (decide ((11 : Int) ≤ 13), true), (decide ((13 : Int) ≤ sLen s), true), (dgB (sSub s 11 13), true), (decide (spS (sSub s 11 13) < 0) == decide (spS (sSub s 11 13) < 0), true), (szB (spS (sSub s 11 13)), true), (decide ((0 : Int) ≤ 14), true), (decide ((14 : Int) ≤ 16), true), (decide ((16 : Int) ≤ sLen s), true), (dgB (sSub s 14 16), true), (decide (spS (sSub s 14 16) < 0) == decide (spS (sSub s 14 16) < 0), true), (szB (spS (sSub s 14 16)), true), (decide ((0 : Int) ≤ 17), true), (decide ((17 : Int) ≤ 19), true), (decide ((19 : Int) ≤ sLen s), true), (dgB (sSub s 17 19), true), (decide (spS (sSub s 17 19) < 0) == decide (spS (sSub s 17 19) < 0), true), (szB (spS (sSub s 17 19)), true), (decide ((0 : Int) ≤ 20), true), (decide ((20 : Int) ≤ 23), true), (decide ((23 : Int) ≤ sLen s), true), (dgB (sSub s 20 23), true), (decide (spS (sSub s 20 23) < 0) == decide (spS (sSub s 20 23) < 0), true), (szB (spS (sSub s 20 23)), true), (cvE { y := smV (spS (sSub s 0 4)), m := smV (spS (sSub s 5 7)), d := smV (spS (sSub s 8 10)), H := smV (spS (sSub s 11 13)), M := smV (spS (sSub s 14 16)), S := smV (spS (sSub s 17 19)), ms := smV (spS (sSub s 20 23)) } != 0, false)] [0, 1, 2, 3, 4, 5, 6, 7, 8, 9, 10, 11, 12, 13, 14, 15, 16, 17, 18, 19, 20, 21, 22, 23, 24, 25, 26, 27, 28, 29, 30, 31, 32, 33, 34, 35, 36, 37, 38, 39, 40, 41, 42, 43, 44, 45])) := by kernel_rfl
set_option maxRecDepth 100000 in
theorem crf_00 (s : ByteArray) : evR (ctxLp Tryd.prog numI (fun _ => false) libTR fnsTR lcLps) Tryd.f7 [(.w (.one (.lit (.string s))))] [false, false] = some (AV.tup [AW.agg [AC.int IntKind.i64 0, AC.int IntKind.i64 0, AC.int IntKind.i64 0, AC.int IntKind.i64 0, AC.int IntKind.i64 0, AC.int IntKind.i64 0, AC.int IntKind.i64 0], AW.one (AC.int IntKind.i64 5)], (pickL [(sLen s != 23, false), (okFrom s 23 0, false), (decide ((0 : Int) = 0) && decide (sLen s = sLen s) && decide (sLen s = 23), true)] [0, 1, 2])) := by kernel_rfl
set_option maxHeartbeats 4000000 in
theorem cr_pl (hD : (nfn nDig).ok Tryd.prog numI 16) (s : ByteArray) : Pl Tryd.prog 7 [.string s] (.tuple #[cvV (rdV s), .int .i64 (rdE s)]) := fun w => by
  cases hL : layS s with
  | false =>
    have hE : rdE s = 5 := by unfold rdE; rw [hL]; rfl
    have hV : rdV s = ⟨0, 0, 0, 0, 0, 0, 0⟩ := by unfold rdV; rw [hE]; rfl
    rw [hE, hV]
    by_cases hl : sLen s = 23
    · have c0 : (sLen s != 23) = false := by simp [hl]
      have kq : (decide ((0 : Int) = 0) && decide (sLen s = sLen s) && decide (sLen s = 23)) = true := by rw [decide_eq_true (rfl : sLen s = sLen s), decide_eq_true hl]; rfl
      have c1 : okFrom s 23 0 = false := by
        unfold layS at hL
        rw [decide_eq_true hl, Bool.true_and] at hL
        exact hL
      refine evR_calls (I := numI) (v := .tuple _) (ctxLp_ok (libTR_ok hD) (eq_none _) fnsTR_ok fnlTR) (by kernel_rfl) Tryd.func7 rfl lcLps_ok (crf_00 s) rfl (all2_R (.cons rfl .nil)) rfl w (Nat.zero_le _) (pickL_ok ?_ _)
      repeat' (first | exact cd_nil | refine cd_cons ?_ ?_)
      all_goals first | with_reducible assumption | exact kq | exact decide_eq_true (by omega) | with_reducible rfl

    · have c0 : (sLen s != 23) = true := by simp [hl]
      have kq : True := trivial
      refine evR_calls (I := numI) (v := .tuple _) (ctxLp_ok (libTR_ok hD) (eq_none _) fnsTR_ok fnlTR) (by kernel_rfl) Tryd.func7 rfl lcLps_ok (crf_1 s) rfl (all2_R (.cons rfl .nil)) rfl w (Nat.zero_le _) (pickL_ok ?_ _)
      repeat' (first | exact cd_nil | refine cd_cons ?_ ?_)
      all_goals first | with_reducible assumption | exact kq | exact decide_eq_true (by omega) | with_reducible rfl

  | true =>
    obtain ⟨hl, d1, d2, d3, d4, d5, d6, d7⟩ := dg_all hL
    have c0 : (sLen s != 23) = false := by simp [hl]
    have c1 : okFrom s 23 0 = true := by
      unfold layS at hL
      rw [decide_eq_true hl, Bool.true_and] at hL
      exact hL
    have kq : (decide ((0 : Int) = 0) && decide (sLen s = sLen s) && decide (sLen s = 23)) = true := by rw [decide_eq_true (rfl : sLen s = sLen s), decide_eq_true hl]; rfl
    have z1 := sp_sz d1
    have z2 := sp_sz d2
    have z3 := sp_sz d3
    have z4 := sp_sz d4
    have z5 := sp_sz d5
    have z6 := sp_sz d6
    have z7 := sp_sz d7
    have hR : rdE s = cvE (cvR s) := by unfold rdE; rw [hL]; rfl
    have hC : (⟨smV (spS (sSub s 0 4)), smV (spS (sSub s 5 7)), smV (spS (sSub s 8 10)), smV (spS (sSub s 11 13)), smV (spS (sSub s 14 16)), smV (spS (sSub s 17 19)), smV (spS (sSub s 20 23))⟩ : Cv) = cvR s := by rw [sp_sm d1, sp_sm d2, sp_sm d3, sp_sm d4, sp_sm d5, sp_sm d6, sp_sm d7]; rfl
    by_cases hE : cvE (cvR s) = 0
    · have hV : rdV s = cvR s := by unfold rdV; rw [hR, if_pos hE]
      have c2 : (cvE { y := smV (spS (sSub s 0 4)), m := smV (spS (sSub s 5 7)), d := smV (spS (sSub s 8 10)), H := smV (spS (sSub s 11 13)), M := smV (spS (sSub s 14 16)), S := smV (spS (sSub s 17 19)), ms := smV (spS (sSub s 20 23)) } != 0) = false := by rw [hC, hE]; rfl
      rw [hR, hE, hV, ← hC]
      refine evR_calls (I := numI) (v := .tuple _) (ctxLp_ok (libTR_ok hD) (eq_none _) fnsTR_ok fnlTR) (by kernel_rfl) Tryd.func7 rfl lcLps_ok (crf_010 s) rfl (all2_R (.cons rfl .nil)) rfl w (Nat.zero_le _) (pickL_ok ?_ _)
      repeat' (first | exact cd_nil | refine cd_cons ?_ ?_)
      all_goals first | with_reducible assumption | exact kq | exact decide_eq_true (by omega) | exact beq_self_eq_true _ | with_reducible rfl

    · have hV : rdV s = ⟨0, 0, 0, 0, 0, 0, 0⟩ := by unfold rdV; rw [hR, if_neg hE]
      have c2 : (cvE { y := smV (spS (sSub s 0 4)), m := smV (spS (sSub s 5 7)), d := smV (spS (sSub s 8 10)), H := smV (spS (sSub s 11 13)), M := smV (spS (sSub s 14 16)), S := smV (spS (sSub s 17 19)), ms := smV (spS (sSub s 20 23)) } != 0) = true := by rw [hC]; simpa using hE
      rw [hR, hV, ← hC]
      refine evR_calls (I := numI) (v := .tuple _) (ctxLp_ok (libTR_ok hD) (eq_none _) fnsTR_ok fnlTR) (by kernel_rfl) Tryd.func7 rfl lcLps_ok (crf_011 s) rfl (all2_R (.cons rfl .nil)) rfl w (Nat.zero_le _) (pickL_ok ?_ _)
      repeat' (first | exact cd_nil | refine cd_cons ?_ ?_)
      all_goals first | with_reducible assumption | exact kq | exact decide_eq_true (by omega) | exact beq_self_eq_true _ | with_reducible rfl

theorem eqC5_ok : EqOk Tryd.prog (tabOf Tryd.prog) (fun t => Nat.beq t 23) := eq_of fun t ht => by
  have := Nat.eq_of_beq_eq_true ht
  subst this
  exact ⟨by kernel_rfl, by kernel_rfl, by kernel_rfl⟩
theorem libTL_ok (hD : (nfn nDig).ok Tryd.prog numI 16) (B : Nat) : LibOk Tryd.prog (sqI B) (lib1 libTL) := (lib1_cons (sp1q_ok fun c _ => ⟨_, rfl, tx_pl B c⟩) Tryd.call4 (lib1_cons (sp1_ok fun c _ => ⟨_, rfl, ct_pl c⟩) Tryd.call5 (lib1_cons (sp1_ok fun s _ => ⟨_, rfl, rd_pl s⟩) Tryd.call6 (lib1_cons (sp1_ok fun s _ => ⟨_, rfl, cr_pl hD s⟩) Tryd.call7 (lib1_cons (sp0_ok rfl sfact_pl) Tryd.call8 (lib1_nil _ _))))))
set_option maxRecDepth 100000 in
theorem stl_1111 (B : Nat) (c : Cv) (s : ByteArray) : evR (ctxOf Tryd.prog (sqI B) (fun t => Nat.beq t 23) libTL) Tryd.f3 [(cvA c), (.w (.one (.lit (.string s))))] [true, true, true, true] = some (AV.w (AW.one (AC.bool (rdE s == rdE s))), (pickL [(true, true), (sEq (txV c) (txV c), true), (cvE c == cvE c, true), ((rdV s).y == (rdV s).y && ((rdV s).m == (rdV s).m && ((rdV s).d == (rdV s).d && ((rdV s).H == (rdV s).H && ((rdV s).M == (rdV s).M && ((rdV s).S == (rdV s).S && ((rdV s).ms == (rdV s).ms && true)))))), true)] [0, 0, 0, 0, 1, 1, 1, 1, 2, 2, 2, 2, 3, 3, 3, 3])) := by kernel_rfl
/-- The walk: in a world where the library's table reads as it is laid. -/
theorem st_walk (hD : (nfn nDig).ok Tryd.prog numI 16) (w : World) (ht : Lib.TabIs Tryd.prog w "internal/strconv.uint64pow10" .u64 Lib.pow10Tab) (c : Cv) (s : ByteArray) :
    Calls Tryd.prog 3 #[cvV c, .string s] w fun e w' => e = .returned (.bool true) ∧ Below w.heap.size w w' := by
  have V : (rdE s == rdE s) = true := beq_self_eq_true _
  have c1 : sEq (txV c) (txV c) = true := (sEq_iff _ _).2 rfl
  have c2 : (cvE c == cvE c) = true := beq_self_eq_true _
  have c3 : ((rdV s).y == (rdV s).y && ((rdV s).m == (rdV s).m && ((rdV s).d == (rdV s).d && ((rdV s).H == (rdV s).H && ((rdV s).M == (rdV s).M && ((rdV s).S == (rdV s).S && ((rdV s).ms == (rdV s).ms && true))))))) = true := by simp only [beq_self_eq_true, Bool.and_self, Bool.and_true]
  refine evR_calls (I := sqI w.heap.size) (v := .bool true) (ctxOf_ok (libTL_ok hD _) eqC5_ok) (by kernel_rfl) Tryd.func3 rfl lps_nil (stl_1111 w.heap.size c s) rfl (all2_R (.cons rfl (.cons rfl .nil))) (congrArg (fun b => some (Value.bool b)) V) w (Nat.le_refl _) (pickL_ok ?_ _) (tabQ_start ht)
  repeat' (first | exact cd_nil | refine cd_cons ?_ ?_)
  all_goals first | with_reducible assumption | with_reducible rfl
end
end Go.Proofs.YtokkaeaciigapaaDoor.AtSx

