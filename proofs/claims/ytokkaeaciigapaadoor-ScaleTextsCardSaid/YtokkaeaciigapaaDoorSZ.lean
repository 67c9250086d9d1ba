/-
  Package scale: isLaidOut, value and Read as functions.
  Conditions: those of each theorem.
-/
import Derived.Test.YtokkaeaciigapaaDoorSY
import Derived.Lib.AtoiErrMem
set_option linter.unusedVariables false
set_option linter.unusedSimpArgs false
namespace Go.Proofs.YtokkaeaciigapaaDoor.AtSx
open Ev Go.RowKit Sc RL
open Go.Proofs.YtokkaeaciigapaaDoor
variable {F : Type}
noncomputable section

abbrev spS (s : ByteArray) : Int := ((spl 0 s.data.toList : Nat) : Int)
def dgB (s : ByteArray) : Bool := !s.data.toList.isEmpty && (s.data.toList.all isD && decide (s.size ≤ 6))
abbrev atS : FnSp F := sp1 dStr (fun s => .tup [.one (.int .i64 (spS s)), .one (.lit .nilIface)]) (fun s => [(dgB s, true)])
abbrev vaS : FnSp F := sp1 dStr (fun s => aInt .i64 (spS s)) (fun s => [(dgB s, true)])
abbrev laS : FnSp F := sp1 dStr (fun s => aBool (layS s)) (fun _ => [])
/-- The civil time that a text spells, and the error of reading it. -/
def cvR (s : ByteArray) : Cv := ⟨spS (sSub s 0 4), spS (sSub s 5 7), spS (sSub s 8 10), spS (sSub s 11 13), spS (sSub s 14 16), spS (sSub s 17 19), spS (sSub s 20 23)⟩
def rdE (s : ByteArray) : Int := if layS s = true then cvE (cvR s) else 5
def rdV (s : ByteArray) : Cv := if rdE s = 0 then cvR s else ⟨0, 0, 0, 0, 0, 0, 0⟩
abbrev rdS : FnSp F := sp1 dStr (fun s => .tup [.agg [.int .i64 (rdV s).y, .int .i64 (rdV s).m, .int .i64 (rdV s).d, .int .i64 (rdV s).H, .int .i64 (rdV s).M, .int .i64 (rdV s).S, .int .i64 (rdV s).ms], .one (.int .i64 (rdE s))]) (fun _ => [])
theorem dgB_p {s : ByteArray} (h : dgB s = true) : s.data.toList ≠ [] ∧ s.data.toList.all isD = true ∧ s.size ≤ 6 := by
  unfold dgB at h
  simp only [Bool.and_eq_true, Bool.not_eq_true', List.isEmpty_eq_false_iff, decide_eq_true_eq] at h
  exact h
theorem at_ok (I : Interp F) : (atS : FnSp F).ok Tryd.prog I 25 := sp1_ok fun s hc => ⟨.tuple #[.int .i64 (spS s), .nilIface], rfl, fun w => by
  obtain ⟨hn, ha, hs⟩ := dgB_p (hc (dgB s, true) (by simp))
  refine (Tryd.strconv_Atoi s (spS s) (by omega) (atoi_spl hn ha) w).mono ?_
  rintro e w' ⟨rfl, t, rfl⟩
  exact ⟨rfl, Lib.bytesWorld_below _ _ _⟩⟩
theorem okFrom_at {s : ByteArray} : ∀ (k j : Nat), okFrom s k j = true → ∀ i, j ≤ i → i < j + k → okAt s i = true
  | 0, j, _, i, h1, h2 => by omega
  | k + 1, j, h, i, h1, h2 => by
    rw [okFrom, Bool.and_eq_true] at h
    rcases Nat.eq_or_lt_of_le h1 with rfl | h3
    · exact h.1
    · exact okFrom_at k (j + 1) h.2 i (by omega) (by omega)
theorem dgB_sub {s : ByteArray} (hl : sLen s = 23) (h : okFrom s 23 0 = true) (a b : Nat) (hab : a < b) (hb : b ≤ 23) (h6 : b - a ≤ 6) (hc : ∀ j, a ≤ j → j < b → cls j = 48) : dgB (sSub s (a : Int) (b : Int)) = true := by
  have hlen : s.data.toList.length = 23 := by rw [len_L] at hl; omega
  have hL := sub_L s a b
  have hsz : (sSub s (a : Int) (b : Int)).data.toList.length = b - a := by rw [hL, List.length_take, List.length_drop]; omega
  unfold dgB
  simp only [Bool.and_eq_true, Bool.not_eq_true', List.isEmpty_eq_false_iff, decide_eq_true_eq]
  refine ⟨fun e => by rw [e] at hsz; simp at hsz; omega, ?_, ?_⟩
  · rw [hL, List.all_eq_true]
    intro x hx
    obtain ⟨i, hi, rfl⟩ := List.getElem_of_mem hx
    rw [List.length_take, List.length_drop] at hi
    rw [List.getElem_take, List.getElem_drop]
    have ho := okFrom_at 23 0 h (a + i) (by omega) (by omega)
    unfold okAt at ho
    rw [if_pos (hc (a + i) (by omega) (by omega)), Bool.and_eq_true, decide_eq_true_eq, decide_eq_true_eq, at_L s (a + i) (by omega)] at ho
    unfold isD
    exact decide_eq_true (by omega)
  · show (sSub s (a : Int) (b : Int)).data.toList.length ≤ 6
    omega
theorem cls48 {j : Nat} (h4 : j ≠ 4) (h7 : j ≠ 7) (h10 : j ≠ 10) (h13 : j ≠ 13) (h16 : j ≠ 16) (h19 : j ≠ 19) : cls j = 48 := by unfold cls; simp [*]
/-- The seven parts of a text of that form are digits. -/
theorem dg_all {s : ByteArray} (h : layS s = true) : sLen s = 23 ∧ dgB (sSub s 0 4) = true ∧ dgB (sSub s 5 7) = true ∧ dgB (sSub s 8 10) = true ∧ dgB (sSub s 11 13) = true ∧ dgB (sSub s 14 16) = true ∧ dgB (sSub s 17 19) = true ∧ dgB (sSub s 20 23) = true := by
  unfold layS at h
  rw [Bool.and_eq_true, decide_eq_true_eq] at h
  obtain ⟨hl, h⟩ := h
  have k := fun (a b : Nat) (h1 : a < b) (h2 : b ≤ 23) (h3 : b - a ≤ 6) (h4 : ∀ j, a ≤ j → j < b → cls j = 48) => dgB_sub hl h a b h1 h2 h3 h4
  refine ⟨hl, k 0 4 (by omega) (by omega) (by omega) ?_, k 5 7 (by omega) (by omega) (by omega) ?_, k 8 10 (by omega) (by omega) (by omega) ?_, k 11 13 (by omega) (by omega) (by omega) ?_, k 14 16 (by omega) (by omega) (by omega) ?_, k 17 19 (by omega) (by omega) (by omega) ?_, k 20 23 (by omega) (by omega) (by omega) ?_⟩
  all_goals exact fun j h1 h2 => cls48 (by omega) (by omega) (by omega) (by omega) (by omega) (by omega)
set_option maxRecDepth 100000 in
theorem laf_1 (s : ByteArray) : evR (ctxLp Tryd.prog noFacts (fun _ => false) [] [] liLps) Tryd.f13 [(.w (.one (.lit (.string s))))] [true] = some (AV.w (AW.one (AC.yes false)), (pickL [(sLen s != 23, true)] [0])) := by kernel_rfl
set_option maxRecDepth 100000 in
theorem laf_01 (s : ByteArray) : evR (ctxLp Tryd.prog noFacts (fun _ => false) [] [] liLps) Tryd.f13 [(.w (.one (.lit (.string s))))] [false, true] = some (AV.w (AW.one (AC.yes true)), (pickL [(sLen s != 23, false), (okFrom s 23 0, true), (decide ((0 : Int) = 0) && decide (sLen s = sLen s) && decide (sLen s = 23), true)] [0, 1, 2])) := by kernel_rfl
set_option maxRecDepth 100000 in
theorem laf_00 (s : ByteArray) : evR (ctxLp Tryd.prog noFacts (fun _ => false) [] [] liLps) Tryd.f13 [(.w (.one (.lit (.string s))))] [false, false] = some (AV.w (AW.one (AC.yes false)), (pickL [(sLen s != 23, false), (okFrom s 23 0, false), (decide ((0 : Int) = 0) && decide (sLen s = sLen s) && decide (sLen s = 23), true)] [0, 1, 2])) := by kernel_rfl
theorem la_pl (s : ByteArray) : Pl Tryd.prog 13 [.string s] (.bool (layS s)) := fun w => by
  cases k0 : (sLen s != 23) with
  | true =>
    have V : layS s = false := by
      have hl : ¬ sLen s = 23 := by simpa using k0
      unfold layS
      rw [decide_eq_false hl]; rfl
    rw [V]
    refine evR_calls (I := noFacts) (v := .bool false) (ctxLp_ok (lib1_nil _ _) (eq_none _) (fns_nil _) (fun f fn h => by cases h)) (by kernel_rfl) Tryd.func13 rfl liLps_ok (laf_1 s) rfl (all2_R (.cons rfl .nil)) rfl w (Nat.zero_le _) (pickL_ok ?_ _)
    repeat' (first | exact cd_nil | refine cd_cons ?_ ?_)
    all_goals first | rfl | with_reducible assumption | exact kq

  | false =>
    cases k1 : (okFrom s 23 0) with
    | true =>
      have V : layS s = true := by
        have hl : sLen s = 23 := by simpa using k0
        unfold layS
        rw [decide_eq_true hl, k1]; rfl
      rw [V]
      have hl : sLen s = 23 := by simpa using k0
      have kq : (decide ((0 : Int) = 0) && decide (sLen s = sLen s) && decide (sLen s = 23)) = true := by rw [decide_eq_true (rfl : sLen s = sLen s), decide_eq_true hl]; rfl
      refine evR_calls (I := noFacts) (v := .bool true) (ctxLp_ok (lib1_nil _ _) (eq_none _) (fns_nil _) (fun f fn h => by cases h)) (by kernel_rfl) Tryd.func13 rfl liLps_ok (laf_01 s) rfl (all2_R (.cons rfl .nil)) rfl w (Nat.zero_le _) (pickL_ok ?_ _)
      repeat' (first | exact cd_nil | refine cd_cons ?_ ?_)
      all_goals first | rfl | with_reducible assumption | exact kq

    | false =>
      have V : layS s = false := by
        have hl : sLen s = 23 := by simpa using k0
        unfold layS
        rw [decide_eq_true hl, k1]; rfl
      rw [V]
      have hl : sLen s = 23 := by simpa using k0
      have kq : (decide ((0 : Int) = 0) && decide (sLen s = sLen s) && decide (sLen s = 23)) = true := by rw [decide_eq_true (rfl : sLen s = sLen s), decide_eq_true hl]; rfl
      refine evR_calls (I := noFacts) (v := .bool false) (ctxLp_ok (lib1_nil _ _) (eq_none _) (fns_nil _) (fun f fn h => by cases h)) (by kernel_rfl) Tryd.func13 rfl liLps_ok (laf_00 s) rfl (all2_R (.cons rfl .nil)) rfl w (Nat.zero_le _) (pickL_ok ?_ _)
      repeat' (first | exact cd_nil | refine cd_cons ?_ ?_)
      all_goals first | rfl | with_reducible assumption | exact kq

noncomputable abbrev libSx1 : List (Nat × FnSp Empty) := [(25, atS)]
theorem libSx1_ok : LibOk Tryd.prog noFacts (lib1 libSx1) := (lib1_cons (at_ok _) Tryd.call25 (lib1_nil _ _))
set_option maxRecDepth 100000 in
theorem vaf_ (s : ByteArray) : evR (ctxOf Tryd.prog noFacts (fun _ => false) libSx1) Tryd.f14 [(.w (.one (.lit (.string s))))] [] = some (AV.w (AW.one (AC.int IntKind.i64 (spS s))), (pickL [(dgB s, true)] [0])) := by kernel_rfl
theorem va_pl (s : ByteArray) (hd : dgB s = true) : Pl Tryd.prog 14 [.string s] (.int .i64 (spS s)) := fun w => by
  refine evR_calls (I := noFacts) (v := .int .i64 _) (ctxOf_ok libSx1_ok (eq_none _)) (by kernel_rfl) Tryd.func14 rfl lps_nil (vaf_ s) rfl (all2_R (.cons rfl .nil)) rfl w (Nat.zero_le _) (pickL_ok ?_ _)
  repeat' (first | exact cd_nil | refine cd_cons ?_ ?_)
  all_goals exact hd
noncomputable abbrev libSx2 : List (Nat × FnSp Empty) := [(13, laS), (14, vaS), (9, civS)]
theorem libSx2_ok : LibOk Tryd.prog noFacts (lib1 libSx2) := (lib1_cons (sp1_ok fun s _ => ⟨_, rfl, la_pl s⟩) Tryd.call13 (lib1_cons (sp1_ok fun s hc => ⟨_, rfl, va_pl s (hc (dgB s, true) (by simp))⟩) Tryd.call14 (lib1_cons (sp1_ok fun c _ => ⟨_, rfl, ckf_pl c⟩) Tryd.call9 (lib1_nil _ _))))
set_option maxRecDepth 100000 in
theorem rdf_1 (s : ByteArray) : evR (ctxOf Tryd.prog noFacts (fun _ => false) libSx2) Tryd.f6 [(.w (.one (.lit (.string s))))] [true] = some (AV.tup [AW.agg [AC.int IntKind.i64 0, AC.int IntKind.i64 0, AC.int IntKind.i64 0, AC.int IntKind.i64 0, AC.int IntKind.i64 0, AC.int IntKind.i64 0, AC.int IntKind.i64 0], AW.one (AC.int IntKind.i64 5)], (pickL [(!layS s, true)] [0])) := by kernel_rfl
set_option maxRecDepth 100000 in
theorem rdf_01 (s : ByteArray) : evR (ctxOf Tryd.prog noFacts (fun _ => false) libSx2) Tryd.f6 [(.w (.one (.lit (.string s))))] [false, true] = some (AV.tup [AW.agg [AC.int IntKind.i64 0, AC.int IntKind.i64 0, AC.int IntKind.i64 0, AC.int IntKind.i64 0, AC.int IntKind.i64 0, AC.int IntKind.i64 0, AC.int IntKind.i64 0], AW.one (AC.int IntKind.i64 (cvE { y := spS (sSub s 0 4), m := spS (sSub s 5 7), d := spS (sSub s 8 10), H := spS (sSub s 11 13), M := spS (sSub s 14 16), S := spS (sSub s 17 19), ms := spS (sSub s 20 (sLen s)) }))], (pickL [(!layS s, false), (decide ((0 : Int) ≤ 0), true), (decide ((0 : Int) ≤ 4), true), (decide ((4 : Int) ≤ sLen s), true), (dgB (sSub s 0 4), true), (decide ((0 : Int) ≤ 5), true), (decide ((5 : Int) ≤ 7), true), (decide ((7 : Int) ≤ sLen s), true), (dgB (sSub s 5 7), true), (decide ((0 : Int) ≤ 8), true), (decide ((8 : Int) ≤ 10), true), (decide ((10 : Int) ≤ sLen s), true), (dgB (sSub s 8 10), true), (decide ((0 : Int) ≤ 11), true), (decide ((11 : Int) ≤ 13), true), (decide ((13 : Int) ≤ sLen s), true), (dgB (sSub s 11 13), true), (decide ((0 : Int) ≤ 14), true), (decide ((14 : Int) ≤ 16), true), (decide ((16 : Int) ≤ sLen s), true), (dgB (sSub s 14 16), true), (decide ((0 : Int) ≤ 17), true), (decide ((17 : Int) ≤ 19), true), (decide ((19 : Int) ≤ sLen s), true), (dgB (sSub s 17 19), true), (decide ((0 : Int) ≤ 20), true), (decide ((20 : Int) ≤ sLen s), true), (decide (sLen s ≤ sLen s), true), (dgB (sSub s 20 (sLen s)), true), (cvE { y := spS (sSub s 0 4), m := spS (sSub s 5 7), d := spS (sSub s 8 10), H := spS (sSub s 11 13), M := spS (sSub s 14 16), S := spS (sSub s 17 19), ms := spS (sSub s 20 (sLen s)) } != 0, true)] [0, 1, 2, 3, 4, 5, 6, 7, 8, 9, 10, 11, 12, 13, 14, 15, 16, 17, 18, 19, 20, 21, 22, 23, 24, 25, 26, 27, 28, 29])) := by kernel_rfl
set_option maxRecDepth 100000 in
theorem rdf_00 (s : ByteArray) : evR (ctxOf Tryd.prog noFacts (fun _ => false) libSx2) Tryd.f6 [(.w (.one (.lit (.string s))))] [false, false] = some (AV.tup [AW.agg [AC.int IntKind.i64 (spS (sSub s 0 4)), AC.int IntKind.i64 (spS (sSub s 5 7)), AC.int IntKind.i64 (spS (sSub s 8 10)), AC.int IntKind.i64 (spS (sSub s 11 13)), AC.int IntKind.i64 (spS (sSub s 14 16)), AC.int IntKind.i64 (spS (sSub s 17 19)), AC.int IntKind.i64 (spS (sSub s 20 (sLen s)))], AW.one (AC.int IntKind.i64 0)], (pickL [(!layS s, false), (decide ((0 : Int) ≤ 0), true), (decide ((0 : Int) ≤ 4), true), (decide ((4 : Int) ≤ sLen s), true), (dgB (sSub s 0 4), true), (decide ((0 : Int) ≤ 5), true), (decide ((5 : Int) ≤ 7), true), (decide ((7 : Int) ≤ sLen s), true), (dgB (sSub s 5 7), true), (decide ((0 : Int) ≤ 8), true), (decide ((8 : Int) ≤ 10), true), (decide ((10 : Int) ≤ sLen s), true), (dgB (sSub s 8 10), true), (decide ((0 : Int) ≤ 11), true), (decide ((11 : Int) ≤ 13), true), (decide ((13 : Int) ≤ sLen s), true), (dgB (sSub s 11 13), true), (decide ((0 : Int) ≤ 14), true), (decide ((14 : Int) ≤ 16), true), (decide ((16 : Int) ≤ sLen s), true), (dgB (sSub s 14 16), true), (decide ((0 : Int) ≤ 17), true), (decide ((17 : Int) ≤ 19), true), (decide ((19 : Int) ≤ sLen s), true), (dgB (sSub s 17 19), true), (decide ((0 : Int) ≤ 20), true), (decide ((20 : Int) ≤ sLen s), true), (decide (sLen s ≤ sLen s), true), (dgB (sSub s 20 (sLen s)), true), (cvE { y := spS (sSub s 0 4), m := spS (sSub s 5 7), d := spS (sSub s 8 10), H := spS (sSub s 11 13), M := spS (sSub s 14 16), S := spS (sSub s 17 19), ms := spS (sSub s 20 (sLen s)) } != 0, false)] [0, 1, 2, 3, 4, 5, 6, 7, 8, 9, 10, 11, 12, 13, 14, 15, 16, 17, 18, 19, 20, 21, 22, 23, 24, 25, 26, 27, 28, 29])) := by kernel_rfl
theorem rd_pl (s : ByteArray) : Pl Tryd.prog 6 [.string s] (.tuple #[cvV (rdV s), .int .i64 (rdE s)]) := fun w => by
  cases hL : layS s with
  | false =>
    have hE : rdE s = 5 := by unfold rdE; rw [hL]; rfl
    have hV : rdV s = ⟨0, 0, 0, 0, 0, 0, 0⟩ := by unfold rdV; rw [hE]; rfl
    rw [hE, hV]
    have c0 : (!layS s) = true := by rw [hL]; rfl
    refine evR_calls (I := noFacts) (v := .tuple _) (ctxOf_ok libSx2_ok (eq_none _)) (by kernel_rfl) Tryd.func6 rfl lps_nil (rdf_1 s) rfl (all2_R (.cons rfl .nil)) rfl w (Nat.zero_le _) (pickL_ok ?_ _)
    repeat' (first | exact cd_nil | refine cd_cons ?_ ?_)
    all_goals first | with_reducible assumption | with_reducible rfl
  | true =>
    obtain ⟨hl, d1, d2, d3, d4, d5, d6, d7⟩ := dg_all hL
    have c0 : (!layS s) = false := by rw [hL]; rfl
    have hR : rdE s = cvE (cvR s) := by unfold rdE; rw [hL]; rfl
    have d7' : dgB (sSub s 20 (sLen s)) = true := by rw [hl]; exact d7
    have hC : (⟨spS (sSub s 0 4), spS (sSub s 5 7), spS (sSub s 8 10), spS (sSub s 11 13), spS (sSub s 14 16), spS (sSub s 17 19), spS (sSub s 20 (sLen s))⟩ : Cv) = cvR s := by rw [hl]; rfl
    by_cases hE : cvE (cvR s) = 0
    · have hV : rdV s = cvR s := by unfold rdV; rw [hR, if_pos hE]
      have c1 : (cvE { y := spS (sSub s 0 4), m := spS (sSub s 5 7), d := spS (sSub s 8 10), H := spS (sSub s 11 13), M := spS (sSub s 14 16), S := spS (sSub s 17 19), ms := spS (sSub s 20 (sLen s)) } != 0) = false := by rw [hC, hE]; rfl
      rw [hR, hE, hV, ← hC]
      refine evR_calls (I := noFacts) (v := .tuple _) (ctxOf_ok libSx2_ok (eq_none _)) (by kernel_rfl) Tryd.func6 rfl lps_nil (rdf_00 s) rfl (all2_R (.cons rfl .nil)) rfl w (Nat.zero_le _) (pickL_ok ?_ _)
      repeat' (first | exact cd_nil | refine cd_cons ?_ ?_)
      all_goals first | with_reducible assumption | exact decide_eq_true (by omega)
    · have hV : rdV s = ⟨0, 0, 0, 0, 0, 0, 0⟩ := by unfold rdV; rw [hR, if_neg hE]
      have c1 : (cvE { y := spS (sSub s 0 4), m := spS (sSub s 5 7), d := spS (sSub s 8 10), H := spS (sSub s 11 13), M := spS (sSub s 14 16), S := spS (sSub s 17 19), ms := spS (sSub s 20 (sLen s)) } != 0) = true := by rw [hC]; simpa using hE
      rw [hR, hV, ← hC]
      refine evR_calls (I := noFacts) (v := .tuple _) (ctxOf_ok libSx2_ok (eq_none _)) (by kernel_rfl) Tryd.func6 rfl lps_nil (rdf_01 s) rfl (all2_R (.cons rfl .nil)) rfl w (Nat.zero_le _) (pickL_ok ?_ _)
      repeat' (first | exact cd_nil | refine cd_cons ?_ ?_)
      all_goals first | with_reducible assumption | exact decide_eq_true (by omega)
end
end Go.Proofs.YtokkaeaciigapaaDoor.AtSx

