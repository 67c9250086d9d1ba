/-
  The walk of spykeep1.TrigBoundsNarrow: it returns true, for every list and every number.
  Conditions: the number and the list's elements are int64.
-/
import Derived.Test.YtdhodjbomepfbabTK
import Derived.Test.YtdhodjbomepfbabT3
import Derived.Test.YtdhodjbomepfbabSC
set_option linter.unusedVariables false
set_option linter.unusedSimpArgs false
namespace Go.Proofs.Ytdhodjbomepfbab
open Go.RowKit Ev Wd Tg

abbrev belowC (K : Int) : FnSp Fct := sp2 (dInt .i64) (dInt .i64) (fun _ _ => aInt .i64 K) (fun x n => [(i64B x, true), (i64B n, true), (belowV x n == K, true)])
abbrev libN (K : Int) : List (Nat × FnSp Fct) := [(19, sp0 (.w (.one (.yes true)))), (23, bndS), (24, withS), (9, belowC K), (18, sp2 dBd dBd (fun a b => aBool (insB a b)) (fun _ _ => [])), (14, sp2 dBd (dInt .i64) (fun a v => aBool (hasB a v)) (fun _ _ => [])), (25, sp1 dBd (fun a => bA (waveV sinV 1073741824 a)) (fun _ => [])), (26, sp1 dBd (fun a => bA (waveV cosV 0 a)) (fun _ => [])), (20, sp1 (dInt .i64) (fun a => aInt .i64 (sinV a)) (fun a => [(i64B a, true)])), (21, sp1 (dInt .i64) (fun a => aInt .i64 (cosV a)) (fun _ => []))]
theorem belowC_ok (K : Int) (I : Interp Fct) : (belowC K).ok Try.prog I 9 := sp2_ok fun x n hc => by
  obtain ⟨h1, h2, h3⟩ := cd3 hc
  have e : belowV x n = K := by simpa using h3
  exact ⟨_, rfl, e ▸ below_pl x n h2⟩
theorem libN_ok (K : Int) (B : Nat) : LibOk Try.prog (fctI B) (lib1 (libN K)) := (lib1_cons (sp0_ok rfl tfact_pl) Try.call19 (lib1_cons (bndS_ok B) Try.call23 (lib1_cons (withS_ok B) Try.call24 (lib1_cons (belowC_ok K _) Try.call9 (lib1_cons (sp2_ok fun a b _ => ⟨_, rfl, inside_pl a b⟩) Try.call18 (lib1_cons (sp2_ok fun a v _ => ⟨_, rfl, has_pl a v⟩) Try.call14 (lib1_cons (sp1_ok fun a _ => ⟨_, rfl, sinb_pl a⟩) Try.call25 (lib1_cons (sp1_ok fun a _ => ⟨_, rfl, cosb_pl a⟩) Try.call26 (lib1_cons (sp1_ok fun a hc => ⟨_, rfl, sinf_pl a (cd1 hc)⟩) Try.call20 (lib1_cons (sp1_ok fun a _ => ⟨_, rfl, cosf_pl a⟩) Try.call21 (lib1_nil _ _)))))))))))
set_option maxRecDepth 100000 in
theorem nar0_001 (B : Nat) (l : List Int) (n : Int) : evL (ctxOf Try.prog (fctI B) (fun _ => false) (libN 0)) Try.f8 l [(.w (.one (.int .i64 n)))] [false, false, true] = some (AV.w (AW.one (AC.yes true)), (pickL [(i64B n, true), (i64B 4, true), (belowV n 4 == 0, true), (decide (0 ≤ 0), true), (decide (0 < ((4 : Nat) : Int)), true), (decide (0 ≤ 5), true), (inB 5, true), (atB (0 + 5), true), (listB l, true), (atB 0, true), (mkB (bndV l 0 5), true), (atB (bndA l 0 + 9), true), (atB (bndA l 0), true), (!true, false), (!insB (waveV sinV 1073741824 (withV l (bndA l 0) (bndV l 0 5))) (waveV sinV 1073741824 (bndV l 0 5)), false), (!insB (waveV cosV 0 (withV l (bndA l 0) (bndV l 0 5))) (waveV cosV 0 (bndV l 0 5)), false), ((bndV l 0 5).u, true)] [0, 1, 2, 3, 4, 5, 6, 7, 8, 9, 10, 11, 8, 12, 13, 13, 13, 13, 13, 13, 13, 14, 14, 14, 14, 14, 14, 14, 15, 16, 16, 16, 16, 16, 16, 16, 16, 16])) := by kernel_rfl
set_option maxRecDepth 100000 in
theorem nar0_0001 (B : Nat) (l : List Int) (n : Int) : evL (ctxOf Try.prog (fctI B) (fun _ => false) (libN 0)) Try.f8 l [(.w (.one (.int .i64 n)))] [false, false, false, true] = some (AV.w (AW.one (AC.bool (hasB (waveV cosV 0 (bndV l 0 5)) (cosV (bndV l 0 5).hi)))), (pickL [(i64B n, true), (i64B 4, true), (belowV n 4 == 0, true), (decide (0 ≤ 0), true), (decide (0 < ((4 : Nat) : Int)), true), (decide (0 ≤ 5), true), (inB 5, true), (atB (0 + 5), true), (listB l, true), (atB 0, true), (mkB (bndV l 0 5), true), (atB (bndA l 0 + 9), true), (atB (bndA l 0), true), (!true, false), (!insB (waveV sinV 1073741824 (withV l (bndA l 0) (bndV l 0 5))) (waveV sinV 1073741824 (bndV l 0 5)), false), (!insB (waveV cosV 0 (withV l (bndA l 0) (bndV l 0 5))) (waveV cosV 0 (bndV l 0 5)), false), ((bndV l 0 5).u, false), (i64B (bndV l 0 5).lo, true), (hasB (waveV sinV 1073741824 (bndV l 0 5)) (sinV (bndV l 0 5).lo), true)] [0, 1, 2, 3, 4, 5, 6, 7, 8, 9, 10, 11, 8, 12, 13, 13, 13, 13, 13, 13, 13, 14, 14, 14, 14, 14, 14, 14, 15, 16, 16, 16, 16, 16, 17, 16, 16, 18, 18, 18, 18, 18, 18, 16, 18, 16])) := by kernel_rfl
set_option maxRecDepth 100000 in
theorem narrow_0 (l : List Int) (p : Option Addr) (cap : Nat) (n : Int) (hn : i64B n = true) (hK : (belowV n 4 == 0) = true) (hL : listB l = true) (W : World)
    (hl : fctHolds W.heap.size (.ints l) W #[.slice p l.length cap]) : Calls Try.prog 8 #[.slice p l.length cap, .int .i64 n] W fun e w' => e = .returned (.bool true) ∧ Below W.heap.size W w' := by
  have mA := bndV_mk l 0 5 (by omega) (by omega)
  have q1 := bndA_in l 0
  generalize hA : bndV l 0 5 = A at mA
  obtain ⟨mC, iC⟩ := withV_mk l (bndA l 0) A mA
  generalize hB2 : withV l (bndA l 0) A = C at mC iC
  have hb : knB A = true → knB C = true ∧ A.lo ≤ C.lo ∧ C.hi ≤ A.hi := fun k => by
    unfold insB at iC
    rw [k] at iC
    simpa [and_assoc] using iC
  have y1 : (!insB (waveV sinV 1073741824 C) (waveV sinV 1073741824 A)) = false := by
    have := wave_ins sin_s hb
    rw [show (1073741824 : Int) - 0 = 1073741824 by omega] at this
    rw [this]; rfl
  have y2 : (!insB (waveV cosV 0 C) (waveV cosV 0 A)) = false := by
    have := wave_ins cos_s hb
    rw [show (1073741824 : Int) - 1073741824 = 0 by omega] at this
    rw [this]; rfl
  cases hu : A.u with
  | true =>
    have L := nar0_001 W.heap.size l n
    rw [hA, hB2] at L
    refine list_calls (B := W.heap.size) (v := .bool true) (ctxOf_ok (libN_ok 0 _) (eq_none _)) (by kernel_rfl) Try.func8 rfl L rfl (.cons rfl .nil) rfl W rfl hl ?_
    clear L
    refine pickL_ok ?_ _
    repeat' (first | exact cd_nil | refine cd_cons ?_ ?_)
    all_goals first | with_reducible assumption | rfl | (with_reducible refine atB_iff.2 ?_; omega)
  | false =>
    have hk := mkB_kn mA hu
    have g := knB_iff.1 hk
    have i_lo : i64B A.lo = true := (kn_lo hk).1
    have i_hi : i64B A.hi = true := (kn_lo hk).2
    have z1 : hasB (waveV sinV 1073741824 A) (sinV A.lo) = true := by
      have := wave_hasB sin_s hk (x := A.lo) (by omega) (by omega)
      rw [show (1073741824 : Int) - 0 = 1073741824 by omega] at this
      exact this
    have z2 : hasB (waveV cosV 0 A) (cosV A.hi) = true := by
      have := wave_hasB cos_s hk (x := A.hi) (by omega) (by omega)
      rw [show (1073741824 : Int) - 1073741824 = 0 by omega] at this
      exact this
    have L := nar0_0001 W.heap.size l n
    rw [hA, hB2] at L
    refine list_calls (B := W.heap.size) (v := .bool true) (ctxOf_ok (libN_ok 0 _) (eq_none _)) (by kernel_rfl) Try.func8 rfl L rfl (.cons rfl .nil) (congrArg (fun b => some (Value.bool b)) z2) W rfl hl ?_
    clear L
    refine pickL_ok ?_ _
    repeat' (first | exact cd_nil | refine cd_cons ?_ ?_)
    all_goals first | with_reducible assumption | rfl | (with_reducible refine atB_iff.2 ?_; omega)
set_option maxRecDepth 100000 in
theorem nar1_001 (B : Nat) (l : List Int) (n : Int) : evL (ctxOf Try.prog (fctI B) (fun _ => false) (libN 1)) Try.f8 l [(.w (.one (.int .i64 n)))] [false, false, true] = some (AV.w (AW.one (AC.yes true)), (pickL [(i64B n, true), (i64B 4, true), (belowV n 4 == 1, true), (decide (0 ≤ 1), true), (decide (1 < ((4 : Nat) : Int)), true), (decide (0 ≤ 1048576), true), (inB 1048576, true), (atB (0 + 5), true), (listB l, true), (atB 0, true), (mkB (bndV l 0 1048576), true), (atB (bndA l 0 + 9), true), (atB (bndA l 0), true), (!true, false), (!insB (waveV sinV 1073741824 (withV l (bndA l 0) (bndV l 0 1048576))) (waveV sinV 1073741824 (bndV l 0 1048576)), false), (!insB (waveV cosV 0 (withV l (bndA l 0) (bndV l 0 1048576))) (waveV cosV 0 (bndV l 0 1048576)), false), ((bndV l 0 1048576).u, true)] [0, 1, 2, 3, 4, 5, 6, 7, 8, 9, 10, 11, 8, 12, 13, 13, 13, 13, 13, 13, 13, 14, 14, 14, 14, 14, 14, 14, 15, 16, 16, 16, 16, 16, 16, 16, 16, 16])) := by kernel_rfl
set_option maxRecDepth 100000 in
theorem nar1_0001 (B : Nat) (l : List Int) (n : Int) : evL (ctxOf Try.prog (fctI B) (fun _ => false) (libN 1)) Try.f8 l [(.w (.one (.int .i64 n)))] [false, false, false, true] = some (AV.w (AW.one (AC.bool (hasB (waveV cosV 0 (bndV l 0 1048576)) (cosV (bndV l 0 1048576).hi)))), (pickL [(i64B n, true), (i64B 4, true), (belowV n 4 == 1, true), (decide (0 ≤ 1), true), (decide (1 < ((4 : Nat) : Int)), true), (decide (0 ≤ 1048576), true), (inB 1048576, true), (atB (0 + 5), true), (listB l, true), (atB 0, true), (mkB (bndV l 0 1048576), true), (atB (bndA l 0 + 9), true), (atB (bndA l 0), true), (!true, false), (!insB (waveV sinV 1073741824 (withV l (bndA l 0) (bndV l 0 1048576))) (waveV sinV 1073741824 (bndV l 0 1048576)), false), (!insB (waveV cosV 0 (withV l (bndA l 0) (bndV l 0 1048576))) (waveV cosV 0 (bndV l 0 1048576)), false), ((bndV l 0 1048576).u, false), (i64B (bndV l 0 1048576).lo, true), (hasB (waveV sinV 1073741824 (bndV l 0 1048576)) (sinV (bndV l 0 1048576).lo), true)] [0, 1, 2, 3, 4, 5, 6, 7, 8, 9, 10, 11, 8, 12, 13, 13, 13, 13, 13, 13, 13, 14, 14, 14, 14, 14, 14, 14, 15, 16, 16, 16, 16, 16, 17, 16, 16, 18, 18, 18, 18, 18, 18, 16, 18, 16])) := by kernel_rfl
set_option maxRecDepth 100000 in
theorem narrow_1 (l : List Int) (p : Option Addr) (cap : Nat) (n : Int) (hn : i64B n = true) (hK : (belowV n 4 == 1) = true) (hL : listB l = true) (W : World)
    (hl : fctHolds W.heap.size (.ints l) W #[.slice p l.length cap]) : Calls Try.prog 8 #[.slice p l.length cap, .int .i64 n] W fun e w' => e = .returned (.bool true) ∧ Below W.heap.size W w' := by
  have mA := bndV_mk l 0 1048576 (by omega) (by omega)
  have q1 := bndA_in l 0
  generalize hA : bndV l 0 1048576 = A at mA
  obtain ⟨mC, iC⟩ := withV_mk l (bndA l 0) A mA
  generalize hB2 : withV l (bndA l 0) A = C at mC iC
  have hb : knB A = true → knB C = true ∧ A.lo ≤ C.lo ∧ C.hi ≤ A.hi := fun k => by
    unfold insB at iC
    rw [k] at iC
    simpa [and_assoc] using iC
  have y1 : (!insB (waveV sinV 1073741824 C) (waveV sinV 1073741824 A)) = false := by
    have := wave_ins sin_s hb
    rw [show (1073741824 : Int) - 0 = 1073741824 by omega] at this
    rw [this]; rfl
  have y2 : (!insB (waveV cosV 0 C) (waveV cosV 0 A)) = false := by
    have := wave_ins cos_s hb
    rw [show (1073741824 : Int) - 1073741824 = 0 by omega] at this
    rw [this]; rfl
  cases hu : A.u with
  | true =>
    have L := nar1_001 W.heap.size l n
    rw [hA, hB2] at L
    refine list_calls (B := W.heap.size) (v := .bool true) (ctxOf_ok (libN_ok 1 _) (eq_none _)) (by kernel_rfl) Try.func8 rfl L rfl (.cons rfl .nil) rfl W rfl hl ?_
    clear L
    refine pickL_ok ?_ _
    repeat' (first | exact cd_nil | refine cd_cons ?_ ?_)
    all_goals first | with_reducible assumption | rfl | (with_reducible refine atB_iff.2 ?_; omega)
  | false =>
    have hk := mkB_kn mA hu
    have g := knB_iff.1 hk
    have i_lo : i64B A.lo = true := (kn_lo hk).1
    have i_hi : i64B A.hi = true := (kn_lo hk).2
    have z1 : hasB (waveV sinV 1073741824 A) (sinV A.lo) = true := by
      have := wave_hasB sin_s hk (x := A.lo) (by omega) (by omega)
      rw [show (1073741824 : Int) - 0 = 1073741824 by omega] at this
      exact this
    have z2 : hasB (waveV cosV 0 A) (cosV A.hi) = true := by
      have := wave_hasB cos_s hk (x := A.hi) (by omega) (by omega)
      rw [show (1073741824 : Int) - 1073741824 = 0 by omega] at this
      exact this
    have L := nar1_0001 W.heap.size l n
    rw [hA, hB2] at L
    refine list_calls (B := W.heap.size) (v := .bool true) (ctxOf_ok (libN_ok 1 _) (eq_none _)) (by kernel_rfl) Try.func8 rfl L rfl (.cons rfl .nil) (congrArg (fun b => some (Value.bool b)) z2) W rfl hl ?_
    clear L
    refine pickL_ok ?_ _
    repeat' (first | exact cd_nil | refine cd_cons ?_ ?_)
    all_goals first | with_reducible assumption | rfl | (with_reducible refine atB_iff.2 ?_; omega)
set_option maxRecDepth 100000 in
theorem nar2_001 (B : Nat) (l : List Int) (n : Int) : evL (ctxOf Try.prog (fctI B) (fun _ => false) (libN 2)) Try.f8 l [(.w (.one (.int .i64 n)))] [false, false, true] = some (AV.w (AW.one (AC.yes true)), (pickL [(i64B n, true), (i64B 4, true), (belowV n 4 == 2, true), (decide (0 ≤ 2), true), (decide (2 < ((4 : Nat) : Int)), true), (decide (0 ≤ 1073741824), true), (inB 1073741824, true), (atB (0 + 5), true), (listB l, true), (atB 0, true), (mkB (bndV l 0 1073741824), true), (atB (bndA l 0 + 9), true), (atB (bndA l 0), true), (!true, false), (!insB (waveV sinV 1073741824 (withV l (bndA l 0) (bndV l 0 1073741824))) (waveV sinV 1073741824 (bndV l 0 1073741824)), false), (!insB (waveV cosV 0 (withV l (bndA l 0) (bndV l 0 1073741824))) (waveV cosV 0 (bndV l 0 1073741824)), false), ((bndV l 0 1073741824).u, true)] [0, 1, 2, 3, 4, 5, 6, 7, 8, 9, 10, 11, 8, 12, 13, 13, 13, 13, 13, 13, 13, 14, 14, 14, 14, 14, 14, 14, 15, 16, 16, 16, 16, 16, 16, 16, 16, 16])) := by kernel_rfl
set_option maxRecDepth 100000 in
theorem nar2_0001 (B : Nat) (l : List Int) (n : Int) : evL (ctxOf Try.prog (fctI B) (fun _ => false) (libN 2)) Try.f8 l [(.w (.one (.int .i64 n)))] [false, false, false, true] = some (AV.w (AW.one (AC.bool (hasB (waveV cosV 0 (bndV l 0 1073741824)) (cosV (bndV l 0 1073741824).hi)))), (pickL [(i64B n, true), (i64B 4, true), (belowV n 4 == 2, true), (decide (0 ≤ 2), true), (decide (2 < ((4 : Nat) : Int)), true), (decide (0 ≤ 1073741824), true), (inB 1073741824, true), (atB (0 + 5), true), (listB l, true), (atB 0, true), (mkB (bndV l 0 1073741824), true), (atB (bndA l 0 + 9), true), (atB (bndA l 0), true), (!true, false), (!insB (waveV sinV 1073741824 (withV l (bndA l 0) (bndV l 0 1073741824))) (waveV sinV 1073741824 (bndV l 0 1073741824)), false), (!insB (waveV cosV 0 (withV l (bndA l 0) (bndV l 0 1073741824))) (waveV cosV 0 (bndV l 0 1073741824)), false), ((bndV l 0 1073741824).u, false), (i64B (bndV l 0 1073741824).lo, true), (hasB (waveV sinV 1073741824 (bndV l 0 1073741824)) (sinV (bndV l 0 1073741824).lo), true)] [0, 1, 2, 3, 4, 5, 6, 7, 8, 9, 10, 11, 8, 12, 13, 13, 13, 13, 13, 13, 13, 14, 14, 14, 14, 14, 14, 14, 15, 16, 16, 16, 16, 16, 17, 16, 16, 18, 18, 18, 18, 18, 18, 16, 18, 16])) := by kernel_rfl
set_option maxRecDepth 100000 in
theorem narrow_2 (l : List Int) (p : Option Addr) (cap : Nat) (n : Int) (hn : i64B n = true) (hK : (belowV n 4 == 2) = true) (hL : listB l = true) (W : World)
    (hl : fctHolds W.heap.size (.ints l) W #[.slice p l.length cap]) : Calls Try.prog 8 #[.slice p l.length cap, .int .i64 n] W fun e w' => e = .returned (.bool true) ∧ Below W.heap.size W w' := by
  have mA := bndV_mk l 0 1073741824 (by omega) (by omega)
  have q1 := bndA_in l 0
  generalize hA : bndV l 0 1073741824 = A at mA
  obtain ⟨mC, iC⟩ := withV_mk l (bndA l 0) A mA
  generalize hB2 : withV l (bndA l 0) A = C at mC iC
  have hb : knB A = true → knB C = true ∧ A.lo ≤ C.lo ∧ C.hi ≤ A.hi := fun k => by
    unfold insB at iC
    rw [k] at iC
    simpa [and_assoc] using iC
  have y1 : (!insB (waveV sinV 1073741824 C) (waveV sinV 1073741824 A)) = false := by
    have := wave_ins sin_s hb
    rw [show (1073741824 : Int) - 0 = 1073741824 by omega] at this
    rw [this]; rfl
  have y2 : (!insB (waveV cosV 0 C) (waveV cosV 0 A)) = false := by
    have := wave_ins cos_s hb
    rw [show (1073741824 : Int) - 1073741824 = 0 by omega] at this
    rw [this]; rfl
  cases hu : A.u with
  | true =>
    have L := nar2_001 W.heap.size l n
    rw [hA, hB2] at L
    refine list_calls (B := W.heap.size) (v := .bool true) (ctxOf_ok (libN_ok 2 _) (eq_none _)) (by kernel_rfl) Try.func8 rfl L rfl (.cons rfl .nil) rfl W rfl hl ?_
    clear L
    refine pickL_ok ?_ _
    repeat' (first | exact cd_nil | refine cd_cons ?_ ?_)
    all_goals first | with_reducible assumption | rfl | (with_reducible refine atB_iff.2 ?_; omega)
  | false =>
    have hk := mkB_kn mA hu
    have g := knB_iff.1 hk
    have i_lo : i64B A.lo = true := (kn_lo hk).1
    have i_hi : i64B A.hi = true := (kn_lo hk).2
    have z1 : hasB (waveV sinV 1073741824 A) (sinV A.lo) = true := by
      have := wave_hasB sin_s hk (x := A.lo) (by omega) (by omega)
      rw [show (1073741824 : Int) - 0 = 1073741824 by omega] at this
      exact this
    have z2 : hasB (waveV cosV 0 A) (cosV A.hi) = true := by
      have := wave_hasB cos_s hk (x := A.hi) (by omega) (by omega)
      rw [show (1073741824 : Int) - 1073741824 = 0 by omega] at this
      exact this
    have L := nar2_0001 W.heap.size l n
    rw [hA, hB2] at L
    refine list_calls (B := W.heap.size) (v := .bool true) (ctxOf_ok (libN_ok 2 _) (eq_none _)) (by kernel_rfl) Try.func8 rfl L rfl (.cons rfl .nil) (congrArg (fun b => some (Value.bool b)) z2) W rfl hl ?_
    clear L
    refine pickL_ok ?_ _
    repeat' (first | exact cd_nil | refine cd_cons ?_ ?_)
    all_goals first | with_reducible assumption | rfl | (with_reducible refine atB_iff.2 ?_; omega)
set_option maxRecDepth 100000 in
theorem nar3_001 (B : Nat) (l : List Int) (n : Int) : evL (ctxOf Try.prog (fctI B) (fun _ => false) (libN 3)) Try.f8 l [(.w (.one (.int .i64 n)))] [false, false, true] = some (AV.w (AW.one (AC.yes true)), (pickL [(i64B n, true), (i64B 4, true), (belowV n 4 == 3, true), (decide (0 ≤ 3), true), (decide (3 < ((4 : Nat) : Int)), true), (decide (0 ≤ 3221225472), true), (inB 3221225472, true), (atB (0 + 5), true), (listB l, true), (atB 0, true), (mkB (bndV l 0 3221225472), true), (atB (bndA l 0 + 9), true), (atB (bndA l 0), true), (!true, false), (!insB (waveV sinV 1073741824 (withV l (bndA l 0) (bndV l 0 3221225472))) (waveV sinV 1073741824 (bndV l 0 3221225472)), false), (!insB (waveV cosV 0 (withV l (bndA l 0) (bndV l 0 3221225472))) (waveV cosV 0 (bndV l 0 3221225472)), false), ((bndV l 0 3221225472).u, true)] [0, 1, 2, 3, 4, 5, 6, 7, 8, 9, 10, 11, 8, 12, 13, 13, 13, 13, 13, 13, 13, 14, 14, 14, 14, 14, 14, 14, 15, 16, 16, 16, 16, 16, 16, 16, 16, 16])) := by kernel_rfl
set_option maxRecDepth 100000 in
theorem nar3_0001 (B : Nat) (l : List Int) (n : Int) : evL (ctxOf Try.prog (fctI B) (fun _ => false) (libN 3)) Try.f8 l [(.w (.one (.int .i64 n)))] [false, false, false, true] = some (AV.w (AW.one (AC.bool (hasB (waveV cosV 0 (bndV l 0 3221225472)) (cosV (bndV l 0 3221225472).hi)))), (pickL [(i64B n, true), (i64B 4, true), (belowV n 4 == 3, true), (decide (0 ≤ 3), true), (decide (3 < ((4 : Nat) : Int)), true), (decide (0 ≤ 3221225472), true), (inB 3221225472, true), (atB (0 + 5), true), (listB l, true), (atB 0, true), (mkB (bndV l 0 3221225472), true), (atB (bndA l 0 + 9), true), (atB (bndA l 0), true), (!true, false), (!insB (waveV sinV 1073741824 (withV l (bndA l 0) (bndV l 0 3221225472))) (waveV sinV 1073741824 (bndV l 0 3221225472)), false), (!insB (waveV cosV 0 (withV l (bndA l 0) (bndV l 0 3221225472))) (waveV cosV 0 (bndV l 0 3221225472)), false), ((bndV l 0 3221225472).u, false), (i64B (bndV l 0 3221225472).lo, true), (hasB (waveV sinV 1073741824 (bndV l 0 3221225472)) (sinV (bndV l 0 3221225472).lo), true)] [0, 1, 2, 3, 4, 5, 6, 7, 8, 9, 10, 11, 8, 12, 13, 13, 13, 13, 13, 13, 13, 14, 14, 14, 14, 14, 14, 14, 15, 16, 16, 16, 16, 16, 17, 16, 16, 18, 18, 18, 18, 18, 18, 16, 18, 16])) := by kernel_rfl
set_option maxRecDepth 100000 in
theorem narrow_3 (l : List Int) (p : Option Addr) (cap : Nat) (n : Int) (hn : i64B n = true) (hK : (belowV n 4 == 3) = true) (hL : listB l = true) (W : World)
    (hl : fctHolds W.heap.size (.ints l) W #[.slice p l.length cap]) : Calls Try.prog 8 #[.slice p l.length cap, .int .i64 n] W fun e w' => e = .returned (.bool true) ∧ Below W.heap.size W w' := by
  have mA := bndV_mk l 0 3221225472 (by omega) (by omega)
  have q1 := bndA_in l 0
  generalize hA : bndV l 0 3221225472 = A at mA
  obtain ⟨mC, iC⟩ := withV_mk l (bndA l 0) A mA
  generalize hB2 : withV l (bndA l 0) A = C at mC iC
  have hb : knB A = true → knB C = true ∧ A.lo ≤ C.lo ∧ C.hi ≤ A.hi := fun k => by
    unfold insB at iC
    rw [k] at iC
    simpa [and_assoc] using iC
  have y1 : (!insB (waveV sinV 1073741824 C) (waveV sinV 1073741824 A)) = false := by
    have := wave_ins sin_s hb
    rw [show (1073741824 : Int) - 0 = 1073741824 by omega] at this
    rw [this]; rfl
  have y2 : (!insB (waveV cosV 0 C) (waveV cosV 0 A)) = false := by
    have := wave_ins cos_s hb
    rw [show (1073741824 : Int) - 1073741824 = 0 by omega] at this
    rw [this]; rfl
  cases hu : A.u with
  | true =>
    have L := nar3_001 W.heap.size l n
    rw [hA, hB2] at L
    refine list_calls (B := W.heap.size) (v := .bool true) (ctxOf_ok (libN_ok 3 _) (eq_none _)) (by kernel_rfl) Try.func8 rfl L rfl (.cons rfl .nil) rfl W rfl hl ?_
    clear L
    refine pickL_ok ?_ _
    repeat' (first | exact cd_nil | refine cd_cons ?_ ?_)
    all_goals first | with_reducible assumption | rfl | (with_reducible refine atB_iff.2 ?_; omega)
  | false =>
    have hk := mkB_kn mA hu
    have g := knB_iff.1 hk
    have i_lo : i64B A.lo = true := (kn_lo hk).1
    have i_hi : i64B A.hi = true := (kn_lo hk).2
    have z1 : hasB (waveV sinV 1073741824 A) (sinV A.lo) = true := by
      have := wave_hasB sin_s hk (x := A.lo) (by omega) (by omega)
      rw [show (1073741824 : Int) - 0 = 1073741824 by omega] at this
      exact this
    have z2 : hasB (waveV cosV 0 A) (cosV A.hi) = true := by
      have := wave_hasB cos_s hk (x := A.hi) (by omega) (by omega)
      rw [show (1073741824 : Int) - 1073741824 = 0 by omega] at this
      exact this
    have L := nar3_0001 W.heap.size l n
    rw [hA, hB2] at L
    refine list_calls (B := W.heap.size) (v := .bool true) (ctxOf_ok (libN_ok 3 _) (eq_none _)) (by kernel_rfl) Try.func8 rfl L rfl (.cons rfl .nil) (congrArg (fun b => some (Value.bool b)) z2) W rfl hl ?_
    clear L
    refine pickL_ok ?_ _
    repeat' (first | exact cd_nil | refine cd_cons ?_ ?_)
    all_goals first | with_reducible assumption | rfl | (with_reducible refine atB_iff.2 ?_; omega)
theorem trigBoundsNarrow_law (l : List Int) (p : Option Addr) (cap : Nat) (n : Int) (n1 : -9223372036854775808 ≤ n) (n2 : n ≤ 9223372036854775807) (hL : listB l = true) (W : World)
    (hl : fctHolds W.heap.size (.ints l) W #[.slice p l.length cap]) : Calls Try.prog 8 #[.slice p l.length cap, .int .i64 n] W fun e w' => e = .returned (.bool true) ∧ Below W.heap.size W w' := by
  have hn : i64B n = true := i64B_iff.2 ⟨n1, n2⟩
  have h := belowV_in n 4 (by omega)
  obtain ⟨k, hk⟩ : ∃ k, belowV n 4 = k := ⟨_, rfl⟩
  rw [hk] at h
  rcases (show k = 0 ∨ k = 1 ∨ k = 2 ∨ k = 3 by omega) with rfl | rfl | rfl | rfl
  · exact narrow_0 l p cap n hn (by rw [hk]; rfl) hL W hl
  · exact narrow_1 l p cap n hn (by rw [hk]; rfl) hL W hl
  · exact narrow_2 l p cap n hn (by rw [hk]; rfl) hL W hl
  · exact narrow_3 l p cap n hn (by rw [hk]; rfl) hL W hl
end Go.Proofs.Ytdhodjbomepfbab

