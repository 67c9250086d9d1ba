/-
  Package frac: numerals and texts: Cut at one byte, isNumeral, value and Text as functions.
  Conditions: those of each theorem.
-/
import Derived.Test.YtocheeocnbfbiaaDoorNL
import Derived.Test.YtocheeocnbfbiaaDoorF1
import Derived.Test.YtocheeocnbfbiaaDoorShelf
import Derived.Lib.AppendIntMem
import Derived.Lib.ItoaLen
set_option linter.unusedVariables false
set_option linter.unusedSimpArgs false
namespace Go.Proofs.YtocheeocnbfbiaaDoor.AtFt
open Ev Go.RowKit
open Go.Proofs.YtocheeocnbfbiaaDoor
variable {F : Type}
noncomputable section

/-- The library's table, at all times. -/
noncomputable abbrev powF (B : Nat) : World → Prop := tabQ Tryd.prog "internal/strconv.uint64pow10" .u64 Lib.pow10Tab B
noncomputable def fqI (B : Nat) : Interp Empty := noFacts.above rfl B (powF B) tabQ_mono
def cutI (s p : ByteArray) : Int := Lib.indexByte s.data.toList (p.data.toList.headD 0)
def cutA (s p : ByteArray) : ByteArray := if 0 ≤ cutI s p then sSub s 0 (cutI s p) else s
def cutC (s p : ByteArray) : ByteArray := if 0 ≤ cutI s p then sSub s (cutI s p + 1) (sLen s) else ⟨#[]⟩
def cpA (s p : ByteArray) : ByteArray := ⟨(Lib.trimPrefix s.data.toList p.data.toList).toArray⟩
def cpO (s p : ByteArray) : Bool := Lib.hasPrefix s.data.toList p.data.toList
def alD (s : ByteArray) : Bool := s.data.toList.all isD
/-- A numeral: digits, no zero ahead of others. -/
def nuB (s : ByteArray) : Bool := !sEq s ⟨#[]⟩ && (!(decide (sAt s 0 = 48) && !sEq s ⟨#[48]⟩) && alD s)
def vaV (s : ByteArray) : Int := vF s s.size 0 0
abbrev ixS : FnSp F := sp2 dStr dStr (fun s p => aInt .i64 (cutI s p)) (fun _ p => [(decide (sLen p = 1), true)])
abbrev cuS : FnSp F := sp2 dStr dStr (fun s p => .tup [.one (.lit (.string (cutA s p))), .one (.lit (.string (cutC s p))), .one (.bool (decide (0 ≤ cutI s p)))]) (fun s p => [(decide (sLen p = 1), true), (decide (sLen s ≤ 9223372036854775807), true)])
abbrev cpS : FnSp F := sp2 dStr dStr (fun s p => .tup [.one (.lit (.string (cpA s p))), .one (.bool (cpO s p))]) (fun _ _ => [])
abbrev nmS : FnSp F := sp1 dStr (fun s => aBool (nuB s)) (fun s => [(decide (sLen s ≤ 9223372036854775807), true)])
abbrev vlS : FnSp F := sp1 dStr (fun s => .tup [.one (.int .i64 (if 0 ≤ vaV s then vaV s else 0)), .one (.bool (decide (0 ≤ vaV s)))]) (fun s => [(decide (sLen s ≤ 9223372036854775807), true), (alD s, true)])
def dFr : Dec F (Int × Int) where
  dec := fun x => match x with
    | .w (.agg [.int .i64 n, .int .i64 d]) => some (n, d)
    | _ => none
  enc := fun p => .agg #[.int .i64 p.1, .int .i64 p.2]
  ok := fun x a h => by
    split at h
    · cases h; rfl
    · cases h
def i64R (x : Int) : Bool := decide (-9223372036854775808 ≤ x) && decide (x ≤ 9223372036854775807)
abbrev chS : FnSp F := sp1 dFr (fun p => aInt .i64 (chkV p.1 p.2)) (fun p => [(i64R p.1, true), (i64R p.2, true)])
abbrev fmS : FnSp F := sp2 (dInt .i64) (dInt .i64) (fun n _ => aStr (itoaB n)) (fun n b => [(i64R n, true), (decide (b = 10), true)])
noncomputable abbrev nuLps : Lps Empty := [((31, [false, true, false, true, true]), nuD.sp (fun _ => false))]
noncomputable abbrev vaLps : Lps Empty := [((24, [false, true, false, true, true]), vaD.sp (fun _ => false))]
theorem nuLps_ok : LpsOk Tryd.prog noFacts nuLps Tryd.f26.ntmps (bodyOf Tryd.f26) := lps_cons (fun _ x hx => nuD_ok x hx) lps_nil
theorem vaLps_ok : LpsOk Tryd.prog noFacts vaLps Tryd.f27.ntmps (bodyOf Tryd.f27) := lps_cons (fun _ x hx => vaD_ok x hx) lps_nil
theorem one_of {p : ByteArray} (h : sLen p = 1) : p = ⟨#[p.data.toList.headD 0]⟩ := by
  refine ba_eq ?_
  rw [len_L] at h
  cases hp : p.data.toList with
  | nil => rw [hp] at h; simp at h
  | cons b r =>
    rw [hp] at h
    cases r with
    | nil => rfl
    | cons c t => simp at h; omega
theorem ix_ok (I : Interp F) : (ixS : FnSp F).ok Tryd.prog I 73 := sp2_ok fun s p hc => ⟨_, rfl, fun w => by
  have h1 := of_decide_eq_true (hc (decide (sLen p = 1), true) (by simp))
  have e : cutI s p = Lib.indexByte s.data.toList (p.data.toList.headD 0) := rfl
  rw [e]
  generalize hq : p.data.toList.headD 0 = c
  have hp := one_of h1
  rw [hq] at hp
  rw [hp]
  refine (Tryd.stringslite_Index_one s c w).mono ?_
  rintro e w' ⟨rfl, rfl⟩
  exact ⟨rfl, Below.refl _ _⟩⟩
theorem cp_ok (I : Interp F) : (cpS : FnSp F).ok Tryd.prog I 25 := sp2_ok fun s p hc => ⟨_, rfl, fun w => by
  refine (Tryd.strings_CutPrefix s p w).mono ?_
  rintro e w' ⟨rfl, rfl⟩
  exact ⟨rfl, Below.refl _ _⟩⟩
theorem ch_ok (I : Interp F) : (chS : FnSp F).ok Tryd.prog I 22 := sp1_ok fun p hc => ⟨_, rfl, fun w => by
  have h1 := hc (i64R p.1, true) (by simp)
  have h2 := hc (i64R p.2, true) (by simp)
  unfold i64R at h1 h2
  simp only [Bool.and_eq_true, decide_eq_true_eq] at h1 h2
  exact check_any p.1 p.2 h1.1 h1.2 h2.1 h2.2 w⟩
theorem fm_ok (B : Nat) : (fmS : FnSp Empty).ok Tryd.prog (fqI B) 23 := sp2q_ok fun n b hc => ⟨_, rfl, fun w hw => by
  have h1 := hc (i64R n, true) (by simp)
  obtain rfl := of_decide_eq_true (hc (decide (b = 10), true) (by simp))
  unfold i64R at h1
  simp only [Bool.and_eq_true, decide_eq_true_eq] at h1
  refine (Tryd.strconv_FormatInt_10 n h1.1 h1.2 w (tabQ_here hw.2)).mono ?_
  rintro e w' ⟨rfl, k, os, rfl⟩
  exact ⟨rfl, Lib.below_grow _ w (Nat.le_refl _) k os⟩⟩
theorem index_le : ∀ (l : List UInt8) (c : UInt8), Lib.indexByte l c < (l.length : Int)
  | [], c => by simp [Lib.indexByte]
  | b :: r, c => by
    have ih := index_le r c
    unfold Lib.indexByte
    repeat' split
    all_goals (simp only [List.length_cons] at *; omega)
theorem cut_lt (s p : ByteArray) : cutI s p < sLen s := by rw [len_L]; exact index_le _ _
noncomputable abbrev libF1 : List (Nat × FnSp Empty) := [(73, ixS)]
theorem libF1_ok : LibOk Tryd.prog noFacts (lib1 libF1) := (lib1_cons (ix_ok _) Tryd.call73 (lib1_nil _ _))
set_option maxRecDepth 100000 in
theorem cuf_1 (s : ByteArray) (q : ByteArray) : evR (ctxOf Tryd.prog noFacts (fun _ => false) libF1) Tryd.f54 [(.w (.one (.lit (.string s)))), (.w (.one (.lit (.string q))))] [true] = some (AV.tup [AW.one (AC.lit (Value.string (sSub s 0 (cutI s q)))), AW.one (AC.lit (Value.string (sSub s (IntKind.i64.wrap (cutI s q + sLen q)) (sLen s)))), AW.one (AC.yes true)], (pickL [(decide (sLen q = 1), true), (decide (cutI s q ≥ 0), true), (decide ((0 : Int) ≤ 0), true), (decide ((0 : Int) ≤ cutI s q), true), (decide (cutI s q ≤ sLen s), true), (decide ((0 : Int) ≤ IntKind.i64.wrap (cutI s q + sLen q)), true), (decide (IntKind.i64.wrap (cutI s q + sLen q) ≤ sLen s), true), (decide (sLen s ≤ sLen s), true)] [0, 1, 2, 3, 4, 5, 6, 7])) := by kernel_rfl
set_option maxRecDepth 100000 in
theorem cuf_0 (s : ByteArray) (q : ByteArray) : evR (ctxOf Tryd.prog noFacts (fun _ => false) libF1) Tryd.f54 [(.w (.one (.lit (.string s)))), (.w (.one (.lit (.string q))))] [false] = some (AV.tup [AW.one (AC.lit (Value.string s)), AW.one (AC.lit (Value.string (⟨#[]⟩ : ByteArray))), AW.one (AC.yes false)], (pickL [(decide (sLen q = 1), true), (decide (cutI s q ≥ 0), false)] [0, 1])) := by kernel_rfl
theorem cu_pl (s p : ByteArray) (h1 : sLen p = 1) (hs : sLen s ≤ 9223372036854775807) : Pl Tryd.prog 54 [.string s, .string p] (.tuple #[.string (cutA s p), .string (cutC s p), .bool (decide (0 ≤ cutI s p))]) := fun w => by
  have hl := cut_lt s p
  unfold cutA cutC
  by_cases g : 0 ≤ cutI s p
  · have e : IntKind.i64.wrap (cutI s p + sLen p) = cutI s p + 1 := by rw [h1]; exact IntWalk.i64_in _ (by omega)
    rw [if_pos g, if_pos g, decide_eq_true g, ← e]
    refine evR_calls (I := noFacts) (v := .tuple _) (ctxOf_ok libF1_ok (eq_none _)) (by kernel_rfl) Tryd.func54 rfl lps_nil (cuf_1 s p) rfl (all2_R (.cons rfl (.cons rfl .nil))) rfl w (Nat.zero_le _) (pickL_ok ?_ _)
    repeat' (first | exact cd_nil | refine cd_cons ?_ ?_)
    all_goals first | exact decide_eq_true (by omega) | (rw [e]; exact decide_eq_true (by omega)) | exact decide_eq_false (by omega) | with_reducible rfl

  · rw [if_neg g, if_neg g, decide_eq_false g]
    refine evR_calls (I := noFacts) (v := .tuple _) (ctxOf_ok libF1_ok (eq_none _)) (by kernel_rfl) Tryd.func54 rfl lps_nil (cuf_0 s p) rfl (all2_R (.cons rfl (.cons rfl .nil))) rfl w (Nat.zero_le _) (pickL_ok ?_ _)
    repeat' (first | exact cd_nil | refine cd_cons ?_ ?_)
    all_goals first | with_reducible assumption | with_reducible rfl | exact decide_eq_true (by omega) | exact decide_eq_false (by omega)

noncomputable abbrev libF2 : List (Nat × FnSp Empty) := [(54, cuS)]
theorem cu2 {s p : ByteArray} (hc : ∀ q ∈ [(decide (sLen p = 1), true), (decide (sLen s ≤ 9223372036854775807), true)], q.1 = q.2) : sLen p = 1 ∧ sLen s ≤ 9223372036854775807 := ⟨of_decide_eq_true (hc (decide (sLen p = 1), true) (by simp)), of_decide_eq_true (hc (decide (sLen s ≤ 9223372036854775807), true) (by simp))⟩
theorem libF2_ok : LibOk Tryd.prog noFacts (lib1 libF2) := (lib1_cons (sp2_ok fun s p hc => ⟨_, rfl, cu_pl s p (cu2 hc).1 (cu2 hc).2⟩) Tryd.call54 (lib1_nil _ _))
set_option maxRecDepth 100000 in
theorem cug_ (s : ByteArray) (q : ByteArray) : evR (ctxOf Tryd.prog noFacts (fun _ => false) libF2) Tryd.f24 [(.w (.one (.lit (.string s)))), (.w (.one (.lit (.string q))))] [] = some (AV.tup [AW.one (AC.lit (Value.string (cutA s q))), AW.one (AC.lit (Value.string (cutC s q))), AW.one (AC.bool (decide ((0 : Int) ≤ cutI s q)))], (pickL [(decide (sLen q = 1), true), (decide (sLen s ≤ 9223372036854775807), true)] [0, 1])) := by kernel_rfl
theorem cut_pl (s p : ByteArray) (h1 : sLen p = 1) (hs : sLen s ≤ 9223372036854775807) : Pl Tryd.prog 24 [.string s, .string p] (.tuple #[.string (cutA s p), .string (cutC s p), .bool (decide (0 ≤ cutI s p))]) := fun w => by
  refine evR_calls (I := noFacts) (v := .tuple _) (ctxOf_ok libF2_ok (eq_none _)) (by kernel_rfl) Tryd.func24 rfl lps_nil (cug_ s p) rfl (all2_R (.cons rfl (.cons rfl .nil))) rfl w (Nat.zero_le _) (pickL_ok ?_ _)
  repeat' (first | exact cd_nil | refine cd_cons ?_ ?_)
  all_goals first | with_reducible assumption | with_reducible rfl | exact decide_eq_true (by omega) | exact decide_eq_false (by omega)

set_option maxRecDepth 100000 in
theorem vaf_1 (s : ByteArray) : evR (ctxLp Tryd.prog noFacts (fun _ => false) [] [] vaLps) Tryd.f27 [(.w (.one (.lit (.string s))))] [true] = some (AV.tup [AW.one (AC.int IntKind.i64 (IntKind.i64.wrap (vF s s.size 0 0))), AW.one (AC.yes true)], (pickL [(decide ((0 : Int) ≤ vF s s.size 0 0), true), (decide ((0 : Int) = 0) && decide (sLen s = sLen s) && decide (sLen s ≤ 9223372036854775807) && alF (dAt s) s.size 0 && decide ((0 : Int) = 0), true)] [0, 1])) := by kernel_rfl
set_option maxRecDepth 100000 in
theorem vaf_0 (s : ByteArray) : evR (ctxLp Tryd.prog noFacts (fun _ => false) [] [] vaLps) Tryd.f27 [(.w (.one (.lit (.string s))))] [false] = some (AV.tup [AW.one (AC.int IntKind.i64 0), AW.one (AC.yes false)], (pickL [(decide ((0 : Int) ≤ vF s s.size 0 0), false), (decide ((0 : Int) = 0) && decide (sLen s = sLen s) && decide (sLen s ≤ 9223372036854775807) && alF (dAt s) s.size 0 && decide ((0 : Int) = 0), true)] [0, 1])) := by kernel_rfl
theorem vF_le (s : ByteArray) : ∀ (k j : Nat) (x : Int), x ≤ 1152921504606846976 → vF s k j x ≤ 1152921504606846976
  | 0, j, x, h => h
  | k + 1, j, x, h => by
    unfold vF
    split
    · exact vF_le s k _ _ (by assumption)
    · omega
theorem val_pl (s : ByteArray) (hs : sLen s ≤ 9223372036854775807) (hd : alD s = true) : Pl Tryd.prog 27 [.string s] (.tuple #[.int .i64 (if 0 ≤ vaV s then vaV s else 0), .bool (decide (0 ≤ vaV s))]) := fun w => by
  have ha : alF (dAt s) s.size 0 = true := by rw [alF_all]; exact hd
  have kq : (decide ((0 : Int) = 0) && decide (sLen s = sLen s) && decide (sLen s ≤ 9223372036854775807) && alF (dAt s) s.size 0 && decide ((0 : Int) = 0)) = true := by rw [ha, decide_eq_true hs, decide_eq_true (rfl : sLen s = sLen s)]; rfl
  have hle := vF_le s s.size 0 0 (by omega)
  unfold vaV
  by_cases g : 0 ≤ vF s s.size 0 0
  · rw [if_pos g, decide_eq_true g]
    have e : IntKind.i64.wrap (vF s s.size 0 0) = vF s s.size 0 0 := IntWalk.i64_in _ (by omega)
    have g' := g
    rw [show (Value.int .i64 (vF s s.size 0 0)) = Value.int .i64 (IntKind.i64.wrap (vF s s.size 0 0)) by rw [e]]
    refine evR_calls (I := noFacts) (v := .tuple _) (ctxLp_ok (lib1_nil _ _) (eq_none _) (fns_nil _) (fun f fn h => by cases h)) (by kernel_rfl) Tryd.func27 rfl vaLps_ok (vaf_1 s) rfl (all2_R (.cons rfl .nil)) rfl w (Nat.zero_le _) (pickL_ok ?_ _)
    repeat' (first | exact cd_nil | refine cd_cons ?_ ?_)
    all_goals first | exact kq | exact decide_eq_true (by omega) | with_reducible rfl

  · rw [if_neg g, decide_eq_false g]
    refine evR_calls (I := noFacts) (v := .tuple _) (ctxLp_ok (lib1_nil _ _) (eq_none _) (fns_nil _) (fun f fn h => by cases h)) (by kernel_rfl) Tryd.func27 rfl vaLps_ok (vaf_0 s) rfl (all2_R (.cons rfl .nil)) rfl w (Nat.zero_le _) (pickL_ok ?_ _)
    repeat' (first | exact cd_nil | refine cd_cons ?_ ?_)
    all_goals first | exact kq | exact decide_eq_false (by omega) | with_reducible rfl

set_option maxRecDepth 100000 in
theorem nuf_1 (s : ByteArray) : evR (ctxLp Tryd.prog noFacts (fun _ => false) [] [] nuLps) Tryd.f26 [(.w (.one (.lit (.string s))))] [true] = some (AV.w (AW.one (AC.yes false)), (pickL [(sEq s (⟨#[]⟩ : ByteArray), true), (true, true)] [0, 0, 0, 0, 0, 0, 1])) := by kernel_rfl
set_option maxRecDepth 100000 in
theorem nuf_011 (s : ByteArray) : evR (ctxLp Tryd.prog noFacts (fun _ => false) [] [] nuLps) Tryd.f26 [(.w (.one (.lit (.string s))))] [false, true, true] = some (AV.w (AW.one (AC.yes false)), (pickL [(sEq s (⟨#[]⟩ : ByteArray), false), (decide ((0 : Int) ≤ 0), true), (decide ((0 : Int) < sLen s), true), (sAt s 0 == 48, true), (!sEq s (⟨#[48]⟩ : ByteArray), true)] [0, 0, 1, 2, 0, 0, 3, 3, 0, 3, 0, 4])) := by kernel_rfl
set_option maxRecDepth 100000 in
theorem nuf_0101 (s : ByteArray) : evR (ctxLp Tryd.prog noFacts (fun _ => false) [] [] nuLps) Tryd.f26 [(.w (.one (.lit (.string s))))] [false, true, false, true] = some (AV.w (AW.one (AC.yes true)), (pickL [(sEq s (⟨#[]⟩ : ByteArray), false), (decide ((0 : Int) ≤ 0), true), (decide ((0 : Int) < sLen s), true), (sAt s 0 == 48, true), (!sEq s (⟨#[48]⟩ : ByteArray), false), (alF (dAt s) s.size 0, true), (decide ((0 : Int) = 0) && decide (sLen s = sLen s) && decide (sLen s ≤ 9223372036854775807), true)] [0, 0, 1, 2, 0, 0, 3, 3, 0, 3, 0, 4, 5, 6])) := by kernel_rfl
set_option maxRecDepth 100000 in
theorem nuf_0100 (s : ByteArray) : evR (ctxLp Tryd.prog noFacts (fun _ => false) [] [] nuLps) Tryd.f26 [(.w (.one (.lit (.string s))))] [false, true, false, false] = some (AV.w (AW.one (AC.yes false)), (pickL [(sEq s (⟨#[]⟩ : ByteArray), false), (decide ((0 : Int) ≤ 0), true), (decide ((0 : Int) < sLen s), true), (sAt s 0 == 48, true), (!sEq s (⟨#[48]⟩ : ByteArray), false), (alF (dAt s) s.size 0, false), (decide ((0 : Int) = 0) && decide (sLen s = sLen s) && decide (sLen s ≤ 9223372036854775807), true)] [0, 0, 1, 2, 0, 0, 3, 3, 0, 3, 0, 4, 5, 6])) := by kernel_rfl
set_option maxRecDepth 100000 in
theorem nuf_001 (s : ByteArray) : evR (ctxLp Tryd.prog noFacts (fun _ => false) [] [] nuLps) Tryd.f26 [(.w (.one (.lit (.string s))))] [false, false, true] = some (AV.w (AW.one (AC.yes true)), (pickL [(sEq s (⟨#[]⟩ : ByteArray), false), (decide ((0 : Int) ≤ 0), true), (decide ((0 : Int) < sLen s), true), (sAt s 0 == 48, false), (false, false), (alF (dAt s) s.size 0, true), (decide ((0 : Int) = 0) && decide (sLen s = sLen s) && decide (sLen s ≤ 9223372036854775807), true)] [0, 0, 1, 2, 0, 0, 3, 3, 0, 3, 0, 4, 5, 6])) := by kernel_rfl
set_option maxRecDepth 100000 in
theorem nuf_000 (s : ByteArray) : evR (ctxLp Tryd.prog noFacts (fun _ => false) [] [] nuLps) Tryd.f26 [(.w (.one (.lit (.string s))))] [false, false, false] = some (AV.w (AW.one (AC.yes false)), (pickL [(sEq s (⟨#[]⟩ : ByteArray), false), (decide ((0 : Int) ≤ 0), true), (decide ((0 : Int) < sLen s), true), (sAt s 0 == 48, false), (false, false), (alF (dAt s) s.size 0, false), (decide ((0 : Int) = 0) && decide (sLen s = sLen s) && decide (sLen s ≤ 9223372036854775807), true)] [0, 0, 1, 2, 0, 0, 3, 3, 0, 3, 0, 4, 5, 6])) := by kernel_rfl
theorem num_pl (s : ByteArray) (hs : sLen s ≤ 9223372036854775807) : Pl Tryd.prog 26 [.string s] (.bool (nuB s)) := fun w => by
  have ha : alF (dAt s) s.size 0 = alD s := alF_all s
  have kq : (decide ((0 : Int) = 0) && decide (sLen s = sLen s) && decide (sLen s ≤ 9223372036854775807)) = true := by rw [decide_eq_true hs, decide_eq_true (rfl : sLen s = sLen s)]; rfl
  cases e0 : sEq s ⟨#[]⟩ with
  | true =>
    have V : nuB s = false := by unfold nuB; rw [e0]; rfl
    rw [V]
    refine evR_calls (I := noFacts) (v := .bool false) (ctxLp_ok (lib1_nil _ _) (eq_none _) (fns_nil _) (fun f fn h => by cases h)) (by kernel_rfl) Tryd.func26 rfl nuLps_ok (nuf_1 s) rfl (all2_R (.cons rfl .nil)) rfl w (Nat.zero_le _) (pickL_ok ?_ _)
    repeat' (first | exact cd_nil | refine cd_cons ?_ ?_)
    all_goals first | with_reducible assumption | exact kq | exact decide_eq_true (by omega) | with_reducible rfl

  | false =>
    have hp : 0 < sLen s := by
      rcases Nat.eq_zero_or_pos s.size with h | h
      · exfalso
        have : s = ⟨#[]⟩ := ba_eq (List.eq_nil_of_length_eq_zero (show s.data.toList.length = 0 from h))
        rw [(sEq_iff s ⟨#[]⟩).2 this] at e0
        cases e0
      · unfold sLen; omega
    cases e1 : (sAt s 0 == 48) with
    | true =>
      have d1 : decide (sAt s 0 = 48) = true := by simpa using e1
      cases e2 : (!sEq s ⟨#[48]⟩) with
      | true =>
        have V : nuB s = false := by unfold nuB; rw [e0, d1, e2]; rfl
        rw [V]
        refine evR_calls (I := noFacts) (v := .bool false) (ctxLp_ok (lib1_nil _ _) (eq_none _) (fns_nil _) (fun f fn h => by cases h)) (by kernel_rfl) Tryd.func26 rfl nuLps_ok (nuf_011 s) rfl (all2_R (.cons rfl .nil)) rfl w (Nat.zero_le _) (pickL_ok ?_ _)
        repeat' (first | exact cd_nil | refine cd_cons ?_ ?_)
        all_goals first | with_reducible assumption | exact kq | exact decide_eq_true (by omega) | with_reducible rfl

      | false =>
        cases e3 : alF (dAt s) s.size 0 with
        | true =>
          have V : nuB s = true := by unfold nuB; rw [e0, d1, e2, ← ha, e3]; rfl
          rw [V]
          refine evR_calls (I := noFacts) (v := .bool true) (ctxLp_ok (lib1_nil _ _) (eq_none _) (fns_nil _) (fun f fn h => by cases h)) (by kernel_rfl) Tryd.func26 rfl nuLps_ok (nuf_0101 s) rfl (all2_R (.cons rfl .nil)) rfl w (Nat.zero_le _) (pickL_ok ?_ _)
          repeat' (first | exact cd_nil | refine cd_cons ?_ ?_)
          all_goals first | with_reducible assumption | exact kq | exact decide_eq_true (by omega) | with_reducible rfl

        | false =>
          have V : nuB s = false := by unfold nuB; rw [e0, d1, e2, ← ha, e3]; rfl
          rw [V]
          refine evR_calls (I := noFacts) (v := .bool false) (ctxLp_ok (lib1_nil _ _) (eq_none _) (fns_nil _) (fun f fn h => by cases h)) (by kernel_rfl) Tryd.func26 rfl nuLps_ok (nuf_0100 s) rfl (all2_R (.cons rfl .nil)) rfl w (Nat.zero_le _) (pickL_ok ?_ _)
          repeat' (first | exact cd_nil | refine cd_cons ?_ ?_)
          all_goals first | with_reducible assumption | exact kq | exact decide_eq_true (by omega) | with_reducible rfl

    | false =>
      have d1 : decide (sAt s 0 = 48) = false := by simpa using e1
      cases e3 : alF (dAt s) s.size 0 with
      | true =>
        have V : nuB s = true := by unfold nuB; rw [e0, d1, ← ha, e3]; rfl
        rw [V]
        refine evR_calls (I := noFacts) (v := .bool true) (ctxLp_ok (lib1_nil _ _) (eq_none _) (fns_nil _) (fun f fn h => by cases h)) (by kernel_rfl) Tryd.func26 rfl nuLps_ok (nuf_001 s) rfl (all2_R (.cons rfl .nil)) rfl w (Nat.zero_le _) (pickL_ok ?_ _)
        repeat' (first | exact cd_nil | refine cd_cons ?_ ?_)
        all_goals first | with_reducible assumption | exact kq | exact decide_eq_true (by omega) | with_reducible rfl

      | false =>
        have V : nuB s = false := by unfold nuB; rw [e0, d1, ← ha, e3]; rfl
        rw [V]
        refine evR_calls (I := noFacts) (v := .bool false) (ctxLp_ok (lib1_nil _ _) (eq_none _) (fns_nil _) (fun f fn h => by cases h)) (by kernel_rfl) Tryd.func26 rfl nuLps_ok (nuf_000 s) rfl (all2_R (.cons rfl .nil)) rfl w (Nat.zero_le _) (pickL_ok ?_ _)
        repeat' (first | exact cd_nil | refine cd_cons ?_ ?_)
        all_goals first | with_reducible assumption | exact kq | exact decide_eq_true (by omega) | with_reducible rfl

noncomputable abbrev libF4 : List (Nat × FnSp Empty) := [(22, chS), (23, fmS)]
theorem libF4_ok (B : Nat) : LibOk Tryd.prog (fqI B) (lib1 libF4) := (lib1_cons (ch_ok _) Tryd.call22 (lib1_cons (fm_ok B) Tryd.call23 (lib1_nil _ _)))
theorem len_cat (a b : ByteArray) : sLen (sCat a b) = sLen a + sLen b := by rw [len_L, len_L, len_L, cat_L, List.length_append]; omega
theorem itoa_len {n : Int} (h : i64R n = true) : sLen (itoaB n) ≤ 21 := by
  unfold i64R at h
  simp only [Bool.and_eq_true, decide_eq_true_eq] at h
  rw [len_L]
  unfold itoaB
  have := Lib.itoa_length_le n h.1 h.2
  simp only [List.toList_toArray]
  omega
def ftx (n d : Int) : ByteArray := if chkV n d = 0 then (if 1 < d then sCat (itoaB n) (sCat ⟨#[47]⟩ (itoaB d)) else itoaB n) else ⟨#[]⟩
set_option maxRecDepth 100000 in
theorem txf_1 (B : Nat) (n : Int) (d : Int) : evR (ctxOf Tryd.prog (fqI B) (fun _ => false) libF4) Tryd.f7 [(.w (.agg [.int .i64 n, .int .i64 d]))] [true] = some (AV.tup [AW.one (AC.lit (Value.string (⟨#[]⟩ : ByteArray))), AW.one (AC.int IntKind.i64 (chkV n d))], (pickL [(i64R n, true), (i64R d, true), (chkV n d != 0, true)] [0, 1, 2])) := by kernel_rfl
set_option maxRecDepth 100000 in
theorem txf_01 (B : Nat) (n : Int) (d : Int) : evR (ctxOf Tryd.prog (fqI B) (fun _ => false) libF4) Tryd.f7 [(.w (.agg [.int .i64 n, .int .i64 d]))] [false, true] = some (AV.tup [AW.one (AC.lit (Value.string (sCat (itoaB n) (sCat (⟨#[47]⟩ : ByteArray) (itoaB d))))), AW.one (AC.int IntKind.i64 0)], (pickL [(i64R n, true), (i64R d, true), (chkV n d != 0, false), (decide ((10 : Int) = 10), true), (decide (d > 1), true), (decide (sLen (⟨#[47]⟩ : ByteArray) + sLen (itoaB d) ≤ 9223372036854775807), true), (decide (sLen (itoaB n) + sLen (sCat (⟨#[47]⟩ : ByteArray) (itoaB d)) ≤ 9223372036854775807), true)] [0, 1, 2, 0, 3, 4, 1, 3, 5, 6])) := by kernel_rfl
set_option maxRecDepth 100000 in
theorem txf_00 (B : Nat) (n : Int) (d : Int) : evR (ctxOf Tryd.prog (fqI B) (fun _ => false) libF4) Tryd.f7 [(.w (.agg [.int .i64 n, .int .i64 d]))] [false, false] = some (AV.tup [AW.one (AC.lit (Value.string (itoaB n))), AW.one (AC.int IntKind.i64 0)], (pickL [(i64R n, true), (i64R d, true), (chkV n d != 0, false), (decide ((10 : Int) = 10), true), (decide (d > 1), false)] [0, 1, 2, 0, 3, 4])) := by kernel_rfl
theorem ftx_pl (B : Nat) (n d : Int) (hn : i64R n = true) (hd : i64R d = true) : PlI (fqI B).bs Tryd.prog 7 [.agg #[.int .i64 n, .int .i64 d]] (.tuple #[.string (ftx n d), .int .i64 (chkV n d)]) := fun w hw => by
  have l1 := itoa_len hn
  have l2 := itoa_len hd
  have hl1 : ∀ b : UInt8, sLen (⟨#[b]⟩ : ByteArray) = 1 := fun b => rfl
  unfold ftx
  by_cases hE : chkV n d = 0
  · have hb : (chkV n d != 0) = false := by simp [hE]
    rw [if_pos hE, hE]
    by_cases g : 1 < d
    · rw [if_pos g]
      refine evR_calls (I := fqI B) (v := .tuple _) (ctxOf_ok (libF4_ok B) (eq_none _)) (by kernel_rfl) Tryd.func7 rfl lps_nil (txf_01 B n d) rfl (all2_R (.cons rfl .nil)) rfl w hw.1 (pickL_ok ?_ _) hw.2
      repeat' (first | exact cd_nil | refine cd_cons ?_ ?_)
      all_goals first | with_reducible assumption | exact decide_eq_true (by omega) | exact decide_eq_false (by omega) | (simp only [len_cat, hl1]; exact decide_eq_true (by omega)) | with_reducible rfl

    · rw [if_neg g]
      refine evR_calls (I := fqI B) (v := .tuple _) (ctxOf_ok (libF4_ok B) (eq_none _)) (by kernel_rfl) Tryd.func7 rfl lps_nil (txf_00 B n d) rfl (all2_R (.cons rfl .nil)) rfl w hw.1 (pickL_ok ?_ _) hw.2
      repeat' (first | exact cd_nil | refine cd_cons ?_ ?_)
      all_goals first | with_reducible assumption | exact decide_eq_true (by omega) | exact decide_eq_false (by omega) | (simp only [len_cat, hl1]; exact decide_eq_true (by omega)) | with_reducible rfl

  · have hb : (chkV n d != 0) = true := by simp [hE]
    rw [if_neg hE]
    refine evR_calls (I := fqI B) (v := .tuple _) (ctxOf_ok (libF4_ok B) (eq_none _)) (by kernel_rfl) Tryd.func7 rfl lps_nil (txf_1 B n d) rfl (all2_R (.cons rfl .nil)) rfl w hw.1 (pickL_ok ?_ _) hw.2
    repeat' (first | exact cd_nil | refine cd_cons ?_ ?_)
    all_goals first | with_reducible assumption | exact decide_eq_true (by omega) | exact decide_eq_false (by omega) | (simp only [len_cat, hl1]; exact decide_eq_true (by omega)) | with_reducible rfl

end
end Go.Proofs.YtocheeocnbfbiaaDoor.AtFt

