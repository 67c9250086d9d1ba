/-
  The walk of the law FracBack: a number's terms lead back to it, and its text is read again as the number.
  Conditions: n and d are int64; the library's table reads as it is laid.
-/
import Derived.Test.YtocheeocnbfbiaaDoorKV
import Derived.Test.YtocheeocnbfbiaaDoorNRB
import Derived.Test.YtocheeocnbfbiaaDoorF4
import Derived.Test.YtocheeocnbfbiaaDoorGO
set_option linter.unusedVariables false
set_option linter.unusedSimpArgs false
namespace Go.Proofs.YtocheeocnbfbiaaDoor
open Go.RowKit Go.Shelf Wd
theorem fact_add : addA 1 6 1 10 = 4 ∧ addB 1 6 1 10 = 15 ∧ addE 1 6 1 10 = 0 :=
  add_eq ⟨by omega, by decide⟩ ⟨by omega, by decide⟩ ⟨by omega, by decide⟩ (by omega)
set_option maxRecDepth 100000 in
theorem fracFact_any (w : World) : Calls Tryd.prog 6 #[] w fun e w' => e = .returned (.bool true) ∧ Below w.heap.size w w' := by
  have HK := Lib.hid fact_add
  go_enter Tryd.func6, Tryd.ntmps6
  go_wp2_with fail
  go_at_call 21; (with_reducible refine (addf_any 1 6 1 10 (by omega) (by omega) (by omega) (by omega) (by omega) (by omega) (by omega) (by omega) _).mono ?_)
  rw [HK.out.1, HK.out.2.1, HK.out.2.2]
  rintro e W1 ⟨rfl, h0⟩
  go_upto_region 2 with fail
  have hal : Below W1.heap.size W1 (W1.alloc (.cells #[.int .i64 4, .int .i64 15] 23)) := (Below.refl _ _).alloc (Nat.le_refl _) _
  have xa := Bx.new W1 23 (.int .i64 4) (.int .i64 15)
  replace h0 := bel_go h0 h0.size hal
  clear hal
  generalize W1.heap.size = Bxa at xa ⊢
  generalize W1.alloc (.cells #[.int .i64 4, .int .i64 15] 23) = W2 at xa h0 ⊢
  have c_xa := xa.c0
  have d_xa := xa.c1
  have p_xa := xa.f0
  have q_xa := xa.f1
  go_wp2_with fail
  clear c_xa d_xa p_xa q_xa
  go_ret
  exact ⟨rfl, h0⟩
end Go.Proofs.YtocheeocnbfbiaaDoor
namespace Go.Proofs.YtocheeocnbfbiaaDoor.AtFt
open Ev Go.RowKit
open Go.Proofs.YtocheeocnbfbiaaDoor hiding dFr
variable {F : Type}
noncomputable section

theorem gcd_mod (n m : Int) : Int.gcd (n % m) m = Int.gcd n m := by
  have e : n = n % m + (n / m) * m := by
    have := Int.mul_ediv_add_emod n m
    rw [Int.mul_comm (n / m)]
    omega
  rw [Int.gcd_comm (n % m), Int.gcd_comm n]
  conv => rhs; rw [e]
  rw [Int.gcd_add_mul_right_right]
/-- The terms behind the first one. -/
theorem cf_rg : ∀ (B m : Nat), m < B → ∀ n : Int, (m : Int) < n → n ≤ 1152921504606846976 → rg 1 (cf n m) = true
  | 0, m, hB, _, _, _ => by omega
  | B + 1, m, hB, n, h1, h2 => by
    rcases Nat.eq_zero_or_pos m with rfl | hm
    · rw [cf_zero]; rfl
    · rw [cf_pos n hm]
      have e1 := Int.emod_nonneg n (b := (m : Int)) (by omega)
      have e2 := Int.emod_lt_of_pos n (b := (m : Int)) (by omega)
      have hx : (((n % (m : Int)).toNat : Nat) : Int) = n % (m : Int) := Int.toNat_of_nonneg e1
      have q1 : 1 ≤ n / (m : Int) := (Int.le_ediv_iff_mul_le (by omega)).2 (by omega)
      have q2 : n / (m : Int) ≤ n := Int.ediv_le_self _ (by omega)
      simp only [rg, Bool.and_eq_true, decide_eq_true_eq]
      exact ⟨⟨q1, by omega⟩, cf_rg B _ (by omega) m (by omega) (by omega)⟩
/-- From the terms of coprime numbers the numbers. -/
theorem cf_kN : ∀ (B m : Nat), m < B → ∀ n : Int, 0 ≤ n ∨ 0 < m → Int.gcd n m = 1 → kN (cf n m) = (n, (m : Int))
  | 0, m, hB, _, _, _ => by omega
  | B + 1, m, hB, n, h1, h2 => by
    rcases Nat.eq_zero_or_pos m with rfl | hm
    · rw [cf_zero]
      have : n.natAbs = 1 := by simpa using h2
      have e : n = 1 := by omega
      subst e
      rfl
    · rw [cf_pos n hm]
      have e1 := Int.emod_nonneg n (b := (m : Int)) (by omega)
      have e2 := Int.emod_lt_of_pos n (b := (m : Int)) (by omega)
      have hx : (((n % (m : Int)).toNat : Nat) : Int) = n % (m : Int) := Int.toNat_of_nonneg e1
      have hg : Int.gcd (m : Int) ((n % (m : Int)).toNat : Nat) = 1 := by
        rw [hx, Int.gcd_comm, ← h2]
        exact gcd_mod n m
      have ih := cf_kN B (n % (m : Int)).toNat (by omega) m (.inl (by omega)) hg
      unfold kN
      rw [ih, hx]
      have := Int.mul_ediv_add_emod n (m : Int)
      simp only [Prod.mk.injEq, and_true]
      rw [Int.mul_comm]
      omega
/-- The last of a list's elements, as From's check sees it. -/
def lst (l : List Int) : Int := getI l (lenI l - 1)
theorem lst_cons (t : Int) {l : List Int} (h : l ≠ []) : lst (t :: l) = lst l := by
  have hp := List.length_pos_iff.2 h
  unfold lst getI lenI
  have e1 : (((t :: l).length : Int) - 1).toNat = (l.length - 1) + 1 := by rw [List.length_cons]; omega
  have e2 : ((l.length : Int) - 1).toNat = l.length - 1 := by omega
  rw [e1, e2]
  simp [List.getD_eq_getElem?_getD]
/-- The last term of coprime numbers is not 1. -/
theorem cf_last : ∀ (B m : Nat), m < B → ∀ n : Int, 0 < m → (m : Int) < n → Int.gcd n m = 1 → cf n m ≠ [] ∧ lst (cf n m) ≠ 1
  | 0, m, hB, _, _, _, _ => by omega
  | B + 1, m, hB, n, hm, h1, h2 => by
    rw [cf_pos n hm]
    have e1 := Int.emod_nonneg n (b := (m : Int)) (by omega)
    have e2 := Int.emod_lt_of_pos n (b := (m : Int)) (by omega)
    have hx : (((n % (m : Int)).toNat : Nat) : Int) = n % (m : Int) := Int.toNat_of_nonneg e1
    have hg : Int.gcd (m : Int) ((n % (m : Int)).toNat : Nat) = 1 := by
      rw [hx, Int.gcd_comm, ← h2]
      exact gcd_mod n m
    refine ⟨by simp, ?_⟩
    generalize hr : (n % (m : Int)).toNat = r at *
    rcases Nat.eq_zero_or_pos r with rfl | hr0
    · rw [cf_zero]
      have hm1 : m = 1 := by simpa using hg
      subst hm1
      show n / ((1 : Nat) : Int) ≠ 1
      rw [show ((1 : Nat) : Int) = 1 from rfl, Int.ediv_one]
      have : ((1 : Nat) : Int) = 1 := rfl
      omega
    · obtain ⟨g1, g2⟩ := cf_last B r (by omega) m hr0 (by omega) hg
      rw [lst_cons _ g1]
      exact g2
/-- A valid number's terms lead back to it. -/
theorem terms_back {n d : Int} (h : chkV n d = 0) : ctV (tmsV n d) = 0 ∧ kN (tmsV n d) = (n, d) := by
  obtain ⟨⟨b1, b2, b3, b4⟩, hg⟩ := chkV_zero.1 h
  have e : tmsV n d = cf n d.toNat := by unfold tmsV; rw [if_pos h]
  have hd : ((d.toNat : Nat) : Int) = d := Int.toNat_of_nonneg (by omega)
  have hp : 0 < d.toNat := by omega
  rw [e]
  refine ⟨?_, ?_⟩
  · have e1 := Int.emod_nonneg n (b := ((d.toNat : Nat) : Int)) (by omega)
    have e2 := Int.emod_lt_of_pos n (b := ((d.toNat : Nat) : Int)) (by omega)
    have hx : (((n % ((d.toNat : Nat) : Int)).toNat : Nat) : Int) = n % ((d.toNat : Nat) : Int) := Int.toNat_of_nonneg e1
    have hg' : Int.gcd ((d.toNat : Nat) : Int) ((n % ((d.toNat : Nat) : Int)).toNat : Nat) = 1 := by
      rw [hx, Int.gcd_comm, hd, ← hg]
      exact gcd_mod n d
    have q1 : (-1152921504606846976 : Int) ≤ n / ((d.toNat : Nat) : Int) := (Int.le_ediv_iff_mul_le (by omega)).2 (by
      have : (-1152921504606846976 : Int) * ((d.toNat : Nat) : Int) ≤ -1152921504606846976 * 1 := Int.mul_le_mul_of_nonpos_left (by omega) (by omega)
      omega)
    have q2 : n / ((d.toNat : Nat) : Int) ≤ 1152921504606846976 := Int.ediv_le_of_le_mul (by omega) (by
      have : (1152921504606846976 : Int) * 1 ≤ 1152921504606846976 * ((d.toNat : Nat) : Int) := Int.mul_le_mul_of_nonneg_left (by omega) (by omega)
      omega)
    have hr := cf_rg (n % ((d.toNat : Nat) : Int)).toNat.succ _ (Nat.lt_succ_self _) ((d.toNat : Nat) : Int) (by omega) (by omega)
    have hrg : rg (-1152921504606846976) (cf n d.toNat) = true := by
      rw [cf_pos n hp]
      simp only [rg, Bool.and_eq_true, decide_eq_true_eq]
      exact ⟨⟨q1, q2⟩, hr⟩
    unfold ctV
    rw [if_neg (by rw [cf_pos n hp]; simp), if_pos hrg, if_neg]
    rintro ⟨l1, l2⟩
    have l2 : lst (cf n d.toNat) = 1 := l2
    rw [cf_pos n hp] at l1 l2
    rcases Nat.eq_zero_or_pos (n % ((d.toNat : Nat) : Int)).toNat with h0 | h0
    · rw [h0, cf_zero] at l1
      simp [lenI] at l1
    · obtain ⟨g1, g2⟩ := cf_last _ _ (Nat.lt_succ_self _) ((d.toNat : Nat) : Int) h0 (by omega) hg'
      rw [lst_cons _ g1] at l2
      exact g2 l2
  · rw [cf_kN _ _ (Nat.lt_succ_self _) n (.inr hp) (by rw [hd]; exact hg), hd]
theorem from_terms {n d : Int} (h : chkV n d = 0) : fmA (tmsV n d) = n ∧ fmB (tmsV n d) = d ∧ fmE (tmsV n d) = 0 := by
  obtain ⟨h1, h2⟩ := terms_back h
  obtain ⟨hb, _⟩ := chkV_zero.1 h
  unfold fmA fmB fmE
  rw [if_pos h1, if_pos h1, if_pos h1, h2]
  exact lim_yes hb
/-- Rows of integers, and the library's table at all times. -/
noncomputable def rkI (B : Nat) : Interp Nm := rowI.above rfl B (powF B) tabQ_mono
abbrev mkS : FnSp F := sp2 (dInt .i64) (dInt .i64) (fun n d => .tup [.agg [.int .i64 (mkA n d), .int .i64 (mkB n d)], .one (.int .i64 (mkE n d))]) (fun n d => [(i64R n, true), (i64R d, true)])
abbrev txS : FnSp F := sp1 dFr (fun p => .tup [.one (.lit (.string (ftx p.1 p.2))), .one (.int .i64 (chkV p.1 p.2))]) (fun p => [(i64R p.1, true), (i64R p.2, true)])
abbrev rdS : FnSp F := sp1 dStr (fun s => .tup [.agg [.int .i64 (rX s), .int .i64 (rY s)], .one (.int .i64 (rE s))]) (fun s => [(decide (sLen s ≤ 9223372036854775807), true)])
noncomputable abbrev libB4 : List (Nat × FnSp Nm) := [(5, mkS), (6, sp0 (aBool true)), (7, txS), (8, rdS), (9, factSp gTerms), (10, factSp gFrom)]
theorem i2 {a b : Int} (hc : ∀ q ∈ [(i64R a, true), (i64R b, true)], q.1 = q.2) : i64R a = true ∧ i64R b = true := ⟨hc (i64R a, true) (by simp), hc (i64R b, true) (by simp)⟩
theorem i64R_iff {a : Int} : i64R a = true ↔ -9223372036854775808 ≤ a ∧ a ≤ 9223372036854775807 := by unfold i64R; simp only [Bool.and_eq_true, decide_eq_true_eq]
theorem libB4_ok (B : Nat) : LibOk Tryd.prog (rkI B) (lib1 libB4) := (lib1_cons (sp2_ok fun n d hc => ⟨_, rfl, fun w => by
    have h1 := i64R_iff.1 (i2 hc).1
    have h2 := i64R_iff.1 (i2 hc).2
    exact make_any n d h1.1 h1.2 h2.1 h2.2 w⟩) Tryd.call5 (lib1_cons (sp0_ok rfl fracFact_any) Tryd.call6 (lib1_cons (sp1q_ok fun p hc => ⟨_, rfl, ftx_pl B p.1 p.2 (i2 hc).1 (i2 hc).2⟩) Tryd.call7 (lib1_cons (sp1_ok fun s hc => ⟨_, rfl, read_pl s (of_decide_eq_true (hc (decide (sLen s ≤ 9223372036854775807), true) (by simp)))⟩) Tryd.call8 (lib1_cons (FnSp.above_ok (fun _ => trivial) gTerms_ok) Tryd.call9 (lib1_cons (FnSp.above_ok (fun _ => trivial) gFrom_ok) Tryd.call10 (lib1_nil _ _)))))))
set_option maxRecDepth 100000 in
theorem fbk_011 (B : Nat) (n : Int) (d : Int) : evR (ctxOf Tryd.prog (rkI B) eqsF libB4) Tryd.f3 [(.w (.one (.int .i64 n))), (.w (.one (.int .i64 d)))] [false, true, true] = some (AV.w (AW.one (AC.bool (mkA n d == 0 && (mkB n d == 0 && true)))), (pickL [(i64R n, true), (i64R d, true), (!true, false), (mkE n d != 0, true), (true, true)] [0, 1, 2, 2, 2, 3, 4, 4, 4, 4])) := by kernel_rfl
set_option maxRecDepth 100000 in
theorem fbk_0011111 (B : Nat) (n : Int) (d : Int) : evR (ctxOf Tryd.prog (rkI B) eqsF libB4) Tryd.f3 [(.w (.one (.int .i64 n))), (.w (.one (.int .i64 d)))] [false, false, true, true, true, true, true] = some (AV.w (AW.one (AC.bool (fmA (tmsV (mkA n d) (mkB n d)) == mkA n d && (fmB (tmsV (mkA n d) (mkB n d)) == mkB n d && true)))), (pickL [(i64R n, true), (i64R d, true), (!true, false), (mkE n d != 0, false), (i64R (mkA n d), true), (i64R (mkB n d), true), (decide (sLen (ftx (mkA n d) (mkB n d)) ≤ 9223372036854775807), true), (i64B (mkA n d), true), (i64B (mkB n d), true), (decide (lenI (tmsV (mkA n d) (mkB n d)) ≤ 9223372036854775807), true), (chkV (mkA n d) (mkB n d) == 0, true), (rE (ftx (mkA n d) (mkB n d)) == 0, true), (fmE (tmsV (mkA n d) (mkB n d)) == 0, true), (rX (ftx (mkA n d) (mkB n d)) == mkA n d && (rY (ftx (mkA n d) (mkB n d)) == mkB n d && true), true)] [0, 1, 2, 2, 2, 3, 4, 5, 6, 7, 8, 9, 10, 10, 10, 11, 11, 11, 10, 10, 10, 12, 12, 12, 12, 13, 13, 13, 13])) := by kernel_rfl
theorem ftx_len {n d : Int} (h1 : i64R n = true) (h2 : i64R d = true) : sLen (ftx n d) ≤ 9223372036854775807 := by
  have l1 := itoa_len h1
  have l2 := itoa_len h2
  unfold ftx
  split
  · split
    · rw [len_L] at l1 l2 ⊢
      rw [cat_L, cat_L]
      simp only [List.length_append, List.length_cons, List.length_nil]
      omega
    · omega
  · show ((0 : Nat) : Int) ≤ _; omega
theorem tms_len (n d : Int) (h : chkV n d = 0) : lenI (tmsV n d) ≤ 9223372036854775807 := by
  obtain ⟨⟨b1, b2, b3, b4⟩, _⟩ := chkV_zero.1 h
  have e : tmsV n d = cf n d.toNat := by unfold tmsV; rw [if_pos h]
  have := cf_len 61 n d.toNat (by omega)
  rw [e]
  unfold lenI
  omega
theorem mk_no {n d : Int} (h : mkE n d ≠ 0) : mkA n d = 0 ∧ mkB n d = 0 := by
  unfold mkE at h
  unfold mkA mkB
  by_cases hd : d = 0
  · rw [if_pos hd, if_pos hd]; exact ⟨rfl, rfl⟩
  · rw [if_neg hd] at h ⊢
    rw [if_neg hd]
    unfold lowE limE at h
    unfold lowA lowB limA limB
    split at h
    · exact absurd rfl h
    · rename_i g; rw [if_neg g, if_neg g]; exact ⟨rfl, rfl⟩
/-- The walk: in a world where the library's table reads as it is laid. -/
theorem fb_walk (w : World) (ht : Lib.TabIs Tryd.prog w "internal/strconv.uint64pow10" .u64 Lib.pow10Tab) (n : Int) (n1 : okK (some .i64) n) (d : Int) (d1 : okK (some .i64) d) :
    Calls Tryd.prog 3 #[.int .i64 n, .int .i64 d] w fun e w' => e = .returned (.bool true) ∧ Below w.heap.size w w' := by
  have i_n : i64R n = true := i64R_iff.2 (i64B_iff.1 (i64B_iff.2 (okK_i64 n1)))
  have i_d : i64R d = true := i64R_iff.2 (i64B_iff.1 (i64B_iff.2 (okK_i64 d1)))
  by_cases hE : mkE n d = 0
  · have c1 : (mkE n d != 0) = false := by simp [hE]
    obtain ⟨_, hv, _⟩ := mk_ok hE
    have hz := chkV_zero.2 hv
    have hb := hv.1
    have i_a : i64R (mkA n d) = true := i64R_iff.2 (by omega)
    have i_b : i64R (mkB n d) = true := i64R_iff.2 (by omega)
    have j_a : i64B (mkA n d) = true := i64B_iff.2 (by omega)
    have j_b : i64B (mkB n d) = true := i64B_iff.2 (by omega)
    have c2 : decide (sLen (ftx (mkA n d) (mkB n d)) ≤ 9223372036854775807) = true := decide_eq_true (ftx_len i_a i_b)
    have c3 : decide (lenI (tmsV (mkA n d) (mkB n d)) ≤ 9223372036854775807) = true := decide_eq_true (tms_len _ _ hz)
    have c4 : (chkV (mkA n d) (mkB n d) == 0) = true := by rw [hz]; rfl
    obtain ⟨r1, r2, r3⟩ := read_ftx hz
    obtain ⟨t1, t2, t3⟩ := from_terms hz
    have c5 : (rE (ftx (mkA n d) (mkB n d)) == 0) = true := by rw [r1]; rfl
    have c6 : (fmE (tmsV (mkA n d) (mkB n d)) == 0) = true := by rw [t3]; rfl
    have c7 : (rX (ftx (mkA n d) (mkB n d)) == mkA n d && (rY (ftx (mkA n d) (mkB n d)) == mkB n d && true)) = true := by rw [r2, r3]; simp
    have V : ((fmA (tmsV (mkA n d) (mkB n d)) == mkA n d && (fmB (tmsV (mkA n d) (mkB n d)) == mkB n d && true))) = true := by rw [t1, t2]; simp
    refine evR_calls (I := rkI w.heap.size) (v := .bool true) (ctxOf_ok (libB4_ok _) eqsF_ok) (by kernel_rfl) Tryd.func3 rfl lps_nil (fbk_0011111 w.heap.size n d) rfl (all2_R (.cons rfl (.cons rfl .nil))) (congrArg (fun b => some (Value.bool b)) V) w (Nat.le_refl _) (pickL_ok ?_ _) (tabQ_start ht)
    repeat' (first | exact cd_nil | refine cd_cons ?_ ?_)
    all_goals first | with_reducible assumption | with_reducible rfl | rfl

  · have c1 : (mkE n d != 0) = true := by simpa using hE
    obtain ⟨t1, t2⟩ := mk_no hE
    have V : ((mkA n d == 0 && (mkB n d == 0 && true))) = true := by rw [t1, t2]; rfl
    refine evR_calls (I := rkI w.heap.size) (v := .bool true) (ctxOf_ok (libB4_ok _) eqsF_ok) (by kernel_rfl) Tryd.func3 rfl lps_nil (fbk_011 w.heap.size n d) rfl (all2_R (.cons rfl (.cons rfl .nil))) (congrArg (fun b => some (Value.bool b)) V) w (Nat.le_refl _) (pickL_ok ?_ _) (tabQ_start ht)
    repeat' (first | exact cd_nil | refine cd_cons ?_ ?_)
    all_goals first | with_reducible assumption | with_reducible rfl | rfl

end
end Go.Proofs.YtocheeocnbfbiaaDoor.AtFt

