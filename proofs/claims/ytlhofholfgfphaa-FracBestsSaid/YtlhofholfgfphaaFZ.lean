/-
  The walk of spylaw1.FracBests: it returns true, for all numbers.
  Conditions: the numbers are int64.
-/
import Derived.Test.YtlhofholfgfphaaFY
set_option linter.unusedVariables false
set_option linter.unusedSimpArgs false
namespace Go.Proofs.Ytlhofholfgfphaa
open Go.RowKit Go.Shelf Ev Zd Wd

def nTerms : List Ar → Option (List Rs × List (Bool × Bool))
  | [.pl (.agg ⟨[.int .i64 n, .int .i64 d]⟩)] => some ([.any, .pl (.one (.int .i64 (chkV n d)))], [(i64B n, true), (i64B d, true)])
  | _ => none
abbrev libB : List (Nat × FnSp Nm) := [(81, nfn nTerms)]
def okM (x : Frq) (most : Int) : List (Bool × Bool) := [(i64B x.n, true), (i64B x.d, true), (i64B most, true)]
def bestA (n d most : Int) : Int := if chkV n d = 0 ∧ 1 ≤ most ∧ most ≤ 4096 then (nearN n d (most - 1).toNat).N else 0
def bestD (n d most : Int) : Int := if chkV n d = 0 ∧ 1 ≤ most ∧ most ≤ 4096 then (nearN n d (most - 1).toNat).D else 0
def bestE (n d most : Int) : Int := if chkV n d = 0 then (if 1 ≤ most ∧ most ≤ 4096 then 0 else 4) else chkV n d
abbrev libZ : List (Nat × FnSp Nm) := [(72, sp0 (.w (.one (.yes true)))), (84, sp2 dFr (dInt .i64) (fun x m => r2 (bestA x.n x.d m) (bestD x.n x.d m) (bestE x.n x.d m)) okM), (74, sp1 dFr (fun x => aInt .i64 (chkV x.n x.d)) okF), (85, sp2 dFr (dInt .i64) (fun x m => .w (frA (nearN x.n x.d (m - 1).toNat).N (nearN x.n x.d (m - 1).toNat).D)) (fun x m => [(decide (chkV x.n x.d = 0) && decide (1 ≤ m) && decide (m ≤ 4096), true)]))]
set_option maxRecDepth 100000 in
theorem nrf_l0 (n : Int) (d : Int) (most : Int) : evR (ctxLp Try.prog numI eqsF libN [] [((82, [false, true, false, true, true, true]), nearD.sp nmSafe)]) Try.f85 [(.w (frA n d)), (.w (.one (.int .i64 most)))] [] = some (AV.w (AW.agg [AC.int IntKind.i64 (nearN n d (most - 1).toNat).N, AC.int IntKind.i64 (nearN n d (most - 1).toNat).D]), (pickL [(frOk n d && decide (1 ≤ most) && decide (most ≤ 4096) && decide (1 = 1) && (none : Option NS).isNone, true)] [0])) := by kernel_rfl
theorem lps_near : LpsOk Try.prog numI [((82, [false, true, false, true, true, true]), nearD.sp nmSafe)] Try.f85.ntmps (bodyOf Try.f85) := lps_cons (fun _ x hx => nearD_ok x hx) lps_nil
theorem nearest_pl {n d most : Int} (hf : frOk n d = true) (h1 : 1 ≤ most) (h2 : most ≤ 4096) : Pl Try.prog 85 [fr n d, .int .i64 most] (fr (nearN n d (most - 1).toNat).N (nearN n d (most - 1).toNat).D) := fun w =>
  evR_calls (I := numI) (ctxLp_ok libN_ok eqsF_ok (fns_nil _) (fun f fn h => by cases h)) (by kernel_rfl) Try.func85 rfl lps_near (nrf_l0 n d most) rfl (all2_R (.cons rfl (.cons rfl .nil))) rfl w (Nat.zero_le _) (pickL_ok (cd_cons (by rw [hf, decide_eq_true h1, decide_eq_true h2]; rfl) cd_nil) _)
theorem nTerms_ok : (nfn nTerms).ok Try.prog numI 81 := nfn_ok fun xa rs cd h hc => by
  unfold nTerms at h
  split at h
  · rename_i n d
    cases h
    have h1 := i64B_iff.1 (hc (i64B n, true) (by simp))
    have h2 := i64B_iff.1 (hc (i64B d, true) (by simp))
    intro w us hA
    obtain ⟨u, rfl, hu⟩ := all2_one hA
    cases (hu : u = _)
    refine (terms_any n d h1.1 h1.2 h2.1 h2.2 w).mono ?_
    rintro e w' ⟨v, rfl, hr, hb⟩
    obtain ⟨p, cap, rfl, _⟩ := hr
    exact ⟨[.slice p _ cap, .int .i64 (chkV n d)], .cons (show isCell (.slice p _ cap) = true from rfl) (.cons rfl .nil), rfl, hb⟩
  · cases h
theorem libB_ok : LibOk Try.prog numI (lib1 libB) := lib1_cons nTerms_ok Try.call81 (lib1_nil _ _)
set_option maxRecDepth 100000 in
theorem bb_l0 (n : Int) (d : Int) (most : Int) : evR (ctxOf Try.prog numI eqsF libB) Try.f84 [(.w (frA n d)), (.w (.one (.int .i64 most)))] [true] = some (AV.tup [AW.agg [AC.int IntKind.i64 0, AC.int IntKind.i64 0], AW.one (AC.int IntKind.i64 (chkV n d))], (pickL [(i64B n, true), (i64B d, true), (chkV n d != 0, true)] [0, 1, 2])) := by kernel_rfl
set_option maxRecDepth 100000 in
theorem bb_l1 (n : Int) (d : Int) (most : Int) : evR (ctxOf Try.prog numI eqsF libB) Try.f84 [(.w (frA n d)), (.w (.one (.int .i64 most)))] [false, true] = some (AV.tup [AW.agg [AC.int IntKind.i64 0, AC.int IntKind.i64 0], AW.one (AC.int IntKind.i64 4)], (pickL [(i64B n, true), (i64B d, true), (chkV n d != 0, false), (decide (most < 1), true), (true, true)] [0, 1, 2, 3, 3, 3, 4])) := by kernel_rfl
set_option maxRecDepth 100000 in
theorem bb_l2 (n : Int) (d : Int) (most : Int) : evR (ctxOf Try.prog numI eqsF libB) Try.f84 [(.w (frA n d)), (.w (.one (.int .i64 most)))] [false, false, true] = some (AV.tup [AW.agg [AC.int IntKind.i64 0, AC.int IntKind.i64 0], AW.one (AC.int IntKind.i64 4)], (pickL [(i64B n, true), (i64B d, true), (chkV n d != 0, false), (decide (most < 1), false), (decide (most > 4096), true)] [0, 1, 2, 3, 3, 3, 4])) := by kernel_rfl
theorem best_all (n d most : Int) (a1 : -9223372036854775808 ≤ n) (a2 : n ≤ 9223372036854775807) (b1 : -9223372036854775808 ≤ d) (b2 : d ≤ 9223372036854775807) (c1 : -9223372036854775808 ≤ most) (c2 : most ≤ 9223372036854775807) : Pl Try.prog 84 [fr n d, .int .i64 most] (.tuple #[fr (bestA n d most) (bestD n d most), .int .i64 (bestE n d most)]) := fun w => by
  have i_n : i64B n = true := i64B_iff.2 ⟨a1, a2⟩
  have i_d : i64B d = true := i64B_iff.2 ⟨b1, b2⟩
  by_cases hc : chkV n d = 0
  · have t1 : (chkV n d != 0) = false := by simp [hc]
    by_cases hm : 1 ≤ most ∧ most ≤ 4096
    · obtain ⟨t0, ts, R1, R2, hcf, ht0, hb, e1, e2⟩ := best_is_near (chkV_zero.1 hc) hm.1 hm.2
      have hA : bestA n d most = R1 := by unfold bestA; rw [if_pos ⟨hc, hm⟩, e1]
      have hD : bestD n d most = R2 := by unfold bestD; rw [if_pos ⟨hc, hm⟩, e2]
      have hE : bestE n d most = 0 := by unfold bestE; rw [if_pos hc, if_pos hm]
      rw [hA, hD, hE]
      exact best_ok n d most a1 a2 b1 b2 hm.1 hm.2 t0 ts R1 R2 ht0 hc hcf hb w
    · have hA : bestA n d most = 0 := by unfold bestA; rw [if_neg fun h => hm h.2]
      have hD : bestD n d most = 0 := by unfold bestD; rw [if_neg fun h => hm h.2]
      have hE : bestE n d most = 4 := by unfold bestE; rw [if_pos hc, if_neg hm]
      rw [hA, hD, hE]
      by_cases hl : most < 1
      · have t2 : decide (most < 1) = true := decide_eq_true hl
        refine evR_calls (I := numI) (ctxOf_ok libB_ok eqsF_ok) (by kernel_rfl) Try.func84 rfl lps_nil (bb_l1 n d most) rfl (all2_R (.cons rfl (.cons rfl .nil))) rfl w (Nat.zero_le _) (pickL_ok ?_ _)
        repeat' (first | exact cd_nil | refine cd_cons ?_ ?_)
        all_goals first | rfl | with_reducible assumption
      · have t2 : decide (most < 1) = false := decide_eq_false hl
        have t3 : decide (most > 4096) = true := decide_eq_true (by omega)
        refine evR_calls (I := numI) (ctxOf_ok libB_ok eqsF_ok) (by kernel_rfl) Try.func84 rfl lps_nil (bb_l2 n d most) rfl (all2_R (.cons rfl (.cons rfl .nil))) rfl w (Nat.zero_le _) (pickL_ok ?_ _)
        repeat' (first | exact cd_nil | refine cd_cons ?_ ?_)
        all_goals first | rfl | with_reducible assumption
  · have t1 : (chkV n d != 0) = true := by simpa using hc
    have hA : bestA n d most = 0 := by unfold bestA; rw [if_neg fun h => hc h.1]
    have hD : bestD n d most = 0 := by unfold bestD; rw [if_neg fun h => hc h.1]
    have hE : bestE n d most = chkV n d := by unfold bestE; rw [if_neg hc]
    rw [hA, hD, hE]
    refine evR_calls (I := numI) (ctxOf_ok libB_ok eqsF_ok) (by kernel_rfl) Try.func84 rfl lps_nil (bb_l0 n d most) rfl (all2_R (.cons rfl (.cons rfl .nil))) rfl w (Nat.zero_le _) (pickL_ok ?_ _)
    repeat' (first | exact cd_nil | refine cd_cons ?_ ?_)
    all_goals first | rfl | with_reducible assumption
theorem okM_i {x : Frq} {m : Int} (h : ∀ p ∈ okM x m, p.1 = p.2) : ((-9223372036854775808 ≤ x.n ∧ x.n ≤ 9223372036854775807) ∧ (-9223372036854775808 ≤ x.d ∧ x.d ≤ 9223372036854775807)) ∧ (-9223372036854775808 ≤ m ∧ m ≤ 9223372036854775807) :=
  ⟨⟨i64B_iff.1 (h (i64B x.n, true) (by simp [okM])), i64B_iff.1 (h (i64B x.d, true) (by simp [okM]))⟩, i64B_iff.1 (h (i64B m, true) (by simp [okM]))⟩
theorem libZ_ok : LibOk Try.prog numI (lib1 libZ) := lib1_cons (sp0_ok rfl fracs_any) Try.call72
  (lib1_cons (sp2_ok fun x m hc => ⟨_, rfl, best_all x.n x.d m (okM_i hc).1.1.1 (okM_i hc).1.1.2 (okM_i hc).1.2.1 (okM_i hc).1.2.2 (okM_i hc).2.1 (okM_i hc).2.2⟩) Try.call84
  (lib1_cons (sp1_ok fun x hc => ⟨_, rfl, fracErr_any x.n x.d (okF_i hc).1.1 (okF_i hc).1.2 (okF_i hc).2.1 (okF_i hc).2.2⟩) Try.call74
  (lib1_cons (sp2_ok fun x m hc => ⟨_, rfl, by
    have := hc _ (List.mem_cons_self)
    simp only [Bool.and_eq_true, decide_eq_true_eq] at this
    have hv := chkV_zero.1 this.1.1
    exact nearest_pl (frOk_iff.2 hv.1) this.1.2 this.2⟩) Try.call85 (lib1_nil _ _))))
set_option maxRecDepth 100000 in
theorem fz_l0 (n : Int) (d : Int) (most : Int) : evR (ctxOf Try.prog numI eqsF libZ) Try.f14 [(.w (frA n d)), (.w (.one (.int .i64 most)))] [true, true] = some (AV.w (AW.one (AC.bool (bestE n d most == chkV n d))), (pickL [(i64B n, true), (i64B d, true), (i64B most, true), (chkV n d != 0, true), (true, true), (bestA n d most == 0 && (bestD n d most == 0 && true), true)] [0, 1, 2, 0, 1, 3, 4, 4, 4, 4, 5, 5, 5, 5])) := by kernel_rfl
set_option maxRecDepth 100000 in
theorem fz_l1 (n : Int) (d : Int) (most : Int) : evR (ctxOf Try.prog numI eqsF libZ) Try.f14 [(.w (frA n d)), (.w (.one (.int .i64 most)))] [false, true, true] = some (AV.w (AW.one (AC.bool (bestE n d most == 4))), (pickL [(i64B n, true), (i64B d, true), (i64B most, true), (chkV n d != 0, false), (decide (most < 1), true), (true, true), (bestA n d most == 0 && (bestD n d most == 0 && true), true)] [0, 1, 2, 0, 1, 3, 4, 4, 4, 5, 5, 5, 5, 5, 6, 6, 6, 6])) := by kernel_rfl
set_option maxRecDepth 100000 in
theorem fz_l2 (n : Int) (d : Int) (most : Int) : evR (ctxOf Try.prog numI eqsF libZ) Try.f14 [(.w (frA n d)), (.w (.one (.int .i64 most)))] [false, false, true, true] = some (AV.w (AW.one (AC.bool (bestE n d most == 4))), (pickL [(i64B n, true), (i64B d, true), (i64B most, true), (chkV n d != 0, false), (decide (most < 1), false), (decide (most > 4096), true), (true, true), (bestA n d most == 0 && (bestD n d most == 0 && true), true)] [0, 1, 2, 0, 1, 3, 4, 4, 4, 5, 6, 6, 6, 6, 7, 7, 7, 7])) := by kernel_rfl
set_option maxRecDepth 100000 in
theorem fz_l3 (n : Int) (d : Int) (most : Int) : evR (ctxOf Try.prog numI eqsF libZ) Try.f14 [(.w (frA n d)), (.w (.one (.int .i64 most)))] [false, false, false, true] = some (AV.w (AW.one (AC.bool (bestE n d most == chkV n d))), (pickL [(i64B n, true), (i64B d, true), (i64B most, true), (chkV n d != 0, false), (decide (most < 1), false), (decide (most > 4096), false), (decide (chkV n d = 0) && decide (1 ≤ most) && decide (most ≤ 4096), true), (true, true), (bestA n d most == (nearN n d (most - 1).toNat).N && (bestD n d most == (nearN n d (most - 1).toNat).D && true), true)] [0, 1, 2, 0, 1, 3, 4, 4, 4, 5, 6, 7, 7, 7, 7, 8, 8, 8, 8])) := by kernel_rfl
set_option maxRecDepth 100000 in
theorem fracBests_law (n : Int) (a1 : -9223372036854775808 ≤ n) (a2 : n ≤ 9223372036854775807) (d : Int) (b1 : -9223372036854775808 ≤ d) (b2 : d ≤ 9223372036854775807) (most : Int) (c1 : -9223372036854775808 ≤ most) (c2 : most ≤ 9223372036854775807) (w : World) :
    Calls Try.prog 14 #[fr n d, .int .i64 most] w fun e w' => e = .returned (.bool true) ∧ Below w.heap.size w w' := by
  have i_n : i64B n = true := i64B_iff.2 ⟨a1, a2⟩
  have i_d : i64B d = true := i64B_iff.2 ⟨b1, b2⟩
  have i_m : i64B most = true := i64B_iff.2 ⟨c1, c2⟩
  by_cases hc : chkV n d = 0
  · have t1 : (chkV n d != 0) = false := by simp [hc]
    by_cases hl : most < 1
    · have t2 : decide (most < 1) = true := decide_eq_true hl
      have hA : bestA n d most = 0 := by unfold bestA; rw [if_neg fun h => by omega]
      have hD : bestD n d most = 0 := by unfold bestD; rw [if_neg fun h => by omega]
      have hE : bestE n d most = 4 := by unfold bestE; rw [if_pos hc, if_neg (by omega)]
      refine evR_calls (I := numI) (v := .bool true) (ctxOf_ok libZ_ok eqsF_ok) (by kernel_rfl) Try.func14 rfl lps_nil (fz_l1 n d most) rfl (all2_R (.cons rfl (.cons rfl .nil))) (congrArg (fun b => some (Value.bool b)) (show (bestE n d most == 4) = true by simp [hE])) w (Nat.zero_le _) (pickL_ok ?_ _)
      repeat' (first | exact cd_nil | refine cd_cons ?_ ?_)
      all_goals first | rfl | with_reducible assumption | (simp [hA, hD, *]; done)
    · have t2 : decide (most < 1) = false := decide_eq_false hl
      by_cases hm : most > 4096
      · have t3 : decide (most > 4096) = true := decide_eq_true hm
        have hA : bestA n d most = 0 := by unfold bestA; rw [if_neg fun h => by omega]
        have hD : bestD n d most = 0 := by unfold bestD; rw [if_neg fun h => by omega]
        have hE : bestE n d most = 4 := by unfold bestE; rw [if_pos hc, if_neg (by omega)]
        refine evR_calls (I := numI) (v := .bool true) (ctxOf_ok libZ_ok eqsF_ok) (by kernel_rfl) Try.func14 rfl lps_nil (fz_l2 n d most) rfl (all2_R (.cons rfl (.cons rfl .nil))) (congrArg (fun b => some (Value.bool b)) (show (bestE n d most == 4) = true by simp [hE])) w (Nat.zero_le _) (pickL_ok ?_ _)
        repeat' (first | exact cd_nil | refine cd_cons ?_ ?_)
        all_goals first | rfl | with_reducible assumption | (simp [hA, hD, *]; done)
      · have t3 : decide (most > 4096) = false := decide_eq_false hm
        have t4 : (decide (chkV n d = 0) && decide (1 ≤ most) && decide (most ≤ 4096)) = true := by simp [hc]; omega
        have hA : bestA n d most = (nearN n d (most - 1).toNat).N := by unfold bestA; rw [if_pos ⟨hc, by omega, by omega⟩]
        have hD : bestD n d most = (nearN n d (most - 1).toNat).D := by unfold bestD; rw [if_pos ⟨hc, by omega, by omega⟩]
        have hE : bestE n d most = chkV n d := by unfold bestE; rw [if_pos hc, if_pos ⟨by omega, by omega⟩, hc]
        refine evR_calls (I := numI) (v := .bool true) (ctxOf_ok libZ_ok eqsF_ok) (by kernel_rfl) Try.func14 rfl lps_nil (fz_l3 n d most) rfl (all2_R (.cons rfl (.cons rfl .nil))) (congrArg (fun b => some (Value.bool b)) (show (bestE n d most == chkV n d) = true by simp [hE])) w (Nat.zero_le _) (pickL_ok ?_ _)
        repeat' (first | exact cd_nil | refine cd_cons ?_ ?_)
        all_goals first | rfl | with_reducible assumption | (simp [hA, hD, *]; done)
  · have t1 : (chkV n d != 0) = true := by simpa using hc
    have hA : bestA n d most = 0 := by unfold bestA; rw [if_neg fun h => hc h.1]
    have hD : bestD n d most = 0 := by unfold bestD; rw [if_neg fun h => hc h.1]
    have hE : bestE n d most = chkV n d := by unfold bestE; rw [if_neg hc]
    refine evR_calls (I := numI) (v := .bool true) (ctxOf_ok libZ_ok eqsF_ok) (by kernel_rfl) Try.func14 rfl lps_nil (fz_l0 n d most) rfl (all2_R (.cons rfl (.cons rfl .nil))) (congrArg (fun b => some (Value.bool b)) (show (bestE n d most == chkV n d) = true by simp [hE])) w (Nat.zero_le _) (pickL_ok ?_ _)
    repeat' (first | exact cd_nil | refine cd_cons ?_ ?_)
    all_goals first | rfl | with_reducible assumption | (simp [hA, hD, *]; done)
end Go.Proofs.Ytlhofholfgfphaa

