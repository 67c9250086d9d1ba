/-
  The reference's Fastest as a function; the loops that count the steps of a motion.
  Conditions: those of each theorem.
-/
import Derived.Test.YtiamhppdacfmmaaQC
set_option linter.unusedVariables false
set_option linter.unusedSimpArgs false
namespace Go.Proofs.Ytiamhppdacfmmaa.AtSl
open Go.RowKit Ev Wd
open Go.Proofs.Ytiamhppdacfmmaa
variable {F : Type}
noncomputable section

noncomputable abbrev libC2 : List (Nat × FnSp Empty) := [(17, axS), (51, bgS)]
theorem libC2_ok : LibOk Try.prog noFacts (lib1 libC2) := (lib1_cons (sp1_ok fun a _ => ⟨_, rfl, axf_pl a⟩) Try.call17 (lib1_cons (sp2_ok fun A v hc => ⟨_, rfl, bra_pl A v (ca2 hc).1 (ca2 hc).2⟩) Try.call51 (lib1_nil _ _)))
set_option maxRecDepth 100000 in
theorem rfs_1 (a : Ax) (d : Int) : evR (ctxLp Try.prog noFacts (fun _ => false) libC2 [] ffLps) Try.f25 [(axA a), (.w (.one (.int .i64 d)))] [true] = some (AV.w (AW.one (AC.int IntKind.i64 0)), (pickL [(axE a != 0, true), (true, true)] [0, 0, 0, 1])) := by kernel_rfl
set_option maxRecDepth 100000 in
theorem rfs_01 (a : Ax) (d : Int) : evR (ctxLp Try.prog noFacts (fun _ => false) libC2 [] ffLps) Try.f25 [(axA a), (.w (.one (.int .i64 d)))] [false, true] = some (AV.w (AW.one (AC.int IntKind.i64 0)), (pickL [(axE a != 0, false), (decide (d < 0), true)] [0, 0, 0, 1])) := by kernel_rfl
set_option maxRecDepth 100000 in
theorem rfs_001 (a : Ax) (d : Int) : evR (ctxLp Try.prog noFacts (fun _ => false) libC2 [] ffLps) Try.f25 [(axA a), (.w (.one (.int .i64 d)))] [false, false, true] = some (AV.w (AW.one (AC.int IntKind.i64 a.sp)), (pickL [(axE a != 0, false), (decide (d < 0), false), (decide ((1 : Int) ≤ a.ac) && decide (a.ac ≤ 2147483648), true), (decide (a.sp ≤ 2147483648), true), (decide (brV a.ac a.sp ≤ d), true)] [0, 0, 0, 1, 2, 3, 4])) := by kernel_rfl
set_option maxRecDepth 100000 in
theorem rfs_000 (a : Ax) (d : Int) : evR (ctxLp Try.prog noFacts (fun _ => false) libC2 [] ffLps) Try.f25 [(axA a), (.w (.one (.int .i64 d)))] [false, false, false] = some (AV.w (AW.one (AC.int IntKind.i64 (fstV a.sp a.ac d))), (pickL [(axE a != 0, false), (decide (d < 0), false), (decide ((1 : Int) ≤ a.ac) && decide (a.ac ≤ 2147483648), true), (decide (a.sp ≤ 2147483648), true), (decide (brV a.ac a.sp ≤ d), false), (decide (axE a = 0) && (decide ((0 : Int) ≤ d) && (decide ((0 : Int) = 0) && decide (a.sp = a.sp))), true)] [0, 0, 0, 1, 2, 3, 4, 5])) := by kernel_rfl
theorem rfs_pl (a : Ax) (d : Int)  : Pl Try.prog 25 [axV a, .int .i64 d] (.int .i64 (FTv a d)) := fun w => by
  have ho := fun h : axE a = 0 => (axE_ok.1 h)
  unfold okA at ho
  cases k0 : (axE a != 0) with
  | true =>
    have V : (FTv a d) = (0) := by
      simp only [beq_iff_eq, beq_eq_false_iff_ne, ne_eq, bne_iff_ne, bne_eq_false_iff_eq, decide_eq_true_eq, decide_eq_false_iff_not, Bool.not_eq_true', Bool.not_eq_false'] at *
      unfold FTv
      rw [if_neg (by omega)]
    rw [V]
    refine evR_calls (I := noFacts) (v := .int .i64 (0)) (ctxLp_ok libC2_ok (eq_none _) (fns_nil _) (fun f fn h => by cases h)) (by kernel_rfl) Try.func25 rfl ffLps_ok (rfs_1 a d) rfl (all2_R (.cons rfl (.cons rfl .nil))) rfl w (Nat.zero_le _) (pickL_ok ?_ _)
    repeat' (first | exact cd_nil | refine cd_cons ?_ ?_)
    all_goals first | with_reducible rfl | with_reducible assumption | rfl | (have hq := ho (by simpa using k0); simp only [beq_iff_eq, beq_eq_false_iff_ne, ne_eq, bne_iff_ne, bne_eq_false_iff_eq, decide_eq_true_eq, decide_eq_false_iff_not, Bool.not_eq_true', Bool.not_eq_false'] at *; first | omega | (simp only [Bool.and_eq_true, decide_eq_true_eq]; omega) | (simp only [Bool.and_eq_true, decide_eq_true_eq]; exact ⟨by assumption, by omega, True.intro, True.intro⟩))

  | false =>
    cases k1 : (decide (d < 0)) with
    | true =>
      have V : (FTv a d) = (0) := by
        simp only [beq_iff_eq, beq_eq_false_iff_ne, ne_eq, bne_iff_ne, bne_eq_false_iff_eq, decide_eq_true_eq, decide_eq_false_iff_not, Bool.not_eq_true', Bool.not_eq_false'] at *
        unfold FTv
        rw [if_neg (by omega)]
      rw [V]
      refine evR_calls (I := noFacts) (v := .int .i64 (0)) (ctxLp_ok libC2_ok (eq_none _) (fns_nil _) (fun f fn h => by cases h)) (by kernel_rfl) Try.func25 rfl ffLps_ok (rfs_01 a d) rfl (all2_R (.cons rfl (.cons rfl .nil))) rfl w (Nat.zero_le _) (pickL_ok ?_ _)
      repeat' (first | exact cd_nil | refine cd_cons ?_ ?_)
      all_goals first | with_reducible rfl | with_reducible assumption | rfl | (have hq := ho (by simpa using k0); simp only [beq_iff_eq, beq_eq_false_iff_ne, ne_eq, bne_iff_ne, bne_eq_false_iff_eq, decide_eq_true_eq, decide_eq_false_iff_not, Bool.not_eq_true', Bool.not_eq_false'] at *; first | omega | (simp only [Bool.and_eq_true, decide_eq_true_eq]; omega) | (simp only [Bool.and_eq_true, decide_eq_true_eq]; exact ⟨by assumption, by omega, True.intro, True.intro⟩))

    | false =>
      cases k2 : (decide (brV a.ac a.sp ≤ d)) with
      | true =>
        have V : (FTv a d) = (a.sp) := by
          simp only [beq_iff_eq, beq_eq_false_iff_ne, ne_eq, bne_iff_ne, bne_eq_false_iff_eq, decide_eq_true_eq, decide_eq_false_iff_not, Bool.not_eq_true', Bool.not_eq_false'] at *
          unfold FTv
          have hq := ho (by assumption)
          rw [if_pos ⟨by assumption, by omega⟩]
          exact isF_uniq (A := a.ac) (d := d) (by omega) (fstV_sp (by omega) (by omega) (by omega) (by omega)) ⟨by omega, by omega, by assumption, .inl rfl⟩
        rw [V]
        refine evR_calls (I := noFacts) (v := .int .i64 (a.sp)) (ctxLp_ok libC2_ok (eq_none _) (fns_nil _) (fun f fn h => by cases h)) (by kernel_rfl) Try.func25 rfl ffLps_ok (rfs_001 a d) rfl (all2_R (.cons rfl (.cons rfl .nil))) rfl w (Nat.zero_le _) (pickL_ok ?_ _)
        repeat' (first | exact cd_nil | refine cd_cons ?_ ?_)
        all_goals first | with_reducible rfl | with_reducible assumption | rfl | (have hq := ho (by simpa using k0); simp only [beq_iff_eq, beq_eq_false_iff_ne, ne_eq, bne_iff_ne, bne_eq_false_iff_eq, decide_eq_true_eq, decide_eq_false_iff_not, Bool.not_eq_true', Bool.not_eq_false'] at *; first | omega | (simp only [Bool.and_eq_true, decide_eq_true_eq]; omega) | (simp only [Bool.and_eq_true, decide_eq_true_eq]; exact ⟨by assumption, by omega, True.intro, True.intro⟩))

      | false =>
        have V : (FTv a d) = ((fstV a.sp a.ac d)) := by
          simp only [beq_iff_eq, beq_eq_false_iff_ne, ne_eq, bne_iff_ne, bne_eq_false_iff_eq, decide_eq_true_eq, decide_eq_false_iff_not, Bool.not_eq_true', Bool.not_eq_false'] at *
          unfold FTv
          rw [if_pos ⟨by assumption, by omega⟩]
        rw [V]
        refine evR_calls (I := noFacts) (v := .int .i64 ((fstV a.sp a.ac d))) (ctxLp_ok libC2_ok (eq_none _) (fns_nil _) (fun f fn h => by cases h)) (by kernel_rfl) Try.func25 rfl ffLps_ok (rfs_000 a d) rfl (all2_R (.cons rfl (.cons rfl .nil))) rfl w (Nat.zero_le _) (pickL_ok ?_ _)
        repeat' (first | exact cd_nil | refine cd_cons ?_ ?_)
        all_goals first | with_reducible rfl | with_reducible assumption | rfl | (have hq := ho (by simpa using k0); simp only [beq_iff_eq, beq_eq_false_iff_ne, ne_eq, bne_iff_ne, bne_eq_false_iff_eq, decide_eq_true_eq, decide_eq_false_iff_not, Bool.not_eq_true', Bool.not_eq_false'] at *; first | omega | (simp only [Bool.and_eq_true, decide_eq_true_eq]; omega) | (simp only [Bool.and_eq_true, decide_eq_true_eq]; exact ⟨by assumption, by omega, True.intro, True.intro⟩))
noncomputable abbrev libB2 : List (Nat × FnSp Empty) := [(50, fsS)]
theorem libB2_ok : LibOk Try.prog noFacts (lib1 libB2) := (lib1_cons (sp2_ok fun a d hc => ⟨_, rfl, fas_pl a d (ca2 hc).1 (ca2 hc).2⟩) Try.call50 (lib1_nil _ _))
set_option maxRecDepth 100000 in
theorem sl_1 (a : Ax) (d : Int) (c : Int) (v : Int) (rest : List (Nat × AV Empty)) : evView (ctxOf Try.prog noFacts (fun _ => false) libB2) 37 (false :: [false, false, true, true, true]) (loopAt (bodyOf Try.f52) [false, false, true, true, true]) ([(7, (.w (.one (.int .i64 d)))), (8, (.w (.one (.int .i64 c)))), (9, (.w (.one (.int .i64 v))))] ++ (ptrN 0 [3] ++ rest)) [⟨23, [.int .i64 a.mn, .int .i64 a.mx, .int .i64 a.sp, .int .i64 a.ac]⟩] 1 [7, 8, 9, 3] [true] = some ((Ex.normal, [AV.w (AW.one (AC.int IntKind.i64 (IntKind.i64.wrap (d - mi (IntKind.i64.wrap (v + a.ac)) (fstV a.sp a.ac d))))), AV.w (AW.one (AC.int IntKind.i64 (IntKind.i64.wrap (c + 1)))), AV.w (AW.one (AC.int IntKind.i64 (mi (IntKind.i64.wrap (v + a.ac)) (fstV a.sp a.ac d)))), AV.w (AW.one (AC.ptr 0 0))], [{ ty := 23, cs := [AC.int IntKind.i64 a.mn, AC.int IntKind.i64 a.mx, AC.int IntKind.i64 a.sp, AC.int IntKind.i64 a.ac] }]), (pickL [(decide (d > 0), true), (true, true), (decide (axE a = 0), true), (decide ((0 : Int) ≤ d), true)] [0, 0, 0, 1, 2, 3])) := by kernel_rfl
set_option maxRecDepth 100000 in
theorem sl_01 (a : Ax) (d : Int) (c : Int) (v : Int) (rest : List (Nat × AV Empty)) : evView (ctxOf Try.prog noFacts (fun _ => false) libB2) 37 (false :: [false, false, true, true, true]) (loopAt (bodyOf Try.f52) [false, false, true, true, true]) ([(7, (.w (.one (.int .i64 d)))), (8, (.w (.one (.int .i64 c)))), (9, (.w (.one (.int .i64 v))))] ++ (ptrN 0 [3] ++ rest)) [⟨23, [.int .i64 a.mn, .int .i64 a.mx, .int .i64 a.sp, .int .i64 a.ac]⟩] 1 [7, 8, 9, 3] [false, true] = some ((Ex.normal, [AV.w (AW.one (AC.int IntKind.i64 (IntKind.i64.wrap (d - mi (IntKind.i64.wrap (v + a.ac)) (fstV a.sp a.ac d))))), AV.w (AW.one (AC.int IntKind.i64 (IntKind.i64.wrap (c + 1)))), AV.w (AW.one (AC.int IntKind.i64 (mi (IntKind.i64.wrap (v + a.ac)) (fstV a.sp a.ac d)))), AV.w (AW.one (AC.ptr 0 0))], [{ ty := 23, cs := [AC.int IntKind.i64 a.mn, AC.int IntKind.i64 a.mx, AC.int IntKind.i64 a.sp, AC.int IntKind.i64 a.ac] }]), (pickL [(decide (d > 0), false), (decide (v > 0), true), (decide (axE a = 0), true), (decide ((0 : Int) ≤ d), true)] [0, 0, 0, 1, 2, 3])) := by kernel_rfl
set_option maxRecDepth 100000 in
theorem slr_00 (a : Ax) (d : Int) (c : Int) (v : Int) (rest : List (Nat × AV Empty)) : evView (ctxOf Try.prog noFacts (fun _ => false) libB2) 37 (false :: [false, false, true, true, true]) (loopAt (bodyOf Try.f52) [false, false, true, true, true]) ([(7, (.w (.one (.int .i64 d)))), (8, (.w (.one (.int .i64 c)))), (9, (.w (.one (.int .i64 v))))] ++ (ptrN 0 [3] ++ rest)) [⟨23, [.int .i64 a.mn, .int .i64 a.mx, .int .i64 a.sp, .int .i64 a.ac]⟩] 1 [8, 3] [false, false] = some ((Ex.exit 0, [AV.w (AW.one (AC.int IntKind.i64 c)), AV.w (AW.one (AC.ptr 0 0))], [{ ty := 23, cs := [AC.int IntKind.i64 a.mn, AC.int IntKind.i64 a.mx, AC.int IntKind.i64 a.sp, AC.int IntKind.i64 a.ac] }]), (pickL [(decide (d > 0), false), (decide (v > 0), false)] [0, 0, 0, 1])) := by kernel_rfl
structure slT where
  a : Ax
  d : Int
  c : Int
  v : Int
def slP (a : Ax) (d : Int) (c : Int) (v : Int) : Prop := axE a = 0 ∧ 0 ≤ d ∧ d ≤ 1099511627776 ∧ 0 ≤ v ∧ v ≤ a.sp ∧ 0 ≤ c ∧ c ≤ 4398046511104
instance (a : Ax) (d : Int) (c : Int) (v : Int) : Decidable (slP a d c v) := by unfold slP; infer_instance
def slTm (a : Ax) (d : Int) (c : Int) (v : Int) : List (Nat × AV Empty) := [(7, (.w (.one (.int .i64 d)))), (8, (.w (.one (.int .i64 c)))), (9, (.w (.one (.int .i64 v))))]
def slS : LpSt slT Empty where
  ps := [3]
  tm := fun t => slTm t.a t.d t.c t.v
  hp := fun t => [⟨23, [.int .i64 t.a.mn, .int .i64 t.a.mx, .int .i64 t.a.sp, .int .i64 t.a.ac]⟩]
def slNx (a : Ax) (d : Int) (c : Int) (v : Int) : Nxt slT Empty := if 0 < d ∨ 0 < v then .go ⟨a, d - nxv a.sp a.ac d v, c + 1, nxv a.sp a.ac d v⟩ else .out (.exit 0) [(8, .w (.one (.int .i64 c)))] [⟨23, [.int .i64 a.mn, .int .i64 a.mx, .int .i64 a.sp, .int .i64 a.ac]⟩]
def slStep (t : slT) : Nxt slT Empty := if slP t.a t.d t.c t.v then slNx t.a t.d t.c t.v else .bad
theorem sl_go {a : Ax} {d : Int} {c : Int} {v : Int} (h : slP a d c v) : slStep ⟨a, d, c, v⟩ = slNx a d c v := if_pos h
set_option maxRecDepth 100000 in
set_option maxHeartbeats 4000000 in
theorem sl_round (t : slT) (hb : (slStep t).isBad = false) (rest : List (Nat × AV Empty)) : ∃ fuel path r, evC (ctxOf Try.prog noFacts (fun _ => false) libB2) fuel 37 (false :: [false, false, true, true, true]) (loopAt (bodyOf Try.f52) [false, false, true, true, true]) (slS.tm t ++ (ptrN 0 slS.ps ++ rest)) (numb 0 (slS.hp t)) 1 path = some r ∧ (∀ p ∈ r.cd, p.1 = p.2) ∧ Gives slS 1 r (slStep t) := by
  obtain ⟨a, d, c, v⟩ := t
  by_cases ok : slP a d c v
  · rw [sl_go ok]
    clear hb
    unfold slNx
    obtain ⟨h1, h2, h3, h4, h5, h6, h7⟩ := ok
    have ha := axE_ok.1 h1
    unfold okA at ha
    obtain ⟨n1, n2, n3, n4⟩ := nxv_in (S := a.sp) (A := a.ac) (by omega) (by omega) (by omega) h2 h4
    obtain ⟨f1, f2, f3⟩ := fst_le (S := a.sp) (A := a.ac) (by omega) (by omega) (by omega) h2
    have e0 : IntKind.i64.wrap (v + a.ac) = v + a.ac := v64 (by omega) (by omega)
    have e2 : IntKind.i64.wrap (d - nxv a.sp a.ac d v) = d - nxv a.sp a.ac d v := v64 (by omega) (by omega)
    have e3 : IntKind.i64.wrap (c + 1) = c + 1 := v64 (by omega) (by omega)
    have i1 : decide (axE a = 0) = true := decide_eq_true h1
    have i2 : decide ((0 : Int) ≤ d) = true := decide_eq_true h2
    have e1 : mi (v + a.ac) (fstV a.sp a.ac d) = nxv a.sp a.ac d v := rfl
    by_cases hd : d > 0
    · have c1 : decide (d > 0) = true := decide_eq_true hd
      rw [if_pos (.inl hd)]
      have L := sl_1 a d c v rest
      rw [e0, e1, e2, e3] at L
      refine round_go L (pickL_ok ?_ _) rfl rfl rfl rfl
      repeat' (first | exact cd_nil | refine cd_cons ?_ ?_)
      all_goals first | with_reducible rfl | with_reducible assumption | rfl | (simp; omega)
    · have c1 : decide (d > 0) = false := decide_eq_false hd
      by_cases hv : v > 0
      · have c2 : decide (v > 0) = true := decide_eq_true hv
        rw [if_pos (.inr hv)]
        have L := sl_01 a d c v rest
        rw [e0, e1, e2, e3] at L
        refine round_go L (pickL_ok ?_ _) rfl rfl rfl rfl
        repeat' (first | exact cd_nil | refine cd_cons ?_ ?_)
        all_goals first | with_reducible rfl | with_reducible assumption | rfl | (simp; omega)
      · have c2 : decide (v > 0) = false := decide_eq_false hv
        rw [if_neg (by omega)]
        have L := slr_00 a d c v rest
        refine round_out L rfl (pickL_ok ?_ _) rfl rfl rfl
        repeat' (first | exact cd_nil | refine cd_cons ?_ ?_)
        all_goals first | with_reducible rfl | with_reducible assumption | rfl | (simp; omega)
  · exfalso
    have : slStep ⟨a, d, c, v⟩ = .bad := if_neg ok
    rw [this] at hb; cases hb
theorem sl_runs {a : Ax} (h1 : axE a = 0) : ∀ (n : Nat) (d v c : Int), stN d v ≤ n → 0 ≤ d → d ≤ 1099511627776 → 0 ≤ v → v ≤ a.sp → 0 ≤ c → c + stN d v ≤ 4398046511104 → ∃ k, runs slStep k ⟨a, d, c, v⟩ = some (.exit 0, [(8, .w (.one (.int .i64 (c + stR a.sp a.ac d v))))], [⟨23, [.int .i64 a.mn, .int .i64 a.mx, .int .i64 a.sp, .int .i64 a.ac]⟩])
  | n, d, v, c, hn, h2, h3, h4, h5, h6, h7 => by
    have ha := axE_ok.1 h1
    unfold okA at ha
    by_cases hk : 0 < d ∨ 0 < v
    · have lt := stN_lt (S := a.sp) (A := a.ac) (by omega) (by omega) (by omega) h2 h4 hk
      obtain ⟨n1, n2, n3, n4⟩ := nxv_in (S := a.sp) (A := a.ac) (by omega) (by omega) (by omega) h2 h4
      have e := stR_go (S := a.sp) (A := a.ac) (by omega) (by omega) (by omega) h2 h4 hk
      obtain ⟨n, rfl⟩ : ∃ k, n = k + 1 := ⟨n - 1, by omega⟩
      obtain ⟨k, hr⟩ := sl_runs h1 n (d - nxv a.sp a.ac d v) (nxv a.sp a.ac d v) (c + 1) (by omega) (by omega) (by omega) n1 n2 (by omega) (by omega)
      refine ⟨k + 1, ?_⟩
      rw [runs, sl_go ⟨h1, h2, h3, h4, h5, h6, by omega⟩]
      unfold slNx
      rw [if_pos hk, e, ← Int.add_assoc]
      exact hr
    · refine ⟨1, ?_⟩
      rw [runs, sl_go ⟨h1, h2, h3, h4, h5, h6, by omega⟩]
      unfold slNx
      rw [if_neg hk, stR_end hk, Int.add_zero]
termination_by n => n
def slD : LpDef slT Empty where
  ts := [7, 8, 9]
  ps := [3]
  W := [3, 7, 8, 9, 17, 18, 19, 20, 21, 22, 23, 24, 25, 26, 27, 28, 29, 30, 31, 32, 33, 34, 35]
  dec := fun vs ks => match vs, ks with
    | [.w (.one (.int .i64 d)), .w (.one (.int .i64 c)), .w (.one (.int .i64 v))], [⟨23, [.int .i64 x0, .int .i64 x1, .int .i64 x2, .int .i64 x3]⟩] => some ⟨⟨x0, x1, x2, x3⟩, d, c, v⟩
    | _, _ => none
  spec := fun t => some ((.exit 0), [(8, .w (.one (.int .i64 (stV t.a.sp t.a.ac t.d))))], [⟨23, [.int .i64 t.a.mn, .int .i64 t.a.mx, .int .i64 t.a.sp, .int .i64 t.a.ac]⟩], [(decide (axE t.a = 0) && (decide (0 ≤ t.d) && (decide (t.d ≤ 1099511627776) && (decide (t.v = 0) && decide (t.c = 0)))), true)])
theorem slD_ok (x : Code) (hx : codeAt (bodyOf Try.f52) [false, false, true, true, true] = some (.loop x)) : LpOk Try.prog noFacts 37 x (slD.sp (fun _ => true)) := by
  obtain rfl := loopAt_eq hx
  refine lp_ok (c := ctxOf Try.prog noFacts (fun _ => false) libB2) (ctxOf_ok libB2_ok (eq_none _)) (by kernel_rfl) hx lps_nil (S := slS) (step := slStep) (fun _ _ => rfl) (by kernel_rfl) (by kernel_rfl) ?_ rfl (fun t e he => ?_) (fun t hb rest => sl_round t hb rest) ?_
  · intro vs ks s hv1 h hv2
    simp only [slD] at h
    split at h
    · cases h
      exact ⟨rfl, fun e he => he⟩
    · cases h
  · simp only [slS, slTm, List.mem_cons, List.not_mem_nil, or_false] at he
    rcases he with rfl | rfl | rfl <;> rfl
  · intro s ex outs wb cd h hc
    obtain ⟨a, d, c, v⟩ := s
    simp only [slD] at h
    cases h
    have := ca1 hc
    simp only [Bool.and_eq_true, decide_eq_true_eq] at this
    obtain ⟨h1, h2, h3, rfl, rfl⟩ := this
    have ha := axE_ok.1 h1
    unfold okA at ha
    have := sl_runs h1 _ d 0 0 (Nat.le_refl _) h2 h3 (by omega) (by omega) (by omega) (by unfold stN; split <;> omega)
    rw [Int.zero_add] at this
    exact this
noncomputable abbrev slLps : Lps Empty := [((37, [false, false, true, true, true]), slD.sp (fun _ => true))]
theorem slLps_ok : LpsOk Try.prog noFacts slLps Try.f52.ntmps (bodyOf Try.f52) := lps_cons (fun _ x hx => slD_ok x hx) lps_nil
noncomputable abbrev libB3 : List (Nat × FnSp Empty) := [(25, FTS)]
theorem libB3_ok : LibOk Try.prog noFacts (lib1 libB3) := (lib1_cons (sp2_ok fun a d _ => ⟨_, rfl, rfs_pl a d⟩) Try.call25 (lib1_nil _ _))
set_option maxRecDepth 100000 in
theorem sr_11 (a : Ax) (d : Int) (v : Int) (c : Int) (rest : List (Nat × AV Empty)) : evView (ctxOf Try.prog noFacts (fun _ => false) libB3) 57 (false :: [false, false, true, true, true, true]) (loopAt (bodyOf Try.f27) [false, false, true, true, true, true]) ([(9, (.w (.one (.int .i64 d)))), (10, (.w (.one (.int .i64 v)))), (11, (.w (.one (.int .i64 c))))] ++ (ptrN 0 [3] ++ rest)) [⟨23, [.int .i64 a.mn, .int .i64 a.mx, .int .i64 a.sp, .int .i64 a.ac]⟩] 1 [9, 10, 11, 3] [true, true] = some ((Ex.normal, [AV.w (AW.one (AC.int IntKind.i64 (IntKind.i64.wrap (d - IntKind.i64.wrap (v + a.ac))))), AV.w (AW.one (AC.int IntKind.i64 (IntKind.i64.wrap (v + a.ac)))), AV.w (AW.one (AC.int IntKind.i64 (IntKind.i64.wrap (c + 1)))), AV.w (AW.one (AC.ptr 0 0))], [{ ty := 23, cs := [AC.int IntKind.i64 a.mn, AC.int IntKind.i64 a.mx, AC.int IntKind.i64 a.sp, AC.int IntKind.i64 a.ac] }]), (pickL [(decide (d > 0), true), (true, true), (decide (FTv a d > IntKind.i64.wrap (v + a.ac)), true)] [0, 0, 0, 1, 2])) := by kernel_rfl
set_option maxRecDepth 100000 in
theorem sr_10 (a : Ax) (d : Int) (v : Int) (c : Int) (rest : List (Nat × AV Empty)) : evView (ctxOf Try.prog noFacts (fun _ => false) libB3) 57 (false :: [false, false, true, true, true, true]) (loopAt (bodyOf Try.f27) [false, false, true, true, true, true]) ([(9, (.w (.one (.int .i64 d)))), (10, (.w (.one (.int .i64 v)))), (11, (.w (.one (.int .i64 c))))] ++ (ptrN 0 [3] ++ rest)) [⟨23, [.int .i64 a.mn, .int .i64 a.mx, .int .i64 a.sp, .int .i64 a.ac]⟩] 1 [9, 10, 11, 3] [true, false] = some ((Ex.normal, [AV.w (AW.one (AC.int IntKind.i64 (IntKind.i64.wrap (d - FTv a d)))), AV.w (AW.one (AC.int IntKind.i64 (FTv a d))), AV.w (AW.one (AC.int IntKind.i64 (IntKind.i64.wrap (c + 1)))), AV.w (AW.one (AC.ptr 0 0))], [{ ty := 23, cs := [AC.int IntKind.i64 a.mn, AC.int IntKind.i64 a.mx, AC.int IntKind.i64 a.sp, AC.int IntKind.i64 a.ac] }]), (pickL [(decide (d > 0), true), (true, true), (decide (FTv a d > IntKind.i64.wrap (v + a.ac)), false)] [0, 0, 0, 1, 2])) := by kernel_rfl
set_option maxRecDepth 100000 in
theorem sr_011 (a : Ax) (d : Int) (v : Int) (c : Int) (rest : List (Nat × AV Empty)) : evView (ctxOf Try.prog noFacts (fun _ => false) libB3) 57 (false :: [false, false, true, true, true, true]) (loopAt (bodyOf Try.f27) [false, false, true, true, true, true]) ([(9, (.w (.one (.int .i64 d)))), (10, (.w (.one (.int .i64 v)))), (11, (.w (.one (.int .i64 c))))] ++ (ptrN 0 [3] ++ rest)) [⟨23, [.int .i64 a.mn, .int .i64 a.mx, .int .i64 a.sp, .int .i64 a.ac]⟩] 1 [9, 10, 11, 3] [false, true, true] = some ((Ex.normal, [AV.w (AW.one (AC.int IntKind.i64 (IntKind.i64.wrap (d - IntKind.i64.wrap (v + a.ac))))), AV.w (AW.one (AC.int IntKind.i64 (IntKind.i64.wrap (v + a.ac)))), AV.w (AW.one (AC.int IntKind.i64 (IntKind.i64.wrap (c + 1)))), AV.w (AW.one (AC.ptr 0 0))], [{ ty := 23, cs := [AC.int IntKind.i64 a.mn, AC.int IntKind.i64 a.mx, AC.int IntKind.i64 a.sp, AC.int IntKind.i64 a.ac] }]), (pickL [(decide (d > 0), false), (decide (v > 0), true), (decide (FTv a d > IntKind.i64.wrap (v + a.ac)), true)] [0, 0, 0, 1, 2])) := by kernel_rfl
set_option maxRecDepth 100000 in
theorem sr_010 (a : Ax) (d : Int) (v : Int) (c : Int) (rest : List (Nat × AV Empty)) : evView (ctxOf Try.prog noFacts (fun _ => false) libB3) 57 (false :: [false, false, true, true, true, true]) (loopAt (bodyOf Try.f27) [false, false, true, true, true, true]) ([(9, (.w (.one (.int .i64 d)))), (10, (.w (.one (.int .i64 v)))), (11, (.w (.one (.int .i64 c))))] ++ (ptrN 0 [3] ++ rest)) [⟨23, [.int .i64 a.mn, .int .i64 a.mx, .int .i64 a.sp, .int .i64 a.ac]⟩] 1 [9, 10, 11, 3] [false, true, false] = some ((Ex.normal, [AV.w (AW.one (AC.int IntKind.i64 (IntKind.i64.wrap (d - FTv a d)))), AV.w (AW.one (AC.int IntKind.i64 (FTv a d))), AV.w (AW.one (AC.int IntKind.i64 (IntKind.i64.wrap (c + 1)))), AV.w (AW.one (AC.ptr 0 0))], [{ ty := 23, cs := [AC.int IntKind.i64 a.mn, AC.int IntKind.i64 a.mx, AC.int IntKind.i64 a.sp, AC.int IntKind.i64 a.ac] }]), (pickL [(decide (d > 0), false), (decide (v > 0), true), (decide (FTv a d > IntKind.i64.wrap (v + a.ac)), false)] [0, 0, 0, 1, 2])) := by kernel_rfl
set_option maxRecDepth 100000 in
theorem srr_00 (a : Ax) (d : Int) (v : Int) (c : Int) (rest : List (Nat × AV Empty)) : evView (ctxOf Try.prog noFacts (fun _ => false) libB3) 57 (false :: [false, false, true, true, true, true]) (loopAt (bodyOf Try.f27) [false, false, true, true, true, true]) ([(9, (.w (.one (.int .i64 d)))), (10, (.w (.one (.int .i64 v)))), (11, (.w (.one (.int .i64 c))))] ++ (ptrN 0 [3] ++ rest)) [⟨23, [.int .i64 a.mn, .int .i64 a.mx, .int .i64 a.sp, .int .i64 a.ac]⟩] 1 [11, 3] [false, false] = some ((Ex.exit 0, [AV.w (AW.one (AC.int IntKind.i64 c)), AV.w (AW.one (AC.ptr 0 0))], [{ ty := 23, cs := [AC.int IntKind.i64 a.mn, AC.int IntKind.i64 a.mx, AC.int IntKind.i64 a.sp, AC.int IntKind.i64 a.ac] }]), (pickL [(decide (d > 0), false), (decide (v > 0), false)] [0, 0, 0, 1])) := by kernel_rfl
structure srT where
  a : Ax
  d : Int
  v : Int
  c : Int
def srP (a : Ax) (d : Int) (v : Int) (c : Int) : Prop := axE a = 0 ∧ 0 ≤ d ∧ d ≤ 1099511627776 ∧ 0 ≤ v ∧ v ≤ a.sp ∧ 0 ≤ c ∧ c ≤ 4398046511104
instance (a : Ax) (d : Int) (v : Int) (c : Int) : Decidable (srP a d v c) := by unfold srP; infer_instance
def srTm (a : Ax) (d : Int) (v : Int) (c : Int) : List (Nat × AV Empty) := [(9, (.w (.one (.int .i64 d)))), (10, (.w (.one (.int .i64 v)))), (11, (.w (.one (.int .i64 c))))]
def srS : LpSt srT Empty where
  ps := [3]
  tm := fun t => srTm t.a t.d t.v t.c
  hp := fun t => [⟨23, [.int .i64 t.a.mn, .int .i64 t.a.mx, .int .i64 t.a.sp, .int .i64 t.a.ac]⟩]
def srNx (a : Ax) (d : Int) (v : Int) (c : Int) : Nxt srT Empty := if 0 < d ∨ 0 < v then .go ⟨a, d - nxv a.sp a.ac d v, nxv a.sp a.ac d v, c + 1⟩ else .out (.exit 0) [(11, .w (.one (.int .i64 c)))] [⟨23, [.int .i64 a.mn, .int .i64 a.mx, .int .i64 a.sp, .int .i64 a.ac]⟩]
def srStep (t : srT) : Nxt srT Empty := if srP t.a t.d t.v t.c then srNx t.a t.d t.v t.c else .bad
theorem sr_go {a : Ax} {d : Int} {v : Int} {c : Int} (h : srP a d v c) : srStep ⟨a, d, v, c⟩ = srNx a d v c := if_pos h
set_option maxRecDepth 100000 in
set_option maxHeartbeats 4000000 in
theorem sr_round (t : srT) (hb : (srStep t).isBad = false) (rest : List (Nat × AV Empty)) : ∃ fuel path r, evC (ctxOf Try.prog noFacts (fun _ => false) libB3) fuel 57 (false :: [false, false, true, true, true, true]) (loopAt (bodyOf Try.f27) [false, false, true, true, true, true]) (srS.tm t ++ (ptrN 0 srS.ps ++ rest)) (numb 0 (srS.hp t)) 1 path = some r ∧ (∀ p ∈ r.cd, p.1 = p.2) ∧ Gives srS 1 r (srStep t) := by
  obtain ⟨a, d, v, c⟩ := t
  by_cases ok : srP a d v c
  · rw [sr_go ok]
    clear hb
    unfold srNx
    obtain ⟨h1, h2, h3, h4, h5, h6, h7⟩ := ok
    have ha := axE_ok.1 h1
    unfold okA at ha
    obtain ⟨n1, n2, n3, n4⟩ := nxv_in (S := a.sp) (A := a.ac) (by omega) (by omega) (by omega) h2 h4
    obtain ⟨f1, f2, f3⟩ := fst_le (S := a.sp) (A := a.ac) (by omega) (by omega) (by omega) h2
    have e0 : IntKind.i64.wrap (v + a.ac) = v + a.ac := v64 (by omega) (by omega)
    have e2 : IntKind.i64.wrap (d - nxv a.sp a.ac d v) = d - nxv a.sp a.ac d v := v64 (by omega) (by omega)
    have e3 : IntKind.i64.wrap (c + 1) = c + 1 := v64 (by omega) (by omega)
    have i1 : decide (axE a = 0) = true := decide_eq_true h1
    have i2 : decide ((0 : Int) ≤ d) = true := decide_eq_true h2
    have e1 : FTv a d = fstV a.sp a.ac d := if_pos ⟨h1, h2⟩
    have en : nxv a.sp a.ac d v = mi (v + a.ac) (fstV a.sp a.ac d) := rfl
    rw [mi_eq] at en
    by_cases hd : d > 0
    · have c1 : decide (d > 0) = true := decide_eq_true hd
      rw [if_pos (.inl hd)]
      by_cases hw : fstV a.sp a.ac d > v + a.ac
      · have c3 : decide (fstV a.sp a.ac d > v + a.ac) = true := decide_eq_true hw
        have en : nxv a.sp a.ac d v = v + a.ac := by omega
        rw [en] at e2 ⊢
        have L := sr_11 a d v c rest
        rw [e0, e1, e2, e3] at L
        refine round_go L (pickL_ok ?_ _) rfl rfl rfl rfl
        repeat' (first | exact cd_nil | refine cd_cons ?_ ?_)
        all_goals first | with_reducible rfl | with_reducible assumption | rfl | (simp; omega)
      · have c3 : decide (fstV a.sp a.ac d > v + a.ac) = false := decide_eq_false hw
        have en : nxv a.sp a.ac d v = fstV a.sp a.ac d := by omega
        rw [en] at e2 ⊢
        have L := sr_10 a d v c rest
        rw [e0, e1, e2, e3] at L
        refine round_go L (pickL_ok ?_ _) rfl rfl rfl rfl
        repeat' (first | exact cd_nil | refine cd_cons ?_ ?_)
        all_goals first | with_reducible rfl | with_reducible assumption | rfl | (simp; omega)
    · have c1 : decide (d > 0) = false := decide_eq_false hd
      by_cases hv : v > 0
      · have c2 : decide (v > 0) = true := decide_eq_true hv
        rw [if_pos (.inr hv)]
        by_cases hw : fstV a.sp a.ac d > v + a.ac
        · have c3 : decide (fstV a.sp a.ac d > v + a.ac) = true := decide_eq_true hw
          have en : nxv a.sp a.ac d v = v + a.ac := by omega
          rw [en] at e2 ⊢
          have L := sr_011 a d v c rest
          rw [e0, e1, e2, e3] at L
          refine round_go L (pickL_ok ?_ _) rfl rfl rfl rfl
          repeat' (first | exact cd_nil | refine cd_cons ?_ ?_)
          all_goals first | with_reducible rfl | with_reducible assumption | rfl | (simp; omega)
        · have c3 : decide (fstV a.sp a.ac d > v + a.ac) = false := decide_eq_false hw
          have en : nxv a.sp a.ac d v = fstV a.sp a.ac d := by omega
          rw [en] at e2 ⊢
          have L := sr_010 a d v c rest
          rw [e0, e1, e2, e3] at L
          refine round_go L (pickL_ok ?_ _) rfl rfl rfl rfl
          repeat' (first | exact cd_nil | refine cd_cons ?_ ?_)
          all_goals first | with_reducible rfl | with_reducible assumption | rfl | (simp; omega)
      · have c2 : decide (v > 0) = false := decide_eq_false hv
        rw [if_neg (by omega)]
        have L := srr_00 a d v c rest
        refine round_out L rfl (pickL_ok ?_ _) rfl rfl rfl
        repeat' (first | exact cd_nil | refine cd_cons ?_ ?_)
        all_goals first | with_reducible rfl | with_reducible assumption | rfl | (simp; omega)
  · exfalso
    have : srStep ⟨a, d, v, c⟩ = .bad := if_neg ok
    rw [this] at hb; cases hb
theorem sr_runs {a : Ax} (h1 : axE a = 0) : ∀ (n : Nat) (d v c : Int), stN d v ≤ n → 0 ≤ d → d ≤ 1099511627776 → 0 ≤ v → v ≤ a.sp → 0 ≤ c → c + stN d v ≤ 4398046511104 → ∃ k, runs srStep k ⟨a, d, v, c⟩ = some (.exit 0, [(11, .w (.one (.int .i64 (c + stR a.sp a.ac d v))))], [⟨23, [.int .i64 a.mn, .int .i64 a.mx, .int .i64 a.sp, .int .i64 a.ac]⟩])
  | n, d, v, c, hn, h2, h3, h4, h5, h6, h7 => by
    have ha := axE_ok.1 h1
    unfold okA at ha
    by_cases hk : 0 < d ∨ 0 < v
    · have lt := stN_lt (S := a.sp) (A := a.ac) (by omega) (by omega) (by omega) h2 h4 hk
      obtain ⟨n1, n2, n3, n4⟩ := nxv_in (S := a.sp) (A := a.ac) (by omega) (by omega) (by omega) h2 h4
      have e := stR_go (S := a.sp) (A := a.ac) (by omega) (by omega) (by omega) h2 h4 hk
      obtain ⟨n, rfl⟩ : ∃ k, n = k + 1 := ⟨n - 1, by omega⟩
      obtain ⟨k, hr⟩ := sr_runs h1 n (d - nxv a.sp a.ac d v) (nxv a.sp a.ac d v) (c + 1) (by omega) (by omega) (by omega) n1 n2 (by omega) (by omega)
      refine ⟨k + 1, ?_⟩
      rw [runs, sr_go ⟨h1, h2, h3, h4, h5, h6, by omega⟩]
      unfold srNx
      rw [if_pos hk, e, ← Int.add_assoc]
      exact hr
    · refine ⟨1, ?_⟩
      rw [runs, sr_go ⟨h1, h2, h3, h4, h5, h6, by omega⟩]
      unfold srNx
      rw [if_neg hk, stR_end hk, Int.add_zero]
termination_by n => n
def srD : LpDef srT Empty where
  ts := [9, 10, 11]
  ps := [3]
  W := [3, 9, 10, 11, 12, 31, 32, 33, 34, 35, 36, 37, 38, 39, 40, 41, 42, 43, 44, 45, 46, 47, 48, 49, 50, 51, 52, 53, 54, 55]
  dec := fun vs ks => match vs, ks with
    | [.w (.one (.int .i64 d)), .w (.one (.int .i64 v)), .w (.one (.int .i64 c))], [⟨23, [.int .i64 x0, .int .i64 x1, .int .i64 x2, .int .i64 x3]⟩] => some ⟨⟨x0, x1, x2, x3⟩, d, v, c⟩
    | _, _ => none
  spec := fun t => some ((.exit 0), [(11, .w (.one (.int .i64 (stV t.a.sp t.a.ac t.d))))], [⟨23, [.int .i64 t.a.mn, .int .i64 t.a.mx, .int .i64 t.a.sp, .int .i64 t.a.ac]⟩], [(decide (axE t.a = 0) && (decide (0 ≤ t.d) && (decide (t.d ≤ 1099511627776) && (decide (t.v = 0) && decide (t.c = 0)))), true)])
theorem srD_ok (x : Code) (hx : codeAt (bodyOf Try.f27) [false, false, true, true, true, true] = some (.loop x)) : LpOk Try.prog noFacts 57 x (srD.sp (fun _ => true)) := by
  obtain rfl := loopAt_eq hx
  refine lp_ok (c := ctxOf Try.prog noFacts (fun _ => false) libB3) (ctxOf_ok libB3_ok (eq_none _)) (by kernel_rfl) hx lps_nil (S := srS) (step := srStep) (fun _ _ => rfl) (by kernel_rfl) (by kernel_rfl) ?_ rfl (fun t e he => ?_) (fun t hb rest => sr_round t hb rest) ?_
  · intro vs ks s hv1 h hv2
    simp only [srD] at h
    split at h
    · cases h
      exact ⟨rfl, fun e he => he⟩
    · cases h
  · simp only [srS, srTm, List.mem_cons, List.not_mem_nil, or_false] at he
    rcases he with rfl | rfl | rfl <;> rfl
  · intro s ex outs wb cd h hc
    obtain ⟨a, d, v, c⟩ := s
    simp only [srD] at h
    cases h
    have := ca1 hc
    simp only [Bool.and_eq_true, decide_eq_true_eq] at this
    obtain ⟨h1, h2, h3, rfl, rfl⟩ := this
    have ha := axE_ok.1 h1
    unfold okA at ha
    have := sr_runs h1 _ d 0 0 (Nat.le_refl _) h2 h3 (by omega) (by omega) (by omega) (by unfold stN; split <;> omega)
    rw [Int.zero_add] at this
    exact this
noncomputable abbrev srLps : Lps Empty := [((57, [false, false, true, true, true, true]), srD.sp (fun _ => true))]
theorem srLps_ok : LpsOk Try.prog noFacts srLps Try.f27.ntmps (bodyOf Try.f27) := lps_cons (fun _ x hx => srD_ok x hx) lps_nil
end
end Go.Proofs.Ytiamhppdacfmmaa.AtSl

