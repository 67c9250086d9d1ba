/-
  The reference's simulated clocks: the loops of RunErr and ReadAt over tables of legs.
  Conditions: those of each theorem.
-/
import Derived.Test.YtpolpckjfgndeaaC4
import Derived.Test.YtpolpckjfgndeaaC3
set_option linter.unusedVariables false
set_option linter.unusedSimpArgs false
namespace Go.Proofs.Ytpolpckjfgndeaa.AtCk
open Go.RowKit Ev Wd Zd Go.Shelf
open Go.Proofs.Ytpolpckjfgndeaa
noncomputable section

abbrev phB : Option Int → List (AC Nm)
  | none => [.yes false, .lit (.slice none 0 0)]
  | some z => [.bool (decide (z < 0)), .fv (.num z)]
noncomputable abbrev libN1 : List (Nat × FnSp Nm) := [(31, nfn nI), (62, nfn nTimes), (44, nfn nPlus)]
theorem libN1_ok : LibOk Try.prog numI (lib1 libN1) := lib1_cons nI_ok Try.call31 (lib1_cons nTimes_ok Try.call62 (lib1_cons nPlus_ok Try.call44 (lib1_nil _ _)))
def grT : List (List Int) → Int → Int
  | [], _ => 0
  | r :: T, x => minI x (r.getD 0 0) * r.getD 1 0 + grT T (x - minI x (r.getD 0 0))
theorem ra_gn : ∀ (T : List (List Int)) (x : Int), gnT T x = 1000000 * x + grT T x
  | [], x => by unfold gnT; rw [mlT, lfT, grT]; omega
  | r :: T, x => by
    have ih := ra_gn T (x - minI x (r.getD 0 0))
    unfold gnT at ih ⊢
    rw [mlT, lfT, grT]
    rw [Int.mul_add]
    generalize minI x (r.getD 0 0) * r.getD 1 0 = p at *
    omega
def zvP : Option Int → Int
  | none => 0
  | some z => z
set_option maxRecDepth 100000 in
theorem re_10000 (T : List (List Int)) (n : Int) (i : Int) (rest : List (Nat × AV Tb)) : evView (ctxOf Try.prog tbI (fun _ => false) []) 45 (false :: [false, true, false, true, true, true]) (loopAt (bodyOf Try.f27) [false, true, false, true, true, true]) ([(20, (.w (.one (.fv (.tab [some .i64, some .i64] T))))), (21, (.w (.one (.int .i64 n)))), (22, (.w (.one (.int .i64 i))))] ++ (ptrN 0 [] ++ rest)) [] 0 [20, 21, 22] [true, false, false, false, false] = some ((Ex.normal, [AV.w (AW.one (AC.fv (Tb.tab [some IntKind.i64, some IntKind.i64] T))), AV.w (AW.one (AC.int IntKind.i64 n)), AV.w (AW.one (AC.int IntKind.i64 (IntKind.i64.wrap (i + 1))))], []), (pickL [(decide (i < n), true), (decide (0 ≤ i), true), (decide (i < lenT T), true), (decide (cel T i 0 > 1099511627776), false), (decide (cel T i 0 < 0), false), (decide (cel T i 1 > 100000), false), (decide (cel T i 1 < -100000), false)] [0, 1, 2, 1, 2, 3, 3, 3, 3, 4, 4, 4, 4, 5, 5, 5, 5, 6])) := by kernel_rfl
set_option maxRecDepth 100000 in
theorem re_0 (T : List (List Int)) (n : Int) (i : Int) (rest : List (Nat × AV Tb)) : evView (ctxOf Try.prog tbI (fun _ => false) []) 45 (false :: [false, true, false, true, true, true]) (loopAt (bodyOf Try.f27) [false, true, false, true, true, true]) ([(20, (.w (.one (.fv (.tab [some .i64, some .i64] T))))), (21, (.w (.one (.int .i64 n)))), (22, (.w (.one (.int .i64 i))))] ++ (ptrN 0 [] ++ rest)) [] 0 [20, 21, 22] [false] = some ((Ex.exit 0, [AV.w (AW.one (AC.fv (Tb.tab [some IntKind.i64, some IntKind.i64] T))), AV.w (AW.one (AC.int IntKind.i64 n)), AV.w (AW.one (AC.int IntKind.i64 i))], []), (pickL [(decide (i < n), false)] [0])) := by kernel_rfl
set_option maxRecDepth 100000 in
theorem rer_11 (T : List (List Int)) (n : Int) (i : Int) (rest : List (Nat × AV Tb)) : evView (ctxOf Try.prog tbI (fun _ => false) []) 45 (false :: [false, true, false, true, true, true]) (loopAt (bodyOf Try.f27) [false, true, false, true, true, true]) ([(20, (.w (.one (.fv (.tab [some .i64, some .i64] T))))), (21, (.w (.one (.int .i64 n)))), (22, (.w (.one (.int .i64 i))))] ++ (ptrN 0 [] ++ rest)) [] 0 [2] [true, true] = some ((Ex.ret, [AV.w (AW.one (AC.int IntKind.i64 4))], []), (pickL [(decide (i < n), true), (decide (0 ≤ i), true), (decide (i < lenT T), true), (decide (cel T i 0 > 1099511627776), true), (true, true)] [0, 1, 2, 1, 2, 3, 3, 3, 3, 4, 4, 4, 4, 4, 4, 4, 4, 4])) := by kernel_rfl
set_option maxRecDepth 100000 in
theorem rer_101 (T : List (List Int)) (n : Int) (i : Int) (rest : List (Nat × AV Tb)) : evView (ctxOf Try.prog tbI (fun _ => false) []) 45 (false :: [false, true, false, true, true, true]) (loopAt (bodyOf Try.f27) [false, true, false, true, true, true]) ([(20, (.w (.one (.fv (.tab [some .i64, some .i64] T))))), (21, (.w (.one (.int .i64 n)))), (22, (.w (.one (.int .i64 i))))] ++ (ptrN 0 [] ++ rest)) [] 0 [2] [true, false, true] = some ((Ex.ret, [AV.w (AW.one (AC.int IntKind.i64 4))], []), (pickL [(decide (i < n), true), (decide (0 ≤ i), true), (decide (i < lenT T), true), (decide (cel T i 0 > 1099511627776), false), (decide (cel T i 0 < 0), true), (true, true)] [0, 1, 2, 1, 2, 3, 3, 3, 3, 4, 4, 4, 4, 5, 5, 5, 5, 5])) := by kernel_rfl
set_option maxRecDepth 100000 in
theorem rer_1001 (T : List (List Int)) (n : Int) (i : Int) (rest : List (Nat × AV Tb)) : evView (ctxOf Try.prog tbI (fun _ => false) []) 45 (false :: [false, true, false, true, true, true]) (loopAt (bodyOf Try.f27) [false, true, false, true, true, true]) ([(20, (.w (.one (.fv (.tab [some .i64, some .i64] T))))), (21, (.w (.one (.int .i64 n)))), (22, (.w (.one (.int .i64 i))))] ++ (ptrN 0 [] ++ rest)) [] 0 [2] [true, false, false, true] = some ((Ex.ret, [AV.w (AW.one (AC.int IntKind.i64 4))], []), (pickL [(decide (i < n), true), (decide (0 ≤ i), true), (decide (i < lenT T), true), (decide (cel T i 0 > 1099511627776), false), (decide (cel T i 0 < 0), false), (decide (cel T i 1 > 100000), true), (true, true)] [0, 1, 2, 1, 2, 3, 3, 3, 3, 4, 4, 4, 4, 5, 5, 5, 5, 6])) := by kernel_rfl
set_option maxRecDepth 100000 in
theorem rer_10001 (T : List (List Int)) (n : Int) (i : Int) (rest : List (Nat × AV Tb)) : evView (ctxOf Try.prog tbI (fun _ => false) []) 45 (false :: [false, true, false, true, true, true]) (loopAt (bodyOf Try.f27) [false, true, false, true, true, true]) ([(20, (.w (.one (.fv (.tab [some .i64, some .i64] T))))), (21, (.w (.one (.int .i64 n)))), (22, (.w (.one (.int .i64 i))))] ++ (ptrN 0 [] ++ rest)) [] 0 [2] [true, false, false, false, true] = some ((Ex.ret, [AV.w (AW.one (AC.int IntKind.i64 4))], []), (pickL [(decide (i < n), true), (decide (0 ≤ i), true), (decide (i < lenT T), true), (decide (cel T i 0 > 1099511627776), false), (decide (cel T i 0 < 0), false), (decide (cel T i 1 > 100000), false), (decide (cel T i 1 < -100000), true)] [0, 1, 2, 1, 2, 3, 3, 3, 3, 4, 4, 4, 4, 5, 5, 5, 5, 6])) := by kernel_rfl
structure reT where
  T : List (List Int)
  n : Int
  i : Int
def reP (T : List (List Int)) (n : Int) (i : Int) : Prop := 0 ≤ i ∧ i ≤ n ∧ n = lenT T ∧ n ≤ 9223372036854775807
instance (T : List (List Int)) (n : Int) (i : Int) : Decidable (reP T n i) := by unfold reP; infer_instance
def reTm (T : List (List Int)) (n : Int) (i : Int) : List (Nat × AV Tb) := [(20, (.w (.one (.fv (.tab [some .i64, some .i64] T))))), (21, (.w (.one (.int .i64 n)))), (22, (.w (.one (.int .i64 i))))]
def reS : LpSt reT Tb where
  ps := []
  tm := fun t => reTm t.T t.n t.i
  hp := fun t => []
def reNx (T : List (List Int)) (n : Int) (i : Int) : Nxt reT Tb := if i < n then (if lgB (rowT T i) = true then .go ⟨T, n, i + 1⟩ else .out .ret [(2, .w (.one (.int .i64 4)))] []) else .out (.exit 0) (reTm T n i) []
def reStep (t : reT) : Nxt reT Tb := if reP t.T t.n t.i then reNx t.T t.n t.i else .bad
theorem re_go {T : List (List Int)} {n : Int} {i : Int} (h : reP T n i) : reStep ⟨T, n, i⟩ = reNx T n i := if_pos h
set_option maxRecDepth 100000 in
set_option maxHeartbeats 4000000 in
theorem re_round (t : reT) (hb : (reStep t).isBad = false) (rest : List (Nat × AV Tb)) : ∃ fuel path r, evC (ctxOf Try.prog tbI (fun _ => false) []) fuel 45 (false :: [false, true, false, true, true, true]) (loopAt (bodyOf Try.f27) [false, true, false, true, true, true]) (reS.tm t ++ (ptrN 0 reS.ps ++ rest)) (numb 0 (reS.hp t)) 0 path = some r ∧ (∀ p ∈ r.cd, p.1 = p.2) ∧ Gives reS 0 r (reStep t) := by
  obtain ⟨T, n, i⟩ := t
  by_cases ok : reP T n i
  · rw [re_go ok]
    clear hb
    unfold reNx
    obtain ⟨h1, h2, rfl, h4⟩ := ok
    have e0 : decide (0 ≤ i) = true := decide_eq_true h1
    have e1 : i < lenT T → IntKind.i64.wrap (i + 1) = i + 1 := fun _ => v64 (by omega) (by omega)
    cases k0 : (decide (i < lenT T)) with
    | true =>
      cases k1 : (decide (cel T i 0 > 1099511627776)) with
      | true =>
        have hE : ¬ lgB (rowT T i) = true := by
          clear e1
          simp only [beq_iff_eq, beq_eq_false_iff_ne, ne_eq, bne_iff_ne, bne_eq_false_iff_eq, decide_eq_true_eq, decide_eq_false_iff_not, Bool.not_eq_true', Bool.not_eq_false'] at *
          simp only [cel_row] at *
          rw [lgB_iff]; omega
        rw [if_pos (of_decide_eq_true k0), if_neg hE]
        have L := rer_11 T (lenT T) i rest
        refine round_out L rfl (pickL_ok ?_ _) rfl rfl rfl
        repeat' (first | exact cd_nil | refine cd_cons ?_ ?_)
        all_goals first | rfl | with_reducible assumption
      | false =>
        cases k2 : (decide (cel T i 0 < 0)) with
        | true =>
          have hE : ¬ lgB (rowT T i) = true := by
            clear e1
            simp only [beq_iff_eq, beq_eq_false_iff_ne, ne_eq, bne_iff_ne, bne_eq_false_iff_eq, decide_eq_true_eq, decide_eq_false_iff_not, Bool.not_eq_true', Bool.not_eq_false'] at *
            simp only [cel_row] at *
            rw [lgB_iff]; omega
          rw [if_pos (of_decide_eq_true k0), if_neg hE]
          have L := rer_101 T (lenT T) i rest
          refine round_out L rfl (pickL_ok ?_ _) rfl rfl rfl
          repeat' (first | exact cd_nil | refine cd_cons ?_ ?_)
          all_goals first | rfl | with_reducible assumption
        | false =>
          cases k3 : (decide (cel T i 1 > 100000)) with
          | true =>
            have hE : ¬ lgB (rowT T i) = true := by
              clear e1
              simp only [beq_iff_eq, beq_eq_false_iff_ne, ne_eq, bne_iff_ne, bne_eq_false_iff_eq, decide_eq_true_eq, decide_eq_false_iff_not, Bool.not_eq_true', Bool.not_eq_false'] at *
              simp only [cel_row] at *
              rw [lgB_iff]; omega
            rw [if_pos (of_decide_eq_true k0), if_neg hE]
            have L := rer_1001 T (lenT T) i rest
            refine round_out L rfl (pickL_ok ?_ _) rfl rfl rfl
            repeat' (first | exact cd_nil | refine cd_cons ?_ ?_)
            all_goals first | rfl | with_reducible assumption
          | false =>
            cases k4 : (decide (cel T i 1 < -100000)) with
            | true =>
              have hE : ¬ lgB (rowT T i) = true := by
                clear e1
                simp only [beq_iff_eq, beq_eq_false_iff_ne, ne_eq, bne_iff_ne, bne_eq_false_iff_eq, decide_eq_true_eq, decide_eq_false_iff_not, Bool.not_eq_true', Bool.not_eq_false'] at *
                simp only [cel_row] at *
                rw [lgB_iff]; omega
              rw [if_pos (of_decide_eq_true k0), if_neg hE]
              have L := rer_10001 T (lenT T) i rest
              refine round_out L rfl (pickL_ok ?_ _) rfl rfl rfl
              repeat' (first | exact cd_nil | refine cd_cons ?_ ?_)
              all_goals first | rfl | with_reducible assumption
            | false =>
              have hE : lgB (rowT T i) = true := by
                clear e1
                simp only [beq_iff_eq, beq_eq_false_iff_ne, ne_eq, bne_iff_ne, bne_eq_false_iff_eq, decide_eq_true_eq, decide_eq_false_iff_not, Bool.not_eq_true', Bool.not_eq_false'] at *
                simp only [cel_row] at *
                rw [lgB_iff]; omega
              rw [if_pos (of_decide_eq_true k0), if_pos hE]
              have L := re_10000 T (lenT T) i rest
              rw [e1 (of_decide_eq_true k0)] at L
              refine round_go L (pickL_ok ?_ _) rfl rfl rfl rfl
              repeat' (first | exact cd_nil | refine cd_cons ?_ ?_)
              all_goals first | rfl | with_reducible assumption
    | false =>
      rw [if_neg (of_decide_eq_false k0)]
      have L := re_0 T (lenT T) i rest
      refine round_out L rfl (pickL_ok ?_ _) rfl rfl rfl
      repeat' (first | exact cd_nil | refine cd_cons ?_ ?_)
      all_goals first | rfl | with_reducible assumption
  · exfalso
    have : reStep ⟨T, n, i⟩ = .bad := if_neg ok
    rw [this] at hb; cases hb
theorem re_runs {T : List (List Int)} (h : lenT T ≤ 9223372036854775807) : ∀ (j i : Nat), i + j = T.length → ∃ c, runs reStep c ⟨T, lenT T, i⟩ = (if (T.drop i).all lgB = true then some (.exit 0, reTm T (lenT T) (lenT T), []) else some (.ret, [(2, .w (.one (.int .i64 4)))], []))
  | 0, i, hi => by
    have e : (i : Int) = lenT T := by unfold lenT; omega
    refine ⟨1, ?_⟩
    rw [runs, re_go ⟨by omega, by omega, rfl, h⟩]
    unfold reNx
    rw [if_neg (by omega), List.drop_eq_nil_of_le (by omega), e]
    rfl
  | j + 1, i, hi => by
    have hl : (i : Int) < lenT T := by unfold lenT; omega
    have d := dropT (T := T) (i := i) (by omega)
    by_cases g : lgB (rowT T i) = true
    · obtain ⟨c, hc⟩ := re_runs h j (i + 1) (by omega)
      refine ⟨c + 1, ?_⟩
      rw [runs, re_go ⟨by omega, by omega, rfl, h⟩]
      unfold reNx
      rw [if_pos hl, if_pos g, d, List.all_cons, g, Bool.true_and]
      exact hc
    · refine ⟨1, ?_⟩
      rw [runs, re_go ⟨by omega, by omega, rfl, h⟩]
      unfold reNx
      rw [if_pos hl, if_neg g, d, List.all_cons]
      simp only [g, Bool.false_and, Bool.false_eq_true, if_false]
def reD : LpDefR reT Tb where
  ts := [20, 21, 22]
  ps := []
  rs := []
  W := [2, 4, 20, 21, 22, 23, 24, 25, 26, 27, 28, 29, 30, 31, 32, 33, 34, 35, 36, 37, 38, 39, 40, 41, 42, 43, 44]
  dec := fun vs tr ks => match vs, tr, ks with
    | [.w (.one (.fv (.tab [some .i64, some .i64] T))), .w (.one (.int .i64 n)), .w (.one (.int .i64 i))], [], [] => some ⟨T, n, i⟩
    | _, _, _ => none
  fk := fun t => some (t.T.all lgB)
  spec := fun t β => match β with
    | true => some (.exit 0, reTm t.T t.n t.n, [], [], [(decide (t.i = 0) && decide (t.n = lenT t.T) && decide (t.n ≤ 9223372036854775807), true)])
    | false => some (.ret, [(2, .w (.one (.int .i64 4)))], [], [], [(decide (t.i = 0) && decide (t.n = lenT t.T) && decide (t.n ≤ 9223372036854775807), true)])
theorem reD_ok (x : Code) (hx : codeAt (bodyOf Try.f27) [false, true, false, true, true, true] = some (.loop x)) : LpOk Try.prog tbI 45 x (reD.sp (fun _ => false)) := by
  obtain rfl := loopAt_eq hx
  refine lpR_ok (c := ctxOf Try.prog tbI (fun _ => false) []) (ctxOf_ok (lib1_nil _ _) (eq_none _)) (by kernel_rfl) (fun _ _ _ h => h) hx lps_nil (S := reS) (step := reStep) (fun _ h => by cases h) (by kernel_rfl) (by kernel_rfl) ?_ rfl (fun t e he => ?_) (fun t hb rest => re_round t hb rest) ?_
  · intro vs tr ks s hv1 hv2 h hv3
    simp only [reD] at h
    split at h
    · cases h
      exact ⟨rfl, fun e he => .inl he⟩
    · cases h
  · simp only [reS, reTm, List.mem_cons, List.not_mem_nil, or_false] at he
    rcases he with rfl | rfl | rfl <;> rfl
  · intro s β ex outs rts wb cd h hfk hc
    obtain ⟨T, n, i⟩ := s
    have hβ := hfk _ rfl
    cases β with
    | true =>
      simp only [reD] at h hβ
      cases h
      have := c1x hc
      simp only [Bool.and_eq_true, decide_eq_true_eq] at this
      obtain ⟨⟨rfl, rfl⟩, h3⟩ := this
      obtain ⟨c, hc⟩ := re_runs h3 T.length 0 (by omega)
      refine ⟨c, ?_⟩
      rw [List.drop_zero, if_pos hβ] at hc
      exact hc
    | false =>
      simp only [reD] at h hβ
      cases h
      have := c1x hc
      simp only [Bool.and_eq_true, decide_eq_true_eq] at this
      obtain ⟨⟨rfl, rfl⟩, h3⟩ := this
      obtain ⟨c, hc⟩ := re_runs h3 T.length 0 (by omega)
      refine ⟨c, ?_⟩
      rw [List.drop_zero, if_neg (by rw [hβ]; simp)] at hc
      exact hc
set_option maxRecDepth 100000 in
theorem ra0_1 (T : List (List Int)) (q : Int) (a : Int) (n : Int) (i : Int) (rest : List (Nat × AV Nm)) : evView (ctxOf Try.prog numI (fun _ => false) libN1) 80 (false :: [false, true, false, true, true, true, true, true]) (loopAt (bodyOf Try.f25) [false, true, false, true, true, true, true, true]) ([(39, (.w (.one (.fv (.tab [some .i64, some .i64] T))))), (1, (.w (.one (.int .i64 q)))), (8, (.w (.one (.int .i64 a)))), (40, (.w (.one (.int .i64 n)))), (41, (.w (.one (.int .i64 i))))] ++ (ptrN 0 [7] ++ rest)) [⟨52, phB none⟩] 1 [39, 1, 8, 40, 41, 7] [true] = some ((Ex.normal, [AV.w (AW.one (AC.fv (Nm.tab [some IntKind.i64, some IntKind.i64] T))), AV.w (AW.one (AC.int IntKind.i64 q)), AV.w (AW.one (AC.int IntKind.i64 (minI q (IntKind.i64.wrap (a + cel T i 0))))), AV.w (AW.one (AC.int IntKind.i64 n)), AV.w (AW.one (AC.int IntKind.i64 (IntKind.i64.wrap (i + 1)))), AV.w (AW.one (AC.ptr 0 0))], [{ ty := 52, cs := [AC.bool (decide (0 + IntKind.i64.wrap ((minI q (IntKind.i64.wrap (a + cel T i 0))) - a) * cel T i 1 < 0)), AC.fv (Nm.num (0 + IntKind.i64.wrap ((minI q (IntKind.i64.wrap (a + cel T i 0))) - a) * cel T i 1))] }]), (pickL [(decide (i < n), true), (decide (0 ≤ i), true), (decide (i < lenT T), true), (i64B (IntKind.i64.wrap ((minI q (IntKind.i64.wrap (a + cel T i 0))) - a)), true), (i64B (cel T i 1), true), (decide (IntKind.i64.wrap ((minI q (IntKind.i64.wrap (a + cel T i 0))) - a) < 0) == decide (IntKind.i64.wrap ((minI q (IntKind.i64.wrap (a + cel T i 0))) - a) < 0), true), (decide (cel T i 1 < 0) == decide (cel T i 1 < 0), true), (szB (IntKind.i64.wrap ((minI q (IntKind.i64.wrap (a + cel T i 0))) - a)), true), (szB (cel T i 1), true), (decide (IntKind.i64.wrap ((minI q (IntKind.i64.wrap (a + cel T i 0))) - a) * cel T i 1 < 0) == decide (IntKind.i64.wrap ((minI q (IntKind.i64.wrap (a + cel T i 0))) - a) * cel T i 1 < 0), true), (szB 0, true), (szB (IntKind.i64.wrap ((minI q (IntKind.i64.wrap (a + cel T i 0))) - a) * cel T i 1), true)] [0, 1, 2, 1, 2, 3, 4, 5, 6, 7, 8, 9, 10, 11])) := by kernel_rfl
set_option maxRecDepth 100000 in
theorem ra0_0 (T : List (List Int)) (q : Int) (a : Int) (n : Int) (i : Int) (rest : List (Nat × AV Nm)) : evView (ctxOf Try.prog numI (fun _ => false) libN1) 80 (false :: [false, true, false, true, true, true, true, true]) (loopAt (bodyOf Try.f25) [false, true, false, true, true, true, true, true]) ([(39, (.w (.one (.fv (.tab [some .i64, some .i64] T))))), (1, (.w (.one (.int .i64 q)))), (8, (.w (.one (.int .i64 a)))), (40, (.w (.one (.int .i64 n)))), (41, (.w (.one (.int .i64 i))))] ++ (ptrN 0 [7] ++ rest)) [⟨52, phB none⟩] 1 [39, 1, 8, 40, 41, 7] [false] = some ((Ex.exit 0, [AV.w (AW.one (AC.fv (Nm.tab [some IntKind.i64, some IntKind.i64] T))), AV.w (AW.one (AC.int IntKind.i64 q)), AV.w (AW.one (AC.int IntKind.i64 a)), AV.w (AW.one (AC.int IntKind.i64 n)), AV.w (AW.one (AC.int IntKind.i64 i)), AV.w (AW.one (AC.ptr 0 0))], [{ ty := 52, cs := [AC.yes false, AC.lit (Value.slice none 0 0)] }]), (pickL [(decide (i < n), false)] [0])) := by kernel_rfl
set_option maxRecDepth 100000 in
theorem ra1_1 (T : List (List Int)) (q : Int) (a : Int) (n : Int) (i : Int) (rest : List (Nat × AV Nm)) (z : Int) : evView (ctxOf Try.prog numI (fun _ => false) libN1) 80 (false :: [false, true, false, true, true, true, true, true]) (loopAt (bodyOf Try.f25) [false, true, false, true, true, true, true, true]) ([(39, (.w (.one (.fv (.tab [some .i64, some .i64] T))))), (1, (.w (.one (.int .i64 q)))), (8, (.w (.one (.int .i64 a)))), (40, (.w (.one (.int .i64 n)))), (41, (.w (.one (.int .i64 i))))] ++ (ptrN 0 [7] ++ rest)) [⟨52, phB (some z)⟩] 1 [39, 1, 8, 40, 41, 7] [true] = some ((Ex.normal, [AV.w (AW.one (AC.fv (Nm.tab [some IntKind.i64, some IntKind.i64] T))), AV.w (AW.one (AC.int IntKind.i64 q)), AV.w (AW.one (AC.int IntKind.i64 (minI q (IntKind.i64.wrap (a + cel T i 0))))), AV.w (AW.one (AC.int IntKind.i64 n)), AV.w (AW.one (AC.int IntKind.i64 (IntKind.i64.wrap (i + 1)))), AV.w (AW.one (AC.ptr 0 0))], [{ ty := 52, cs := [AC.bool (decide (z + IntKind.i64.wrap ((minI q (IntKind.i64.wrap (a + cel T i 0))) - a) * cel T i 1 < 0)), AC.fv (Nm.num (z + IntKind.i64.wrap ((minI q (IntKind.i64.wrap (a + cel T i 0))) - a) * cel T i 1))] }]), (pickL [(decide (i < n), true), (decide (0 ≤ i), true), (decide (i < lenT T), true), (i64B (IntKind.i64.wrap ((minI q (IntKind.i64.wrap (a + cel T i 0))) - a)), true), (i64B (cel T i 1), true), (decide (IntKind.i64.wrap ((minI q (IntKind.i64.wrap (a + cel T i 0))) - a) < 0) == decide (IntKind.i64.wrap ((minI q (IntKind.i64.wrap (a + cel T i 0))) - a) < 0), true), (decide (cel T i 1 < 0) == decide (cel T i 1 < 0), true), (szB (IntKind.i64.wrap ((minI q (IntKind.i64.wrap (a + cel T i 0))) - a)), true), (szB (cel T i 1), true), (decide (z < 0) == decide (z < 0), true), (decide (IntKind.i64.wrap ((minI q (IntKind.i64.wrap (a + cel T i 0))) - a) * cel T i 1 < 0) == decide (IntKind.i64.wrap ((minI q (IntKind.i64.wrap (a + cel T i 0))) - a) * cel T i 1 < 0), true), (szB z, true), (szB (IntKind.i64.wrap ((minI q (IntKind.i64.wrap (a + cel T i 0))) - a) * cel T i 1), true)] [0, 1, 2, 1, 2, 3, 4, 5, 6, 7, 8, 9, 10, 11, 12])) := by kernel_rfl
set_option maxRecDepth 100000 in
theorem ra1_0 (T : List (List Int)) (q : Int) (a : Int) (n : Int) (i : Int) (rest : List (Nat × AV Nm)) (z : Int) : evView (ctxOf Try.prog numI (fun _ => false) libN1) 80 (false :: [false, true, false, true, true, true, true, true]) (loopAt (bodyOf Try.f25) [false, true, false, true, true, true, true, true]) ([(39, (.w (.one (.fv (.tab [some .i64, some .i64] T))))), (1, (.w (.one (.int .i64 q)))), (8, (.w (.one (.int .i64 a)))), (40, (.w (.one (.int .i64 n)))), (41, (.w (.one (.int .i64 i))))] ++ (ptrN 0 [7] ++ rest)) [⟨52, phB (some z)⟩] 1 [39, 1, 8, 40, 41, 7] [false] = some ((Ex.exit 0, [AV.w (AW.one (AC.fv (Nm.tab [some IntKind.i64, some IntKind.i64] T))), AV.w (AW.one (AC.int IntKind.i64 q)), AV.w (AW.one (AC.int IntKind.i64 a)), AV.w (AW.one (AC.int IntKind.i64 n)), AV.w (AW.one (AC.int IntKind.i64 i)), AV.w (AW.one (AC.ptr 0 0))], [{ ty := 52, cs := [AC.bool (decide (z < 0)), AC.fv (Nm.num z)] }]), (pickL [(decide (i < n), false)] [0])) := by kernel_rfl
structure raT where
  T : List (List Int)
  q : Int
  a : Int
  ph : Option Int
  n : Int
  i : Int
def raP (T : List (List Int)) (q : Int) (a : Int) (ph : Option Int) (n : Int) (i : Int) : Prop := 0 ≤ i ∧ i ≤ n ∧ n = lenT T ∧ n ≤ 64 ∧ T.all lgB = true ∧ (-17592186044416 ≤ a ∧ a ≤ q ∧ q ≤ 17592186044416) ∧ q - a ≤ 1099511627776 ∧ -((1099511627776 - (q - a)) * 100000) ≤ zvP ph ∧ zvP ph ≤ (1099511627776 - (q - a)) * 100000
instance (T : List (List Int)) (q : Int) (a : Int) (ph : Option Int) (n : Int) (i : Int) : Decidable (raP T q a ph n i) := by unfold raP; infer_instance
def raTm (T : List (List Int)) (q : Int) (a : Int) (ph : Option Int) (n : Int) (i : Int) : List (Nat × AV Nm) := [(39, (.w (.one (.fv (.tab [some .i64, some .i64] T))))), (1, (.w (.one (.int .i64 q)))), (8, (.w (.one (.int .i64 a)))), (40, (.w (.one (.int .i64 n)))), (41, (.w (.one (.int .i64 i))))]
def raS : LpSt raT Nm where
  ps := [7]
  tm := fun t => raTm t.T t.q t.a t.ph t.n t.i
  hp := fun t => [⟨52, phB t.ph⟩]
def raNx (T : List (List Int)) (q : Int) (a : Int) (ph : Option Int) (n : Int) (i : Int) : Nxt raT Nm := if i < n then .go ⟨T, q, a + minI (q - a) (cel T i 0), some (zvP ph + minI (q - a) (cel T i 0) * cel T i 1), n, i + 1⟩ else .out (.exit 0) (raTm T q a ph n i) [⟨52, phB ph⟩]
def raStep (t : raT) : Nxt raT Nm := if raP t.T t.q t.a t.ph t.n t.i then raNx t.T t.q t.a t.ph t.n t.i else .bad
theorem ra_go {T : List (List Int)} {q : Int} {a : Int} {ph : Option Int} {n : Int} {i : Int} (h : raP T q a ph n i) : raStep ⟨T, q, a, ph, n, i⟩ = raNx T q a ph n i := if_pos h
theorem ra_in {T : List (List Int)} {q a z i : Int} (h : T.all lgB = true) (h0 : 0 ≤ i) (h1 : i < lenT T) (ha : -17592186044416 ≤ a ∧ a ≤ q ∧ q ≤ 17592186044416) (hb : q - a ≤ 1099511627776) (hm : -((1099511627776 - (q - a)) * 100000) ≤ z) (hn : z ≤ (1099511627776 - (q - a)) * 100000) :
    minI q (IntKind.i64.wrap (a + cel T i 0)) = a + minI (q - a) (cel T i 0) ∧ IntKind.i64.wrap (a + minI (q - a) (cel T i 0) - a) = minI (q - a) (cel T i 0) ∧ 0 ≤ minI (q - a) (cel T i 0) ∧ minI (q - a) (cel T i 0) ≤ q - a ∧
    i64B (minI (q - a) (cel T i 0)) = true ∧ i64B (cel T i 1) = true ∧ i64B (minI (q - a) (cel T i 0) * cel T i 1) = true ∧ i64B z = true ∧
    -((1099511627776 - (q - (a + minI (q - a) (cel T i 0)))) * 100000) ≤ z + minI (q - a) (cel T i 0) * cel T i 1 ∧ z + minI (q - a) (cel T i 0) * cel T i 1 ≤ (1099511627776 - (q - (a + minI (q - a) (cel T i 0)))) * 100000 := by
  have g := lgB_iff.1 (allT h h0 h1)
  rw [← cel_row, ← cel_row] at g
  have m1 : 0 ≤ minI (q - a) (cel T i 0) ∧ minI (q - a) (cel T i 0) ≤ q - a := by unfold minI; split <;> omega
  have e1 : IntKind.i64.wrap (a + cel T i 0) = a + cel T i 0 := v64 (by omega) (by omega)
  have e2 : minI q (a + cel T i 0) = a + minI (q - a) (cel T i 0) := by unfold minI; split <;> split <;> omega
  have p1 : minI (q - a) (cel T i 0) * cel T i 1 ≤ minI (q - a) (cel T i 0) * 100000 := Int.mul_le_mul_of_nonneg_left (by omega) m1.1
  have p2 : minI (q - a) (cel T i 0) * -100000 ≤ minI (q - a) (cel T i 0) * cel T i 1 := Int.mul_le_mul_of_nonneg_left (by omega) m1.1
  rw [e1, e2]
  generalize minI (q - a) (cel T i 0) * cel T i 1 = p at *
  generalize minI (q - a) (cel T i 0) = q at *
  exact ⟨rfl, by rw [show a + q - a = q by omega]; exact v64 (by omega) (by omega), m1.1, m1.2, i64B_iff.2 (by omega), i64B_iff.2 (by omega), i64B_iff.2 (by omega), i64B_iff.2 (by omega), by omega, by omega⟩
set_option maxRecDepth 100000 in
set_option maxHeartbeats 4000000 in
theorem ra_round (t : raT) (hb : (raStep t).isBad = false) (rest : List (Nat × AV Nm)) : ∃ fuel path r, evC (ctxOf Try.prog numI (fun _ => false) libN1) fuel 80 (false :: [false, true, false, true, true, true, true, true]) (loopAt (bodyOf Try.f25) [false, true, false, true, true, true, true, true]) (raS.tm t ++ (ptrN 0 raS.ps ++ rest)) (numb 0 (raS.hp t)) 1 path = some r ∧ (∀ p ∈ r.cd, p.1 = p.2) ∧ Gives raS 1 r (raStep t) := by
  obtain ⟨T, q, a, ph, n, i⟩ := t
  by_cases ok : raP T q a ph n i
  · rw [ra_go ok]
    clear hb
    unfold raNx
    obtain ⟨h1, h2, rfl, h4, h5, h6, h7, h8, h9⟩ := ok
    have e0 : decide (0 ≤ i) = true := decide_eq_true h1
    have e1 : i < lenT T → IntKind.i64.wrap (i + 1) = i + 1 := fun _ => v64 (by omega) (by omega)
    cases ph with
    | none =>
      simp only [zvP] at h8 h9 ⊢
      cases k0 : (decide (i < lenT T)) with
      | true =>
        obtain ⟨g1, g2, g3, g4, g5, g6, g7, g8, g9, g10⟩ := ra_in h5 h1 (of_decide_eq_true k0) h6 h7 h8 h9
        have d1 := Dl.i64 g5
        have d2 := Dl.i64 g6
        have d3 := Dl.i64 g7
        have d4 := Dl.i64 g8
        have d0 : Dl 4 0 := Dl.lit (by omega) (by omega)
        rw [if_pos (of_decide_eq_true k0)]
        have L := ra0_1 T q a (lenT T) i rest
        rw [g1, g2, e1 (of_decide_eq_true k0)] at L
        refine round_go L (pickL_ok ?_ _) rfl rfl rfl rfl
        repeat' (first | exact cd_nil | refine cd_cons ?_ ?_)
        all_goals first | rfl | with_reducible assumption | exact eqB _ | (apply Dl.sz; (repeat' (first | with_reducible assumption | with_reducible apply Dl.mul)); omega)
      | false =>
        rw [if_neg (of_decide_eq_false k0)]
        have L := ra0_0 T q a (lenT T) i rest
        refine round_out L rfl (pickL_ok ?_ _) rfl rfl rfl
        repeat' (first | exact cd_nil | refine cd_cons ?_ ?_)
        all_goals first | rfl | with_reducible assumption
    | some z =>
      simp only [zvP] at h8 h9 ⊢
      cases k0 : (decide (i < lenT T)) with
      | true =>
        obtain ⟨g1, g2, g3, g4, g5, g6, g7, g8, g9, g10⟩ := ra_in h5 h1 (of_decide_eq_true k0) h6 h7 h8 h9
        have d1 := Dl.i64 g5
        have d2 := Dl.i64 g6
        have d3 := Dl.i64 g7
        have d4 := Dl.i64 g8
        have d0 : Dl 4 0 := Dl.lit (by omega) (by omega)
        rw [if_pos (of_decide_eq_true k0)]
        have L := ra1_1 T q a (lenT T) i rest z
        rw [g1, g2, e1 (of_decide_eq_true k0)] at L
        refine round_go L (pickL_ok ?_ _) rfl rfl rfl rfl
        repeat' (first | exact cd_nil | refine cd_cons ?_ ?_)
        all_goals first | rfl | with_reducible assumption | exact eqB _ | (apply Dl.sz; (repeat' (first | with_reducible assumption | with_reducible apply Dl.mul)); omega)
      | false =>
        rw [if_neg (of_decide_eq_false k0)]
        have L := ra1_0 T q a (lenT T) i rest z
        refine round_out L rfl (pickL_ok ?_ _) rfl rfl rfl
        repeat' (first | exact cd_nil | refine cd_cons ?_ ?_)
        all_goals first | rfl | with_reducible assumption
  · exfalso
    have : raStep ⟨T, q, a, ph, n, i⟩ = .bad := if_neg ok
    rw [this] at hb; cases hb
def phF (T : List (List Int)) (x : Int) (ph : Option Int) : Option Int := match T with
  | [] => ph
  | r :: T => some (zvP ph + grT (r :: T) x)
theorem ra_runs {T : List (List Int)} {q : Int} (h4 : lenT T ≤ 64) (h5 : T.all lgB = true) : ∀ (j i : Nat) (a : Int) (ph : Option Int), i + j = T.length → (-17592186044416 ≤ a ∧ a ≤ q ∧ q ≤ 17592186044416) → q - a ≤ 1099511627776 → -((1099511627776 - (q - a)) * 100000) ≤ zvP ph → zvP ph ≤ (1099511627776 - (q - a)) * 100000 →
    ∃ c, runs raStep c ⟨T, q, a, ph, lenT T, i⟩ = some (.exit 0, raTm T q (q - lfT (T.drop i) (q - a)) none (lenT T) (lenT T), [⟨52, phB (phF (T.drop i) (q - a) ph)⟩])
  | 0, i, a, ph, hi, h6, h7, h8, h9 => by
    have e : (i : Int) = lenT T := by unfold lenT; omega
    refine ⟨1, ?_⟩
    rw [runs, ra_go ⟨by omega, by omega, rfl, h4, h5, h6, h7, h8, h9⟩]
    unfold raNx
    rw [if_neg (by omega), List.drop_eq_nil_of_le (by omega), e, lfT, show q - (q - a) = a by omega]
    rfl
  | j + 1, i, a, ph, hi, h6, h7, h8, h9 => by
    have hl : (i : Int) < lenT T := by unfold lenT; omega
    have d := dropT (T := T) (i := i) (by omega)
    obtain ⟨_, _, g3, g4, _, _, _, _, g9, g10⟩ := ra_in h5 (show 0 ≤ (i : Int) by omega) hl h6 h7 h8 h9
    obtain ⟨c, hc⟩ := ra_runs h4 h5 j (i + 1) (a + minI (q - a) (cel T i 0)) (some (zvP ph + minI (q - a) (cel T i 0) * cel T i 1)) (by omega) (by omega) (by omega) g9 g10
    refine ⟨c + 1, ?_⟩
    rw [runs, ra_go ⟨by omega, by omega, rfl, h4, h5, h6, h7, h8, h9⟩]
    unfold raNx
    rw [if_pos hl, d, lfT]
    have e1 : q - a - minI (q - a) ((rowT T i).getD 0 0) = q - (a + minI (q - a) (cel T i 0)) := by rw [cel_row]; omega
    have e2 : phF (T.drop (i + 1)) (q - (a + minI (q - a) (cel T i 0))) (some (zvP ph + minI (q - a) (cel T i 0) * cel T i 1)) = phF (rowT T i :: T.drop (i + 1)) (q - a) ph := by
      show _ = some (zvP ph + grT (rowT T i :: T.drop (i + 1)) (q - a))
      rw [grT, e1, ← Int.add_assoc]
      cases hdr : T.drop (i + 1) with
      | nil => rw [grT]; simp only [phF, cel_row, Int.add_zero]
      | cons r R => simp only [phF, zvP, cel_row]
    rw [e1, ← e2]
    exact hc
def raD : LpDefR raT Nm where
  ts := [39, 1, 8, 40, 41]
  ps := [7]
  rs := []
  W := [1, 7, 8, 10, 11, 39, 40, 41, 42, 43, 44, 45, 46, 47, 48, 49, 50, 51, 52, 53, 54, 55, 56, 57, 58, 59, 60, 61, 62]
  dec := fun vs tr ks => match vs, tr, ks with
    | [.w (.one (.fv (.tab [some .i64, some .i64] T))), .w (.one (.int .i64 q)), .w (.one (.int .i64 a)), .w (.one (.int .i64 n)), .w (.one (.int .i64 i))], [], [⟨52, [.yes false, .lit (.slice none 0 0)]⟩] => some ⟨T, q, a, none, n, i⟩
    | _, _, _ => none
  fk := fun t => some (decide (t.T = []))
  spec := fun t β => match β with
    | true => some (.exit 0, raTm t.T t.q t.a none t.n t.n, [], [⟨52, phB none⟩], [(decide (t.i = 0) && decide (t.n = lenT t.T) && decide (t.n ≤ 64) && t.T.all lgB && decide (-17592186044416 ≤ t.a) && decide (t.a ≤ t.q) && decide (t.q ≤ 17592186044416) && decide (t.q - t.a ≤ 1099511627776) && decide (t.ph = none), true)])
    | false => some (.exit 0, raTm t.T t.q (t.q - lfT t.T (t.q - t.a)) none t.n t.n, [], [⟨52, phB (some (grT t.T (t.q - t.a)))⟩], [(decide (t.i = 0) && decide (t.n = lenT t.T) && decide (t.n ≤ 64) && t.T.all lgB && decide (-17592186044416 ≤ t.a) && decide (t.a ≤ t.q) && decide (t.q ≤ 17592186044416) && decide (t.q - t.a ≤ 1099511627776) && decide (t.ph = none), true)])
theorem raD_ok (x : Code) (hx : codeAt (bodyOf Try.f25) [false, true, false, true, true, true, true, true] = some (.loop x)) : LpOk Try.prog numI 80 x (raD.sp nmSafe) := by
  obtain rfl := loopAt_eq hx
  refine lpR_ok (c := ctxOf Try.prog numI (fun _ => false) libN1) (ctxOf_ok libN1_ok (eq_none _)) (by kernel_rfl) (fun _ _ _ h => h) hx lps_nil (S := raS) (step := raStep) (fun _ h => h) (by kernel_rfl) (by kernel_rfl) ?_ rfl (fun t e he => ?_) (fun t hb rest => ra_round t hb rest) ?_
  · intro vs tr ks s hv1 hv2 h hv3
    simp only [raD] at h
    split at h
    · cases h
      exact ⟨rfl, fun e he => .inl he⟩
    · cases h
  · simp only [raS, raTm, List.mem_cons, List.not_mem_nil, or_false] at he
    rcases he with rfl | rfl | rfl | rfl | rfl <;> rfl
  · intro s β ex outs rts wb cd h hfk hc
    obtain ⟨T, q, a, ph, n, i⟩ := s
    have hβ := hfk _ rfl
    cases β with
    | true =>
      simp only [raD] at h hβ
      cases h
      have := c1x hc
      simp only [Bool.and_eq_true, decide_eq_true_eq] at this
      obtain ⟨⟨⟨⟨⟨⟨⟨⟨rfl, rfl⟩, h3⟩, h4⟩, h5⟩, h6⟩, h7⟩, h8⟩, rfl⟩ := this
      obtain ⟨c, hc⟩ := ra_runs h3 h4 T.length 0 a none (by omega) ⟨h5, h6, h7⟩ h8 (by simp only [zvP]; omega) (by simp only [zvP]; omega)
      refine ⟨c, ?_⟩
      rw [List.drop_zero] at hc
      obtain rfl : T = [] := of_decide_eq_true hβ
      rw [lfT, show q - (q - a) = a by omega] at hc
      exact hc
    | false =>
      simp only [raD] at h hβ
      cases h
      have := c1x hc
      simp only [Bool.and_eq_true, decide_eq_true_eq] at this
      obtain ⟨⟨⟨⟨⟨⟨⟨⟨rfl, rfl⟩, h3⟩, h4⟩, h5⟩, h6⟩, h7⟩, h8⟩, rfl⟩ := this
      obtain ⟨c, hc⟩ := ra_runs h3 h4 T.length 0 a none (by omega) ⟨h5, h6, h7⟩ h8 (by simp only [zvP]; omega) (by simp only [zvP]; omega)
      refine ⟨c, ?_⟩
      rw [List.drop_zero] at hc
      have hne := of_decide_eq_false hβ
      have e : phF T (q - a) none = some (grT T (q - a)) := by
        cases T with
        | nil => exact absurd rfl hne
        | cons r R => simp only [phF, zvP, Int.zero_add]
      rw [e] at hc
      exact hc
end
end Go.Proofs.Ytpolpckjfgndeaa.AtCk

