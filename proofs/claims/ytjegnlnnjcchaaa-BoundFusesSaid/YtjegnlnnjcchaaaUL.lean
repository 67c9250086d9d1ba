/-
  The two loops of the law BoundFuses.
  Conditions: those of each theorem.
-/
import Derived.Test.YtjegnlnnjcchaaaUS
set_option linter.unusedVariables false
set_option linter.unusedSimpArgs false
namespace Go.Proofs.Ytjegnlnnjcchaaa.AtBr
open Ev Go.RowKit Go.Shelf Zd Wd
open Go.Proofs.Ytjegnlnnjcchaaa
noncomputable section

theorem libU2_ok : LibOk Try.prog numI (lib1 libU2) := (lib1_cons gSp_ok Try.call52 (lib1_cons nI_ok Try.call15 (lib1_cons (sp1_ok fun b _ => ⟨_, rfl, bte_pl b⟩) Try.call18 (lib1_nil _ _))))
set_option maxRecDepth 100000 in
theorem cn_11 (T : List (List Int)) (k : Int) (n : Int) (i : Int) (rest : List (Nat × AV Nm)) : evView (ctxLp Try.prog numI (fun _ => false) libU2 fnsU []) 114 (false :: [false, true, false, true, true, true, true]) (loopAt (bodyOf Try.f8) [false, true, false, true, true, true, true]) ([(26, (.w (.one (.fv (.tab [some .i64, some .i64, none] T))))), (7, (.w (.one (.int .i64 k)))), (27, (.w (.one (.int .i64 n)))), (28, (.w (.one (.int .i64 i))))] ++ (ptrN 0 [] ++ rest)) [] 0 [26, 7, 27, 28] [true, true] = some ((Ex.normal, [AV.w (AW.one (AC.fv (Nm.tab [some IntKind.i64, some IntKind.i64, none] T))), AV.w (AW.one (AC.int IntKind.i64 k)), AV.w (AW.one (AC.int IntKind.i64 n)), AV.w (AW.one (AC.int IntKind.i64 (IntKind.i64.wrap (i + 1))))], []), (pickL [(decide (i < n), true), (decide (0 ≤ i), true), (decide (i < lenT T), true), (chkB { lo := cel T i 0, hi := cel T i 1, u := decide (cel T i 2 = 1) } != 0, true), (true, true), (false, false)] [0, 1, 2, 1, 2, 3, 3, 3, 4, 5])) := by kernel_rfl
set_option maxRecDepth 100000 in
theorem cn_101 (T : List (List Int)) (k : Int) (n : Int) (i : Int) (rest : List (Nat × AV Nm)) : evView (ctxLp Try.prog numI (fun _ => false) libU2 fnsU []) 114 (false :: [false, true, false, true, true, true, true]) (loopAt (bodyOf Try.f8) [false, true, false, true, true, true, true]) ([(26, (.w (.one (.fv (.tab [some .i64, some .i64, none] T))))), (7, (.w (.one (.int .i64 k)))), (27, (.w (.one (.int .i64 n)))), (28, (.w (.one (.int .i64 i))))] ++ (ptrN 0 [] ++ rest)) [] 0 [26, 7, 27, 28] [true, false, true] = some ((Ex.normal, [AV.w (AW.one (AC.fv (Nm.tab [some IntKind.i64, some IntKind.i64, none] T))), AV.w (AW.one (AC.int IntKind.i64 k)), AV.w (AW.one (AC.int IntKind.i64 n)), AV.w (AW.one (AC.int IntKind.i64 (IntKind.i64.wrap (i + 1))))], []), (pickL [(decide (i < n), true), (decide (0 ≤ i), true), (decide (i < lenT T), true), (chkB { lo := cel T i 0, hi := cel T i 1, u := decide (cel T i 2 = 1) } != 0, false), (decide (cel T i 2 = 1), true), (false, false)] [0, 1, 2, 1, 2, 3, 3, 3, 4, 5])) := by kernel_rfl
set_option maxRecDepth 100000 in
theorem cn_100 (T : List (List Int)) (k : Int) (n : Int) (i : Int) (rest : List (Nat × AV Nm)) : evView (ctxLp Try.prog numI (fun _ => false) libU2 fnsU []) 114 (false :: [false, true, false, true, true, true, true]) (loopAt (bodyOf Try.f8) [false, true, false, true, true, true, true]) ([(26, (.w (.one (.fv (.tab [some .i64, some .i64, none] T))))), (7, (.w (.one (.int .i64 k)))), (27, (.w (.one (.int .i64 n)))), (28, (.w (.one (.int .i64 i))))] ++ (ptrN 0 [] ++ rest)) [] 0 [26, 7, 27, 28] [true, false, false] = some ((Ex.normal, [AV.w (AW.one (AC.fv (Nm.tab [some IntKind.i64, some IntKind.i64, none] T))), AV.w (AW.one (AC.int IntKind.i64 (IntKind.i64.wrap (k + 1)))), AV.w (AW.one (AC.int IntKind.i64 n)), AV.w (AW.one (AC.int IntKind.i64 (IntKind.i64.wrap (i + 1))))], []), (pickL [(decide (i < n), true), (decide (0 ≤ i), true), (decide (i < lenT T), true), (chkB { lo := cel T i 0, hi := cel T i 1, u := decide (cel T i 2 = 1) } != 0, false), (decide (cel T i 2 = 1), false), (i64B (cel T i 0), true), (i64B (cel T i 1), true), (true, true)] [0, 1, 2, 1, 2, 3, 3, 3, 4, 5, 6, 7])) := by kernel_rfl
set_option maxRecDepth 100000 in
theorem cn_0 (T : List (List Int)) (k : Int) (n : Int) (i : Int) (rest : List (Nat × AV Nm)) : evView (ctxLp Try.prog numI (fun _ => false) libU2 fnsU []) 114 (false :: [false, true, false, true, true, true, true]) (loopAt (bodyOf Try.f8) [false, true, false, true, true, true, true]) ([(26, (.w (.one (.fv (.tab [some .i64, some .i64, none] T))))), (7, (.w (.one (.int .i64 k)))), (27, (.w (.one (.int .i64 n)))), (28, (.w (.one (.int .i64 i))))] ++ (ptrN 0 [] ++ rest)) [] 0 [26, 7, 27, 28] [false] = some ((Ex.exit 0, [AV.w (AW.one (AC.fv (Nm.tab [some IntKind.i64, some IntKind.i64, none] T))), AV.w (AW.one (AC.int IntKind.i64 k)), AV.w (AW.one (AC.int IntKind.i64 n)), AV.w (AW.one (AC.int IntKind.i64 i))], []), (pickL [(decide (i < n), false)] [0])) := by kernel_rfl
structure cnT where
  T : List (List Int)
  k : Int
  n : Int
  i : Int
def cnP (T : List (List Int)) (k : Int) (n : Int) (i : Int) : Prop := 0 ≤ i ∧ i ≤ n ∧ n = lenT T ∧ n ≤ 34359738368 ∧ 0 ≤ k ∧ k ≤ i
instance (T : List (List Int)) (k : Int) (n : Int) (i : Int) : Decidable (cnP T k n i) := by unfold cnP; infer_instance
def cnTm (T : List (List Int)) (k : Int) (n : Int) (i : Int) : List (Nat × AV Nm) := [(26, (.w (.one (.fv (.tab [some .i64, some .i64, none] T))))), (7, (.w (.one (.int .i64 k)))), (27, (.w (.one (.int .i64 n)))), (28, (.w (.one (.int .i64 i))))]
def cnS : LpSt cnT Nm where
  ps := []
  tm := fun t => cnTm t.T t.k t.n t.i
  hp := fun t => []
def cnNx (T : List (List Int)) (k : Int) (n : Int) (i : Int) : Nxt cnT Nm := if i < n then .go ⟨T, if knB (Fs.toBd (rowU T i)) = true then k + 1 else k, n, i + 1⟩ else .out (.exit 0) (cnTm T k n i) []
def cnStep (t : cnT) : Nxt cnT Nm := if cnP t.T t.k t.n t.i then cnNx t.T t.k t.n t.i else .bad
theorem cn_go {T : List (List Int)} {k : Int} {n : Int} {i : Int} (h : cnP T k n i) : cnStep ⟨T, k, n, i⟩ = cnNx T k n i := if_pos h
set_option maxRecDepth 100000 in
set_option maxHeartbeats 4000000 in
theorem cn_round (t : cnT) (hb : (cnStep t).isBad = false) (rest : List (Nat × AV Nm)) : ∃ fuel path r, evC (ctxLp Try.prog numI (fun _ => false) libU2 fnsU []) fuel 114 (false :: [false, true, false, true, true, true, true]) (loopAt (bodyOf Try.f8) [false, true, false, true, true, true, true]) (cnS.tm t ++ (ptrN 0 cnS.ps ++ rest)) (numb 0 (cnS.hp t)) 0 path = some r ∧ (∀ p ∈ r.cd, p.1 = p.2) ∧ Gives cnS 0 r (cnStep t) := by
  obtain ⟨T, k, n, i⟩ := t
  by_cases ok : cnP T k n i
  · rw [cn_go ok]
    clear hb
    unfold cnNx
    obtain ⟨h1, h2, rfl, h4, h5, h6⟩ := ok
    have e0 : decide (0 ≤ i) = true := decide_eq_true h1
    have e1 : i < lenT T → IntKind.i64.wrap (i + 1) = i + 1 := fun _ => v64 (by omega) (by omega)
    cases k0 : (decide (i < lenT T)) with
    | true =>
      cases k1 : (chkB { lo := cel T i 0, hi := cel T i 1, u := decide (cel T i 2 = 1) } != 0) with
      | true =>
        have hk : knB (Fs.toBd (rowU T i)) = false := kn_bad (b := Fs.toBd (rowU T i)) k1
        rw [if_pos (of_decide_eq_true k0), if_neg (by rw [hk]; simp)]
        have L := cn_11 T k (lenT T) i rest
        rw [e1 (of_decide_eq_true k0)] at L
        refine round_go L (pickL_ok ?_ _) rfl rfl rfl rfl
        repeat' (first | exact cd_nil | refine cd_cons ?_ ?_)
        all_goals first | rfl | with_reducible assumption | exact eqB _ | (apply Dl.sz; (repeat' (first | with_reducible assumption)); omega)
      | false =>
        cases k2 : (decide (cel T i 2 = 1)) with
        | true =>
          have hk : knB (Fs.toBd (rowU T i)) = false := kn_u (b := Fs.toBd (rowU T i)) k2
          rw [if_pos (of_decide_eq_true k0), if_neg (by rw [hk]; simp)]
          have L := cn_101 T k (lenT T) i rest
          rw [e1 (of_decide_eq_true k0)] at L
          refine round_go L (pickL_ok ?_ _) rfl rfl rfl rfl
          repeat' (first | exact cd_nil | refine cd_cons ?_ ?_)
          all_goals first | rfl | with_reducible assumption | exact eqB _ | (apply Dl.sz; (repeat' (first | with_reducible assumption)); omega)
        | false =>
          have hk : knB (Fs.toBd (rowU T i)) = true := kn_ok (b := Fs.toBd (rowU T i)) k1 k2
          obtain ⟨q1, q2⟩ := i64_kn hk
          replace q1 : i64B (cel T i 0) = true := q1
          replace q2 : i64B (cel T i 1) = true := q2
          have d1 := Dl.i64 q1
          have d2 := Dl.i64 q2
          have ek : IntKind.i64.wrap (k + 1) = k + 1 := v64 (by omega) (by omega)
          rw [if_pos (of_decide_eq_true k0), if_pos hk]
          have L := cn_100 T k (lenT T) i rest
          rw [e1 (of_decide_eq_true k0), ek] at L
          refine round_go L (pickL_ok ?_ _) rfl rfl rfl rfl
          repeat' (first | exact cd_nil | refine cd_cons ?_ ?_)
          all_goals first | rfl | with_reducible assumption | exact eqB _ | (apply Dl.sz; (repeat' (first | with_reducible assumption)); omega)
    | false =>
      rw [if_neg (of_decide_eq_false k0)]
      have L := cn_0 T k (lenT T) i rest
      refine round_out L rfl (pickL_ok ?_ _) rfl rfl rfl
      repeat' (first | exact cd_nil | refine cd_cons ?_ ?_)
      all_goals first | rfl | with_reducible assumption
  · exfalso
    have : cnStep ⟨T, k, n, i⟩ = .bad := if_neg ok
    rw [this] at hb; cases hb
theorem cn_runs {T : List (List Int)} (h : lenT T ≤ 34359738368) : ∀ (j i : Nat) (k : Int), i + j = T.length → 0 ≤ k → k ≤ i → ∃ c, runs cnStep c ⟨T, k, lenT T, i⟩ = some (.exit 0, cnTm T (k + ((Fs.knsOf (T.drop i)).length : Int)) (lenT T) (lenT T), [])
  | 0, i, k, hi, h0, h1 => by
    have e : (i : Int) = lenT T := by unfold lenT; omega
    refine ⟨1, ?_⟩
    rw [runs, cn_go ⟨by omega, by omega, rfl, h, h0, h1⟩]
    unfold cnNx
    rw [if_neg (by omega), List.drop_eq_nil_of_le (by omega), e]
    show _ = some (Ex.exit 0, cnTm T (k + 0) (lenT T) (lenT T), [])
    rw [Int.add_zero]
  | j + 1, i, k, hi, h0, h1 => by
    have hl : (i : Int) < lenT T := by unfold lenT; omega
    have d := dropU (T := T) (i := i) (by omega)
    obtain ⟨c, hc⟩ := cn_runs h j (i + 1) (if knB (Fs.toBd (rowU T i)) = true then k + 1 else k) (by omega) (by split <;> omega) (by split <;> omega)
    refine ⟨c + 1, ?_⟩
    rw [runs, cn_go ⟨by omega, by omega, rfl, h, h0, h1⟩]
    unfold cnNx
    rw [if_pos hl, d, kl_cons]
    have e : (if knB (Fs.toBd (rowU T i)) = true then k + 1 else k) + ((Fs.knsOf (T.drop (i + 1))).length : Int) = k + ((if knB (Fs.toBd (rowU T i)) = true then 1 else 0) + ((Fs.knsOf (T.drop (i + 1))).length : Int)) := by split <;> omega
    rw [← e]
    exact hc
def cnD : LpDef cnT Nm where
  ts := [26, 7, 27, 28]
  ps := []
  W := [7, 9, 10, 11, 12, 26, 27, 28, 29, 30, 31, 32, 33, 34, 35, 36, 37, 38, 39, 40, 41]
  dec := fun vs ks => match vs, ks with
    | [.w (.one (.fv (.tab [some .i64, some .i64, none] T))), .w (.one (.int .i64 k)), .w (.one (.int .i64 n)), .w (.one (.int .i64 i))], [] => some ⟨T, k, n, i⟩
    | _, _ => none
  spec := fun t => some (.exit 0, cnTm t.T ((Fs.knsOf t.T).length : Int) t.n t.n, [], [(decide (t.i = 0) && decide (t.n = lenT t.T) && decide (t.n ≤ 34359738368) && decide (t.k = 0), true)])
theorem cnD_ok (x : Code) (hx : codeAt (bodyOf Try.f8) [false, true, false, true, true, true, true] = some (.loop x)) : LpOk Try.prog numI 114 x (cnD.sp nmSafe) := by
  obtain rfl := loopAt_eq hx
  refine lp_ok (c := ctxLp Try.prog numI (fun _ => false) libU2 fnsU []) (ctxLp_ok libU2_ok (eq_none _) fnsU_ok (fun _ _ _ => lps_nil)) (by kernel_rfl) hx lps_nil (S := cnS) (step := cnStep) (fun _ h => h) (by kernel_rfl) (by kernel_rfl) ?_ rfl (fun t e he => ?_) (fun t hb rest => cn_round t hb rest) ?_
  · intro vs ks s hv1 h hv2
    simp only [cnD] at h
    split at h
    · cases h
      exact ⟨rfl, fun e he => he⟩
    · cases h
  · simp only [cnS, cnTm, List.mem_cons, List.not_mem_nil, or_false] at he
    rcases he with rfl | rfl | rfl | rfl <;> rfl
  · intro s ex outs wb cd h hc
    obtain ⟨T, k, n, i⟩ := s
    simp only [cnD] at h
    cases h
    have := c1x hc
    simp only [Bool.and_eq_true, decide_eq_true_eq] at this
    obtain ⟨⟨⟨rfl, rfl⟩, h3⟩, rfl⟩ := this
    obtain ⟨c, hc⟩ := cn_runs h3 T.length 0 0 (by omega) (by omega) (by omega)
    refine ⟨c, ?_⟩
    rw [List.drop_zero, Int.zero_add] at hc
    exact hc
set_option maxRecDepth 100000 in
theorem wl0_0 (T : List (List Int)) (U : List (List Int)) (f : Int) (k : Int) (n : Int) (i : Int) (rest : List (Nat × AV Nm)) : evView (ctxLp Try.prog numI (fun _ => false) libU2 fnsU []) 114 (false :: [false, true, false, true, true, true, true, true, true]) (loopAt (bodyOf Try.f8) [false, true, false, true, true, true, true, true, true]) ([(43, (.w (.one (.fv (.tab [some .i64, some .i64, none] T))))), (0, (.w (.one (.fv (.tab [some .i64, some .i64, none] U))))), (2, (.w (.one (.int .i64 f)))), (7, (.w (.one (.int .i64 k)))), (44, (.w (.one (.int .i64 n)))), (45, (.w (.one (.int .i64 i))))] ++ (ptrN 0 [13] ++ rest)) [⟨24, phW none⟩] 1 [43, 0, 2, 7, 44, 45, 13] [false] = some ((Ex.exit 2, [AV.w (AW.one (AC.fv (Nm.tab [some IntKind.i64, some IntKind.i64, none] T))), AV.w (AW.one (AC.fv (Nm.tab [some IntKind.i64, some IntKind.i64, none] U))), AV.w (AW.one (AC.int IntKind.i64 f)), AV.w (AW.one (AC.int IntKind.i64 k)), AV.w (AW.one (AC.int IntKind.i64 n)), AV.w (AW.one (AC.int IntKind.i64 i)), AV.w (AW.one (AC.ptr 0 0))], [{ ty := 24, cs := [AC.int IntKind.i64 0, AC.int IntKind.i64 0, AC.yes true] }]), (pickL [(decide (i < n), false)] [0])) := by kernel_rfl
set_option maxRecDepth 100000 in
theorem wl0_11 (T : List (List Int)) (U : List (List Int)) (f : Int) (k : Int) (n : Int) (i : Int) (rest : List (Nat × AV Nm)) : evView (ctxLp Try.prog numI (fun _ => false) libU2 fnsU []) 114 (false :: [false, true, false, true, true, true, true, true, true]) (loopAt (bodyOf Try.f8) [false, true, false, true, true, true, true, true, true]) ([(43, (.w (.one (.fv (.tab [some .i64, some .i64, none] T))))), (0, (.w (.one (.fv (.tab [some .i64, some .i64, none] U))))), (2, (.w (.one (.int .i64 f)))), (7, (.w (.one (.int .i64 k)))), (44, (.w (.one (.int .i64 n)))), (45, (.w (.one (.int .i64 i))))] ++ (ptrN 0 [13] ++ rest)) [⟨24, phW none⟩] 1 [43, 0, 2, 7, 44, 45, 13] [true, true] = some ((Ex.normal, [AV.w (AW.one (AC.fv (Nm.tab [some IntKind.i64, some IntKind.i64, none] T))), AV.w (AW.one (AC.fv (Nm.tab [some IntKind.i64, some IntKind.i64, none] U))), AV.w (AW.one (AC.int IntKind.i64 f)), AV.w (AW.one (AC.int IntKind.i64 k)), AV.w (AW.one (AC.int IntKind.i64 n)), AV.w (AW.one (AC.int IntKind.i64 (IntKind.i64.wrap (i + 1)))), AV.w (AW.one (AC.ptr 0 0))], [{ ty := 24, cs := [AC.int IntKind.i64 0, AC.int IntKind.i64 0, AC.yes true] }]), (pickL [(decide (i < n), true), (decide (0 ≤ i), true), (decide (i < lenT T), true), (chkB { lo := cel T i 0, hi := cel T i 1, u := decide (cel T i 2 = 1) } != 0, true), (true, true), (!false, true)] [0, 1, 2, 1, 2, 3, 3, 3, 4, 5, 5, 5, 4, 4, 4, 4, 4])) := by kernel_rfl
set_option maxRecDepth 100000 in
theorem wl0_101 (T : List (List Int)) (U : List (List Int)) (f : Int) (k : Int) (n : Int) (i : Int) (rest : List (Nat × AV Nm)) : evView (ctxLp Try.prog numI (fun _ => false) libU2 fnsU []) 114 (false :: [false, true, false, true, true, true, true, true, true]) (loopAt (bodyOf Try.f8) [false, true, false, true, true, true, true, true, true]) ([(43, (.w (.one (.fv (.tab [some .i64, some .i64, none] T))))), (0, (.w (.one (.fv (.tab [some .i64, some .i64, none] U))))), (2, (.w (.one (.int .i64 f)))), (7, (.w (.one (.int .i64 k)))), (44, (.w (.one (.int .i64 n)))), (45, (.w (.one (.int .i64 i))))] ++ (ptrN 0 [13] ++ rest)) [⟨24, phW none⟩] 1 [43, 0, 2, 7, 44, 45, 13] [true, false, true] = some ((Ex.normal, [AV.w (AW.one (AC.fv (Nm.tab [some IntKind.i64, some IntKind.i64, none] T))), AV.w (AW.one (AC.fv (Nm.tab [some IntKind.i64, some IntKind.i64, none] U))), AV.w (AW.one (AC.int IntKind.i64 f)), AV.w (AW.one (AC.int IntKind.i64 k)), AV.w (AW.one (AC.int IntKind.i64 n)), AV.w (AW.one (AC.int IntKind.i64 (IntKind.i64.wrap (i + 1)))), AV.w (AW.one (AC.ptr 0 0))], [{ ty := 24, cs := [AC.int IntKind.i64 0, AC.int IntKind.i64 0, AC.yes true] }]), (pickL [(decide (i < n), true), (decide (0 ≤ i), true), (decide (i < lenT T), true), (chkB { lo := cel T i 0, hi := cel T i 1, u := decide (cel T i 2 = 1) } != 0, false), (decide (cel T i 2 = 1), true), (!false, true), (true, true)] [0, 1, 2, 1, 2, 3, 3, 3, 4, 5, 5, 5, 6, 6, 6, 6, 6])) := by kernel_rfl
set_option maxRecDepth 100000 in
theorem wl0_1001 (T : List (List Int)) (U : List (List Int)) (f : Int) (k : Int) (n : Int) (i : Int) (rest : List (Nat × AV Nm)) : evView (ctxLp Try.prog numI (fun _ => false) libU2 fnsU []) 114 (false :: [false, true, false, true, true, true, true, true, true]) (loopAt (bodyOf Try.f8) [false, true, false, true, true, true, true, true, true]) ([(43, (.w (.one (.fv (.tab [some .i64, some .i64, none] T))))), (0, (.w (.one (.fv (.tab [some .i64, some .i64, none] U))))), (2, (.w (.one (.int .i64 f)))), (7, (.w (.one (.int .i64 k)))), (44, (.w (.one (.int .i64 n)))), (45, (.w (.one (.int .i64 i))))] ++ (ptrN 0 [13] ++ rest)) [⟨24, phW none⟩] 1 [43, 0, 2, 7, 44, 45, 13] [true, false, false, true] = some ((Ex.normal, [AV.w (AW.one (AC.fv (Nm.tab [some IntKind.i64, some IntKind.i64, none] T))), AV.w (AW.one (AC.fv (Nm.tab [some IntKind.i64, some IntKind.i64, none] U))), AV.w (AW.one (AC.int IntKind.i64 f)), AV.w (AW.one (AC.int IntKind.i64 k)), AV.w (AW.one (AC.int IntKind.i64 n)), AV.w (AW.one (AC.int IntKind.i64 (IntKind.i64.wrap (i + 1)))), AV.w (AW.one (AC.ptr 0 0))], [{ ty := 24, cs := [AC.int IntKind.i64 0, AC.int IntKind.i64 0, AC.yes true] }]), (pickL [(decide (i < n), true), (decide (0 ≤ i), true), (decide (i < lenT T), true), (chkB { lo := cel T i 0, hi := cel T i 1, u := decide (cel T i 2 = 1) } != 0, false), (decide (cel T i 2 = 1), false), (i64B (cel T i 0), true), (i64B (cel T i 1), true), (!true, false), (decide (f < 0), true), (true, true)] [0, 1, 2, 1, 2, 3, 3, 3, 4, 5, 6, 7, 7, 7, 8, 8, 8, 8, 9])) := by kernel_rfl
set_option maxRecDepth 100000 in
theorem wl0_10001 (T : List (List Int)) (U : List (List Int)) (f : Int) (k : Int) (n : Int) (i : Int) (rest : List (Nat × AV Nm)) : evView (ctxLp Try.prog numI (fun _ => false) libU2 fnsU []) 114 (false :: [false, true, false, true, true, true, true, true, true]) (loopAt (bodyOf Try.f8) [false, true, false, true, true, true, true, true, true]) ([(43, (.w (.one (.fv (.tab [some .i64, some .i64, none] T))))), (0, (.w (.one (.fv (.tab [some .i64, some .i64, none] U))))), (2, (.w (.one (.int .i64 f)))), (7, (.w (.one (.int .i64 k)))), (44, (.w (.one (.int .i64 n)))), (45, (.w (.one (.int .i64 i))))] ++ (ptrN 0 [13] ++ rest)) [⟨24, phW none⟩] 1 [43, 0, 2, 7, 44, 45, 13] [true, false, false, false, true] = some ((Ex.normal, [AV.w (AW.one (AC.fv (Nm.tab [some IntKind.i64, some IntKind.i64, none] T))), AV.w (AW.one (AC.fv (Nm.tab [some IntKind.i64, some IntKind.i64, none] U))), AV.w (AW.one (AC.int IntKind.i64 f)), AV.w (AW.one (AC.int IntKind.i64 k)), AV.w (AW.one (AC.int IntKind.i64 n)), AV.w (AW.one (AC.int IntKind.i64 (IntKind.i64.wrap (i + 1)))), AV.w (AW.one (AC.ptr 0 0))], [{ ty := 24, cs := [AC.int IntKind.i64 0, AC.int IntKind.i64 0, AC.yes true] }]), (pickL [(decide (i < n), true), (decide (0 ≤ i), true), (decide (i < lenT T), true), (chkB { lo := cel T i 0, hi := cel T i 1, u := decide (cel T i 2 = 1) } != 0, false), (decide (cel T i 2 = 1), false), (i64B (cel T i 0), true), (i64B (cel T i 1), true), (!true, false), (decide (f < 0), false), (decide (k ≤ f), true)] [0, 1, 2, 1, 2, 3, 3, 3, 4, 5, 6, 7, 7, 7, 8, 8, 8, 8, 9])) := by kernel_rfl
set_option maxRecDepth 100000 in
theorem wl0_1000010100 (T : List (List Int)) (U : List (List Int)) (f : Int) (k : Int) (n : Int) (i : Int) (rest : List (Nat × AV Nm)) : evView (ctxLp Try.prog numI (fun _ => false) libU2 fnsU []) 114 (false :: [false, true, false, true, true, true, true, true, true]) (loopAt (bodyOf Try.f8) [false, true, false, true, true, true, true, true, true]) ([(43, (.w (.one (.fv (.tab [some .i64, some .i64, none] T))))), (0, (.w (.one (.fv (.tab [some .i64, some .i64, none] U))))), (2, (.w (.one (.int .i64 f)))), (7, (.w (.one (.int .i64 k)))), (44, (.w (.one (.int .i64 n)))), (45, (.w (.one (.int .i64 i))))] ++ (ptrN 0 [13] ++ rest)) [⟨24, phW none⟩] 1 [43, 0, 2, 7, 44, 45, 13] [true, false, false, false, false, true, false, true, false, false] = some ((Ex.normal, [AV.w (AW.one (AC.fv (Nm.tab [some IntKind.i64, some IntKind.i64, none] T))), AV.w (AW.one (AC.fv (Nm.tab [some IntKind.i64, some IntKind.i64, none] U))), AV.w (AW.one (AC.int IntKind.i64 f)), AV.w (AW.one (AC.int IntKind.i64 k)), AV.w (AW.one (AC.int IntKind.i64 n)), AV.w (AW.one (AC.int IntKind.i64 (IntKind.i64.wrap (i + 1)))), AV.w (AW.one (AC.ptr 0 0))], [{ ty := 24, cs := [AC.int IntKind.i64 (bif false then if cel T i 1 > bif false then if cel T i 0 > cel T i 0 then cel T i 0 else cel T i 0 else if cel T i 0 < cel T i 0 then cel T i 0 else cel T i 0 then cel T i 1 else bif false then if cel T i 0 > cel T i 0 then cel T i 0 else cel T i 0 else if cel T i 0 < cel T i 0 then cel T i 0 else cel T i 0 else if cel T i 1 < bif false then if cel T i 0 > cel T i 0 then cel T i 0 else cel T i 0 else if cel T i 0 < cel T i 0 then cel T i 0 else cel T i 0 then cel T i 1 else bif false then if cel T i 0 > cel T i 0 then cel T i 0 else cel T i 0 else if cel T i 0 < cel T i 0 then cel T i 0 else cel T i 0), AC.int IntKind.i64 (bif true then if cel T i 1 > bif true then if cel T i 0 > cel T i 0 then cel T i 0 else cel T i 0 else if cel T i 0 < cel T i 0 then cel T i 0 else cel T i 0 then cel T i 1 else bif true then if cel T i 0 > cel T i 0 then cel T i 0 else cel T i 0 else if cel T i 0 < cel T i 0 then cel T i 0 else cel T i 0 else if cel T i 1 < bif true then if cel T i 0 > cel T i 0 then cel T i 0 else cel T i 0 else if cel T i 0 < cel T i 0 then cel T i 0 else cel T i 0 then cel T i 1 else bif true then if cel T i 0 > cel T i 0 then cel T i 0 else cel T i 0 else if cel T i 0 < cel T i 0 then cel T i 0 else cel T i 0), AC.yes false] }]), (pickL [(decide (i < n), true), (decide (0 ≤ i), true), (decide (i < lenT T), true), (chkB { lo := cel T i 0, hi := cel T i 1, u := decide (cel T i 2 = 1) } != 0, false), (decide (cel T i 2 = 1), false), (i64B (cel T i 0), true), (i64B (cel T i 1), true), (!true, false), (decide (f < 0), false), (decide (k ≤ f), false), (decide (0 < ((2 : Nat) : Int)), true), (decide (0 ≤ 0), true), (decide (lenT U ≤ 34359738368), true), (decide (spV U (cel T i 0) < IntKind.i64.wrap (k - f)), false), (true, true), (decide (IntKind.i64.wrap 1 < ((2 : Nat) : Int)), true), (decide (0 ≤ IntKind.i64.wrap 1), true), (decide (spV U (cel T i 1) < IntKind.i64.wrap (k - f)), false), (false, false), (decide (IntKind.i64.wrap (IntKind.i64.wrap 1 + 1) < ((2 : Nat) : Int)), false)] [0, 1, 2, 1, 2, 3, 3, 3, 4, 5, 6, 7, 7, 7, 8, 8, 8, 8, 9, 10, 11, 10, 12, 5, 13, 14, 15, 16, 15, 12, 6, 17, 18, 19])) := by kernel_rfl
set_option maxRecDepth 100000 in
theorem wl0_1000010110 (T : List (List Int)) (U : List (List Int)) (f : Int) (k : Int) (n : Int) (i : Int) (rest : List (Nat × AV Nm)) : evView (ctxLp Try.prog numI (fun _ => false) libU2 fnsU []) 114 (false :: [false, true, false, true, true, true, true, true, true]) (loopAt (bodyOf Try.f8) [false, true, false, true, true, true, true, true, true]) ([(43, (.w (.one (.fv (.tab [some .i64, some .i64, none] T))))), (0, (.w (.one (.fv (.tab [some .i64, some .i64, none] U))))), (2, (.w (.one (.int .i64 f)))), (7, (.w (.one (.int .i64 k)))), (44, (.w (.one (.int .i64 n)))), (45, (.w (.one (.int .i64 i))))] ++ (ptrN 0 [13] ++ rest)) [⟨24, phW none⟩] 1 [43, 0, 2, 7, 44, 45, 13] [true, false, false, false, false, true, false, true, true, false] = some ((Ex.normal, [AV.w (AW.one (AC.fv (Nm.tab [some IntKind.i64, some IntKind.i64, none] T))), AV.w (AW.one (AC.fv (Nm.tab [some IntKind.i64, some IntKind.i64, none] U))), AV.w (AW.one (AC.int IntKind.i64 f)), AV.w (AW.one (AC.int IntKind.i64 k)), AV.w (AW.one (AC.int IntKind.i64 n)), AV.w (AW.one (AC.int IntKind.i64 (IntKind.i64.wrap (i + 1)))), AV.w (AW.one (AC.ptr 0 0))], [{ ty := 24, cs := [AC.int IntKind.i64 (bif false then if cel T i 0 > cel T i 0 then cel T i 0 else cel T i 0 else if cel T i 0 < cel T i 0 then cel T i 0 else cel T i 0), AC.int IntKind.i64 (bif true then if cel T i 0 > cel T i 0 then cel T i 0 else cel T i 0 else if cel T i 0 < cel T i 0 then cel T i 0 else cel T i 0), AC.yes false] }]), (pickL [(decide (i < n), true), (decide (0 ≤ i), true), (decide (i < lenT T), true), (chkB { lo := cel T i 0, hi := cel T i 1, u := decide (cel T i 2 = 1) } != 0, false), (decide (cel T i 2 = 1), false), (i64B (cel T i 0), true), (i64B (cel T i 1), true), (!true, false), (decide (f < 0), false), (decide (k ≤ f), false), (decide (0 < ((2 : Nat) : Int)), true), (decide (0 ≤ 0), true), (decide (lenT U ≤ 34359738368), true), (decide (spV U (cel T i 0) < IntKind.i64.wrap (k - f)), false), (true, true), (decide (IntKind.i64.wrap 1 < ((2 : Nat) : Int)), true), (decide (0 ≤ IntKind.i64.wrap 1), true), (decide (spV U (cel T i 1) < IntKind.i64.wrap (k - f)), true), (decide (IntKind.i64.wrap (IntKind.i64.wrap 1 + 1) < ((2 : Nat) : Int)), false)] [0, 1, 2, 1, 2, 3, 3, 3, 4, 5, 6, 7, 7, 7, 8, 8, 8, 8, 9, 10, 11, 10, 12, 5, 13, 14, 15, 16, 15, 12, 6, 17, 18])) := by kernel_rfl
set_option maxRecDepth 100000 in
theorem wl0_1000011100 (T : List (List Int)) (U : List (List Int)) (f : Int) (k : Int) (n : Int) (i : Int) (rest : List (Nat × AV Nm)) : evView (ctxLp Try.prog numI (fun _ => false) libU2 fnsU []) 114 (false :: [false, true, false, true, true, true, true, true, true]) (loopAt (bodyOf Try.f8) [false, true, false, true, true, true, true, true, true]) ([(43, (.w (.one (.fv (.tab [some .i64, some .i64, none] T))))), (0, (.w (.one (.fv (.tab [some .i64, some .i64, none] U))))), (2, (.w (.one (.int .i64 f)))), (7, (.w (.one (.int .i64 k)))), (44, (.w (.one (.int .i64 n)))), (45, (.w (.one (.int .i64 i))))] ++ (ptrN 0 [13] ++ rest)) [⟨24, phW none⟩] 1 [43, 0, 2, 7, 44, 45, 13] [true, false, false, false, false, true, true, true, false, false] = some ((Ex.normal, [AV.w (AW.one (AC.fv (Nm.tab [some IntKind.i64, some IntKind.i64, none] T))), AV.w (AW.one (AC.fv (Nm.tab [some IntKind.i64, some IntKind.i64, none] U))), AV.w (AW.one (AC.int IntKind.i64 f)), AV.w (AW.one (AC.int IntKind.i64 k)), AV.w (AW.one (AC.int IntKind.i64 n)), AV.w (AW.one (AC.int IntKind.i64 (IntKind.i64.wrap (i + 1)))), AV.w (AW.one (AC.ptr 0 0))], [{ ty := 24, cs := [AC.int IntKind.i64 (bif false then if cel T i 1 > cel T i 1 then cel T i 1 else cel T i 1 else if cel T i 1 < cel T i 1 then cel T i 1 else cel T i 1), AC.int IntKind.i64 (bif true then if cel T i 1 > cel T i 1 then cel T i 1 else cel T i 1 else if cel T i 1 < cel T i 1 then cel T i 1 else cel T i 1), AC.yes false] }]), (pickL [(decide (i < n), true), (decide (0 ≤ i), true), (decide (i < lenT T), true), (chkB { lo := cel T i 0, hi := cel T i 1, u := decide (cel T i 2 = 1) } != 0, false), (decide (cel T i 2 = 1), false), (i64B (cel T i 0), true), (i64B (cel T i 1), true), (!true, false), (decide (f < 0), false), (decide (k ≤ f), false), (decide (0 < ((2 : Nat) : Int)), true), (decide (0 ≤ 0), true), (decide (lenT U ≤ 34359738368), true), (decide (spV U (cel T i 0) < IntKind.i64.wrap (k - f)), true), (decide (IntKind.i64.wrap 1 < ((2 : Nat) : Int)), true), (decide (0 ≤ IntKind.i64.wrap 1), true), (decide (spV U (cel T i 1) < IntKind.i64.wrap (k - f)), false), (true, true), (decide (IntKind.i64.wrap (IntKind.i64.wrap 1 + 1) < ((2 : Nat) : Int)), false)] [0, 1, 2, 1, 2, 3, 3, 3, 4, 5, 6, 7, 7, 7, 8, 8, 8, 8, 9, 10, 11, 10, 12, 5, 13, 14, 15, 14, 12, 6, 16, 17, 18])) := by kernel_rfl
set_option maxRecDepth 100000 in
theorem wl0_1000011110 (T : List (List Int)) (U : List (List Int)) (f : Int) (k : Int) (n : Int) (i : Int) (rest : List (Nat × AV Nm)) : evView (ctxLp Try.prog numI (fun _ => false) libU2 fnsU []) 114 (false :: [false, true, false, true, true, true, true, true, true]) (loopAt (bodyOf Try.f8) [false, true, false, true, true, true, true, true, true]) ([(43, (.w (.one (.fv (.tab [some .i64, some .i64, none] T))))), (0, (.w (.one (.fv (.tab [some .i64, some .i64, none] U))))), (2, (.w (.one (.int .i64 f)))), (7, (.w (.one (.int .i64 k)))), (44, (.w (.one (.int .i64 n)))), (45, (.w (.one (.int .i64 i))))] ++ (ptrN 0 [13] ++ rest)) [⟨24, phW none⟩] 1 [43, 0, 2, 7, 44, 45, 13] [true, false, false, false, false, true, true, true, true, false] = some ((Ex.normal, [AV.w (AW.one (AC.fv (Nm.tab [some IntKind.i64, some IntKind.i64, none] T))), AV.w (AW.one (AC.fv (Nm.tab [some IntKind.i64, some IntKind.i64, none] U))), AV.w (AW.one (AC.int IntKind.i64 f)), AV.w (AW.one (AC.int IntKind.i64 k)), AV.w (AW.one (AC.int IntKind.i64 n)), AV.w (AW.one (AC.int IntKind.i64 (IntKind.i64.wrap (i + 1)))), AV.w (AW.one (AC.ptr 0 0))], [{ ty := 24, cs := [AC.int IntKind.i64 0, AC.int IntKind.i64 0, AC.yes true] }]), (pickL [(decide (i < n), true), (decide (0 ≤ i), true), (decide (i < lenT T), true), (chkB { lo := cel T i 0, hi := cel T i 1, u := decide (cel T i 2 = 1) } != 0, false), (decide (cel T i 2 = 1), false), (i64B (cel T i 0), true), (i64B (cel T i 1), true), (!true, false), (decide (f < 0), false), (decide (k ≤ f), false), (decide (0 < ((2 : Nat) : Int)), true), (decide (0 ≤ 0), true), (decide (lenT U ≤ 34359738368), true), (decide (spV U (cel T i 0) < IntKind.i64.wrap (k - f)), true), (decide (IntKind.i64.wrap 1 < ((2 : Nat) : Int)), true), (decide (0 ≤ IntKind.i64.wrap 1), true), (decide (spV U (cel T i 1) < IntKind.i64.wrap (k - f)), true), (decide (IntKind.i64.wrap (IntKind.i64.wrap 1 + 1) < ((2 : Nat) : Int)), false)] [0, 1, 2, 1, 2, 3, 3, 3, 4, 5, 6, 7, 7, 7, 8, 8, 8, 8, 9, 10, 11, 10, 12, 5, 13, 14, 15, 14, 12, 6, 16, 17])) := by kernel_rfl
set_option maxRecDepth 100000 in
theorem wl1_0 (T : List (List Int)) (U : List (List Int)) (f : Int) (k : Int) (n : Int) (i : Int) (rest : List (Nat × AV Nm)) (a : Int) (b : Int) : evView (ctxLp Try.prog numI (fun _ => false) libU2 fnsU []) 114 (false :: [false, true, false, true, true, true, true, true, true]) (loopAt (bodyOf Try.f8) [false, true, false, true, true, true, true, true, true]) ([(43, (.w (.one (.fv (.tab [some .i64, some .i64, none] T))))), (0, (.w (.one (.fv (.tab [some .i64, some .i64, none] U))))), (2, (.w (.one (.int .i64 f)))), (7, (.w (.one (.int .i64 k)))), (44, (.w (.one (.int .i64 n)))), (45, (.w (.one (.int .i64 i))))] ++ (ptrN 0 [13] ++ rest)) [⟨24, phW (some (a, b))⟩] 1 [43, 0, 2, 7, 44, 45, 13] [false] = some ((Ex.exit 2, [AV.w (AW.one (AC.fv (Nm.tab [some IntKind.i64, some IntKind.i64, none] T))), AV.w (AW.one (AC.fv (Nm.tab [some IntKind.i64, some IntKind.i64, none] U))), AV.w (AW.one (AC.int IntKind.i64 f)), AV.w (AW.one (AC.int IntKind.i64 k)), AV.w (AW.one (AC.int IntKind.i64 n)), AV.w (AW.one (AC.int IntKind.i64 i)), AV.w (AW.one (AC.ptr 0 0))], [{ ty := 24, cs := [AC.int IntKind.i64 a, AC.int IntKind.i64 b, AC.yes false] }]), (pickL [(decide (i < n), false)] [0])) := by kernel_rfl
set_option maxRecDepth 100000 in
theorem wl1_11 (T : List (List Int)) (U : List (List Int)) (f : Int) (k : Int) (n : Int) (i : Int) (rest : List (Nat × AV Nm)) (a : Int) (b : Int) : evView (ctxLp Try.prog numI (fun _ => false) libU2 fnsU []) 114 (false :: [false, true, false, true, true, true, true, true, true]) (loopAt (bodyOf Try.f8) [false, true, false, true, true, true, true, true, true]) ([(43, (.w (.one (.fv (.tab [some .i64, some .i64, none] T))))), (0, (.w (.one (.fv (.tab [some .i64, some .i64, none] U))))), (2, (.w (.one (.int .i64 f)))), (7, (.w (.one (.int .i64 k)))), (44, (.w (.one (.int .i64 n)))), (45, (.w (.one (.int .i64 i))))] ++ (ptrN 0 [13] ++ rest)) [⟨24, phW (some (a, b))⟩] 1 [43, 0, 2, 7, 44, 45, 13] [true, true] = some ((Ex.normal, [AV.w (AW.one (AC.fv (Nm.tab [some IntKind.i64, some IntKind.i64, none] T))), AV.w (AW.one (AC.fv (Nm.tab [some IntKind.i64, some IntKind.i64, none] U))), AV.w (AW.one (AC.int IntKind.i64 f)), AV.w (AW.one (AC.int IntKind.i64 k)), AV.w (AW.one (AC.int IntKind.i64 n)), AV.w (AW.one (AC.int IntKind.i64 (IntKind.i64.wrap (i + 1)))), AV.w (AW.one (AC.ptr 0 0))], [{ ty := 24, cs := [AC.int IntKind.i64 a, AC.int IntKind.i64 b, AC.yes false] }]), (pickL [(decide (i < n), true), (decide (0 ≤ i), true), (decide (i < lenT T), true), (chkB { lo := cel T i 0, hi := cel T i 1, u := decide (cel T i 2 = 1) } != 0, true), (true, true), (!false, true)] [0, 1, 2, 1, 2, 3, 3, 3, 4, 5, 5, 5, 4, 4, 4, 4, 4])) := by kernel_rfl
set_option maxRecDepth 100000 in
theorem wl1_101 (T : List (List Int)) (U : List (List Int)) (f : Int) (k : Int) (n : Int) (i : Int) (rest : List (Nat × AV Nm)) (a : Int) (b : Int) : evView (ctxLp Try.prog numI (fun _ => false) libU2 fnsU []) 114 (false :: [false, true, false, true, true, true, true, true, true]) (loopAt (bodyOf Try.f8) [false, true, false, true, true, true, true, true, true]) ([(43, (.w (.one (.fv (.tab [some .i64, some .i64, none] T))))), (0, (.w (.one (.fv (.tab [some .i64, some .i64, none] U))))), (2, (.w (.one (.int .i64 f)))), (7, (.w (.one (.int .i64 k)))), (44, (.w (.one (.int .i64 n)))), (45, (.w (.one (.int .i64 i))))] ++ (ptrN 0 [13] ++ rest)) [⟨24, phW (some (a, b))⟩] 1 [43, 0, 2, 7, 44, 45, 13] [true, false, true] = some ((Ex.normal, [AV.w (AW.one (AC.fv (Nm.tab [some IntKind.i64, some IntKind.i64, none] T))), AV.w (AW.one (AC.fv (Nm.tab [some IntKind.i64, some IntKind.i64, none] U))), AV.w (AW.one (AC.int IntKind.i64 f)), AV.w (AW.one (AC.int IntKind.i64 k)), AV.w (AW.one (AC.int IntKind.i64 n)), AV.w (AW.one (AC.int IntKind.i64 (IntKind.i64.wrap (i + 1)))), AV.w (AW.one (AC.ptr 0 0))], [{ ty := 24, cs := [AC.int IntKind.i64 a, AC.int IntKind.i64 b, AC.yes false] }]), (pickL [(decide (i < n), true), (decide (0 ≤ i), true), (decide (i < lenT T), true), (chkB { lo := cel T i 0, hi := cel T i 1, u := decide (cel T i 2 = 1) } != 0, false), (decide (cel T i 2 = 1), true), (!false, true), (true, true)] [0, 1, 2, 1, 2, 3, 3, 3, 4, 5, 5, 5, 6, 6, 6, 6, 6])) := by kernel_rfl
set_option maxRecDepth 100000 in
theorem wl1_1001 (T : List (List Int)) (U : List (List Int)) (f : Int) (k : Int) (n : Int) (i : Int) (rest : List (Nat × AV Nm)) (a : Int) (b : Int) : evView (ctxLp Try.prog numI (fun _ => false) libU2 fnsU []) 114 (false :: [false, true, false, true, true, true, true, true, true]) (loopAt (bodyOf Try.f8) [false, true, false, true, true, true, true, true, true]) ([(43, (.w (.one (.fv (.tab [some .i64, some .i64, none] T))))), (0, (.w (.one (.fv (.tab [some .i64, some .i64, none] U))))), (2, (.w (.one (.int .i64 f)))), (7, (.w (.one (.int .i64 k)))), (44, (.w (.one (.int .i64 n)))), (45, (.w (.one (.int .i64 i))))] ++ (ptrN 0 [13] ++ rest)) [⟨24, phW (some (a, b))⟩] 1 [43, 0, 2, 7, 44, 45, 13] [true, false, false, true] = some ((Ex.normal, [AV.w (AW.one (AC.fv (Nm.tab [some IntKind.i64, some IntKind.i64, none] T))), AV.w (AW.one (AC.fv (Nm.tab [some IntKind.i64, some IntKind.i64, none] U))), AV.w (AW.one (AC.int IntKind.i64 f)), AV.w (AW.one (AC.int IntKind.i64 k)), AV.w (AW.one (AC.int IntKind.i64 n)), AV.w (AW.one (AC.int IntKind.i64 (IntKind.i64.wrap (i + 1)))), AV.w (AW.one (AC.ptr 0 0))], [{ ty := 24, cs := [AC.int IntKind.i64 a, AC.int IntKind.i64 b, AC.yes false] }]), (pickL [(decide (i < n), true), (decide (0 ≤ i), true), (decide (i < lenT T), true), (chkB { lo := cel T i 0, hi := cel T i 1, u := decide (cel T i 2 = 1) } != 0, false), (decide (cel T i 2 = 1), false), (i64B (cel T i 0), true), (i64B (cel T i 1), true), (!true, false), (decide (f < 0), true), (true, true)] [0, 1, 2, 1, 2, 3, 3, 3, 4, 5, 6, 7, 7, 7, 8, 8, 8, 8, 9])) := by kernel_rfl
set_option maxRecDepth 100000 in
theorem wl1_10001 (T : List (List Int)) (U : List (List Int)) (f : Int) (k : Int) (n : Int) (i : Int) (rest : List (Nat × AV Nm)) (a : Int) (b : Int) : evView (ctxLp Try.prog numI (fun _ => false) libU2 fnsU []) 114 (false :: [false, true, false, true, true, true, true, true, true]) (loopAt (bodyOf Try.f8) [false, true, false, true, true, true, true, true, true]) ([(43, (.w (.one (.fv (.tab [some .i64, some .i64, none] T))))), (0, (.w (.one (.fv (.tab [some .i64, some .i64, none] U))))), (2, (.w (.one (.int .i64 f)))), (7, (.w (.one (.int .i64 k)))), (44, (.w (.one (.int .i64 n)))), (45, (.w (.one (.int .i64 i))))] ++ (ptrN 0 [13] ++ rest)) [⟨24, phW (some (a, b))⟩] 1 [43, 0, 2, 7, 44, 45, 13] [true, false, false, false, true] = some ((Ex.normal, [AV.w (AW.one (AC.fv (Nm.tab [some IntKind.i64, some IntKind.i64, none] T))), AV.w (AW.one (AC.fv (Nm.tab [some IntKind.i64, some IntKind.i64, none] U))), AV.w (AW.one (AC.int IntKind.i64 f)), AV.w (AW.one (AC.int IntKind.i64 k)), AV.w (AW.one (AC.int IntKind.i64 n)), AV.w (AW.one (AC.int IntKind.i64 (IntKind.i64.wrap (i + 1)))), AV.w (AW.one (AC.ptr 0 0))], [{ ty := 24, cs := [AC.int IntKind.i64 a, AC.int IntKind.i64 b, AC.yes false] }]), (pickL [(decide (i < n), true), (decide (0 ≤ i), true), (decide (i < lenT T), true), (chkB { lo := cel T i 0, hi := cel T i 1, u := decide (cel T i 2 = 1) } != 0, false), (decide (cel T i 2 = 1), false), (i64B (cel T i 0), true), (i64B (cel T i 1), true), (!true, false), (decide (f < 0), false), (decide (k ≤ f), true)] [0, 1, 2, 1, 2, 3, 3, 3, 4, 5, 6, 7, 7, 7, 8, 8, 8, 8, 9])) := by kernel_rfl
set_option maxRecDepth 100000 in
theorem wl1_1000010100 (T : List (List Int)) (U : List (List Int)) (f : Int) (k : Int) (n : Int) (i : Int) (rest : List (Nat × AV Nm)) (a : Int) (b : Int) : evView (ctxLp Try.prog numI (fun _ => false) libU2 fnsU []) 114 (false :: [false, true, false, true, true, true, true, true, true]) (loopAt (bodyOf Try.f8) [false, true, false, true, true, true, true, true, true]) ([(43, (.w (.one (.fv (.tab [some .i64, some .i64, none] T))))), (0, (.w (.one (.fv (.tab [some .i64, some .i64, none] U))))), (2, (.w (.one (.int .i64 f)))), (7, (.w (.one (.int .i64 k)))), (44, (.w (.one (.int .i64 n)))), (45, (.w (.one (.int .i64 i))))] ++ (ptrN 0 [13] ++ rest)) [⟨24, phW (some (a, b))⟩] 1 [43, 0, 2, 7, 44, 45, 13] [true, false, false, false, false, true, false, true, false, false] = some ((Ex.normal, [AV.w (AW.one (AC.fv (Nm.tab [some IntKind.i64, some IntKind.i64, none] T))), AV.w (AW.one (AC.fv (Nm.tab [some IntKind.i64, some IntKind.i64, none] U))), AV.w (AW.one (AC.int IntKind.i64 f)), AV.w (AW.one (AC.int IntKind.i64 k)), AV.w (AW.one (AC.int IntKind.i64 n)), AV.w (AW.one (AC.int IntKind.i64 (IntKind.i64.wrap (i + 1)))), AV.w (AW.one (AC.ptr 0 0))], [{ ty := 24, cs := [AC.int IntKind.i64 (bif false then if cel T i 1 > bif false then if cel T i 0 > a then cel T i 0 else a else if cel T i 0 < a then cel T i 0 else a then cel T i 1 else bif false then if cel T i 0 > a then cel T i 0 else a else if cel T i 0 < a then cel T i 0 else a else if cel T i 1 < bif false then if cel T i 0 > a then cel T i 0 else a else if cel T i 0 < a then cel T i 0 else a then cel T i 1 else bif false then if cel T i 0 > a then cel T i 0 else a else if cel T i 0 < a then cel T i 0 else a), AC.int IntKind.i64 (bif true then if cel T i 1 > bif true then if cel T i 0 > b then cel T i 0 else b else if cel T i 0 < b then cel T i 0 else b then cel T i 1 else bif true then if cel T i 0 > b then cel T i 0 else b else if cel T i 0 < b then cel T i 0 else b else if cel T i 1 < bif true then if cel T i 0 > b then cel T i 0 else b else if cel T i 0 < b then cel T i 0 else b then cel T i 1 else bif true then if cel T i 0 > b then cel T i 0 else b else if cel T i 0 < b then cel T i 0 else b), AC.yes false] }]), (pickL [(decide (i < n), true), (decide (0 ≤ i), true), (decide (i < lenT T), true), (chkB { lo := cel T i 0, hi := cel T i 1, u := decide (cel T i 2 = 1) } != 0, false), (decide (cel T i 2 = 1), false), (i64B (cel T i 0), true), (i64B (cel T i 1), true), (!true, false), (decide (f < 0), false), (decide (k ≤ f), false), (decide (0 < ((2 : Nat) : Int)), true), (decide (0 ≤ 0), true), (decide (lenT U ≤ 34359738368), true), (decide (spV U (cel T i 0) < IntKind.i64.wrap (k - f)), false), (false, false), (decide (IntKind.i64.wrap 1 < ((2 : Nat) : Int)), true), (decide (0 ≤ IntKind.i64.wrap 1), true), (decide (spV U (cel T i 1) < IntKind.i64.wrap (k - f)), false), (decide (IntKind.i64.wrap (IntKind.i64.wrap 1 + 1) < ((2 : Nat) : Int)), false)] [0, 1, 2, 1, 2, 3, 3, 3, 4, 5, 6, 7, 7, 7, 8, 8, 8, 8, 9, 10, 11, 10, 12, 5, 13, 14, 15, 16, 15, 12, 6, 17, 14, 18])) := by kernel_rfl
set_option maxRecDepth 100000 in
theorem wl1_1000010110 (T : List (List Int)) (U : List (List Int)) (f : Int) (k : Int) (n : Int) (i : Int) (rest : List (Nat × AV Nm)) (a : Int) (b : Int) : evView (ctxLp Try.prog numI (fun _ => false) libU2 fnsU []) 114 (false :: [false, true, false, true, true, true, true, true, true]) (loopAt (bodyOf Try.f8) [false, true, false, true, true, true, true, true, true]) ([(43, (.w (.one (.fv (.tab [some .i64, some .i64, none] T))))), (0, (.w (.one (.fv (.tab [some .i64, some .i64, none] U))))), (2, (.w (.one (.int .i64 f)))), (7, (.w (.one (.int .i64 k)))), (44, (.w (.one (.int .i64 n)))), (45, (.w (.one (.int .i64 i))))] ++ (ptrN 0 [13] ++ rest)) [⟨24, phW (some (a, b))⟩] 1 [43, 0, 2, 7, 44, 45, 13] [true, false, false, false, false, true, false, true, true, false] = some ((Ex.normal, [AV.w (AW.one (AC.fv (Nm.tab [some IntKind.i64, some IntKind.i64, none] T))), AV.w (AW.one (AC.fv (Nm.tab [some IntKind.i64, some IntKind.i64, none] U))), AV.w (AW.one (AC.int IntKind.i64 f)), AV.w (AW.one (AC.int IntKind.i64 k)), AV.w (AW.one (AC.int IntKind.i64 n)), AV.w (AW.one (AC.int IntKind.i64 (IntKind.i64.wrap (i + 1)))), AV.w (AW.one (AC.ptr 0 0))], [{ ty := 24, cs := [AC.int IntKind.i64 (bif false then if cel T i 0 > a then cel T i 0 else a else if cel T i 0 < a then cel T i 0 else a), AC.int IntKind.i64 (bif true then if cel T i 0 > b then cel T i 0 else b else if cel T i 0 < b then cel T i 0 else b), AC.yes false] }]), (pickL [(decide (i < n), true), (decide (0 ≤ i), true), (decide (i < lenT T), true), (chkB { lo := cel T i 0, hi := cel T i 1, u := decide (cel T i 2 = 1) } != 0, false), (decide (cel T i 2 = 1), false), (i64B (cel T i 0), true), (i64B (cel T i 1), true), (!true, false), (decide (f < 0), false), (decide (k ≤ f), false), (decide (0 < ((2 : Nat) : Int)), true), (decide (0 ≤ 0), true), (decide (lenT U ≤ 34359738368), true), (decide (spV U (cel T i 0) < IntKind.i64.wrap (k - f)), false), (false, false), (decide (IntKind.i64.wrap 1 < ((2 : Nat) : Int)), true), (decide (0 ≤ IntKind.i64.wrap 1), true), (decide (spV U (cel T i 1) < IntKind.i64.wrap (k - f)), true), (decide (IntKind.i64.wrap (IntKind.i64.wrap 1 + 1) < ((2 : Nat) : Int)), false)] [0, 1, 2, 1, 2, 3, 3, 3, 4, 5, 6, 7, 7, 7, 8, 8, 8, 8, 9, 10, 11, 10, 12, 5, 13, 14, 15, 16, 15, 12, 6, 17, 18])) := by kernel_rfl
set_option maxRecDepth 100000 in
theorem wl1_1000011100 (T : List (List Int)) (U : List (List Int)) (f : Int) (k : Int) (n : Int) (i : Int) (rest : List (Nat × AV Nm)) (a : Int) (b : Int) : evView (ctxLp Try.prog numI (fun _ => false) libU2 fnsU []) 114 (false :: [false, true, false, true, true, true, true, true, true]) (loopAt (bodyOf Try.f8) [false, true, false, true, true, true, true, true, true]) ([(43, (.w (.one (.fv (.tab [some .i64, some .i64, none] T))))), (0, (.w (.one (.fv (.tab [some .i64, some .i64, none] U))))), (2, (.w (.one (.int .i64 f)))), (7, (.w (.one (.int .i64 k)))), (44, (.w (.one (.int .i64 n)))), (45, (.w (.one (.int .i64 i))))] ++ (ptrN 0 [13] ++ rest)) [⟨24, phW (some (a, b))⟩] 1 [43, 0, 2, 7, 44, 45, 13] [true, false, false, false, false, true, true, true, false, false] = some ((Ex.normal, [AV.w (AW.one (AC.fv (Nm.tab [some IntKind.i64, some IntKind.i64, none] T))), AV.w (AW.one (AC.fv (Nm.tab [some IntKind.i64, some IntKind.i64, none] U))), AV.w (AW.one (AC.int IntKind.i64 f)), AV.w (AW.one (AC.int IntKind.i64 k)), AV.w (AW.one (AC.int IntKind.i64 n)), AV.w (AW.one (AC.int IntKind.i64 (IntKind.i64.wrap (i + 1)))), AV.w (AW.one (AC.ptr 0 0))], [{ ty := 24, cs := [AC.int IntKind.i64 (bif false then if cel T i 1 > a then cel T i 1 else a else if cel T i 1 < a then cel T i 1 else a), AC.int IntKind.i64 (bif true then if cel T i 1 > b then cel T i 1 else b else if cel T i 1 < b then cel T i 1 else b), AC.yes false] }]), (pickL [(decide (i < n), true), (decide (0 ≤ i), true), (decide (i < lenT T), true), (chkB { lo := cel T i 0, hi := cel T i 1, u := decide (cel T i 2 = 1) } != 0, false), (decide (cel T i 2 = 1), false), (i64B (cel T i 0), true), (i64B (cel T i 1), true), (!true, false), (decide (f < 0), false), (decide (k ≤ f), false), (decide (0 < ((2 : Nat) : Int)), true), (decide (0 ≤ 0), true), (decide (lenT U ≤ 34359738368), true), (decide (spV U (cel T i 0) < IntKind.i64.wrap (k - f)), true), (decide (IntKind.i64.wrap 1 < ((2 : Nat) : Int)), true), (decide (0 ≤ IntKind.i64.wrap 1), true), (decide (spV U (cel T i 1) < IntKind.i64.wrap (k - f)), false), (false, false), (decide (IntKind.i64.wrap (IntKind.i64.wrap 1 + 1) < ((2 : Nat) : Int)), false)] [0, 1, 2, 1, 2, 3, 3, 3, 4, 5, 6, 7, 7, 7, 8, 8, 8, 8, 9, 10, 11, 10, 12, 5, 13, 14, 15, 14, 12, 6, 16, 17, 18])) := by kernel_rfl
set_option maxRecDepth 100000 in
theorem wl1_1000011110 (T : List (List Int)) (U : List (List Int)) (f : Int) (k : Int) (n : Int) (i : Int) (rest : List (Nat × AV Nm)) (a : Int) (b : Int) : evView (ctxLp Try.prog numI (fun _ => false) libU2 fnsU []) 114 (false :: [false, true, false, true, true, true, true, true, true]) (loopAt (bodyOf Try.f8) [false, true, false, true, true, true, true, true, true]) ([(43, (.w (.one (.fv (.tab [some .i64, some .i64, none] T))))), (0, (.w (.one (.fv (.tab [some .i64, some .i64, none] U))))), (2, (.w (.one (.int .i64 f)))), (7, (.w (.one (.int .i64 k)))), (44, (.w (.one (.int .i64 n)))), (45, (.w (.one (.int .i64 i))))] ++ (ptrN 0 [13] ++ rest)) [⟨24, phW (some (a, b))⟩] 1 [43, 0, 2, 7, 44, 45, 13] [true, false, false, false, false, true, true, true, true, false] = some ((Ex.normal, [AV.w (AW.one (AC.fv (Nm.tab [some IntKind.i64, some IntKind.i64, none] T))), AV.w (AW.one (AC.fv (Nm.tab [some IntKind.i64, some IntKind.i64, none] U))), AV.w (AW.one (AC.int IntKind.i64 f)), AV.w (AW.one (AC.int IntKind.i64 k)), AV.w (AW.one (AC.int IntKind.i64 n)), AV.w (AW.one (AC.int IntKind.i64 (IntKind.i64.wrap (i + 1)))), AV.w (AW.one (AC.ptr 0 0))], [{ ty := 24, cs := [AC.int IntKind.i64 a, AC.int IntKind.i64 b, AC.yes false] }]), (pickL [(decide (i < n), true), (decide (0 ≤ i), true), (decide (i < lenT T), true), (chkB { lo := cel T i 0, hi := cel T i 1, u := decide (cel T i 2 = 1) } != 0, false), (decide (cel T i 2 = 1), false), (i64B (cel T i 0), true), (i64B (cel T i 1), true), (!true, false), (decide (f < 0), false), (decide (k ≤ f), false), (decide (0 < ((2 : Nat) : Int)), true), (decide (0 ≤ 0), true), (decide (lenT U ≤ 34359738368), true), (decide (spV U (cel T i 0) < IntKind.i64.wrap (k - f)), true), (decide (IntKind.i64.wrap 1 < ((2 : Nat) : Int)), true), (decide (0 ≤ IntKind.i64.wrap 1), true), (decide (spV U (cel T i 1) < IntKind.i64.wrap (k - f)), true), (decide (IntKind.i64.wrap (IntKind.i64.wrap 1 + 1) < ((2 : Nat) : Int)), false)] [0, 1, 2, 1, 2, 3, 3, 3, 4, 5, 6, 7, 7, 7, 8, 8, 8, 8, 9, 10, 11, 10, 12, 5, 13, 14, 15, 14, 12, 6, 16, 17])) := by kernel_rfl
structure wlT where
  T : List (List Int)
  U : List (List Int)
  f : Int
  k : Int
  w : Option (Int × Int)
  n : Int
  i : Int
def wlP (T : List (List Int)) (U : List (List Int)) (f : Int) (k : Int) (w : Option (Int × Int)) (n : Int) (i : Int) : Prop := 0 ≤ i ∧ i ≤ n ∧ n = lenT T ∧ n ≤ 34359738368 ∧ 0 ≤ k ∧ k ≤ 34359738368 ∧ i64B f = true ∧ T = U
instance (T : List (List Int)) (U : List (List Int)) (f : Int) (k : Int) (w : Option (Int × Int)) (n : Int) (i : Int) : Decidable (wlP T U f k w n i) := by unfold wlP; infer_instance
def wlTm (T : List (List Int)) (U : List (List Int)) (f : Int) (k : Int) (w : Option (Int × Int)) (n : Int) (i : Int) : List (Nat × AV Nm) := [(43, (.w (.one (.fv (.tab [some .i64, some .i64, none] T))))), (0, (.w (.one (.fv (.tab [some .i64, some .i64, none] U))))), (2, (.w (.one (.int .i64 f)))), (7, (.w (.one (.int .i64 k)))), (44, (.w (.one (.int .i64 n)))), (45, (.w (.one (.int .i64 i))))]
def wlS : LpSt wlT Nm where
  ps := [13]
  tm := fun t => wlTm t.T t.U t.f t.k t.w t.n t.i
  hp := fun t => [⟨24, phW t.w⟩]
def wlNx (T : List (List Int)) (U : List (List Int)) (f : Int) (k : Int) (w : Option (Int × Int)) (n : Int) (i : Int) : Nxt wlT Nm := if i < n then .go ⟨T, U, f, k, stW U f k w (rowU T i), n, i + 1⟩ else .out (.exit 2) (wlTm T U f k w n i) [⟨24, phW w⟩]
def wlStep (t : wlT) : Nxt wlT Nm := if wlP t.T t.U t.f t.k t.w t.n t.i then wlNx t.T t.U t.f t.k t.w t.n t.i else .bad
theorem wl_go {T : List (List Int)} {U : List (List Int)} {f : Int} {k : Int} {w : Option (Int × Int)} {n : Int} {i : Int} (h : wlP T U f k w n i) : wlStep ⟨T, U, f, k, w, n, i⟩ = wlNx T U f k w n i := if_pos h
set_option maxRecDepth 100000 in
set_option maxHeartbeats 4000000 in
theorem wl_round (t : wlT) (hb : (wlStep t).isBad = false) (rest : List (Nat × AV Nm)) : ∃ fuel path r, evC (ctxLp Try.prog numI (fun _ => false) libU2 fnsU []) fuel 114 (false :: [false, true, false, true, true, true, true, true, true]) (loopAt (bodyOf Try.f8) [false, true, false, true, true, true, true, true, true]) (wlS.tm t ++ (ptrN 0 wlS.ps ++ rest)) (numb 0 (wlS.hp t)) 1 path = some r ∧ (∀ p ∈ r.cd, p.1 = p.2) ∧ Gives wlS 1 r (wlStep t) := by
  obtain ⟨T, U, f, k, w, n, i⟩ := t
  by_cases ok : wlP T U f k w n i
  · rw [wl_go ok]
    clear hb
    unfold wlNx
    obtain ⟨h1, h2, rfl, h4, h5, h6, h7, rfl⟩ := ok
    obtain ⟨j1, j2⟩ := i64B_iff.1 h7
    have z0 : decide ((0 : Int) ≤ 0) = true := rfl
    have z1 : decide (0 ≤ IntKind.i64.wrap 1) = true := by decide
    have e0 : decide (0 ≤ i) = true := decide_eq_true h1
    have e1 : i < lenT T → IntKind.i64.wrap (i + 1) = i + 1 := fun _ => v64 (by omega) (by omega)
    cases w with
    | none =>
      cases k0 : (decide (i < lenT T)) with
      | true =>
        cases k1 : (chkB { lo := cel T i 0, hi := cel T i 1, u := decide (cel T i 2 = 1) } != 0) with
        | true =>
          have hk : knB (Fs.toBd (rowU T i)) = false := kn_bad (b := Fs.toBd (rowU T i)) k1
          rw [if_pos (of_decide_eq_true k0)]
          have hE : stW T f k none (rowU T i) = none := if_neg (by rw [hk]; simp)
          rw [hE]
          have t0 : decide (lenT T ≤ 34359738368) = true := decide_eq_true h4
          have L := wl0_11 T T f k (lenT T) i rest
          rw [e1 (of_decide_eq_true k0)] at L
          refine round_go L (pickL_ok ?_ _) rfl rfl rfl rfl
          repeat' (first | exact cd_nil | refine cd_cons ?_ ?_)
          all_goals first | rfl | with_reducible assumption | exact eqB _ | (apply Dl.sz; (repeat' (first | with_reducible assumption)); omega)
        | false =>
          cases k2 : (decide (cel T i 2 = 1)) with
          | true =>
            have hk : knB (Fs.toBd (rowU T i)) = false := kn_u (b := Fs.toBd (rowU T i)) k2
            rw [if_pos (of_decide_eq_true k0)]
            have hE : stW T f k none (rowU T i) = none := if_neg (by rw [hk]; simp)
            rw [hE]
            have t0 : decide (lenT T ≤ 34359738368) = true := decide_eq_true h4
            have L := wl0_101 T T f k (lenT T) i rest
            rw [e1 (of_decide_eq_true k0)] at L
            refine round_go L (pickL_ok ?_ _) rfl rfl rfl rfl
            repeat' (first | exact cd_nil | refine cd_cons ?_ ?_)
            all_goals first | rfl | with_reducible assumption | exact eqB _ | (apply Dl.sz; (repeat' (first | with_reducible assumption)); omega)
          | false =>
            cases k3 : (decide (f < 0)) with
            | true =>
              have hk : knB (Fs.toBd (rowU T i)) = true := kn_ok (b := Fs.toBd (rowU T i)) k1 k2
              obtain ⟨q1, q2⟩ := i64_kn hk
              replace q1 : i64B (cel T i 0) = true := q1
              replace q2 : i64B (cel T i 1) = true := q2
              have d1 := Dl.i64 q1
              have d2 := Dl.i64 q2
              rw [if_pos (of_decide_eq_true k0)]
              have hE : stW T f k none (rowU T i) = none := if_neg (by
                intro hc
                have := of_decide_eq_true k3
                omega)
              rw [hE]
              have t0 : decide (lenT T ≤ 34359738368) = true := decide_eq_true h4
              have L := wl0_1001 T T f k (lenT T) i rest
              rw [e1 (of_decide_eq_true k0)] at L
              refine round_go L (pickL_ok ?_ _) rfl rfl rfl rfl
              repeat' (first | exact cd_nil | refine cd_cons ?_ ?_)
              all_goals first | rfl | with_reducible assumption | exact eqB _ | (apply Dl.sz; (repeat' (first | with_reducible assumption)); omega)
            | false =>
              cases k4 : (decide (k ≤ f)) with
              | true =>
                have hk : knB (Fs.toBd (rowU T i)) = true := kn_ok (b := Fs.toBd (rowU T i)) k1 k2
                obtain ⟨q1, q2⟩ := i64_kn hk
                replace q1 : i64B (cel T i 0) = true := q1
                replace q2 : i64B (cel T i 1) = true := q2
                have d1 := Dl.i64 q1
                have d2 := Dl.i64 q2
                rw [if_pos (of_decide_eq_true k0)]
                have hE : stW T f k none (rowU T i) = none := if_neg (by
                  intro hc
                  have := of_decide_eq_false k3
                  have := of_decide_eq_true k4
                  omega)
                rw [hE]
                have t0 : decide (lenT T ≤ 34359738368) = true := decide_eq_true h4
                have L := wl0_10001 T T f k (lenT T) i rest
                rw [e1 (of_decide_eq_true k0)] at L
                refine round_go L (pickL_ok ?_ _) rfl rfl rfl rfl
                repeat' (first | exact cd_nil | refine cd_cons ?_ ?_)
                all_goals first | rfl | with_reducible assumption | exact eqB _ | (apply Dl.sz; (repeat' (first | with_reducible assumption)); omega)
              | false =>
                cases k5 : (decide (spV T (cel T i 0) < IntKind.i64.wrap (k - f))) with
                | true =>
                  cases k6 : (decide (spV T (cel T i 1) < IntKind.i64.wrap (k - f))) with
                  | true =>
                    have hk : knB (Fs.toBd (rowU T i)) = true := kn_ok (b := Fs.toBd (rowU T i)) k1 k2
                    obtain ⟨q1, q2⟩ := i64_kn hk
                    replace q1 : i64B (cel T i 0) = true := q1
                    replace q2 : i64B (cel T i 1) = true := q2
                    have d1 := Dl.i64 q1
                    have d2 := Dl.i64 q2
                    rw [if_pos (of_decide_eq_true k0)]
                    have f0 := of_decide_eq_false k3
                    have f1 := of_decide_eq_false k4
                    have g0 := of_decide_eq_true k5
                    have g1 := of_decide_eq_true k6
                    have ew : IntKind.i64.wrap (k - f) = k - f := v64 (by omega) (by omega)
                    rw [ew, cel_row] at g0 g1
                    have hA : putW T (k - f) none ((rowU T i).getD 0 0) = none := if_pos g0
                    have hB : putW T (k - f) none ((rowU T i).getD 1 0) = none := if_pos g1
                    have hE : stW T f k none (rowU T i) = none := (if_pos ⟨hk, by omega, by omega⟩).trans (by rw [hA, hB])
                    rw [hE]
                    have t0 : decide (lenT T ≤ 34359738368) = true := decide_eq_true h4
                    have L := wl0_1000011110 T T f k (lenT T) i rest
                    rw [e1 (of_decide_eq_true k0)] at L
                    refine round_go L (pickL_ok ?_ _) rfl rfl rfl rfl
                    repeat' (first | exact cd_nil | refine cd_cons ?_ ?_)
                    all_goals first | rfl | with_reducible assumption | exact eqB _ | (apply Dl.sz; (repeat' (first | with_reducible assumption)); omega)
                  | false =>
                    have hk : knB (Fs.toBd (rowU T i)) = true := kn_ok (b := Fs.toBd (rowU T i)) k1 k2
                    obtain ⟨q1, q2⟩ := i64_kn hk
                    replace q1 : i64B (cel T i 0) = true := q1
                    replace q2 : i64B (cel T i 1) = true := q2
                    have d1 := Dl.i64 q1
                    have d2 := Dl.i64 q2
                    rw [if_pos (of_decide_eq_true k0)]
                    have f0 := of_decide_eq_false k3
                    have f1 := of_decide_eq_false k4
                    have g0 := of_decide_eq_true k5
                    have g1 := of_decide_eq_false k6
                    have ew : IntKind.i64.wrap (k - f) = k - f := v64 (by omega) (by omega)
                    rw [ew, cel_row] at g0 g1
                    have hA : putW T (k - f) none ((rowU T i).getD 0 0) = none := if_pos g0
                    have hB : putW T (k - f) none ((rowU T i).getD 1 0) = (some (mnW (cel T i 1) (cel T i 1), mxW (cel T i 1) (cel T i 1))) := if_neg g1
                    have hE : stW T f k none (rowU T i) = (some (mnW (cel T i 1) (cel T i 1), mxW (cel T i 1) (cel T i 1))) := (if_pos ⟨hk, by omega, by omega⟩).trans (by rw [hA, hB])
                    rw [hE]
                    have t0 : decide (lenT T ≤ 34359738368) = true := decide_eq_true h4
                    have L := wl0_1000011100 T T f k (lenT T) i rest
                    rw [e1 (of_decide_eq_true k0)] at L
                    refine round_go L (pickL_ok ?_ _) rfl rfl rfl rfl
                    repeat' (first | exact cd_nil | refine cd_cons ?_ ?_)
                    all_goals first | rfl | with_reducible assumption | exact eqB _ | (apply Dl.sz; (repeat' (first | with_reducible assumption)); omega)
                | false =>
                  cases k7 : (decide (spV T (cel T i 1) < IntKind.i64.wrap (k - f))) with
                  | true =>
                    have hk : knB (Fs.toBd (rowU T i)) = true := kn_ok (b := Fs.toBd (rowU T i)) k1 k2
                    obtain ⟨q1, q2⟩ := i64_kn hk
                    replace q1 : i64B (cel T i 0) = true := q1
                    replace q2 : i64B (cel T i 1) = true := q2
                    have d1 := Dl.i64 q1
                    have d2 := Dl.i64 q2
                    rw [if_pos (of_decide_eq_true k0)]
                    have f0 := of_decide_eq_false k3
                    have f1 := of_decide_eq_false k4
                    have g0 := of_decide_eq_false k5
                    have g1 := of_decide_eq_true k7
                    have ew : IntKind.i64.wrap (k - f) = k - f := v64 (by omega) (by omega)
                    rw [ew, cel_row] at g0 g1
                    have hA : putW T (k - f) none ((rowU T i).getD 0 0) = (some (mnW (cel T i 0) (cel T i 0), mxW (cel T i 0) (cel T i 0))) := if_neg g0
                    have hB : putW T (k - f) (some (mnW (cel T i 0) (cel T i 0), mxW (cel T i 0) (cel T i 0))) ((rowU T i).getD 1 0) = (some (mnW (cel T i 0) (cel T i 0), mxW (cel T i 0) (cel T i 0))) := if_pos g1
                    have hE : stW T f k none (rowU T i) = (some (mnW (cel T i 0) (cel T i 0), mxW (cel T i 0) (cel T i 0))) := (if_pos ⟨hk, by omega, by omega⟩).trans (by rw [hA, hB])
                    rw [hE]
                    have t0 : decide (lenT T ≤ 34359738368) = true := decide_eq_true h4
                    have L := wl0_1000010110 T T f k (lenT T) i rest
                    rw [e1 (of_decide_eq_true k0)] at L
                    refine round_go L (pickL_ok ?_ _) rfl rfl rfl rfl
                    repeat' (first | exact cd_nil | refine cd_cons ?_ ?_)
                    all_goals first | rfl | with_reducible assumption | exact eqB _ | (apply Dl.sz; (repeat' (first | with_reducible assumption)); omega)
                  | false =>
                    have hk : knB (Fs.toBd (rowU T i)) = true := kn_ok (b := Fs.toBd (rowU T i)) k1 k2
                    obtain ⟨q1, q2⟩ := i64_kn hk
                    replace q1 : i64B (cel T i 0) = true := q1
                    replace q2 : i64B (cel T i 1) = true := q2
                    have d1 := Dl.i64 q1
                    have d2 := Dl.i64 q2
                    rw [if_pos (of_decide_eq_true k0)]
                    have f0 := of_decide_eq_false k3
                    have f1 := of_decide_eq_false k4
                    have g0 := of_decide_eq_false k5
                    have g1 := of_decide_eq_false k7
                    have ew : IntKind.i64.wrap (k - f) = k - f := v64 (by omega) (by omega)
                    rw [ew, cel_row] at g0 g1
                    have hA : putW T (k - f) none ((rowU T i).getD 0 0) = (some (mnW (cel T i 0) (cel T i 0), mxW (cel T i 0) (cel T i 0))) := if_neg g0
                    have hB : putW T (k - f) (some (mnW (cel T i 0) (cel T i 0), mxW (cel T i 0) (cel T i 0))) ((rowU T i).getD 1 0) = (some (mnW (mnW (cel T i 0) (cel T i 0)) (cel T i 1), mxW (mxW (cel T i 0) (cel T i 0)) (cel T i 1))) := if_neg g1
                    have hE : stW T f k none (rowU T i) = (some (mnW (mnW (cel T i 0) (cel T i 0)) (cel T i 1), mxW (mxW (cel T i 0) (cel T i 0)) (cel T i 1))) := (if_pos ⟨hk, by omega, by omega⟩).trans (by rw [hA, hB])
                    rw [hE]
                    have t0 : decide (lenT T ≤ 34359738368) = true := decide_eq_true h4
                    have L := wl0_1000010100 T T f k (lenT T) i rest
                    rw [e1 (of_decide_eq_true k0)] at L
                    refine round_go L (pickL_ok ?_ _) rfl rfl rfl rfl
                    repeat' (first | exact cd_nil | refine cd_cons ?_ ?_)
                    all_goals first | rfl | with_reducible assumption | exact eqB _ | (apply Dl.sz; (repeat' (first | with_reducible assumption)); omega)
      | false =>
        rw [if_neg (of_decide_eq_false k0)]
        have L := wl0_0 T T f k (lenT T) i rest
        refine round_out L rfl (pickL_ok ?_ _) rfl rfl rfl
        repeat' (first | exact cd_nil | refine cd_cons ?_ ?_)
        all_goals first | rfl | with_reducible assumption
    | some p =>
      obtain ⟨a, b⟩ := p
      cases k0 : (decide (i < lenT T)) with
      | true =>
        cases k1 : (chkB { lo := cel T i 0, hi := cel T i 1, u := decide (cel T i 2 = 1) } != 0) with
        | true =>
          have hk : knB (Fs.toBd (rowU T i)) = false := kn_bad (b := Fs.toBd (rowU T i)) k1
          rw [if_pos (of_decide_eq_true k0)]
          have hE : stW T f k (some (a, b)) (rowU T i) = (some (a, b)) := if_neg (by rw [hk]; simp)
          rw [hE]
          have t0 : decide (lenT T ≤ 34359738368) = true := decide_eq_true h4
          have L := wl1_11 T T f k (lenT T) i rest a b
          rw [e1 (of_decide_eq_true k0)] at L
          refine round_go L (pickL_ok ?_ _) rfl rfl rfl rfl
          repeat' (first | exact cd_nil | refine cd_cons ?_ ?_)
          all_goals first | rfl | with_reducible assumption | exact eqB _ | (apply Dl.sz; (repeat' (first | with_reducible assumption)); omega)
        | false =>
          cases k2 : (decide (cel T i 2 = 1)) with
          | true =>
            have hk : knB (Fs.toBd (rowU T i)) = false := kn_u (b := Fs.toBd (rowU T i)) k2
            rw [if_pos (of_decide_eq_true k0)]
            have hE : stW T f k (some (a, b)) (rowU T i) = (some (a, b)) := if_neg (by rw [hk]; simp)
            rw [hE]
            have t0 : decide (lenT T ≤ 34359738368) = true := decide_eq_true h4
            have L := wl1_101 T T f k (lenT T) i rest a b
            rw [e1 (of_decide_eq_true k0)] at L
            refine round_go L (pickL_ok ?_ _) rfl rfl rfl rfl
            repeat' (first | exact cd_nil | refine cd_cons ?_ ?_)
            all_goals first | rfl | with_reducible assumption | exact eqB _ | (apply Dl.sz; (repeat' (first | with_reducible assumption)); omega)
          | false =>
            cases k3 : (decide (f < 0)) with
            | true =>
              have hk : knB (Fs.toBd (rowU T i)) = true := kn_ok (b := Fs.toBd (rowU T i)) k1 k2
              obtain ⟨q1, q2⟩ := i64_kn hk
              replace q1 : i64B (cel T i 0) = true := q1
              replace q2 : i64B (cel T i 1) = true := q2
              have d1 := Dl.i64 q1
              have d2 := Dl.i64 q2
              rw [if_pos (of_decide_eq_true k0)]
              have hE : stW T f k (some (a, b)) (rowU T i) = (some (a, b)) := if_neg (by
                intro hc
                have := of_decide_eq_true k3
                omega)
              rw [hE]
              have t0 : decide (lenT T ≤ 34359738368) = true := decide_eq_true h4
              have L := wl1_1001 T T f k (lenT T) i rest a b
              rw [e1 (of_decide_eq_true k0)] at L
              refine round_go L (pickL_ok ?_ _) rfl rfl rfl rfl
              repeat' (first | exact cd_nil | refine cd_cons ?_ ?_)
              all_goals first | rfl | with_reducible assumption | exact eqB _ | (apply Dl.sz; (repeat' (first | with_reducible assumption)); omega)
            | false =>
              cases k4 : (decide (k ≤ f)) with
              | true =>
                have hk : knB (Fs.toBd (rowU T i)) = true := kn_ok (b := Fs.toBd (rowU T i)) k1 k2
                obtain ⟨q1, q2⟩ := i64_kn hk
                replace q1 : i64B (cel T i 0) = true := q1
                replace q2 : i64B (cel T i 1) = true := q2
                have d1 := Dl.i64 q1
                have d2 := Dl.i64 q2
                rw [if_pos (of_decide_eq_true k0)]
                have hE : stW T f k (some (a, b)) (rowU T i) = (some (a, b)) := if_neg (by
                  intro hc
                  have := of_decide_eq_false k3
                  have := of_decide_eq_true k4
                  omega)
                rw [hE]
                have t0 : decide (lenT T ≤ 34359738368) = true := decide_eq_true h4
                have L := wl1_10001 T T f k (lenT T) i rest a b
                rw [e1 (of_decide_eq_true k0)] at L
                refine round_go L (pickL_ok ?_ _) rfl rfl rfl rfl
                repeat' (first | exact cd_nil | refine cd_cons ?_ ?_)
                all_goals first | rfl | with_reducible assumption | exact eqB _ | (apply Dl.sz; (repeat' (first | with_reducible assumption)); omega)
              | false =>
                cases k5 : (decide (spV T (cel T i 0) < IntKind.i64.wrap (k - f))) with
                | true =>
                  cases k6 : (decide (spV T (cel T i 1) < IntKind.i64.wrap (k - f))) with
                  | true =>
                    have hk : knB (Fs.toBd (rowU T i)) = true := kn_ok (b := Fs.toBd (rowU T i)) k1 k2
                    obtain ⟨q1, q2⟩ := i64_kn hk
                    replace q1 : i64B (cel T i 0) = true := q1
                    replace q2 : i64B (cel T i 1) = true := q2
                    have d1 := Dl.i64 q1
                    have d2 := Dl.i64 q2
                    rw [if_pos (of_decide_eq_true k0)]
                    have f0 := of_decide_eq_false k3
                    have f1 := of_decide_eq_false k4
                    have g0 := of_decide_eq_true k5
                    have g1 := of_decide_eq_true k6
                    have ew : IntKind.i64.wrap (k - f) = k - f := v64 (by omega) (by omega)
                    rw [ew, cel_row] at g0 g1
                    have hA : putW T (k - f) (some (a, b)) ((rowU T i).getD 0 0) = (some (a, b)) := if_pos g0
                    have hB : putW T (k - f) (some (a, b)) ((rowU T i).getD 1 0) = (some (a, b)) := if_pos g1
                    have hE : stW T f k (some (a, b)) (rowU T i) = (some (a, b)) := (if_pos ⟨hk, by omega, by omega⟩).trans (by rw [hA, hB])
                    rw [hE]
                    have t0 : decide (lenT T ≤ 34359738368) = true := decide_eq_true h4
                    have L := wl1_1000011110 T T f k (lenT T) i rest a b
                    rw [e1 (of_decide_eq_true k0)] at L
                    refine round_go L (pickL_ok ?_ _) rfl rfl rfl rfl
                    repeat' (first | exact cd_nil | refine cd_cons ?_ ?_)
                    all_goals first | rfl | with_reducible assumption | exact eqB _ | (apply Dl.sz; (repeat' (first | with_reducible assumption)); omega)
                  | false =>
                    have hk : knB (Fs.toBd (rowU T i)) = true := kn_ok (b := Fs.toBd (rowU T i)) k1 k2
                    obtain ⟨q1, q2⟩ := i64_kn hk
                    replace q1 : i64B (cel T i 0) = true := q1
                    replace q2 : i64B (cel T i 1) = true := q2
                    have d1 := Dl.i64 q1
                    have d2 := Dl.i64 q2
                    rw [if_pos (of_decide_eq_true k0)]
                    have f0 := of_decide_eq_false k3
                    have f1 := of_decide_eq_false k4
                    have g0 := of_decide_eq_true k5
                    have g1 := of_decide_eq_false k6
                    have ew : IntKind.i64.wrap (k - f) = k - f := v64 (by omega) (by omega)
                    rw [ew, cel_row] at g0 g1
                    have hA : putW T (k - f) (some (a, b)) ((rowU T i).getD 0 0) = (some (a, b)) := if_pos g0
                    have hB : putW T (k - f) (some (a, b)) ((rowU T i).getD 1 0) = (some (mnW a (cel T i 1), mxW b (cel T i 1))) := if_neg g1
                    have hE : stW T f k (some (a, b)) (rowU T i) = (some (mnW a (cel T i 1), mxW b (cel T i 1))) := (if_pos ⟨hk, by omega, by omega⟩).trans (by rw [hA, hB])
                    rw [hE]
                    have t0 : decide (lenT T ≤ 34359738368) = true := decide_eq_true h4
                    have L := wl1_1000011100 T T f k (lenT T) i rest a b
                    rw [e1 (of_decide_eq_true k0)] at L
                    refine round_go L (pickL_ok ?_ _) rfl rfl rfl rfl
                    repeat' (first | exact cd_nil | refine cd_cons ?_ ?_)
                    all_goals first | rfl | with_reducible assumption | exact eqB _ | (apply Dl.sz; (repeat' (first | with_reducible assumption)); omega)
                | false =>
                  cases k7 : (decide (spV T (cel T i 1) < IntKind.i64.wrap (k - f))) with
                  | true =>
                    have hk : knB (Fs.toBd (rowU T i)) = true := kn_ok (b := Fs.toBd (rowU T i)) k1 k2
                    obtain ⟨q1, q2⟩ := i64_kn hk
                    replace q1 : i64B (cel T i 0) = true := q1
                    replace q2 : i64B (cel T i 1) = true := q2
                    have d1 := Dl.i64 q1
                    have d2 := Dl.i64 q2
                    rw [if_pos (of_decide_eq_true k0)]
                    have f0 := of_decide_eq_false k3
                    have f1 := of_decide_eq_false k4
                    have g0 := of_decide_eq_false k5
                    have g1 := of_decide_eq_true k7
                    have ew : IntKind.i64.wrap (k - f) = k - f := v64 (by omega) (by omega)
                    rw [ew, cel_row] at g0 g1
                    have hA : putW T (k - f) (some (a, b)) ((rowU T i).getD 0 0) = (some (mnW a (cel T i 0), mxW b (cel T i 0))) := if_neg g0
                    have hB : putW T (k - f) (some (mnW a (cel T i 0), mxW b (cel T i 0))) ((rowU T i).getD 1 0) = (some (mnW a (cel T i 0), mxW b (cel T i 0))) := if_pos g1
                    have hE : stW T f k (some (a, b)) (rowU T i) = (some (mnW a (cel T i 0), mxW b (cel T i 0))) := (if_pos ⟨hk, by omega, by omega⟩).trans (by rw [hA, hB])
                    rw [hE]
                    have t0 : decide (lenT T ≤ 34359738368) = true := decide_eq_true h4
                    have L := wl1_1000010110 T T f k (lenT T) i rest a b
                    rw [e1 (of_decide_eq_true k0)] at L
                    refine round_go L (pickL_ok ?_ _) rfl rfl rfl rfl
                    repeat' (first | exact cd_nil | refine cd_cons ?_ ?_)
                    all_goals first | rfl | with_reducible assumption | exact eqB _ | (apply Dl.sz; (repeat' (first | with_reducible assumption)); omega)
                  | false =>
                    have hk : knB (Fs.toBd (rowU T i)) = true := kn_ok (b := Fs.toBd (rowU T i)) k1 k2
                    obtain ⟨q1, q2⟩ := i64_kn hk
                    replace q1 : i64B (cel T i 0) = true := q1
                    replace q2 : i64B (cel T i 1) = true := q2
                    have d1 := Dl.i64 q1
                    have d2 := Dl.i64 q2
                    rw [if_pos (of_decide_eq_true k0)]
                    have f0 := of_decide_eq_false k3
                    have f1 := of_decide_eq_false k4
                    have g0 := of_decide_eq_false k5
                    have g1 := of_decide_eq_false k7
                    have ew : IntKind.i64.wrap (k - f) = k - f := v64 (by omega) (by omega)
                    rw [ew, cel_row] at g0 g1
                    have hA : putW T (k - f) (some (a, b)) ((rowU T i).getD 0 0) = (some (mnW a (cel T i 0), mxW b (cel T i 0))) := if_neg g0
                    have hB : putW T (k - f) (some (mnW a (cel T i 0), mxW b (cel T i 0))) ((rowU T i).getD 1 0) = (some (mnW (mnW a (cel T i 0)) (cel T i 1), mxW (mxW b (cel T i 0)) (cel T i 1))) := if_neg g1
                    have hE : stW T f k (some (a, b)) (rowU T i) = (some (mnW (mnW a (cel T i 0)) (cel T i 1), mxW (mxW b (cel T i 0)) (cel T i 1))) := (if_pos ⟨hk, by omega, by omega⟩).trans (by rw [hA, hB])
                    rw [hE]
                    have t0 : decide (lenT T ≤ 34359738368) = true := decide_eq_true h4
                    have L := wl1_1000010100 T T f k (lenT T) i rest a b
                    rw [e1 (of_decide_eq_true k0)] at L
                    refine round_go L (pickL_ok ?_ _) rfl rfl rfl rfl
                    repeat' (first | exact cd_nil | refine cd_cons ?_ ?_)
                    all_goals first | rfl | with_reducible assumption | exact eqB _ | (apply Dl.sz; (repeat' (first | with_reducible assumption)); omega)
      | false =>
        rw [if_neg (of_decide_eq_false k0)]
        have L := wl1_0 T T f k (lenT T) i rest a b
        refine round_out L rfl (pickL_ok ?_ _) rfl rfl rfl
        repeat' (first | exact cd_nil | refine cd_cons ?_ ?_)
        all_goals first | rfl | with_reducible assumption
  · exfalso
    have : wlStep ⟨T, U, f, k, w, n, i⟩ = .bad := if_neg ok
    rw [this] at hb; cases hb
theorem wl_runs {T : List (List Int)} {f k : Int} (h : lenT T ≤ 34359738368) (h0 : 0 ≤ k) (h1 : k ≤ 34359738368) (hf : i64B f = true) : ∀ (j i : Nat) (w : Option (Int × Int)), i + j = T.length → ∃ c, runs wlStep c ⟨T, T, f, k, w, lenT T, i⟩ = some (.exit 2, wlTm T T f k none (lenT T) (lenT T), [⟨24, phW ((T.drop i).foldl (stW T f k) w)⟩])
  | 0, i, w, hi => by
    have e : (i : Int) = lenT T := by unfold lenT; omega
    refine ⟨1, ?_⟩
    rw [runs, wl_go ⟨by omega, by omega, rfl, h, h0, h1, hf, rfl⟩]
    unfold wlNx
    rw [if_neg (by omega), List.drop_eq_nil_of_le (by omega), e]
    rfl
  | j + 1, i, w, hi => by
    have hl : (i : Int) < lenT T := by unfold lenT; omega
    have d := dropU (T := T) (i := i) (by omega)
    obtain ⟨c, hc⟩ := wl_runs h h0 h1 hf j (i + 1) (stW T f k w (rowU T i)) (by omega)
    refine ⟨c + 1, ?_⟩
    rw [runs, wl_go ⟨by omega, by omega, rfl, h, h0, h1, hf, rfl⟩]
    unfold wlNx
    rw [if_pos hl, d, List.foldl_cons]
    exact hc
def wlD : LpDefR wlT Nm where
  ts := [43, 0, 2, 7, 44, 45]
  ps := [13]
  rs := []
  W := [0, 2, 7, 13, 15, 16, 17, 18, 20, 43, 44, 45, 46, 47, 48, 49, 50, 51, 52, 53, 54, 55, 56, 57, 58, 59, 60, 61, 62, 63, 64, 65, 66, 67, 68, 69, 70, 71, 72, 73, 74, 75, 76, 77, 78, 79, 80, 81, 82, 83, 84, 85, 86, 87, 88, 89, 90, 91, 92, 93, 94, 95, 96, 97, 98, 99]
  dec := fun vs tr ks => match vs, tr, ks with
    | [.w (.one (.fv (.tab [some .i64, some .i64, none] T))), .w (.one (.fv (.tab [some .i64, some .i64, none] U))), .w (.one (.int .i64 f)), .w (.one (.int .i64 k)), .w (.one (.int .i64 n)), .w (.one (.int .i64 i))], [], [⟨24, [.int .i64 0, .int .i64 0, .yes true]⟩] => some ⟨T, U, f, k, none, n, i⟩
    | _, _, _ => none
  fk := fun t => some ((t.T.foldl (stW t.T t.f t.k) none).isSome)
  spec := fun t β => match β with
    | true => some (.exit 2, wlTm t.T t.U t.f t.k none t.n t.n, [], [⟨24, [.int .i64 ((t.T.foldl (stW t.T t.f t.k) none).getD (0, 0)).1, .int .i64 ((t.T.foldl (stW t.T t.f t.k) none).getD (0, 0)).2, .yes false]⟩], [(decide (t.i = 0) && decide (t.n = lenT t.T) && decide (t.n ≤ 34359738368) && decide (0 ≤ t.k) && decide (t.k ≤ 34359738368) && i64B t.f && decide (t.U = t.T) && decide (t.w = none), true)])
    | false => some (.exit 2, wlTm t.T t.U t.f t.k none t.n t.n, [], [⟨24, [.int .i64 0, .int .i64 0, .yes true]⟩], [(decide (t.i = 0) && decide (t.n = lenT t.T) && decide (t.n ≤ 34359738368) && decide (0 ≤ t.k) && decide (t.k ≤ 34359738368) && i64B t.f && decide (t.U = t.T) && decide (t.w = none), true)])
theorem wlD_ok (x : Code) (hx : codeAt (bodyOf Try.f8) [false, true, false, true, true, true, true, true, true] = some (.loop x)) : LpOk Try.prog numI 114 x (wlD.sp nmSafe) := by
  obtain rfl := loopAt_eq hx
  refine lpR_ok (c := ctxLp Try.prog numI (fun _ => false) libU2 fnsU []) (ctxLp_ok libU2_ok (eq_none _) fnsU_ok (fun _ _ _ => lps_nil)) (by kernel_rfl) (fun _ _ _ h => h) hx lps_nil (S := wlS) (step := wlStep) (fun _ h => h) (by kernel_rfl) (by kernel_rfl) ?_ rfl (fun t e he => ?_) (fun t hb rest => wl_round t hb rest) ?_
  · intro vs tr ks s hv1 hv2 h hv3
    simp only [wlD] at h
    split at h
    · cases h
      exact ⟨rfl, fun e he => .inl he⟩
    · cases h
  · simp only [wlS, wlTm, List.mem_cons, List.not_mem_nil, or_false] at he
    rcases he with rfl | rfl | rfl | rfl | rfl | rfl <;> rfl
  · intro s β ex outs rts wb cd h hfk hc
    obtain ⟨T, U, f, k, w, n, i⟩ := s
    have hβ := hfk _ rfl
    cases β with
    | true =>
      simp only [wlD] at h hβ
      cases h
      have := c1x hc
      simp only [Bool.and_eq_true, decide_eq_true_eq] at this
      obtain ⟨⟨⟨⟨⟨⟨⟨rfl, rfl⟩, h3⟩, h4⟩, h5⟩, h6⟩, rfl⟩, rfl⟩ := this
      obtain ⟨c, hc⟩ := wl_runs h3 h4 h5 h6 U.length 0 none (by omega)
      refine ⟨c, ?_⟩
      rw [List.drop_zero] at hc
      cases hw : U.foldl (stW U f k) none with
      | none =>
        rw [hw] at hc hβ
        cases hβ
      | some p =>
        rw [hw] at hc hβ
        exact hc
    | false =>
      simp only [wlD] at h hβ
      cases h
      have := c1x hc
      simp only [Bool.and_eq_true, decide_eq_true_eq] at this
      obtain ⟨⟨⟨⟨⟨⟨⟨rfl, rfl⟩, h3⟩, h4⟩, h5⟩, h6⟩, rfl⟩, rfl⟩ := this
      obtain ⟨c, hc⟩ := wl_runs h3 h4 h5 h6 U.length 0 none (by omega)
      refine ⟨c, ?_⟩
      rw [List.drop_zero] at hc
      cases hw : U.foldl (stW U f k) none with
      | none =>
        rw [hw] at hc hβ
        exact hc
      | some p =>
        rw [hw] at hc hβ
        cases hβ
end
end Go.Proofs.Ytjegnlnnjcchaaa.AtBr

