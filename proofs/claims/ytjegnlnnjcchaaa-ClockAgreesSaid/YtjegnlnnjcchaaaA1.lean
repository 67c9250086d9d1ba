/-
  The loops of clock.Agree and of the reference's Agreed.
  Conditions: those of each theorem.
-/
import Derived.Test.YtjegnlnnjcchaaaUT
import Derived.Test.YtjegnlnnjcchaaaAL
set_option linter.unusedVariables false
set_option linter.unusedSimpArgs false
namespace Go.Proofs.Ytjegnlnnjcchaaa.AtCk
open Ev Go.RowKit Go.Shelf Zd Wd
open Go.Proofs.Ytjegnlnnjcchaaa
noncomputable section

noncomputable abbrev libA1 : List (Nat × FnSp Nm) := [(88, ckS), (89, unS), (85, ckS), (86, unS), (90, factSp gSp)]
theorem libA1_ok : LibOk Try.prog numI (lib1 libA1) := (lib1_cons (sp1_ok fun c _ => ⟨_, rfl, cef_pl c⟩) Try.call88 (lib1_cons (sp2_ok fun c x _ => ⟨_, rfl, saf_pl c x⟩) Try.call89 (lib1_cons (sp1_ok fun c _ => ⟨_, rfl, ckf_pl c⟩) Try.call85 (lib1_cons (sp2_ok fun c x _ => ⟨_, rfl, unf_pl c x⟩) Try.call86 (lib1_cons gSp_ok Try.call90 (lib1_nil _ _))))))
def ckO (r : List Int) : Ck := ⟨r.getD 0 0, ⟨r.getD 1 0, r.getD 2 0, decide (r.getD 3 0 = 1)⟩, r.getD 4 0⟩
def bRow (b : Bd) : List Int := [b.lo, b.hi, bif b.u then 1 else 0]
/-- The first error of clocks. -/
def errC : List (List Int) → Int
  | [] => 0
  | r :: T => if ckE (ckO r) = 0 then errC T else ckE (ckO r)
/-- What is known of the times that clocks say. -/
def kpC : List (List Int) → List (List Int) → List (List Int)
  | r :: T, h :: H => (if (uniC (ckO r) (h.getD 0 0)).u = true then [] else [bRow (uniC (ckO r) (h.getD 0 0))]) ++ kpC T H
  | _, _ => []
def kfC : List (List Int) → List (List Int) → Nat
  | r :: T, h :: H => if ckE (ckO r) = 0 then (if (uniC (ckO r) (h.getD 0 0)).u = true then 0 else 1) + kfC T H else 0
  | _, _ => 0
def agL : Nat → List (List Int) → List (List Int) → List (List Int) → List (List Int)
  | i, r :: T, h :: H, L => if ckE (ckO r) = 0 then agL (i + 1) T H (L.set i (bRow (uniC (ckO r) (h.getD 0 0)))) else L
  | _, _, _, L => L
theorem ckE_row {T : List (List Int)} {i : Int} : ckE (ckO (rowU T i)) = ckE (ckO (rowU T i)) := rfl
set_option maxRecDepth 100000 in
theorem aw_101 (T : List (List Int)) (H : List (List Int)) (q : Int) (n : Int) (i : Int) (k : Nat) (L : List (List Int)) (rest : List (Nat × AV Nm)) : evView (ctxOf Try.prog numI (fun _ => false) libA1) 108 (false :: [false, true, false, true, true, true, true, true]) (loopAt (bodyOf Try.f56) [false, true, false, true, true, true, true, true]) ([(29, (.w (.one (.fv (.tab [some .i64, some .i64, some .i64, none, some .i64] T))))), (1, (.w (.one (.fv (.tab [some .i64] H))))), (8, (.w (.one (.int .i64 q)))), (30, (.w (.one (.int .i64 n)))), (31, (.w (.one (.int .i64 i)))), (9, (.w (.one (.tip 1 k (.tab [some .i64, some .i64, none] L)))))] ++ (ptrN 0 [6] ++ rest)) [⟨79, [.int .i64 0, .int .i64 0, .yes false]⟩, ⟨79, [.tok k 3]⟩] 2 [29, 1, 8, 30, 31, 9, 6] [true, false, true] = some ((Ex.normal, [AV.w (AW.one (AC.fv (Nm.tab [some IntKind.i64, some IntKind.i64, some IntKind.i64, none, some IntKind.i64] T))), AV.w (AW.one (AC.fv (Nm.tab [some IntKind.i64] H))), AV.w (AW.one (AC.int IntKind.i64 (IntKind.i64.wrap (q + 1)))), AV.w (AW.one (AC.int IntKind.i64 n)), AV.w (AW.one (AC.int IntKind.i64 (IntKind.i64.wrap (i + 1)))), AV.w (AW.one (AC.tip 1 (k + 1) (Nm.tab [some IntKind.i64, some IntKind.i64, none] (L ++ [(bRow (uniC (ckO (rowU T i)) (cel H i 0)))])))), AV.w (AW.one (AC.ptr 0 0))], [{ ty := 79, cs := [AC.int IntKind.i64 0, AC.int IntKind.i64 0, AC.yes false] }, { ty := 79, cs := [AC.tok (k + 1) 3] }]), (pickL [(decide (i < n), true), (decide (0 ≤ i), true), (decide (i < lenT T), true), (ckE (ckO (rowU T i)) != 0, false), (decide (i < lenT H), true), (!(uniC (ckO (rowU T i)) (cel H i 0)).u, true), (decide (k = k), true), (decide (k + 1 ≤ 34359738368), true)] [0, 1, 2, 1, 2, 3, 1, 4, 1, 4, 5, 6, 7])) := by kernel_rfl
set_option maxRecDepth 100000 in
theorem aw_100 (T : List (List Int)) (H : List (List Int)) (q : Int) (n : Int) (i : Int) (k : Nat) (L : List (List Int)) (rest : List (Nat × AV Nm)) : evView (ctxOf Try.prog numI (fun _ => false) libA1) 108 (false :: [false, true, false, true, true, true, true, true]) (loopAt (bodyOf Try.f56) [false, true, false, true, true, true, true, true]) ([(29, (.w (.one (.fv (.tab [some .i64, some .i64, some .i64, none, some .i64] T))))), (1, (.w (.one (.fv (.tab [some .i64] H))))), (8, (.w (.one (.int .i64 q)))), (30, (.w (.one (.int .i64 n)))), (31, (.w (.one (.int .i64 i)))), (9, (.w (.one (.tip 1 k (.tab [some .i64, some .i64, none] L)))))] ++ (ptrN 0 [6] ++ rest)) [⟨79, [.int .i64 0, .int .i64 0, .yes false]⟩, ⟨79, [.tok k 3]⟩] 2 [29, 1, 8, 30, 31, 9, 6] [true, false, false] = some ((Ex.normal, [AV.w (AW.one (AC.fv (Nm.tab [some IntKind.i64, some IntKind.i64, some IntKind.i64, none, some IntKind.i64] T))), AV.w (AW.one (AC.fv (Nm.tab [some IntKind.i64] H))), AV.w (AW.one (AC.int IntKind.i64 q)), AV.w (AW.one (AC.int IntKind.i64 n)), AV.w (AW.one (AC.int IntKind.i64 (IntKind.i64.wrap (i + 1)))), AV.w (AW.one (AC.tip 1 k (Nm.tab [some IntKind.i64, some IntKind.i64, none] L))), AV.w (AW.one (AC.ptr 0 0))], [{ ty := 79, cs := [AC.int IntKind.i64 0, AC.int IntKind.i64 0, AC.yes false] }, { ty := 79, cs := [AC.tok k 3] }]), (pickL [(decide (i < n), true), (decide (0 ≤ i), true), (decide (i < lenT T), true), (ckE (ckO (rowU T i)) != 0, false), (decide (i < lenT H), true), (!(uniC (ckO (rowU T i)) (cel H i 0)).u, false)] [0, 1, 2, 1, 2, 3, 1, 4, 1, 4, 5])) := by kernel_rfl
set_option maxRecDepth 100000 in
theorem aw_0 (T : List (List Int)) (H : List (List Int)) (q : Int) (n : Int) (i : Int) (k : Nat) (L : List (List Int)) (rest : List (Nat × AV Nm)) : evView (ctxOf Try.prog numI (fun _ => false) libA1) 108 (false :: [false, true, false, true, true, true, true, true]) (loopAt (bodyOf Try.f56) [false, true, false, true, true, true, true, true]) ([(29, (.w (.one (.fv (.tab [some .i64, some .i64, some .i64, none, some .i64] T))))), (1, (.w (.one (.fv (.tab [some .i64] H))))), (8, (.w (.one (.int .i64 q)))), (30, (.w (.one (.int .i64 n)))), (31, (.w (.one (.int .i64 i)))), (9, (.w (.one (.tip 1 k (.tab [some .i64, some .i64, none] L)))))] ++ (ptrN 0 [6] ++ rest)) [⟨79, [.int .i64 0, .int .i64 0, .yes false]⟩, ⟨79, [.tok k 3]⟩] 2 [29, 1, 8, 30, 31, 9, 6] [false] = some ((Ex.exit 0, [AV.w (AW.one (AC.fv (Nm.tab [some IntKind.i64, some IntKind.i64, some IntKind.i64, none, some IntKind.i64] T))), AV.w (AW.one (AC.fv (Nm.tab [some IntKind.i64] H))), AV.w (AW.one (AC.int IntKind.i64 q)), AV.w (AW.one (AC.int IntKind.i64 n)), AV.w (AW.one (AC.int IntKind.i64 i)), AV.w (AW.one (AC.tip 1 k (Nm.tab [some IntKind.i64, some IntKind.i64, none] L))), AV.w (AW.one (AC.ptr 0 0))], [{ ty := 79, cs := [AC.int IntKind.i64 0, AC.int IntKind.i64 0, AC.yes false] }, { ty := 79, cs := [AC.tok k 3] }]), (pickL [(decide (i < n), false)] [0])) := by kernel_rfl
set_option maxRecDepth 100000 in
theorem awr_11 (T : List (List Int)) (H : List (List Int)) (q : Int) (n : Int) (i : Int) (k : Nat) (L : List (List Int)) (rest : List (Nat × AV Nm)) : evView (ctxOf Try.prog numI (fun _ => false) libA1) 108 (false :: [false, true, false, true, true, true, true, true]) (loopAt (bodyOf Try.f56) [false, true, false, true, true, true, true, true]) ([(29, (.w (.one (.fv (.tab [some .i64, some .i64, some .i64, none, some .i64] T))))), (1, (.w (.one (.fv (.tab [some .i64] H))))), (8, (.w (.one (.int .i64 q)))), (30, (.w (.one (.int .i64 n)))), (31, (.w (.one (.int .i64 i)))), (9, (.w (.one (.tip 1 k (.tab [some .i64, some .i64, none] L)))))] ++ (ptrN 0 [6] ++ rest)) [⟨79, [.int .i64 0, .int .i64 0, .yes false]⟩, ⟨79, [.tok k 3]⟩] 2 [7, 6] [true, true] = some ((Ex.ret, [AV.w (AW.one (AC.int IntKind.i64 (ckE (ckO (rowU T i))))), AV.w (AW.one (AC.ptr 0 0))], [{ ty := 79, cs := [AC.int IntKind.i64 0, AC.int IntKind.i64 0, AC.yes false] }, { ty := 79, cs := [AC.tok k 3] }]), (pickL [(decide (i < n), true), (decide (0 ≤ i), true), (decide (i < lenT T), true), (ckE (ckO (rowU T i)) != 0, true)] [0, 1, 2, 1, 2, 3])) := by kernel_rfl
structure awT where
  T : List (List Int)
  H : List (List Int)
  q : Int
  n : Int
  i : Int
  k : Nat
  L : List (List Int)
def awP (T : List (List Int)) (H : List (List Int)) (q : Int) (n : Int) (i : Int) (k : Nat) (L : List (List Int)) : Prop := 0 ≤ i ∧ i ≤ n ∧ n = lenT T ∧ n ≤ 64 ∧ lenT H = lenT T ∧ q = (k : Int) ∧ (k : Int) ≤ i
instance (T : List (List Int)) (H : List (List Int)) (q : Int) (n : Int) (i : Int) (k : Nat) (L : List (List Int)) : Decidable (awP T H q n i k L) := by unfold awP; infer_instance
def awTm (T : List (List Int)) (H : List (List Int)) (q : Int) (n : Int) (i : Int) (k : Nat) (L : List (List Int)) : List (Nat × AV Nm) := [(29, (.w (.one (.fv (.tab [some .i64, some .i64, some .i64, none, some .i64] T))))), (1, (.w (.one (.fv (.tab [some .i64] H))))), (8, (.w (.one (.int .i64 q)))), (30, (.w (.one (.int .i64 n)))), (31, (.w (.one (.int .i64 i)))), (9, (.w (.one (.tip 1 k (.tab [some .i64, some .i64, none] L)))))]
def awS : LpSt awT Nm where
  ps := [6]
  tm := fun t => awTm t.T t.H t.q t.n t.i t.k t.L
  hp := fun t => [⟨79, [.int .i64 0, .int .i64 0, .yes false]⟩, ⟨79, [.tok t.k 3]⟩]
def awNx (T : List (List Int)) (H : List (List Int)) (q : Int) (n : Int) (i : Int) (k : Nat) (L : List (List Int)) : Nxt awT Nm := if i < n then (if ckE (ckO (rowU T i)) = 0 then (if (uniC (ckO (rowU T i)) (cel H i 0)).u = true then .go ⟨T, H, q, n, i + 1, k, L⟩ else .go ⟨T, H, q + 1, n, i + 1, k + 1, L ++ [bRow (uniC (ckO (rowU T i)) (cel H i 0))]⟩) else .out .ret [(7, .w (.one (.int .i64 (ckE (ckO (rowU T i))))))] [⟨79, [.int .i64 0, .int .i64 0, .yes false]⟩, ⟨79, [.tok k 3]⟩]) else .out (.exit 0) (awTm T H q n i k L) [⟨79, [.int .i64 0, .int .i64 0, .yes false]⟩, ⟨79, [.tok k 3]⟩]
def awStep (t : awT) : Nxt awT Nm := if awP t.T t.H t.q t.n t.i t.k t.L then awNx t.T t.H t.q t.n t.i t.k t.L else .bad
theorem aw_go {T : List (List Int)} {H : List (List Int)} {q : Int} {n : Int} {i : Int} {k : Nat} {L : List (List Int)} (h : awP T H q n i k L) : awStep ⟨T, H, q, n, i, k, L⟩ = awNx T H q n i k L := if_pos h
theorem dropH {T H : List (List Int)} {i : Nat} (h : i < T.length) (he : lenT H = lenT T) : H.drop i = rowU H i :: H.drop (i + 1) := dropU (by unfold lenT at he; omega)
set_option maxRecDepth 100000 in
set_option maxHeartbeats 4000000 in
theorem aw_round (t : awT) (hb : (awStep t).isBad = false) (rest : List (Nat × AV Nm)) : ∃ fuel path r, evC (ctxOf Try.prog numI (fun _ => false) libA1) fuel 108 (false :: [false, true, false, true, true, true, true, true]) (loopAt (bodyOf Try.f56) [false, true, false, true, true, true, true, true]) (awS.tm t ++ (ptrN 0 awS.ps ++ rest)) (numb 0 (awS.hp t)) 2 path = some r ∧ (∀ p ∈ r.cd, p.1 = p.2) ∧ Gives awS 2 r (awStep t) := by
  obtain ⟨T, H, q, n, i, k, L⟩ := t
  by_cases ok : awP T H q n i k L
  · rw [aw_go ok]
    clear hb
    unfold awNx
    obtain ⟨h1, h2, rfl, h4, h5, h6, h7⟩ := ok
    have e0 : decide (0 ≤ i) = true := decide_eq_true h1
    have e1 : i < lenT T → IntKind.i64.wrap (i + 1) = i + 1 := fun _ => v64 (by omega) (by omega)
    have e2 : i < lenT T → decide (i < lenT H) = true := fun _ => decide_eq_true (by omega)
    cases k0 : (decide (i < lenT T)) with
    | true =>
      cases k1 : (ckE (ckO (rowU T i)) != 0) with
      | true =>
        rw [if_pos (of_decide_eq_true k0)]
        have hE : ¬ ckE (ckO (rowU T i)) = 0 := by simpa using k1
        rw [if_neg hE]
        have L := awr_11 T H q (lenT T) i k L rest
        refine round_out L rfl (pickL_ok ?_ _) rfl rfl rfl
        repeat' (first | exact cd_nil | refine cd_cons ?_ ?_)
        all_goals first | rfl | with_reducible assumption | exact e2 (of_decide_eq_true k0)
      | false =>
        cases k2 : (!(uniC (ckO (rowU T i)) (cel H i 0)).u) with
        | true =>
          rw [if_pos (of_decide_eq_true k0)]
          have hE : ckE (ckO (rowU T i)) = 0 := by simpa using k1
          rw [if_pos hE]
          have hU : ¬ (uniC (ckO (rowU T i)) (cel H i 0)).u = true := by simpa using k2
          rw [if_neg hU]
          have eq1 : IntKind.i64.wrap (q + 1) = q + 1 := v64 (by omega) (by omega)
          have m1 : decide (k = k) = true := decide_eq_true rfl
          have m2 : decide (k + 1 ≤ 34359738368) = true := decide_eq_true (by omega)
          have L := aw_101 T H q (lenT T) i k L rest
          rw [e1 (of_decide_eq_true k0), eq1] at L
          refine round_go L (pickL_ok ?_ _) rfl rfl rfl rfl
          repeat' (first | exact cd_nil | refine cd_cons ?_ ?_)
          all_goals first | rfl | with_reducible assumption | exact e2 (of_decide_eq_true k0)
        | false =>
          rw [if_pos (of_decide_eq_true k0)]
          have hE : ckE (ckO (rowU T i)) = 0 := by simpa using k1
          rw [if_pos hE]
          have hU : (uniC (ckO (rowU T i)) (cel H i 0)).u = true := by simpa using k2
          rw [if_pos hU]
          have L := aw_100 T H q (lenT T) i k L rest
          rw [e1 (of_decide_eq_true k0)] at L
          refine round_go L (pickL_ok ?_ _) rfl rfl rfl rfl
          repeat' (first | exact cd_nil | refine cd_cons ?_ ?_)
          all_goals first | rfl | with_reducible assumption | exact e2 (of_decide_eq_true k0)
    | false =>
      rw [if_neg (of_decide_eq_false k0)]
      have L0 := aw_0 T H q (lenT T) i k L rest
      refine round_outR L0 rfl (pickL_ok ?_ _) rfl rfl
      repeat' (first | exact cd_nil | refine cd_cons ?_ ?_)
      all_goals first | rfl | with_reducible assumption | exact e2 (of_decide_eq_true k0)
  · exfalso
    have : awStep ⟨T, H, q, n, i, k, L⟩ = .bad := if_neg ok
    rw [this] at hb; cases hb
theorem aw_runs {T H : List (List Int)} (h : lenT T ≤ 64) (he : lenT H = lenT T) : ∀ (j i : Nat) (L : List (List Int)) (k : Nat), i + j = T.length → k ≤ i → ∃ c, runs awStep c ⟨T, H, k, lenT T, i, k, L⟩ =
    (if errC (T.drop i) = 0 then some (.exit 0, awTm T H ((k + (kpC (T.drop i) (H.drop i)).length : Nat) : Int) (lenT T) (lenT T) (k + (kpC (T.drop i) (H.drop i)).length) (L ++ kpC (T.drop i) (H.drop i)), [⟨79, [.int .i64 0, .int .i64 0, .yes false]⟩, ⟨79, [.tok (k + (kpC (T.drop i) (H.drop i)).length) 3]⟩])
      else some (.ret, [(7, .w (.one (.int .i64 (errC (T.drop i)))))], [⟨79, [.int .i64 0, .int .i64 0, .yes false]⟩, ⟨79, [.tok (k + kfC (T.drop i) (H.drop i)) 3]⟩]))
  | 0, i, L, k, hi, hk => by
    have e : (i : Int) = lenT T := by unfold lenT; omega
    refine ⟨1, ?_⟩
    rw [runs, aw_go ⟨by omega, by omega, rfl, h, he, rfl, by omega⟩]
    unfold awNx
    rw [if_neg (by omega), List.drop_eq_nil_of_le (by omega), e]
    simp only [errC, kpC, if_true, List.length_nil, Nat.add_zero, List.append_nil]
  | j + 1, i, L, k, hi, hk => by
    have hl : (i : Int) < lenT T := by unfold lenT; omega
    have d := dropU (T := T) (i := i) (by omega)
    have dH := dropH (T := T) (H := H) (i := i) (by omega) he
    by_cases g : ckE (ckO (rowU T i)) = 0
    · by_cases u : (uniC (ckO (rowU T i)) (cel H i 0)).u = true
      · obtain ⟨c, hc⟩ := aw_runs h he j (i + 1) L k (by omega) (by omega)
        refine ⟨c + 1, ?_⟩
        rw [runs, aw_go ⟨by omega, by omega, rfl, h, he, rfl, by omega⟩]
        unfold awNx
        rw [if_pos hl, if_pos g, if_pos u, d, dH]
        rw [cel_row] at u
        simp only [errC, kpC, kfC, if_pos g, if_pos u, List.nil_append, Nat.zero_add]
        exact hc
      · obtain ⟨c, hc⟩ := aw_runs h he j (i + 1) (L ++ [bRow (uniC (ckO (rowU T i)) (cel H i 0))]) (k + 1) (by omega) (by omega)
        refine ⟨c + 1, ?_⟩
        rw [runs, aw_go ⟨by omega, by omega, rfl, h, he, rfl, by omega⟩]
        unfold awNx
        rw [if_pos hl, if_pos g, if_neg u, d, dH]
        rw [cel_row] at u
        simp only [errC, kpC, kfC, if_pos g, if_neg u, List.singleton_append, List.length_cons]
        have e3 : k + 1 + (kpC (T.drop (i + 1)) (H.drop (i + 1))).length = k + ((kpC (T.drop (i + 1)) (H.drop (i + 1))).length + 1) := by omega
        have e4 : k + 1 + kfC (T.drop (i + 1)) (H.drop (i + 1)) = k + (1 + kfC (T.drop (i + 1)) (H.drop (i + 1))) := by omega
        rw [e3, e4, List.append_assoc] at hc
        exact hc
    · refine ⟨1, ?_⟩
      rw [runs, aw_go ⟨by omega, by omega, rfl, h, he, rfl, by omega⟩]
      unfold awNx
      rw [if_pos hl, if_neg g, d, dH]
      simp only [errC, kfC, if_neg g, Nat.add_zero]
def awD : LpDefA awT Nm where
  ts := [29, 1, 8, 30, 31]
  ps := [6]
  rs := [9]
  W := [1, 6, 7, 8, 9, 10, 11, 12, 13, 29, 30, 31, 32, 33, 34, 35, 36, 37, 38, 39, 40, 41, 42, 43, 44, 45, 46, 47, 48, 49, 50, 51, 52, 53, 54, 55, 56, 57]
  dec := fun vs tr ks => match vs, tr, ks with
    | [.w (.one (.fv (.tab [some .i64, some .i64, some .i64, none, some .i64] T))), .w (.one (.fv (.tab [some .i64] H))), .w (.one (.int .i64 q)), .w (.one (.int .i64 n)), .w (.one (.int .i64 i))], [.tip _ k (.tab [some .i64, some .i64, none] L)], [⟨79, [.int .i64 0, .int .i64 0, .yes false]⟩, ⟨79, [.tok k2 3]⟩] => bif Nat.beq k k2 then some ⟨T, H, q, n, i, k, L⟩ else none
    | _, _, _ => none
  fk := fun t => some (decide (errC t.T = 0))
  spec := fun t β => match β with
    | true => some (.exit 0, [(29, (.w (.one (.fv (.tab [some .i64, some .i64, some .i64, none, some .i64] t.T))))), (1, (.w (.one (.fv (.tab [some .i64] t.H))))), (8, .w (.one (.int .i64 ((kpC t.T t.H).length : Int)))), (30, .w (.one (.int .i64 t.n))), (31, .w (.one (.int .i64 t.n)))], [(9, 1, .tip 0 (kpC t.T t.H).length (.tab [some .i64, some .i64, none] (t.L ++ kpC t.T t.H)))], [⟨79, [.int .i64 0, .int .i64 0, .yes false]⟩, ⟨79, [.tok (kpC t.T t.H).length 3]⟩], [(decide (t.i = 0) && decide (t.n = lenT t.T) && decide (t.n ≤ 64) && decide (lenT t.H = lenT t.T) && decide (t.q = 0) && decide (t.k = 0), true)])
    | false => some (.ret, [(7, .w (.one (.int .i64 (errC t.T))))], [], [⟨79, [.int .i64 0, .int .i64 0, .yes false]⟩, ⟨79, [.tok (kfC t.T t.H) 3]⟩], [(decide (t.i = 0) && decide (t.n = lenT t.T) && decide (t.n ≤ 64) && decide (lenT t.H = lenT t.T) && decide (t.q = 0) && decide (t.k = 0), true)])
theorem awD_ok (x : Code) (hx : codeAt (bodyOf Try.f56) [false, true, false, true, true, true, true, true] = some (.loop x)) : LpOk Try.prog numI 108 x (awD.sp nmSafe) := by
  obtain rfl := loopAt_eq hx
  refine lpA_ok (c := ctxOf Try.prog numI (fun _ => false) libA1) (ctxOf_ok libA1_ok (eq_none _)) (by kernel_rfl) (fun _ _ _ h => h) hx lps_nil (S := awS) (step := awStep) (fun _ h => h) (by kernel_rfl) (by kernel_rfl) ?_ rfl (fun t e he => ?_) (fun t hb rest => aw_round t hb rest) ?_
  · intro vs tr ks s hv1 hv2 h hv3
    simp only [awD] at h
    split at h
    · rename_i T H q n i b k L k2
      have hb : Nat.beq k k2 = true := by
        cases hb : Nat.beq k k2 with
        | false => rw [hb] at h; cases h
        | true => rfl
      rw [hb] at h
      obtain rfl := Nat.eq_of_beq_eq_true hb
      cases h
      refine ⟨rfl, fun e he => ?_⟩
      simp only [awS, awTm] at he
      rcases List.mem_cons.1 he with rfl | he
      · exact .inl (List.mem_of_getElem? (i := 0) rfl)
      rcases List.mem_cons.1 he with rfl | he
      · exact .inl (List.mem_of_getElem? (i := 1) rfl)
      rcases List.mem_cons.1 he with rfl | he
      · exact .inl (List.mem_of_getElem? (i := 2) rfl)
      rcases List.mem_cons.1 he with rfl | he
      · exact .inl (List.mem_of_getElem? (i := 3) rfl)
      rcases List.mem_cons.1 he with rfl | he
      · exact .inl (List.mem_of_getElem? (i := 4) rfl)
      obtain rfl := List.mem_singleton.1 he
      exact .inr ⟨0, _, _, rfl, rfl, rfl⟩
    · cases h
  · simp only [awS, awTm, List.mem_cons, List.not_mem_nil, or_false] at he
    rcases he with rfl | rfl | rfl | rfl | rfl | rfl <;> rfl
  · intro s β ex outs rts wb cd h hfk hc
    obtain ⟨T, H, q, n, i, k, L⟩ := s
    have hβ := hfk _ rfl
    cases β with
    | true =>
      simp only [awD] at h hβ
      cases h
      have := c1x hc
      simp only [Bool.and_eq_true, decide_eq_true_eq] at this
      obtain ⟨⟨⟨⟨⟨rfl, rfl⟩, h3⟩, h4⟩, rfl⟩, rfl⟩ := this
      obtain ⟨c, hc⟩ := aw_runs h3 h4 T.length 0 L 0 (by omega) (by omega)
      refine ⟨c, ?_⟩
      rw [List.drop_zero, List.drop_zero, if_pos (of_decide_eq_true hβ)] at hc
      simp only [Nat.zero_add] at hc
      exact hc
    | false =>
      simp only [awD] at h hβ
      cases h
      have := c1x hc
      simp only [Bool.and_eq_true, decide_eq_true_eq] at this
      obtain ⟨⟨⟨⟨⟨rfl, rfl⟩, h3⟩, h4⟩, rfl⟩, rfl⟩ := this
      obtain ⟨c, hc⟩ := aw_runs h3 h4 T.length 0 L 0 (by omega) (by omega)
      refine ⟨c, ?_⟩
      rw [List.drop_zero, List.drop_zero, if_neg (of_decide_eq_false hβ)] at hc
      simp only [Nat.zero_add] at hc
      exact hc
set_option maxRecDepth 100000 in
theorem ag_10 (T : List (List Int)) (H : List (List Int)) (n : Int) (i : Int) (m : Int) (c : Int) (L : List (List Int)) (rest : List (Nat × AV Nm)) : evView (ctxOf Try.prog numI (fun _ => false) libA1) 51 (false :: [false, true, false, true, true, true, true]) (loopAt (bodyOf Try.f55) [false, true, false, true, true, true, true]) ([(25, (.w (.one (.fv (.tab [some .i64, some .i64, some .i64, none, some .i64] T))))), (1, (.w (.one (.fv (.tab [some .i64] H))))), (26, (.w (.one (.int .i64 n)))), (27, (.w (.one (.int .i64 i)))), (8, (.w (.one (.wsl 1 3 0 m c))))] ++ (ptrN 0 [6] ++ rest)) [⟨79, [.int .i64 0, .int .i64 0, .yes false]⟩, ⟨79, [.arr [some .i64, some .i64, none] L]⟩] 2 [25, 1, 26, 27, 8, 6] [true, false] = some ((Ex.normal, [AV.w (AW.one (AC.fv (Nm.tab [some IntKind.i64, some IntKind.i64, some IntKind.i64, none, some IntKind.i64] T))), AV.w (AW.one (AC.fv (Nm.tab [some IntKind.i64] H))), AV.w (AW.one (AC.int IntKind.i64 n)), AV.w (AW.one (AC.int IntKind.i64 (IntKind.i64.wrap (i + 1)))), AV.w (AW.one (AC.wsl 1 3 0 m c)), AV.w (AW.one (AC.ptr 0 0))], [{ ty := 79, cs := [AC.int IntKind.i64 0, AC.int IntKind.i64 0, AC.yes false] }, { ty := 79, cs := [AC.arr [some IntKind.i64, some IntKind.i64, none] (List.set L (0 + i).toNat (bRow (uniC (ckO (rowU T i)) (cel H i 0))))] }]), (pickL [(decide (i < n), true), (decide (0 ≤ i), true), (decide (i < lenT T), true), (ckE (ckO (rowU T i)) != 0, false), (decide (i < lenT H), true), (decide (i < m), true), (decide (0 + i < lenT L), true)] [0, 1, 2, 1, 2, 3, 1, 4, 1, 4, 1, 5, 6])) := by kernel_rfl
set_option maxRecDepth 100000 in
theorem ag_0 (T : List (List Int)) (H : List (List Int)) (n : Int) (i : Int) (m : Int) (c : Int) (L : List (List Int)) (rest : List (Nat × AV Nm)) : evView (ctxOf Try.prog numI (fun _ => false) libA1) 51 (false :: [false, true, false, true, true, true, true]) (loopAt (bodyOf Try.f55) [false, true, false, true, true, true, true]) ([(25, (.w (.one (.fv (.tab [some .i64, some .i64, some .i64, none, some .i64] T))))), (1, (.w (.one (.fv (.tab [some .i64] H))))), (26, (.w (.one (.int .i64 n)))), (27, (.w (.one (.int .i64 i)))), (8, (.w (.one (.wsl 1 3 0 m c))))] ++ (ptrN 0 [6] ++ rest)) [⟨79, [.int .i64 0, .int .i64 0, .yes false]⟩, ⟨79, [.arr [some .i64, some .i64, none] L]⟩] 2 [25, 1, 26, 27, 8, 6] [false] = some ((Ex.exit 0, [AV.w (AW.one (AC.fv (Nm.tab [some IntKind.i64, some IntKind.i64, some IntKind.i64, none, some IntKind.i64] T))), AV.w (AW.one (AC.fv (Nm.tab [some IntKind.i64] H))), AV.w (AW.one (AC.int IntKind.i64 n)), AV.w (AW.one (AC.int IntKind.i64 i)), AV.w (AW.one (AC.wsl 1 3 0 m c)), AV.w (AW.one (AC.ptr 0 0))], [{ ty := 79, cs := [AC.int IntKind.i64 0, AC.int IntKind.i64 0, AC.yes false] }, { ty := 79, cs := [AC.arr [some IntKind.i64, some IntKind.i64, none] L] }]), (pickL [(decide (i < n), false)] [0])) := by kernel_rfl
set_option maxRecDepth 100000 in
theorem agr_11 (T : List (List Int)) (H : List (List Int)) (n : Int) (i : Int) (m : Int) (c : Int) (L : List (List Int)) (rest : List (Nat × AV Nm)) : evView (ctxOf Try.prog numI (fun _ => false) libA1) 51 (false :: [false, true, false, true, true, true, true]) (loopAt (bodyOf Try.f55) [false, true, false, true, true, true, true]) ([(25, (.w (.one (.fv (.tab [some .i64, some .i64, some .i64, none, some .i64] T))))), (1, (.w (.one (.fv (.tab [some .i64] H))))), (26, (.w (.one (.int .i64 n)))), (27, (.w (.one (.int .i64 i)))), (8, (.w (.one (.wsl 1 3 0 m c))))] ++ (ptrN 0 [6] ++ rest)) [⟨79, [.int .i64 0, .int .i64 0, .yes false]⟩, ⟨79, [.arr [some .i64, some .i64, none] L]⟩] 2 [7, 6] [true, true] = some ((Ex.ret, [AV.w (AW.one (AC.int IntKind.i64 (ckE (ckO (rowU T i))))), AV.w (AW.one (AC.ptr 0 0))], [{ ty := 79, cs := [AC.int IntKind.i64 0, AC.int IntKind.i64 0, AC.yes false] }, { ty := 79, cs := [AC.arr [some IntKind.i64, some IntKind.i64, none] L] }]), (pickL [(decide (i < n), true), (decide (0 ≤ i), true), (decide (i < lenT T), true), (ckE (ckO (rowU T i)) != 0, true)] [0, 1, 2, 1, 2, 3])) := by kernel_rfl
structure agT where
  T : List (List Int)
  H : List (List Int)
  n : Int
  i : Int
  m : Int
  c : Int
  L : List (List Int)
def agP (T : List (List Int)) (H : List (List Int)) (n : Int) (i : Int) (m : Int) (c : Int) (L : List (List Int)) : Prop := 0 ≤ i ∧ i ≤ n ∧ n = lenT T ∧ n ≤ 64 ∧ lenT H = lenT T ∧ m = lenT T ∧ lenT L = lenT T
instance (T : List (List Int)) (H : List (List Int)) (n : Int) (i : Int) (m : Int) (c : Int) (L : List (List Int)) : Decidable (agP T H n i m c L) := by unfold agP; infer_instance
def agTm (T : List (List Int)) (H : List (List Int)) (n : Int) (i : Int) (m : Int) (c : Int) (L : List (List Int)) : List (Nat × AV Nm) := [(25, (.w (.one (.fv (.tab [some .i64, some .i64, some .i64, none, some .i64] T))))), (1, (.w (.one (.fv (.tab [some .i64] H))))), (26, (.w (.one (.int .i64 n)))), (27, (.w (.one (.int .i64 i)))), (8, (.w (.one (.wsl 1 3 0 m c))))]
def agS : LpSt agT Nm where
  ps := [6]
  tm := fun t => agTm t.T t.H t.n t.i t.m t.c t.L
  hp := fun t => [⟨79, [.int .i64 0, .int .i64 0, .yes false]⟩, ⟨79, [.arr [some .i64, some .i64, none] t.L]⟩]
def agNx (T : List (List Int)) (H : List (List Int)) (n : Int) (i : Int) (m : Int) (c : Int) (L : List (List Int)) : Nxt agT Nm := if i < n then (if ckE (ckO (rowU T i)) = 0 then .go ⟨T, H, n, i + 1, m, c, L.set i.toNat (bRow (uniC (ckO (rowU T i)) (cel H i 0)))⟩ else .out .ret [(7, .w (.one (.int .i64 (ckE (ckO (rowU T i))))))] [⟨79, [.int .i64 0, .int .i64 0, .yes false]⟩, ⟨79, [.arr [some .i64, some .i64, none] L]⟩]) else .out (.exit 0) (agTm T H n i m c L) [⟨79, [.int .i64 0, .int .i64 0, .yes false]⟩, ⟨79, [.arr [some .i64, some .i64, none] L]⟩]
def agStep (t : agT) : Nxt agT Nm := if agP t.T t.H t.n t.i t.m t.c t.L then agNx t.T t.H t.n t.i t.m t.c t.L else .bad
theorem ag_go {T : List (List Int)} {H : List (List Int)} {n : Int} {i : Int} {m : Int} {c : Int} {L : List (List Int)} (h : agP T H n i m c L) : agStep ⟨T, H, n, i, m, c, L⟩ = agNx T H n i m c L := if_pos h
set_option maxRecDepth 100000 in
set_option maxHeartbeats 4000000 in
theorem ag_round (t : agT) (hb : (agStep t).isBad = false) (rest : List (Nat × AV Nm)) : ∃ fuel path r, evC (ctxOf Try.prog numI (fun _ => false) libA1) fuel 51 (false :: [false, true, false, true, true, true, true]) (loopAt (bodyOf Try.f55) [false, true, false, true, true, true, true]) (agS.tm t ++ (ptrN 0 agS.ps ++ rest)) (numb 0 (agS.hp t)) 2 path = some r ∧ (∀ p ∈ r.cd, p.1 = p.2) ∧ Gives agS 2 r (agStep t) := by
  obtain ⟨T, H, n, i, m, c, L⟩ := t
  by_cases ok : agP T H n i m c L
  · rw [ag_go ok]
    clear hb
    unfold agNx
    obtain ⟨h1, h2, rfl, h4, h5, h6, h7⟩ := ok
    have e0 : decide (0 ≤ i) = true := decide_eq_true h1
    have e1 : i < lenT T → IntKind.i64.wrap (i + 1) = i + 1 := fun _ => v64 (by omega) (by omega)
    have e2 : i < lenT T → decide (i < lenT H) = true := fun _ => decide_eq_true (by omega)
    cases k0 : (decide (i < lenT T)) with
    | true =>
      cases k1 : (ckE (ckO (rowU T i)) != 0) with
      | true =>
        rw [if_pos (of_decide_eq_true k0)]
        have hE : ¬ ckE (ckO (rowU T i)) = 0 := by simpa using k1
        rw [if_neg hE]
        have L := agr_11 T H (lenT T) i m c L rest
        refine round_out L rfl (pickL_ok ?_ _) rfl rfl rfl
        repeat' (first | exact cd_nil | refine cd_cons ?_ ?_)
        all_goals first | rfl | with_reducible assumption | exact e2 (of_decide_eq_true k0)
      | false =>
        rw [if_pos (of_decide_eq_true k0)]
        have hE : ckE (ckO (rowU T i)) = 0 := by simpa using k1
        rw [if_pos hE]
        have m1 : decide (i < m) = true := decide_eq_true (by have := of_decide_eq_true k0; omega)
        have m2 : decide (i < lenT L) = true := decide_eq_true (by have := of_decide_eq_true k0; omega)
        have L := ag_10 T H (lenT T) i m c L rest
        rw [e1 (of_decide_eq_true k0), Int.zero_add] at L
        refine round_go L (pickL_ok ?_ _) rfl rfl rfl rfl
        repeat' (first | exact cd_nil | refine cd_cons ?_ ?_)
        all_goals first | rfl | with_reducible assumption | exact e2 (of_decide_eq_true k0)
    | false =>
      rw [if_neg (of_decide_eq_false k0)]
      have L0 := ag_0 T H (lenT T) i m c L rest
      refine round_outR L0 rfl (pickL_ok ?_ _) rfl rfl
      repeat' (first | exact cd_nil | refine cd_cons ?_ ?_)
      all_goals first | rfl | with_reducible assumption | exact e2 (of_decide_eq_true k0)
  · exfalso
    have : agStep ⟨T, H, n, i, m, c, L⟩ = .bad := if_neg ok
    rw [this] at hb; cases hb
theorem ag_runs {T H : List (List Int)} {c : Int} (h : lenT T ≤ 64) (he : lenT H = lenT T) : ∀ (j i : Nat) (L : List (List Int)), i + j = T.length → L.length = T.length → ∃ f, runs agStep f ⟨T, H, lenT T, i, lenT T, c, L⟩ =
    (if errC (T.drop i) = 0 then some (.exit 0, agTm T H (lenT T) (lenT T) (lenT T) c [], [⟨79, [.int .i64 0, .int .i64 0, .yes false]⟩, ⟨79, [.arr [some .i64, some .i64, none] (agL i (T.drop i) (H.drop i) L)]⟩])
      else some (.ret, [(7, .w (.one (.int .i64 (errC (T.drop i)))))], [⟨79, [.int .i64 0, .int .i64 0, .yes false]⟩, ⟨79, [.arr [some .i64, some .i64, none] (agL i (T.drop i) (H.drop i) L)]⟩]))
  | 0, i, L, hi, hk => by
    have e : (i : Int) = lenT T := by unfold lenT; omega
    refine ⟨1, ?_⟩
    rw [runs, ag_go ⟨by omega, by omega, rfl, h, he, rfl, by unfold lenT; omega⟩]
    unfold agNx
    rw [if_neg (by omega), List.drop_eq_nil_of_le (by omega), e]
    simp only [errC, agL, if_true]
    rfl
  | j + 1, i, L, hi, hk => by
    have hl : (i : Int) < lenT T := by unfold lenT; omega
    have d := dropU (T := T) (i := i) (by omega)
    have dH := dropH (T := T) (H := H) (i := i) (by omega) he
    by_cases g : ckE (ckO (rowU T i)) = 0
    · obtain ⟨f, hc⟩ := ag_runs (c := c) h he j (i + 1) (L.set i (bRow (uniC (ckO (rowU T i)) (cel H i 0)))) (by omega) (by rw [List.length_set]; exact hk)
      refine ⟨f + 1, ?_⟩
      rw [runs, ag_go ⟨by omega, by omega, rfl, h, he, rfl, by unfold lenT; omega⟩]
      unfold agNx
      rw [if_pos hl, if_pos g, d, dH]
      simp only [errC, agL, if_pos g, Int.toNat_natCast]
      exact hc
    · refine ⟨1, ?_⟩
      rw [runs, ag_go ⟨by omega, by omega, rfl, h, he, rfl, by unfold lenT; omega⟩]
      unfold agNx
      rw [if_pos hl, if_neg g, d, dH]
      simp only [errC, agL, if_neg g]
def agD : LpDefA agT Nm where
  ts := [25, 1, 26, 27]
  ps := [6]
  rs := [8]
  W := [1, 6, 7, 8, 9, 10, 11, 25, 26, 27, 28, 29, 30, 31, 32, 33, 34, 35, 36, 37, 38, 39, 40, 41, 42, 43, 44, 45, 46, 47]
  dec := fun vs tr ks => match vs, tr, ks with
    | [.w (.one (.fv (.tab [some .i64, some .i64, some .i64, none, some .i64] T))), .w (.one (.fv (.tab [some .i64] H))), .w (.one (.int .i64 n)), .w (.one (.int .i64 i))], [.wsl _ 3 0 m c], [⟨79, [.int .i64 0, .int .i64 0, .yes false]⟩, ⟨79, [.arr [some .i64, some .i64, none] L]⟩] => some ⟨T, H, n, i, m, c, L⟩
    | _, _, _ => none
  fk := fun t => some (decide (errC t.T = 0))
  spec := fun t β => match β with
    | true => some (.exit 0, [(25, (.w (.one (.fv (.tab [some .i64, some .i64, some .i64, none, some .i64] t.T))))), (1, (.w (.one (.fv (.tab [some .i64] t.H))))), (26, .w (.one (.int .i64 t.n))), (27, .w (.one (.int .i64 t.n)))], [(8, 1, .wsl 0 3 0 t.m t.c)], [⟨79, [.int .i64 0, .int .i64 0, .yes false]⟩, ⟨79, [.arr [some .i64, some .i64, none] (agL 0 t.T t.H t.L)]⟩], [(decide (t.i = 0) && decide (t.n = lenT t.T) && decide (t.n ≤ 64) && decide (lenT t.H = lenT t.T) && decide (t.m = lenT t.T) && decide (lenT t.L = lenT t.T), true)])
    | false => some (.ret, [(7, .w (.one (.int .i64 (errC t.T))))], [], [⟨79, [.int .i64 0, .int .i64 0, .yes false]⟩, ⟨79, [.arr [some .i64, some .i64, none] (agL 0 t.T t.H t.L)]⟩], [(decide (t.i = 0) && decide (t.n = lenT t.T) && decide (t.n ≤ 64) && decide (lenT t.H = lenT t.T) && decide (t.m = lenT t.T) && decide (lenT t.L = lenT t.T), true)])
theorem agD_ok (x : Code) (hx : codeAt (bodyOf Try.f55) [false, true, false, true, true, true, true] = some (.loop x)) : LpOk Try.prog numI 51 x (agD.sp nmSafe) := by
  obtain rfl := loopAt_eq hx
  refine lpA_ok (c := ctxOf Try.prog numI (fun _ => false) libA1) (ctxOf_ok libA1_ok (eq_none _)) (by kernel_rfl) (fun _ _ _ h => h) hx lps_nil (S := agS) (step := agStep) (fun _ h => h) (by kernel_rfl) (by kernel_rfl) ?_ rfl (fun t e he => ?_) (fun t hb rest => ag_round t hb rest) ?_
  · intro vs tr ks s hv1 hv2 h hv3
    simp only [agD] at h
    split at h
    · cases h
      refine ⟨rfl, fun e he => ?_⟩
      simp only [agS, agTm] at he
      rcases List.mem_cons.1 he with rfl | he
      · exact .inl (List.mem_of_getElem? (i := 0) rfl)
      rcases List.mem_cons.1 he with rfl | he
      · exact .inl (List.mem_of_getElem? (i := 1) rfl)
      rcases List.mem_cons.1 he with rfl | he
      · exact .inl (List.mem_of_getElem? (i := 2) rfl)
      rcases List.mem_cons.1 he with rfl | he
      · exact .inl (List.mem_of_getElem? (i := 3) rfl)
      obtain rfl := List.mem_singleton.1 he
      exact .inr ⟨0, _, _, rfl, rfl, rfl⟩
    · cases h
  · simp only [agS, agTm, List.mem_cons, List.not_mem_nil, or_false] at he
    rcases he with rfl | rfl | rfl | rfl | rfl <;> rfl
  · intro s β ex outs rts wb cd h hfk hc
    obtain ⟨T, H, n, i, m, c, L⟩ := s
    have hβ := hfk _ rfl
    cases β with
    | true =>
      simp only [agD] at h hβ
      cases h
      have := c1x hc
      simp only [Bool.and_eq_true, decide_eq_true_eq] at this
      obtain ⟨⟨⟨⟨⟨rfl, rfl⟩, h3⟩, h4⟩, rfl⟩, h6⟩ := this
      obtain ⟨f, hc⟩ := ag_runs (c := c) h3 h4 T.length 0 L (by omega) (by unfold lenT at h6; omega)
      refine ⟨f, ?_⟩
      rw [List.drop_zero, List.drop_zero, if_pos (of_decide_eq_true hβ)] at hc
      exact hc
    | false =>
      simp only [agD] at h hβ
      cases h
      have := c1x hc
      simp only [Bool.and_eq_true, decide_eq_true_eq] at this
      obtain ⟨⟨⟨⟨⟨rfl, rfl⟩, h3⟩, h4⟩, rfl⟩, h6⟩ := this
      obtain ⟨f, hc⟩ := ag_runs (c := c) h3 h4 T.length 0 L (by omega) (by unfold lenT at h6; omega)
      refine ⟨f, ?_⟩
      rw [List.drop_zero, List.drop_zero, if_neg (of_decide_eq_false hβ)] at hc
      exact hc
set_option maxRecDepth 100000 in
theorem as0_0 (T : List (List Int)) (U : List (List Int)) (f : Int) (k : Int) (n : Int) (i : Int) (rest : List (Nat × AV Nm)) : evView (ctxOf Try.prog numI (fun _ => false) libA1) 108 (false :: [false, true, false, true, true, true, true, true, true, true, true]) (loopAt (bodyOf Try.f56) [false, true, false, true, true, true, true, true, true, true, true]) ([(67, (.w (.one (.fv (.tab [some .i64, some .i64, none] T))))), (9, (.w (.one (.fv (.tab [some .i64, some .i64, none] U))))), (2, (.w (.one (.int .i64 f)))), (8, (.w (.one (.int .i64 k)))), (68, (.w (.one (.int .i64 n)))), (69, (.w (.one (.int .i64 i))))] ++ (ptrN 0 [14] ++ rest)) [⟨79, phW none⟩] 1 [67, 9, 2, 8, 68, 69, 14] [false] = some ((Ex.exit 2, [AV.w (AW.one (AC.fv (Nm.tab [some IntKind.i64, some IntKind.i64, none] T))), AV.w (AW.one (AC.fv (Nm.tab [some IntKind.i64, some IntKind.i64, none] U))), AV.w (AW.one (AC.int IntKind.i64 f)), AV.w (AW.one (AC.int IntKind.i64 k)), AV.w (AW.one (AC.int IntKind.i64 n)), AV.w (AW.one (AC.int IntKind.i64 i)), AV.w (AW.one (AC.ptr 0 0))], [{ ty := 79, cs := [AC.int IntKind.i64 0, AC.int IntKind.i64 0, AC.yes true] }]), (pickL [(decide (i < n), false)] [0])) := by kernel_rfl
set_option maxRecDepth 100000 in
theorem as0_110100 (T : List (List Int)) (U : List (List Int)) (f : Int) (k : Int) (n : Int) (i : Int) (rest : List (Nat × AV Nm)) : evView (ctxOf Try.prog numI (fun _ => false) libA1) 108 (false :: [false, true, false, true, true, true, true, true, true, true, true]) (loopAt (bodyOf Try.f56) [false, true, false, true, true, true, true, true, true, true, true]) ([(67, (.w (.one (.fv (.tab [some .i64, some .i64, none] T))))), (9, (.w (.one (.fv (.tab [some .i64, some .i64, none] U))))), (2, (.w (.one (.int .i64 f)))), (8, (.w (.one (.int .i64 k)))), (68, (.w (.one (.int .i64 n)))), (69, (.w (.one (.int .i64 i))))] ++ (ptrN 0 [14] ++ rest)) [⟨79, phW none⟩] 1 [67, 9, 2, 8, 68, 69, 14] [true, true, false, true, false, false] = some ((Ex.normal, [AV.w (AW.one (AC.fv (Nm.tab [some IntKind.i64, some IntKind.i64, none] T))), AV.w (AW.one (AC.fv (Nm.tab [some IntKind.i64, some IntKind.i64, none] U))), AV.w (AW.one (AC.int IntKind.i64 f)), AV.w (AW.one (AC.int IntKind.i64 k)), AV.w (AW.one (AC.int IntKind.i64 n)), AV.w (AW.one (AC.int IntKind.i64 (IntKind.i64.wrap (i + 1)))), AV.w (AW.one (AC.ptr 0 0))], [{ ty := 79, cs := [AC.int IntKind.i64 (bif false then if cel T i 1 > bif false then if cel T i 0 > cel T i 0 then cel T i 0 else cel T i 0 else if cel T i 0 < cel T i 0 then cel T i 0 else cel T i 0 then cel T i 1 else bif false then if cel T i 0 > cel T i 0 then cel T i 0 else cel T i 0 else if cel T i 0 < cel T i 0 then cel T i 0 else cel T i 0 else if cel T i 1 < bif false then if cel T i 0 > cel T i 0 then cel T i 0 else cel T i 0 else if cel T i 0 < cel T i 0 then cel T i 0 else cel T i 0 then cel T i 1 else bif false then if cel T i 0 > cel T i 0 then cel T i 0 else cel T i 0 else if cel T i 0 < cel T i 0 then cel T i 0 else cel T i 0), AC.int IntKind.i64 (bif true then if cel T i 1 > bif true then if cel T i 0 > cel T i 0 then cel T i 0 else cel T i 0 else if cel T i 0 < cel T i 0 then cel T i 0 else cel T i 0 then cel T i 1 else bif true then if cel T i 0 > cel T i 0 then cel T i 0 else cel T i 0 else if cel T i 0 < cel T i 0 then cel T i 0 else cel T i 0 else if cel T i 1 < bif true then if cel T i 0 > cel T i 0 then cel T i 0 else cel T i 0 else if cel T i 0 < cel T i 0 then cel T i 0 else cel T i 0 then cel T i 1 else bif true then if cel T i 0 > cel T i 0 then cel T i 0 else cel T i 0 else if cel T i 0 < cel T i 0 then cel T i 0 else cel T i 0), AC.yes false] }]), (pickL [(decide (i < n), true), (decide (0 ≤ i), true), (decide (i < lenT T), true), (decide (0 < ((2 : Nat) : Int)), true), (decide (0 ≤ 0), true), (decide (lenT U ≤ 34359738368), true), (i64B (cel T i 0), true), (decide (spV U (cel T i 0) < IntKind.i64.wrap (k - f)), false), (true, true), (decide (IntKind.i64.wrap 1 < ((2 : Nat) : Int)), true), (decide (0 ≤ IntKind.i64.wrap 1), true), (i64B (cel T i 1), true), (decide (spV U (cel T i 1) < IntKind.i64.wrap (k - f)), false), (false, false), (decide (IntKind.i64.wrap (IntKind.i64.wrap 1 + 1) < ((2 : Nat) : Int)), false)] [0, 1, 2, 1, 2, 3, 4, 3, 5, 6, 7, 8, 9, 10, 9, 5, 11, 12, 13, 14])) := by kernel_rfl
set_option maxRecDepth 100000 in
theorem as0_110110 (T : List (List Int)) (U : List (List Int)) (f : Int) (k : Int) (n : Int) (i : Int) (rest : List (Nat × AV Nm)) : evView (ctxOf Try.prog numI (fun _ => false) libA1) 108 (false :: [false, true, false, true, true, true, true, true, true, true, true]) (loopAt (bodyOf Try.f56) [false, true, false, true, true, true, true, true, true, true, true]) ([(67, (.w (.one (.fv (.tab [some .i64, some .i64, none] T))))), (9, (.w (.one (.fv (.tab [some .i64, some .i64, none] U))))), (2, (.w (.one (.int .i64 f)))), (8, (.w (.one (.int .i64 k)))), (68, (.w (.one (.int .i64 n)))), (69, (.w (.one (.int .i64 i))))] ++ (ptrN 0 [14] ++ rest)) [⟨79, phW none⟩] 1 [67, 9, 2, 8, 68, 69, 14] [true, true, false, true, true, false] = some ((Ex.normal, [AV.w (AW.one (AC.fv (Nm.tab [some IntKind.i64, some IntKind.i64, none] T))), AV.w (AW.one (AC.fv (Nm.tab [some IntKind.i64, some IntKind.i64, none] U))), AV.w (AW.one (AC.int IntKind.i64 f)), AV.w (AW.one (AC.int IntKind.i64 k)), AV.w (AW.one (AC.int IntKind.i64 n)), AV.w (AW.one (AC.int IntKind.i64 (IntKind.i64.wrap (i + 1)))), AV.w (AW.one (AC.ptr 0 0))], [{ ty := 79, cs := [AC.int IntKind.i64 (bif false then if cel T i 0 > cel T i 0 then cel T i 0 else cel T i 0 else if cel T i 0 < cel T i 0 then cel T i 0 else cel T i 0), AC.int IntKind.i64 (bif true then if cel T i 0 > cel T i 0 then cel T i 0 else cel T i 0 else if cel T i 0 < cel T i 0 then cel T i 0 else cel T i 0), AC.yes false] }]), (pickL [(decide (i < n), true), (decide (0 ≤ i), true), (decide (i < lenT T), true), (decide (0 < ((2 : Nat) : Int)), true), (decide (0 ≤ 0), true), (decide (lenT U ≤ 34359738368), true), (i64B (cel T i 0), true), (decide (spV U (cel T i 0) < IntKind.i64.wrap (k - f)), false), (true, true), (decide (IntKind.i64.wrap 1 < ((2 : Nat) : Int)), true), (decide (0 ≤ IntKind.i64.wrap 1), true), (i64B (cel T i 1), true), (decide (spV U (cel T i 1) < IntKind.i64.wrap (k - f)), true), (decide (IntKind.i64.wrap (IntKind.i64.wrap 1 + 1) < ((2 : Nat) : Int)), false)] [0, 1, 2, 1, 2, 3, 4, 3, 5, 6, 7, 8, 9, 10, 9, 5, 11, 12, 13])) := by kernel_rfl
set_option maxRecDepth 100000 in
theorem as0_111100 (T : List (List Int)) (U : List (List Int)) (f : Int) (k : Int) (n : Int) (i : Int) (rest : List (Nat × AV Nm)) : evView (ctxOf Try.prog numI (fun _ => false) libA1) 108 (false :: [false, true, false, true, true, true, true, true, true, true, true]) (loopAt (bodyOf Try.f56) [false, true, false, true, true, true, true, true, true, true, true]) ([(67, (.w (.one (.fv (.tab [some .i64, some .i64, none] T))))), (9, (.w (.one (.fv (.tab [some .i64, some .i64, none] U))))), (2, (.w (.one (.int .i64 f)))), (8, (.w (.one (.int .i64 k)))), (68, (.w (.one (.int .i64 n)))), (69, (.w (.one (.int .i64 i))))] ++ (ptrN 0 [14] ++ rest)) [⟨79, phW none⟩] 1 [67, 9, 2, 8, 68, 69, 14] [true, true, true, true, false, false] = some ((Ex.normal, [AV.w (AW.one (AC.fv (Nm.tab [some IntKind.i64, some IntKind.i64, none] T))), AV.w (AW.one (AC.fv (Nm.tab [some IntKind.i64, some IntKind.i64, none] U))), AV.w (AW.one (AC.int IntKind.i64 f)), AV.w (AW.one (AC.int IntKind.i64 k)), AV.w (AW.one (AC.int IntKind.i64 n)), AV.w (AW.one (AC.int IntKind.i64 (IntKind.i64.wrap (i + 1)))), AV.w (AW.one (AC.ptr 0 0))], [{ ty := 79, cs := [AC.int IntKind.i64 (bif false then if cel T i 1 > cel T i 1 then cel T i 1 else cel T i 1 else if cel T i 1 < cel T i 1 then cel T i 1 else cel T i 1), AC.int IntKind.i64 (bif true then if cel T i 1 > cel T i 1 then cel T i 1 else cel T i 1 else if cel T i 1 < cel T i 1 then cel T i 1 else cel T i 1), AC.yes false] }]), (pickL [(decide (i < n), true), (decide (0 ≤ i), true), (decide (i < lenT T), true), (decide (0 < ((2 : Nat) : Int)), true), (decide (0 ≤ 0), true), (decide (lenT U ≤ 34359738368), true), (i64B (cel T i 0), true), (decide (spV U (cel T i 0) < IntKind.i64.wrap (k - f)), true), (decide (IntKind.i64.wrap 1 < ((2 : Nat) : Int)), true), (decide (0 ≤ IntKind.i64.wrap 1), true), (i64B (cel T i 1), true), (decide (spV U (cel T i 1) < IntKind.i64.wrap (k - f)), false), (true, true), (decide (IntKind.i64.wrap (IntKind.i64.wrap 1 + 1) < ((2 : Nat) : Int)), false)] [0, 1, 2, 1, 2, 3, 4, 3, 5, 6, 7, 8, 9, 8, 5, 10, 11, 12, 13])) := by kernel_rfl
set_option maxRecDepth 100000 in
theorem as0_111110 (T : List (List Int)) (U : List (List Int)) (f : Int) (k : Int) (n : Int) (i : Int) (rest : List (Nat × AV Nm)) : evView (ctxOf Try.prog numI (fun _ => false) libA1) 108 (false :: [false, true, false, true, true, true, true, true, true, true, true]) (loopAt (bodyOf Try.f56) [false, true, false, true, true, true, true, true, true, true, true]) ([(67, (.w (.one (.fv (.tab [some .i64, some .i64, none] T))))), (9, (.w (.one (.fv (.tab [some .i64, some .i64, none] U))))), (2, (.w (.one (.int .i64 f)))), (8, (.w (.one (.int .i64 k)))), (68, (.w (.one (.int .i64 n)))), (69, (.w (.one (.int .i64 i))))] ++ (ptrN 0 [14] ++ rest)) [⟨79, phW none⟩] 1 [67, 9, 2, 8, 68, 69, 14] [true, true, true, true, true, false] = some ((Ex.normal, [AV.w (AW.one (AC.fv (Nm.tab [some IntKind.i64, some IntKind.i64, none] T))), AV.w (AW.one (AC.fv (Nm.tab [some IntKind.i64, some IntKind.i64, none] U))), AV.w (AW.one (AC.int IntKind.i64 f)), AV.w (AW.one (AC.int IntKind.i64 k)), AV.w (AW.one (AC.int IntKind.i64 n)), AV.w (AW.one (AC.int IntKind.i64 (IntKind.i64.wrap (i + 1)))), AV.w (AW.one (AC.ptr 0 0))], [{ ty := 79, cs := [AC.int IntKind.i64 0, AC.int IntKind.i64 0, AC.yes true] }]), (pickL [(decide (i < n), true), (decide (0 ≤ i), true), (decide (i < lenT T), true), (decide (0 < ((2 : Nat) : Int)), true), (decide (0 ≤ 0), true), (decide (lenT U ≤ 34359738368), true), (i64B (cel T i 0), true), (decide (spV U (cel T i 0) < IntKind.i64.wrap (k - f)), true), (decide (IntKind.i64.wrap 1 < ((2 : Nat) : Int)), true), (decide (0 ≤ IntKind.i64.wrap 1), true), (i64B (cel T i 1), true), (decide (spV U (cel T i 1) < IntKind.i64.wrap (k - f)), true), (decide (IntKind.i64.wrap (IntKind.i64.wrap 1 + 1) < ((2 : Nat) : Int)), false)] [0, 1, 2, 1, 2, 3, 4, 3, 5, 6, 7, 8, 9, 8, 5, 10, 11, 12])) := by kernel_rfl
set_option maxRecDepth 100000 in
theorem as1_0 (T : List (List Int)) (U : List (List Int)) (f : Int) (k : Int) (n : Int) (i : Int) (rest : List (Nat × AV Nm)) (a : Int) (b : Int) : evView (ctxOf Try.prog numI (fun _ => false) libA1) 108 (false :: [false, true, false, true, true, true, true, true, true, true, true]) (loopAt (bodyOf Try.f56) [false, true, false, true, true, true, true, true, true, true, true]) ([(67, (.w (.one (.fv (.tab [some .i64, some .i64, none] T))))), (9, (.w (.one (.fv (.tab [some .i64, some .i64, none] U))))), (2, (.w (.one (.int .i64 f)))), (8, (.w (.one (.int .i64 k)))), (68, (.w (.one (.int .i64 n)))), (69, (.w (.one (.int .i64 i))))] ++ (ptrN 0 [14] ++ rest)) [⟨79, phW (some (a, b))⟩] 1 [67, 9, 2, 8, 68, 69, 14] [false] = some ((Ex.exit 2, [AV.w (AW.one (AC.fv (Nm.tab [some IntKind.i64, some IntKind.i64, none] T))), AV.w (AW.one (AC.fv (Nm.tab [some IntKind.i64, some IntKind.i64, none] U))), AV.w (AW.one (AC.int IntKind.i64 f)), AV.w (AW.one (AC.int IntKind.i64 k)), AV.w (AW.one (AC.int IntKind.i64 n)), AV.w (AW.one (AC.int IntKind.i64 i)), AV.w (AW.one (AC.ptr 0 0))], [{ ty := 79, cs := [AC.int IntKind.i64 a, AC.int IntKind.i64 b, AC.yes false] }]), (pickL [(decide (i < n), false)] [0])) := by kernel_rfl
set_option maxRecDepth 100000 in
theorem as1_110100 (T : List (List Int)) (U : List (List Int)) (f : Int) (k : Int) (n : Int) (i : Int) (rest : List (Nat × AV Nm)) (a : Int) (b : Int) : evView (ctxOf Try.prog numI (fun _ => false) libA1) 108 (false :: [false, true, false, true, true, true, true, true, true, true, true]) (loopAt (bodyOf Try.f56) [false, true, false, true, true, true, true, true, true, true, true]) ([(67, (.w (.one (.fv (.tab [some .i64, some .i64, none] T))))), (9, (.w (.one (.fv (.tab [some .i64, some .i64, none] U))))), (2, (.w (.one (.int .i64 f)))), (8, (.w (.one (.int .i64 k)))), (68, (.w (.one (.int .i64 n)))), (69, (.w (.one (.int .i64 i))))] ++ (ptrN 0 [14] ++ rest)) [⟨79, phW (some (a, b))⟩] 1 [67, 9, 2, 8, 68, 69, 14] [true, true, false, true, false, false] = some ((Ex.normal, [AV.w (AW.one (AC.fv (Nm.tab [some IntKind.i64, some IntKind.i64, none] T))), AV.w (AW.one (AC.fv (Nm.tab [some IntKind.i64, some IntKind.i64, none] U))), AV.w (AW.one (AC.int IntKind.i64 f)), AV.w (AW.one (AC.int IntKind.i64 k)), AV.w (AW.one (AC.int IntKind.i64 n)), AV.w (AW.one (AC.int IntKind.i64 (IntKind.i64.wrap (i + 1)))), AV.w (AW.one (AC.ptr 0 0))], [{ ty := 79, cs := [AC.int IntKind.i64 (bif false then if cel T i 1 > bif false then if cel T i 0 > a then cel T i 0 else a else if cel T i 0 < a then cel T i 0 else a then cel T i 1 else bif false then if cel T i 0 > a then cel T i 0 else a else if cel T i 0 < a then cel T i 0 else a else if cel T i 1 < bif false then if cel T i 0 > a then cel T i 0 else a else if cel T i 0 < a then cel T i 0 else a then cel T i 1 else bif false then if cel T i 0 > a then cel T i 0 else a else if cel T i 0 < a then cel T i 0 else a), AC.int IntKind.i64 (bif true then if cel T i 1 > bif true then if cel T i 0 > b then cel T i 0 else b else if cel T i 0 < b then cel T i 0 else b then cel T i 1 else bif true then if cel T i 0 > b then cel T i 0 else b else if cel T i 0 < b then cel T i 0 else b else if cel T i 1 < bif true then if cel T i 0 > b then cel T i 0 else b else if cel T i 0 < b then cel T i 0 else b then cel T i 1 else bif true then if cel T i 0 > b then cel T i 0 else b else if cel T i 0 < b then cel T i 0 else b), AC.yes false] }]), (pickL [(decide (i < n), true), (decide (0 ≤ i), true), (decide (i < lenT T), true), (decide (0 < ((2 : Nat) : Int)), true), (decide (0 ≤ 0), true), (decide (lenT U ≤ 34359738368), true), (i64B (cel T i 0), true), (decide (spV U (cel T i 0) < IntKind.i64.wrap (k - f)), false), (false, false), (decide (IntKind.i64.wrap 1 < ((2 : Nat) : Int)), true), (decide (0 ≤ IntKind.i64.wrap 1), true), (i64B (cel T i 1), true), (decide (spV U (cel T i 1) < IntKind.i64.wrap (k - f)), false), (decide (IntKind.i64.wrap (IntKind.i64.wrap 1 + 1) < ((2 : Nat) : Int)), false)] [0, 1, 2, 1, 2, 3, 4, 3, 5, 6, 7, 8, 9, 10, 9, 5, 11, 12, 8, 13])) := by kernel_rfl
set_option maxRecDepth 100000 in
theorem as1_110110 (T : List (List Int)) (U : List (List Int)) (f : Int) (k : Int) (n : Int) (i : Int) (rest : List (Nat × AV Nm)) (a : Int) (b : Int) : evView (ctxOf Try.prog numI (fun _ => false) libA1) 108 (false :: [false, true, false, true, true, true, true, true, true, true, true]) (loopAt (bodyOf Try.f56) [false, true, false, true, true, true, true, true, true, true, true]) ([(67, (.w (.one (.fv (.tab [some .i64, some .i64, none] T))))), (9, (.w (.one (.fv (.tab [some .i64, some .i64, none] U))))), (2, (.w (.one (.int .i64 f)))), (8, (.w (.one (.int .i64 k)))), (68, (.w (.one (.int .i64 n)))), (69, (.w (.one (.int .i64 i))))] ++ (ptrN 0 [14] ++ rest)) [⟨79, phW (some (a, b))⟩] 1 [67, 9, 2, 8, 68, 69, 14] [true, true, false, true, true, false] = some ((Ex.normal, [AV.w (AW.one (AC.fv (Nm.tab [some IntKind.i64, some IntKind.i64, none] T))), AV.w (AW.one (AC.fv (Nm.tab [some IntKind.i64, some IntKind.i64, none] U))), AV.w (AW.one (AC.int IntKind.i64 f)), AV.w (AW.one (AC.int IntKind.i64 k)), AV.w (AW.one (AC.int IntKind.i64 n)), AV.w (AW.one (AC.int IntKind.i64 (IntKind.i64.wrap (i + 1)))), AV.w (AW.one (AC.ptr 0 0))], [{ ty := 79, cs := [AC.int IntKind.i64 (bif false then if cel T i 0 > a then cel T i 0 else a else if cel T i 0 < a then cel T i 0 else a), AC.int IntKind.i64 (bif true then if cel T i 0 > b then cel T i 0 else b else if cel T i 0 < b then cel T i 0 else b), AC.yes false] }]), (pickL [(decide (i < n), true), (decide (0 ≤ i), true), (decide (i < lenT T), true), (decide (0 < ((2 : Nat) : Int)), true), (decide (0 ≤ 0), true), (decide (lenT U ≤ 34359738368), true), (i64B (cel T i 0), true), (decide (spV U (cel T i 0) < IntKind.i64.wrap (k - f)), false), (false, false), (decide (IntKind.i64.wrap 1 < ((2 : Nat) : Int)), true), (decide (0 ≤ IntKind.i64.wrap 1), true), (i64B (cel T i 1), true), (decide (spV U (cel T i 1) < IntKind.i64.wrap (k - f)), true), (decide (IntKind.i64.wrap (IntKind.i64.wrap 1 + 1) < ((2 : Nat) : Int)), false)] [0, 1, 2, 1, 2, 3, 4, 3, 5, 6, 7, 8, 9, 10, 9, 5, 11, 12, 13])) := by kernel_rfl
set_option maxRecDepth 100000 in
theorem as1_111100 (T : List (List Int)) (U : List (List Int)) (f : Int) (k : Int) (n : Int) (i : Int) (rest : List (Nat × AV Nm)) (a : Int) (b : Int) : evView (ctxOf Try.prog numI (fun _ => false) libA1) 108 (false :: [false, true, false, true, true, true, true, true, true, true, true]) (loopAt (bodyOf Try.f56) [false, true, false, true, true, true, true, true, true, true, true]) ([(67, (.w (.one (.fv (.tab [some .i64, some .i64, none] T))))), (9, (.w (.one (.fv (.tab [some .i64, some .i64, none] U))))), (2, (.w (.one (.int .i64 f)))), (8, (.w (.one (.int .i64 k)))), (68, (.w (.one (.int .i64 n)))), (69, (.w (.one (.int .i64 i))))] ++ (ptrN 0 [14] ++ rest)) [⟨79, phW (some (a, b))⟩] 1 [67, 9, 2, 8, 68, 69, 14] [true, true, true, true, false, false] = some ((Ex.normal, [AV.w (AW.one (AC.fv (Nm.tab [some IntKind.i64, some IntKind.i64, none] T))), AV.w (AW.one (AC.fv (Nm.tab [some IntKind.i64, some IntKind.i64, none] U))), AV.w (AW.one (AC.int IntKind.i64 f)), AV.w (AW.one (AC.int IntKind.i64 k)), AV.w (AW.one (AC.int IntKind.i64 n)), AV.w (AW.one (AC.int IntKind.i64 (IntKind.i64.wrap (i + 1)))), AV.w (AW.one (AC.ptr 0 0))], [{ ty := 79, cs := [AC.int IntKind.i64 (bif false then if cel T i 1 > a then cel T i 1 else a else if cel T i 1 < a then cel T i 1 else a), AC.int IntKind.i64 (bif true then if cel T i 1 > b then cel T i 1 else b else if cel T i 1 < b then cel T i 1 else b), AC.yes false] }]), (pickL [(decide (i < n), true), (decide (0 ≤ i), true), (decide (i < lenT T), true), (decide (0 < ((2 : Nat) : Int)), true), (decide (0 ≤ 0), true), (decide (lenT U ≤ 34359738368), true), (i64B (cel T i 0), true), (decide (spV U (cel T i 0) < IntKind.i64.wrap (k - f)), true), (decide (IntKind.i64.wrap 1 < ((2 : Nat) : Int)), true), (decide (0 ≤ IntKind.i64.wrap 1), true), (i64B (cel T i 1), true), (decide (spV U (cel T i 1) < IntKind.i64.wrap (k - f)), false), (false, false), (decide (IntKind.i64.wrap (IntKind.i64.wrap 1 + 1) < ((2 : Nat) : Int)), false)] [0, 1, 2, 1, 2, 3, 4, 3, 5, 6, 7, 8, 9, 8, 5, 10, 11, 12, 13])) := by kernel_rfl
set_option maxRecDepth 100000 in
theorem as1_111110 (T : List (List Int)) (U : List (List Int)) (f : Int) (k : Int) (n : Int) (i : Int) (rest : List (Nat × AV Nm)) (a : Int) (b : Int) : evView (ctxOf Try.prog numI (fun _ => false) libA1) 108 (false :: [false, true, false, true, true, true, true, true, true, true, true]) (loopAt (bodyOf Try.f56) [false, true, false, true, true, true, true, true, true, true, true]) ([(67, (.w (.one (.fv (.tab [some .i64, some .i64, none] T))))), (9, (.w (.one (.fv (.tab [some .i64, some .i64, none] U))))), (2, (.w (.one (.int .i64 f)))), (8, (.w (.one (.int .i64 k)))), (68, (.w (.one (.int .i64 n)))), (69, (.w (.one (.int .i64 i))))] ++ (ptrN 0 [14] ++ rest)) [⟨79, phW (some (a, b))⟩] 1 [67, 9, 2, 8, 68, 69, 14] [true, true, true, true, true, false] = some ((Ex.normal, [AV.w (AW.one (AC.fv (Nm.tab [some IntKind.i64, some IntKind.i64, none] T))), AV.w (AW.one (AC.fv (Nm.tab [some IntKind.i64, some IntKind.i64, none] U))), AV.w (AW.one (AC.int IntKind.i64 f)), AV.w (AW.one (AC.int IntKind.i64 k)), AV.w (AW.one (AC.int IntKind.i64 n)), AV.w (AW.one (AC.int IntKind.i64 (IntKind.i64.wrap (i + 1)))), AV.w (AW.one (AC.ptr 0 0))], [{ ty := 79, cs := [AC.int IntKind.i64 a, AC.int IntKind.i64 b, AC.yes false] }]), (pickL [(decide (i < n), true), (decide (0 ≤ i), true), (decide (i < lenT T), true), (decide (0 < ((2 : Nat) : Int)), true), (decide (0 ≤ 0), true), (decide (lenT U ≤ 34359738368), true), (i64B (cel T i 0), true), (decide (spV U (cel T i 0) < IntKind.i64.wrap (k - f)), true), (decide (IntKind.i64.wrap 1 < ((2 : Nat) : Int)), true), (decide (0 ≤ IntKind.i64.wrap 1), true), (i64B (cel T i 1), true), (decide (spV U (cel T i 1) < IntKind.i64.wrap (k - f)), true), (decide (IntKind.i64.wrap (IntKind.i64.wrap 1 + 1) < ((2 : Nat) : Int)), false)] [0, 1, 2, 1, 2, 3, 4, 3, 5, 6, 7, 8, 9, 8, 5, 10, 11, 12])) := by kernel_rfl
def ptW (U : List (List Int)) (f k : Int) (w : Option (Int × Int)) (r : List Int) : Option (Int × Int) := putW U (k - f) (putW U (k - f) w (r.getD 0 0)) (r.getD 1 0)
def inC (r : List Int) : Bool := i64B (r.getD 0 0) && i64B (r.getD 1 0)
theorem inC_at {T : List (List Int)} (h : T.all inC = true) {i : Int} (h0 : 0 ≤ i) (h1 : i < lenT T) : i64B (cel T i 0) = true ∧ i64B (cel T i 1) = true := by
  unfold lenT at h1
  have hi : i.toNat < T.length := by omega
  have e : T.getD i.toNat [] = T[i.toNat] := by simp [List.getD_eq_getElem?_getD, hi]
  have := List.all_eq_true.1 h _ (List.getElem_mem hi)
  rw [← e] at this
  unfold inC at this
  rw [Bool.and_eq_true] at this
  exact this
structure asT where
  T : List (List Int)
  U : List (List Int)
  f : Int
  k : Int
  w : Option (Int × Int)
  n : Int
  i : Int
def asP (T : List (List Int)) (U : List (List Int)) (f : Int) (k : Int) (w : Option (Int × Int)) (n : Int) (i : Int) : Prop := 0 ≤ i ∧ i ≤ n ∧ n = lenT T ∧ n ≤ 34359738368 ∧ 0 ≤ f ∧ f < k ∧ k ≤ 34359738368 ∧ T.all inC = true ∧ T = U
instance (T : List (List Int)) (U : List (List Int)) (f : Int) (k : Int) (w : Option (Int × Int)) (n : Int) (i : Int) : Decidable (asP T U f k w n i) := by unfold asP; infer_instance
def asTm (T : List (List Int)) (U : List (List Int)) (f : Int) (k : Int) (w : Option (Int × Int)) (n : Int) (i : Int) : List (Nat × AV Nm) := [(67, (.w (.one (.fv (.tab [some .i64, some .i64, none] T))))), (9, (.w (.one (.fv (.tab [some .i64, some .i64, none] U))))), (2, (.w (.one (.int .i64 f)))), (8, (.w (.one (.int .i64 k)))), (68, (.w (.one (.int .i64 n)))), (69, (.w (.one (.int .i64 i))))]
def asS : LpSt asT Nm where
  ps := [14]
  tm := fun t => asTm t.T t.U t.f t.k t.w t.n t.i
  hp := fun t => [⟨79, phW t.w⟩]
def asNx (T : List (List Int)) (U : List (List Int)) (f : Int) (k : Int) (w : Option (Int × Int)) (n : Int) (i : Int) : Nxt asT Nm := if i < n then .go ⟨T, U, f, k, ptW U f k w (rowU T i), n, i + 1⟩ else .out (.exit 2) (asTm T U f k w n i) [⟨79, phW w⟩]
def asStep (t : asT) : Nxt asT Nm := if asP t.T t.U t.f t.k t.w t.n t.i then asNx t.T t.U t.f t.k t.w t.n t.i else .bad
theorem as_go {T : List (List Int)} {U : List (List Int)} {f : Int} {k : Int} {w : Option (Int × Int)} {n : Int} {i : Int} (h : asP T U f k w n i) : asStep ⟨T, U, f, k, w, n, i⟩ = asNx T U f k w n i := if_pos h
set_option maxRecDepth 100000 in
set_option maxHeartbeats 4000000 in
theorem as_round (t : asT) (hb : (asStep t).isBad = false) (rest : List (Nat × AV Nm)) : ∃ fuel path r, evC (ctxOf Try.prog numI (fun _ => false) libA1) fuel 108 (false :: [false, true, false, true, true, true, true, true, true, true, true]) (loopAt (bodyOf Try.f56) [false, true, false, true, true, true, true, true, true, true, true]) (asS.tm t ++ (ptrN 0 asS.ps ++ rest)) (numb 0 (asS.hp t)) 1 path = some r ∧ (∀ p ∈ r.cd, p.1 = p.2) ∧ Gives asS 1 r (asStep t) := by
  obtain ⟨T, U, f, k, w, n, i⟩ := t
  by_cases ok : asP T U f k w n i
  · rw [as_go ok]
    clear hb
    unfold asNx
    obtain ⟨h1, h2, rfl, h4, h5, h6, h7, h8, rfl⟩ := ok
    have z0 : decide ((0 : Int) ≤ 0) = true := rfl
    have z1 : decide (0 ≤ IntKind.i64.wrap 1) = true := by decide
    have e0 : decide (0 ≤ i) = true := decide_eq_true h1
    have e1 : i < lenT T → IntKind.i64.wrap (i + 1) = i + 1 := fun _ => v64 (by omega) (by omega)
    cases w with
    | none =>
      cases k0 : (decide (i < lenT T)) with
      | true =>
        cases k1 : (decide (spV T (cel T i 0) < IntKind.i64.wrap (k - f))) with
        | true =>
          cases k2 : (decide (spV T (cel T i 1) < IntKind.i64.wrap (k - f))) with
          | true =>
            obtain ⟨q1, q2⟩ := inC_at h8 h1 (of_decide_eq_true k0)
            rw [if_pos (of_decide_eq_true k0)]
            have g0 := of_decide_eq_true k1
            have g1 := of_decide_eq_true k2
            have ew : IntKind.i64.wrap (k - f) = k - f := v64 (by omega) (by omega)
            rw [ew, cel_row] at g0 g1
            have hA : putW T (k - f) none ((rowU T i).getD 0 0) = none := if_pos g0
            have hB : putW T (k - f) none ((rowU T i).getD 1 0) = none := if_pos g1
            have hE : ptW T f k none (rowU T i) = none := by unfold ptW; rw [hA, hB]
            rw [hE]
            have t0 : decide (lenT T ≤ 34359738368) = true := decide_eq_true h4
            have L := as0_111110 T T f k (lenT T) i rest
            rw [e1 (of_decide_eq_true k0)] at L
            refine round_go L (pickL_ok ?_ _) rfl rfl rfl rfl
            repeat' (first | exact cd_nil | refine cd_cons ?_ ?_)
            all_goals first | rfl | with_reducible assumption
          | false =>
            obtain ⟨q1, q2⟩ := inC_at h8 h1 (of_decide_eq_true k0)
            rw [if_pos (of_decide_eq_true k0)]
            have g0 := of_decide_eq_true k1
            have g1 := of_decide_eq_false k2
            have ew : IntKind.i64.wrap (k - f) = k - f := v64 (by omega) (by omega)
            rw [ew, cel_row] at g0 g1
            have hA : putW T (k - f) none ((rowU T i).getD 0 0) = none := if_pos g0
            have hB : putW T (k - f) none ((rowU T i).getD 1 0) = (some (mnW (cel T i 1) (cel T i 1), mxW (cel T i 1) (cel T i 1))) := if_neg g1
            have hE : ptW T f k none (rowU T i) = (some (mnW (cel T i 1) (cel T i 1), mxW (cel T i 1) (cel T i 1))) := by unfold ptW; rw [hA, hB]
            rw [hE]
            have t0 : decide (lenT T ≤ 34359738368) = true := decide_eq_true h4
            have L := as0_111100 T T f k (lenT T) i rest
            rw [e1 (of_decide_eq_true k0)] at L
            refine round_go L (pickL_ok ?_ _) rfl rfl rfl rfl
            repeat' (first | exact cd_nil | refine cd_cons ?_ ?_)
            all_goals first | rfl | with_reducible assumption
        | false =>
          cases k3 : (decide (spV T (cel T i 1) < IntKind.i64.wrap (k - f))) with
          | true =>
            obtain ⟨q1, q2⟩ := inC_at h8 h1 (of_decide_eq_true k0)
            rw [if_pos (of_decide_eq_true k0)]
            have g0 := of_decide_eq_false k1
            have g1 := of_decide_eq_true k3
            have ew : IntKind.i64.wrap (k - f) = k - f := v64 (by omega) (by omega)
            rw [ew, cel_row] at g0 g1
            have hA : putW T (k - f) none ((rowU T i).getD 0 0) = (some (mnW (cel T i 0) (cel T i 0), mxW (cel T i 0) (cel T i 0))) := if_neg g0
            have hB : putW T (k - f) (some (mnW (cel T i 0) (cel T i 0), mxW (cel T i 0) (cel T i 0))) ((rowU T i).getD 1 0) = (some (mnW (cel T i 0) (cel T i 0), mxW (cel T i 0) (cel T i 0))) := if_pos g1
            have hE : ptW T f k none (rowU T i) = (some (mnW (cel T i 0) (cel T i 0), mxW (cel T i 0) (cel T i 0))) := by unfold ptW; rw [hA, hB]
            rw [hE]
            have t0 : decide (lenT T ≤ 34359738368) = true := decide_eq_true h4
            have L := as0_110110 T T f k (lenT T) i rest
            rw [e1 (of_decide_eq_true k0)] at L
            refine round_go L (pickL_ok ?_ _) rfl rfl rfl rfl
            repeat' (first | exact cd_nil | refine cd_cons ?_ ?_)
            all_goals first | rfl | with_reducible assumption
          | false =>
            obtain ⟨q1, q2⟩ := inC_at h8 h1 (of_decide_eq_true k0)
            rw [if_pos (of_decide_eq_true k0)]
            have g0 := of_decide_eq_false k1
            have g1 := of_decide_eq_false k3
            have ew : IntKind.i64.wrap (k - f) = k - f := v64 (by omega) (by omega)
            rw [ew, cel_row] at g0 g1
            have hA : putW T (k - f) none ((rowU T i).getD 0 0) = (some (mnW (cel T i 0) (cel T i 0), mxW (cel T i 0) (cel T i 0))) := if_neg g0
            have hB : putW T (k - f) (some (mnW (cel T i 0) (cel T i 0), mxW (cel T i 0) (cel T i 0))) ((rowU T i).getD 1 0) = (some (mnW (mnW (cel T i 0) (cel T i 0)) (cel T i 1), mxW (mxW (cel T i 0) (cel T i 0)) (cel T i 1))) := if_neg g1
            have hE : ptW T f k none (rowU T i) = (some (mnW (mnW (cel T i 0) (cel T i 0)) (cel T i 1), mxW (mxW (cel T i 0) (cel T i 0)) (cel T i 1))) := by unfold ptW; rw [hA, hB]
            rw [hE]
            have t0 : decide (lenT T ≤ 34359738368) = true := decide_eq_true h4
            have L := as0_110100 T T f k (lenT T) i rest
            rw [e1 (of_decide_eq_true k0)] at L
            refine round_go L (pickL_ok ?_ _) rfl rfl rfl rfl
            repeat' (first | exact cd_nil | refine cd_cons ?_ ?_)
            all_goals first | rfl | with_reducible assumption
      | false =>
        rw [if_neg (of_decide_eq_false k0)]
        have L := as0_0 T T f k (lenT T) i rest
        refine round_out L rfl (pickL_ok ?_ _) rfl rfl rfl
        repeat' (first | exact cd_nil | refine cd_cons ?_ ?_)
        all_goals first | rfl | with_reducible assumption
    | some p =>
      obtain ⟨a, b⟩ := p
      cases k0 : (decide (i < lenT T)) with
      | true =>
        cases k1 : (decide (spV T (cel T i 0) < IntKind.i64.wrap (k - f))) with
        | true =>
          cases k2 : (decide (spV T (cel T i 1) < IntKind.i64.wrap (k - f))) with
          | true =>
            obtain ⟨q1, q2⟩ := inC_at h8 h1 (of_decide_eq_true k0)
            rw [if_pos (of_decide_eq_true k0)]
            have g0 := of_decide_eq_true k1
            have g1 := of_decide_eq_true k2
            have ew : IntKind.i64.wrap (k - f) = k - f := v64 (by omega) (by omega)
            rw [ew, cel_row] at g0 g1
            have hA : putW T (k - f) (some (a, b)) ((rowU T i).getD 0 0) = (some (a, b)) := if_pos g0
            have hB : putW T (k - f) (some (a, b)) ((rowU T i).getD 1 0) = (some (a, b)) := if_pos g1
            have hE : ptW T f k (some (a, b)) (rowU T i) = (some (a, b)) := by unfold ptW; rw [hA, hB]
            rw [hE]
            have t0 : decide (lenT T ≤ 34359738368) = true := decide_eq_true h4
            have L := as1_111110 T T f k (lenT T) i rest a b
            rw [e1 (of_decide_eq_true k0)] at L
            refine round_go L (pickL_ok ?_ _) rfl rfl rfl rfl
            repeat' (first | exact cd_nil | refine cd_cons ?_ ?_)
            all_goals first | rfl | with_reducible assumption
          | false =>
            obtain ⟨q1, q2⟩ := inC_at h8 h1 (of_decide_eq_true k0)
            rw [if_pos (of_decide_eq_true k0)]
            have g0 := of_decide_eq_true k1
            have g1 := of_decide_eq_false k2
            have ew : IntKind.i64.wrap (k - f) = k - f := v64 (by omega) (by omega)
            rw [ew, cel_row] at g0 g1
            have hA : putW T (k - f) (some (a, b)) ((rowU T i).getD 0 0) = (some (a, b)) := if_pos g0
            have hB : putW T (k - f) (some (a, b)) ((rowU T i).getD 1 0) = (some (mnW a (cel T i 1), mxW b (cel T i 1))) := if_neg g1
            have hE : ptW T f k (some (a, b)) (rowU T i) = (some (mnW a (cel T i 1), mxW b (cel T i 1))) := by unfold ptW; rw [hA, hB]
            rw [hE]
            have t0 : decide (lenT T ≤ 34359738368) = true := decide_eq_true h4
            have L := as1_111100 T T f k (lenT T) i rest a b
            rw [e1 (of_decide_eq_true k0)] at L
            refine round_go L (pickL_ok ?_ _) rfl rfl rfl rfl
            repeat' (first | exact cd_nil | refine cd_cons ?_ ?_)
            all_goals first | rfl | with_reducible assumption
        | false =>
          cases k3 : (decide (spV T (cel T i 1) < IntKind.i64.wrap (k - f))) with
          | true =>
            obtain ⟨q1, q2⟩ := inC_at h8 h1 (of_decide_eq_true k0)
            rw [if_pos (of_decide_eq_true k0)]
            have g0 := of_decide_eq_false k1
            have g1 := of_decide_eq_true k3
            have ew : IntKind.i64.wrap (k - f) = k - f := v64 (by omega) (by omega)
            rw [ew, cel_row] at g0 g1
            have hA : putW T (k - f) (some (a, b)) ((rowU T i).getD 0 0) = (some (mnW a (cel T i 0), mxW b (cel T i 0))) := if_neg g0
            have hB : putW T (k - f) (some (mnW a (cel T i 0), mxW b (cel T i 0))) ((rowU T i).getD 1 0) = (some (mnW a (cel T i 0), mxW b (cel T i 0))) := if_pos g1
            have hE : ptW T f k (some (a, b)) (rowU T i) = (some (mnW a (cel T i 0), mxW b (cel T i 0))) := by unfold ptW; rw [hA, hB]
            rw [hE]
            have t0 : decide (lenT T ≤ 34359738368) = true := decide_eq_true h4
            have L := as1_110110 T T f k (lenT T) i rest a b
            rw [e1 (of_decide_eq_true k0)] at L
            refine round_go L (pickL_ok ?_ _) rfl rfl rfl rfl
            repeat' (first | exact cd_nil | refine cd_cons ?_ ?_)
            all_goals first | rfl | with_reducible assumption
          | false =>
            obtain ⟨q1, q2⟩ := inC_at h8 h1 (of_decide_eq_true k0)
            rw [if_pos (of_decide_eq_true k0)]
            have g0 := of_decide_eq_false k1
            have g1 := of_decide_eq_false k3
            have ew : IntKind.i64.wrap (k - f) = k - f := v64 (by omega) (by omega)
            rw [ew, cel_row] at g0 g1
            have hA : putW T (k - f) (some (a, b)) ((rowU T i).getD 0 0) = (some (mnW a (cel T i 0), mxW b (cel T i 0))) := if_neg g0
            have hB : putW T (k - f) (some (mnW a (cel T i 0), mxW b (cel T i 0))) ((rowU T i).getD 1 0) = (some (mnW (mnW a (cel T i 0)) (cel T i 1), mxW (mxW b (cel T i 0)) (cel T i 1))) := if_neg g1
            have hE : ptW T f k (some (a, b)) (rowU T i) = (some (mnW (mnW a (cel T i 0)) (cel T i 1), mxW (mxW b (cel T i 0)) (cel T i 1))) := by unfold ptW; rw [hA, hB]
            rw [hE]
            have t0 : decide (lenT T ≤ 34359738368) = true := decide_eq_true h4
            have L := as1_110100 T T f k (lenT T) i rest a b
            rw [e1 (of_decide_eq_true k0)] at L
            refine round_go L (pickL_ok ?_ _) rfl rfl rfl rfl
            repeat' (first | exact cd_nil | refine cd_cons ?_ ?_)
            all_goals first | rfl | with_reducible assumption
      | false =>
        rw [if_neg (of_decide_eq_false k0)]
        have L := as1_0 T T f k (lenT T) i rest a b
        refine round_out L rfl (pickL_ok ?_ _) rfl rfl rfl
        repeat' (first | exact cd_nil | refine cd_cons ?_ ?_)
        all_goals first | rfl | with_reducible assumption
  · exfalso
    have : asStep ⟨T, U, f, k, w, n, i⟩ = .bad := if_neg ok
    rw [this] at hb; cases hb
theorem as_runs {T : List (List Int)} {f k : Int} (h : lenT T ≤ 34359738368) (h0 : 0 ≤ f) (h1 : f < k) (h2 : k ≤ 34359738368) (hT : T.all inC = true) : ∀ (j i : Nat) (w : Option (Int × Int)), i + j = T.length → ∃ c, runs asStep c ⟨T, T, f, k, w, lenT T, i⟩ = some (.exit 2, asTm T T f k none (lenT T) (lenT T), [⟨79, phW ((T.drop i).foldl (ptW T f k) w)⟩])
  | 0, i, w, hi => by
    have e : (i : Int) = lenT T := by unfold lenT; omega
    refine ⟨1, ?_⟩
    rw [runs, as_go ⟨by omega, by omega, rfl, h, h0, h1, h2, hT, rfl⟩]
    unfold asNx
    rw [if_neg (by omega), List.drop_eq_nil_of_le (by omega), e]
    rfl
  | j + 1, i, w, hi => by
    have hl : (i : Int) < lenT T := by unfold lenT; omega
    have d := dropU (T := T) (i := i) (by omega)
    obtain ⟨c, hc⟩ := as_runs h h0 h1 h2 hT j (i + 1) (ptW T f k w (rowU T i)) (by omega)
    refine ⟨c + 1, ?_⟩
    rw [runs, as_go ⟨by omega, by omega, rfl, h, h0, h1, h2, hT, rfl⟩]
    unfold asNx
    rw [if_pos hl, d, List.foldl_cons]
    exact hc
def asD : LpDefR asT Nm where
  ts := [67, 9, 2, 8, 68, 69]
  ps := [14]
  rs := []
  W := [2, 8, 9, 14, 16, 18, 67, 68, 69, 70, 71, 72, 73, 74, 75, 76, 77, 78, 79, 80, 81, 82, 83, 84, 85, 86, 87, 88, 89, 90, 91, 92, 93, 94, 95, 96, 97, 98, 99, 100, 101, 102, 103, 104, 105, 106]
  dec := fun vs tr ks => match vs, tr, ks with
    | [.w (.one (.fv (.tab [some .i64, some .i64, none] T))), .w (.one (.fv (.tab [some .i64, some .i64, none] U))), .w (.one (.int .i64 f)), .w (.one (.int .i64 k)), .w (.one (.int .i64 n)), .w (.one (.int .i64 i))], [], [⟨79, [.int .i64 0, .int .i64 0, .yes true]⟩] => some ⟨T, U, f, k, none, n, i⟩
    | _, _, _ => none
  fk := fun t => some ((t.T.foldl (ptW t.T t.f t.k) none).isSome)
  spec := fun t β => match β with
    | true => some (.exit 2, asTm t.T t.U t.f t.k none t.n t.n, [], [⟨79, [.int .i64 ((t.T.foldl (ptW t.T t.f t.k) none).getD (0, 0)).1, .int .i64 ((t.T.foldl (ptW t.T t.f t.k) none).getD (0, 0)).2, .yes false]⟩], [(decide (t.i = 0) && decide (t.n = lenT t.T) && decide (t.n ≤ 34359738368) && decide (0 ≤ t.f) && decide (t.f < t.k) && decide (t.k ≤ 34359738368) && t.T.all inC && decide (t.U = t.T) && decide (t.w = none), true)])
    | false => some (.exit 2, asTm t.T t.U t.f t.k none t.n t.n, [], [⟨79, [.int .i64 0, .int .i64 0, .yes true]⟩], [(decide (t.i = 0) && decide (t.n = lenT t.T) && decide (t.n ≤ 34359738368) && decide (0 ≤ t.f) && decide (t.f < t.k) && decide (t.k ≤ 34359738368) && t.T.all inC && decide (t.U = t.T) && decide (t.w = none), true)])
theorem asD_ok (x : Code) (hx : codeAt (bodyOf Try.f56) [false, true, false, true, true, true, true, true, true, true, true] = some (.loop x)) : LpOk Try.prog numI 108 x (asD.sp nmSafe) := by
  obtain rfl := loopAt_eq hx
  refine lpR_ok (c := ctxOf Try.prog numI (fun _ => false) libA1) (ctxOf_ok libA1_ok (eq_none _)) (by kernel_rfl) (fun _ _ _ h => h) hx lps_nil (S := asS) (step := asStep) (fun _ h => h) (by kernel_rfl) (by kernel_rfl) ?_ rfl (fun t e he => ?_) (fun t hb rest => as_round t hb rest) ?_
  · intro vs tr ks s hv1 hv2 h hv3
    simp only [asD] at h
    split at h
    · cases h
      exact ⟨rfl, fun e he => .inl he⟩
    · cases h
  · simp only [asS, asTm, List.mem_cons, List.not_mem_nil, or_false] at he
    rcases he with rfl | rfl | rfl | rfl | rfl | rfl <;> rfl
  · intro s β ex outs rts wb cd h hfk hc
    obtain ⟨T, U, f, k, w, n, i⟩ := s
    have hβ := hfk _ rfl
    cases β with
    | true =>
      simp only [asD] at h hβ
      cases h
      have := c1x hc
      simp only [Bool.and_eq_true, decide_eq_true_eq] at this
      obtain ⟨⟨⟨⟨⟨⟨⟨⟨rfl, rfl⟩, h3⟩, h4⟩, h5⟩, h6⟩, h7⟩, rfl⟩, rfl⟩ := this
      obtain ⟨c, hc⟩ := as_runs h3 h4 h5 h6 h7 U.length 0 none (by omega)
      refine ⟨c, ?_⟩
      rw [List.drop_zero] at hc
      cases hw : U.foldl (ptW U f k) none with
      | none =>
        rw [hw] at hc hβ
        cases hβ
      | some p =>
        rw [hw] at hc hβ
        exact hc
    | false =>
      simp only [asD] at h hβ
      cases h
      have := c1x hc
      simp only [Bool.and_eq_true, decide_eq_true_eq] at this
      obtain ⟨⟨⟨⟨⟨⟨⟨⟨rfl, rfl⟩, h3⟩, h4⟩, h5⟩, h6⟩, h7⟩, rfl⟩, rfl⟩ := this
      obtain ⟨c, hc⟩ := as_runs h3 h4 h5 h6 h7 U.length 0 none (by omega)
      refine ⟨c, ?_⟩
      rw [List.drop_zero] at hc
      cases hw : U.foldl (ptW U f k) none with
      | none =>
        rw [hw] at hc hβ
        exact hc
      | some p =>
        rw [hw] at hc hβ
        cases hβ
end
end Go.Proofs.Ytjegnlnnjcchaaa.AtCk

