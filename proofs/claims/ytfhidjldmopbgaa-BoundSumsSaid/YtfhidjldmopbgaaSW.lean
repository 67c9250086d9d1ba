/-
  BoundSums: the law's own sum (a loop over numbers), and Sum as a function of tables.
  Conditions: those of each theorem.
-/
import Derived.Test.YtfhidjldmopbgaaBR
import Derived.Test.YtfhidjldmopbgaaSV
import Derived.Test.YtfhidjldmopbgaaCU
set_option linter.unusedVariables false
set_option linter.unusedSimpArgs false
namespace Go.Proofs.Ytfhidjldmopbgaa.AtBr
open Ev Go.RowKit Go.Shelf Wd Zd
open Go.Proofs.Ytfhidjldmopbgaa
noncomputable section
/-- What the law's own sum comes to, and how many bounds it reads. -/
def ruL : List (List Int) → Bd → Int → Bd × Int
  | [], s, k => (s, k)
  | r :: T, s, k => bif s.u then (s, k) else ruL T (addB s (tbB r)) (k + 1)
def okS (s : Bd) : Bool := s.u || knB s
theorem okS_add (s r : Bd) : okS (addB s r) = true := by
  unfold addB
  cases knB s && knB r with
  | false => rfl
  | true =>
    rw [cond_true]
    unfold ofB normB
    cases h : knB ⟨s.lo + r.lo, s.hi + r.hi, false⟩ with
    | false => rfl
    | true => rw [cond_true]; unfold okS; rw [h]; simp
theorem kn_bad {b : Bd} (h : (chkB b != 0) = true) : knB b = false := by
  cases k : knB b with
  | false => rfl
  | true =>
    obtain ⟨h1, h2, h3, h4⟩ := knB_iff.1 k
    have : chkB b = 0 := by
      unfold chkB inB
      rw [h1, decide_eq_true (show -1152921504606846976 ≤ b.lo by omega), decide_eq_true (show b.lo ≤ 1152921504606846976 by omega), decide_eq_true (show -1152921504606846976 ≤ b.hi by omega), decide_eq_true (show b.hi ≤ 1152921504606846976 by omega), decide_eq_false (show ¬ b.lo > b.hi by omega)]
      rfl
    rw [this] at h; simp at h
theorem kn_u {b : Bd} (h : b.u = true) : knB b = false := by unfold knB; rw [h]; rfl
theorem kn_ok {b : Bd} (h : (chkB b != 0) = false) (hu : b.u = false) : knB b = true := by
  have h : chkB b = 0 := by simpa using h
  unfold chkB at h
  unfold knB
  rw [hu] at h ⊢
  simp only [Bool.false_and, cond_false, Bool.not_false, Bool.true_and] at h ⊢
  cases h1 : (inB b.lo && inB b.hi) with
  | false => rw [h1] at h; cases h
  | true =>
    rw [h1] at h
    simp only [Bool.not_true, cond_false] at h
    by_cases h2 : b.lo > b.hi
    · rw [decide_eq_true h2] at h; cases h
    · rw [decide_eq_true (show b.lo ≤ b.hi by omega)]; rfl
theorem cmp_le0 (a b : Int) : decide (cmpI a b ≤ 0) = decide (a ≤ b) := by
  have := cmp_gt a b
  by_cases h : a ≤ b
  · rw [decide_eq_false (show ¬ b < a by omega)] at this
    have := of_decide_eq_false this
    rw [decide_eq_true h, decide_eq_true (by omega)]
  · rw [decide_eq_true (show b < a by omega)] at this
    have := of_decide_eq_true this
    rw [decide_eq_false h, decide_eq_false (by omega)]
theorem cmp_ge0 (a b : Int) : decide (cmpI a b ≥ 0) = decide (b ≤ a) := by
  have := cmp_lt' a b
  by_cases h : a < b
  · rw [decide_eq_true h] at this
    have := of_decide_eq_true this
    rw [decide_eq_false (show ¬ b ≤ a by omega), decide_eq_false (by omega)]
  · rw [decide_eq_false h] at this
    have := of_decide_eq_false this
    rw [decide_eq_true (show b ≤ a by omega), decide_eq_true (by omega)]
theorem i64_kn {b : Bd} (h : knB b = true) : i64B b.lo = true ∧ i64B b.hi = true := by
  obtain ⟨_, h1, h2, h3⟩ := knB_iff.1 h
  exact ⟨i64B_iff.2 ⟨by omega, by omega⟩, i64B_iff.2 ⟨by omega, by omega⟩⟩
noncomputable abbrev libS2 : List (Nat × FnSp Nm) := [(10, nfn nI), (6, factSp gBd), (24, sp1 dBd (fun b => aInt .i64 (chkB b)) (fun _ => [])), (7, nfn nPlus), (8, nfn nLess), (9, nfn nMinus)]
noncomputable abbrev fnsS2 : List (Nat × Func) := [(5, Try.f5)]
def cvN : Nm → Option Tb
  | .tab ks l => some (.tab ks l)
  | _ => none
def cvT2 : Tb → Option Nm
  | .tab ks l => some (.tab ks l)
theorem libS2_ok : LibOk Try.prog numI (lib1 libS2) := (lib1_cons nI_ok Try.call10 (lib1_cons bdt_ok Try.call6 (lib1_cons (sp1_ok fun b _ => ⟨_, rfl, bte_pl b⟩) Try.call24 (lib1_cons nPlus_ok Try.call7 (lib1_cons nLess_ok Try.call8 (lib1_cons nMinus_ok Try.call9 (lib1_nil _ _)))))))
theorem fnsS2_ok : FnsOk Try.prog fnsS2 := (fns_cons Try.func5 rfl Try.call5 (fns_nil _))
set_option maxRecDepth 100000 in
theorem rl_101 (T : List (List Int)) (n : Int) (i : Int) (a : Int) (b : Int) (u : Bool) (k : Int) (rest : List (Nat × AV Nm)) : evView (ctxLp Try.prog numI (fun _ => false) libS2 fnsS2 []) 137 (false :: [false, true, false, true, true, true, true, true, true, true, true, true]) (loopAt (bodyOf Try.f3) [false, true, false, true, true, true, true, true, true, true, true, true]) ([(67, (.w (.one (.fv (.tab [some .i64, some .i64, none] T))))), (68, (.w (.one (.int .i64 n)))), (69, (.w (.one (.int .i64 i)))), (19, (.w (.one (.int .i64 k))))] ++ (ptrN 0 [17, 13] ++ rest)) [⟨24, [.int .i64 a, .int .i64 b, .bool u]⟩, ⟨24, [.int .i64 0, .int .i64 0, .bool true]⟩] 2 [67, 68, 69, 19, 17, 13] [true, false, true] = some ((Ex.normal, [AV.w (AW.one (AC.fv (Nm.tab [some IntKind.i64, some IntKind.i64, none] T))), AV.w (AW.one (AC.int IntKind.i64 n)), AV.w (AW.one (AC.int IntKind.i64 (IntKind.i64.wrap (i + 1)))), AV.w (AW.one (AC.int IntKind.i64 (IntKind.i64.wrap (k + 1)))), AV.w (AW.one (AC.ptr 0 0)), AV.w (AW.one (AC.ptr 1 0))], [{ ty := 24, cs := [AC.int IntKind.i64 0, AC.int IntKind.i64 0, AC.bool true] }, { ty := 24, cs := [AC.int IntKind.i64 0, AC.int IntKind.i64 0, AC.bool true] }]), (pickL [(decide (i < n), true), (decide (0 ≤ i), true), (decide (i < lenT T), true), (u, false), (chkB (rB T i) != 0, true), (true, true), (i64B a, true), (decide (a < 0) == decide (a < 0), true), (szB 0, true), (szB a, true), (i64B b, true), (decide (b < 0) == decide (b < 0), true), (szB b, true), (decide (0 + a < 0) == decide (0 + a < 0), true), (decide (0 + b < 0) == decide (0 + b < 0), true), (szB (0 + a), true), (szB (0 + b), true), (!false, true)] [0, 1, 2, 1, 2, 3, 4, 4, 4, 5, 6, 7, 8, 9, 10, 11, 8, 12, 13, 14, 15, 16, 17])) := by kernel_rfl
set_option maxRecDepth 100000 in
theorem rl_1001 (T : List (List Int)) (n : Int) (i : Int) (a : Int) (b : Int) (u : Bool) (k : Int) (rest : List (Nat × AV Nm)) : evView (ctxLp Try.prog numI (fun _ => false) libS2 fnsS2 []) 137 (false :: [false, true, false, true, true, true, true, true, true, true, true, true]) (loopAt (bodyOf Try.f3) [false, true, false, true, true, true, true, true, true, true, true, true]) ([(67, (.w (.one (.fv (.tab [some .i64, some .i64, none] T))))), (68, (.w (.one (.int .i64 n)))), (69, (.w (.one (.int .i64 i)))), (19, (.w (.one (.int .i64 k))))] ++ (ptrN 0 [17, 13] ++ rest)) [⟨24, [.int .i64 a, .int .i64 b, .bool u]⟩, ⟨24, [.int .i64 0, .int .i64 0, .bool true]⟩] 2 [67, 68, 69, 19, 17, 13] [true, false, false, true] = some ((Ex.normal, [AV.w (AW.one (AC.fv (Nm.tab [some IntKind.i64, some IntKind.i64, none] T))), AV.w (AW.one (AC.int IntKind.i64 n)), AV.w (AW.one (AC.int IntKind.i64 (IntKind.i64.wrap (i + 1)))), AV.w (AW.one (AC.int IntKind.i64 (IntKind.i64.wrap (k + 1)))), AV.w (AW.one (AC.ptr 0 0)), AV.w (AW.one (AC.ptr 1 0))], [{ ty := 24, cs := [AC.int IntKind.i64 0, AC.int IntKind.i64 0, AC.bool true] }, { ty := 24, cs := [AC.int IntKind.i64 0, AC.int IntKind.i64 0, AC.bool true] }]), (pickL [(decide (i < n), true), (decide (0 ≤ i), true), (decide (i < lenT T), true), (u, false), (chkB (rB T i) != 0, false), ((rB T i).u, true), (i64B a, true), (decide (a < 0) == decide (a < 0), true), (szB 0, true), (szB a, true), (i64B b, true), (decide (b < 0) == decide (b < 0), true), (szB b, true), (decide (0 + a < 0) == decide (0 + a < 0), true), (decide (0 + b < 0) == decide (0 + b < 0), true), (szB (0 + a), true), (szB (0 + b), true), (!false, true)] [0, 1, 2, 1, 2, 3, 4, 4, 4, 5, 6, 7, 8, 9, 10, 11, 8, 12, 13, 14, 15, 16, 17])) := by kernel_rfl
set_option maxRecDepth 100000 in
theorem rl_1000 (T : List (List Int)) (n : Int) (i : Int) (a : Int) (b : Int) (u : Bool) (k : Int) (rest : List (Nat × AV Nm)) : evView (ctxLp Try.prog numI (fun _ => false) libS2 fnsS2 []) 137 (false :: [false, true, false, true, true, true, true, true, true, true, true, true]) (loopAt (bodyOf Try.f3) [false, true, false, true, true, true, true, true, true, true, true, true]) ([(67, (.w (.one (.fv (.tab [some .i64, some .i64, none] T))))), (68, (.w (.one (.int .i64 n)))), (69, (.w (.one (.int .i64 i)))), (19, (.w (.one (.int .i64 k))))] ++ (ptrN 0 [17, 13] ++ rest)) [⟨24, [.int .i64 a, .int .i64 b, .bool u]⟩, ⟨24, [.int .i64 0, .int .i64 0, .bool true]⟩] 2 [67, 68, 69, 19, 17, 13] [true, false, false, false] = some ((Ex.normal, [AV.w (AW.one (AC.fv (Nm.tab [some IntKind.i64, some IntKind.i64, none] T))), AV.w (AW.one (AC.int IntKind.i64 n)), AV.w (AW.one (AC.int IntKind.i64 (IntKind.i64.wrap (i + 1)))), AV.w (AW.one (AC.int IntKind.i64 (IntKind.i64.wrap (k + 1)))), AV.w (AW.one (AC.ptr 0 0)), AV.w (AW.one (AC.ptr 1 0))], [{ ty := 24, cs := [AC.int IntKind.i64 (ofB ((rB T i).lo + a) ((rB T i).hi + b)).lo, AC.int IntKind.i64 (ofB ((rB T i).lo + a) ((rB T i).hi + b)).hi, AC.bool (ofB ((rB T i).lo + a) ((rB T i).hi + b)).u] }, { ty := 24, cs := [AC.int IntKind.i64 0, AC.int IntKind.i64 0, AC.bool true] }]), (pickL [(decide (i < n), true), (decide (0 ≤ i), true), (decide (i < lenT T), true), (u, false), (chkB (rB T i) != 0, false), ((rB T i).u, false), (i64B ((rB T i).lo), true), (i64B ((rB T i).hi), true), (i64B a, true), (decide ((rB T i).lo < 0) == decide ((rB T i).lo < 0), true), (decide (a < 0) == decide (a < 0), true), (szB ((rB T i).lo), true), (szB a, true), (i64B b, true), (decide ((rB T i).hi < 0) == decide ((rB T i).hi < 0), true), (decide (b < 0) == decide (b < 0), true), (szB ((rB T i).hi), true), (szB b, true), (decide ((rB T i).lo + a < 0) == decide ((rB T i).lo + a < 0), true), (decide ((rB T i).hi + b < 0) == decide ((rB T i).hi + b < 0), true), (szB ((rB T i).lo + a), true), (szB ((rB T i).hi + b), true), (!true, false)] [0, 1, 2, 1, 2, 3, 4, 4, 4, 5, 6, 7, 8, 9, 10, 11, 12, 13, 14, 15, 16, 17, 18, 19, 20, 21, 22])) := by kernel_rfl
set_option maxRecDepth 100000 in
theorem rlx_0 (T : List (List Int)) (n : Int) (i : Int) (a : Int) (b : Int) (u : Bool) (k : Int) (rest : List (Nat × AV Nm)) : evView (ctxLp Try.prog numI (fun _ => false) libS2 fnsS2 []) 137 (false :: [false, true, false, true, true, true, true, true, true, true, true, true]) (loopAt (bodyOf Try.f3) [false, true, false, true, true, true, true, true, true, true, true, true]) ([(67, (.w (.one (.fv (.tab [some .i64, some .i64, none] T))))), (68, (.w (.one (.int .i64 n)))), (69, (.w (.one (.int .i64 i)))), (19, (.w (.one (.int .i64 k))))] ++ (ptrN 0 [17, 13] ++ rest)) [⟨24, [.int .i64 a, .int .i64 b, .bool u]⟩, ⟨24, [.int .i64 0, .int .i64 0, .bool true]⟩] 2 [19, 17, 13] [false] = some ((Ex.exit 0, [AV.w (AW.one (AC.int IntKind.i64 k)), AV.w (AW.one (AC.ptr 0 0)), AV.w (AW.one (AC.ptr 1 0))], [{ ty := 24, cs := [AC.int IntKind.i64 a, AC.int IntKind.i64 b, AC.bool u] }, { ty := 24, cs := [AC.int IntKind.i64 0, AC.int IntKind.i64 0, AC.bool true] }]), (pickL [(decide (i < n), false)] [0])) := by kernel_rfl
set_option maxRecDepth 100000 in
theorem rlx_11 (T : List (List Int)) (n : Int) (i : Int) (a : Int) (b : Int) (u : Bool) (k : Int) (rest : List (Nat × AV Nm)) : evView (ctxLp Try.prog numI (fun _ => false) libS2 fnsS2 []) 137 (false :: [false, true, false, true, true, true, true, true, true, true, true, true]) (loopAt (bodyOf Try.f3) [false, true, false, true, true, true, true, true, true, true, true, true]) ([(67, (.w (.one (.fv (.tab [some .i64, some .i64, none] T))))), (68, (.w (.one (.int .i64 n)))), (69, (.w (.one (.int .i64 i)))), (19, (.w (.one (.int .i64 k))))] ++ (ptrN 0 [17, 13] ++ rest)) [⟨24, [.int .i64 a, .int .i64 b, .bool u]⟩, ⟨24, [.int .i64 0, .int .i64 0, .bool true]⟩] 2 [19, 17, 13] [true, true] = some ((Ex.exit 0, [AV.w (AW.one (AC.int IntKind.i64 k)), AV.w (AW.one (AC.ptr 0 0)), AV.w (AW.one (AC.ptr 1 0))], [{ ty := 24, cs := [AC.int IntKind.i64 a, AC.int IntKind.i64 b, AC.bool u] }, { ty := 24, cs := [AC.int IntKind.i64 0, AC.int IntKind.i64 0, AC.bool true] }]), (pickL [(decide (i < n), true), (decide (0 ≤ i), true), (decide (i < lenT T), true), (u, true)] [0, 1, 2, 1, 2, 3])) := by kernel_rfl
structure rlT where
  T : List (List Int)
  n : Int
  i : Int
  a : Int
  b : Int
  u : Bool
  k : Int
def rlP (T : List (List Int)) (n : Int) (i : Int) (a : Int) (b : Int) (u : Bool) (k : Int) : Prop := 0 ≤ i ∧ i ≤ n ∧ n = lenT T ∧ n ≤ 9223372036854775807 ∧ 0 ≤ k ∧ k ≤ i ∧ okS ⟨a, b, u⟩ = true
instance (T : List (List Int)) (n : Int) (i : Int) (a : Int) (b : Int) (u : Bool) (k : Int) : Decidable (rlP T n i a b u k) := by unfold rlP; infer_instance
def rlTm (T : List (List Int)) (n : Int) (i : Int) (a : Int) (b : Int) (u : Bool) (k : Int) : List (Nat × AV Nm) := [(67, (.w (.one (.fv (.tab [some .i64, some .i64, none] T))))), (68, (.w (.one (.int .i64 n)))), (69, (.w (.one (.int .i64 i)))), (19, (.w (.one (.int .i64 k))))]
def rlS : LpSt rlT Nm where
  ps := [17, 13]
  tm := fun t => rlTm t.T t.n t.i t.a t.b t.u t.k
  hp := fun t => [⟨24, [.int .i64 t.a, .int .i64 t.b, .bool t.u]⟩, ⟨24, [.int .i64 0, .int .i64 0, .bool true]⟩]
def rlNx (T : List (List Int)) (n : Int) (i : Int) (a : Int) (b : Int) (u : Bool) (k : Int) : Nxt rlT Nm := if i < n then (if u = true then .out (.exit 0) [(19, .w (.one (.int .i64 k)))] [⟨24, [.int .i64 a, .int .i64 b, .bool u]⟩, ⟨24, [.int .i64 0, .int .i64 0, .bool true]⟩] else .go ⟨T, n, i + 1, (addB ⟨a, b, u⟩ (rB T i)).lo, (addB ⟨a, b, u⟩ (rB T i)).hi, (addB ⟨a, b, u⟩ (rB T i)).u, k + 1⟩) else .out (.exit 0) [(19, .w (.one (.int .i64 k)))] [⟨24, [.int .i64 a, .int .i64 b, .bool u]⟩, ⟨24, [.int .i64 0, .int .i64 0, .bool true]⟩]
def rlStep (t : rlT) : Nxt rlT Nm := if rlP t.T t.n t.i t.a t.b t.u t.k then rlNx t.T t.n t.i t.a t.b t.u t.k else .bad
theorem rl_go {T : List (List Int)} {n : Int} {i : Int} {a : Int} {b : Int} {u : Bool} {k : Int} (h : rlP T n i a b u k) : rlStep ⟨T, n, i, a, b, u, k⟩ = rlNx T n i a b u k := if_pos h
set_option maxRecDepth 100000 in
set_option maxHeartbeats 4000000 in
theorem rl_round (t : rlT) (hb : (rlStep t).isBad = false) (rest : List (Nat × AV Nm)) : ∃ fuel path r, evC (ctxLp Try.prog numI (fun _ => false) libS2 fnsS2 []) fuel 137 (false :: [false, true, false, true, true, true, true, true, true, true, true, true]) (loopAt (bodyOf Try.f3) [false, true, false, true, true, true, true, true, true, true, true, true]) (rlS.tm t ++ (ptrN 0 rlS.ps ++ rest)) (numb 0 (rlS.hp t)) 2 path = some r ∧ (∀ p ∈ r.cd, p.1 = p.2) ∧ Gives rlS 2 r (rlStep t) := by
  obtain ⟨T, n, i, a, b, u, k⟩ := t
  by_cases ok : rlP T n i a b u k
  · rw [rl_go ok]
    clear hb
    unfold rlNx
    obtain ⟨h1, h2, rfl, h3, h4, h5, h6⟩ := ok
    by_cases hk : i < lenT T
    · have e1 : IntKind.i64.wrap (i + 1) = i + 1 := w64 (by omega) (by omega)
      have e2 : IntKind.i64.wrap (k + 1) = k + 1 := w64 (by omega) (by omega)
      have c0 : decide (i < lenT T) = true := decide_eq_true hk
      have c1 : decide (0 ≤ i) = true := decide_eq_true h1
      rw [if_pos hk]
      cases u with
      | true =>
        rw [if_pos rfl]
        have L := rlx_11 T (lenT T) i a b true k rest
        refine round_out L rfl (pickL_ok ?_ _) rfl rfl rfl
        repeat' (first | exact cd_nil | refine cd_cons ?_ ?_)
        all_goals first | rfl | with_reducible assumption
      | false =>
        rw [if_neg (by decide)]
        have hs : knB ⟨a, b, false⟩ = true := h6
        obtain ⟨a1, a2⟩ := i64_kn hs
        replace a1 : i64B a = true := a1
        replace a2 : i64B b = true := a2
        have d1 := Dl.i64 a1
        have d2 := Dl.i64 a2
        have d0 : Dl 4 0 := Dl.i64 (by decide)
        cases c2 : (chkB (rB T i) != 0) with
        | true =>
          have hr : knB (rB T i) = false := kn_bad c2
          have hA : addB ⟨a, b, false⟩ (rB T i) = noneB := by unfold addB; rw [hr, Bool.and_false]; rfl
          rw [hA]
          have L := rl_101 T (lenT T) i a b false k rest
          rw [e1, e2] at L
          refine round_go L (pickL_ok ?_ _) rfl rfl rfl rfl
          repeat' (first | exact cd_nil | refine cd_cons ?_ ?_)
          all_goals first | rfl | with_reducible assumption | exact eqB _ | (apply Dl.sz; (repeat' (first | with_reducible assumption | apply Dl.add')); omega)
        | false =>
          cases c3 : (rB T i).u with
          | true =>
            have hr : knB (rB T i) = false := kn_u c3
            have hA : addB ⟨a, b, false⟩ (rB T i) = noneB := by unfold addB; rw [hr, Bool.and_false]; rfl
            rw [hA]
            have L := rl_1001 T (lenT T) i a b false k rest
            rw [e1, e2] at L
            refine round_go L (pickL_ok ?_ _) rfl rfl rfl rfl
            repeat' (first | exact cd_nil | refine cd_cons ?_ ?_)
            all_goals first | rfl | with_reducible assumption | exact eqB _ | (apply Dl.sz; (repeat' (first | with_reducible assumption | apply Dl.add')); omega)
          | false =>
            have hr : knB (rB T i) = true := kn_ok c2 c3
            obtain ⟨q1, q2⟩ := i64_kn hr
            have d3 := Dl.i64 q1
            have d4 := Dl.i64 q2
            have hA : addB ⟨a, b, false⟩ (rB T i) = ofB ((rB T i).lo + a) ((rB T i).hi + b) := by
              unfold addB
              rw [hs, hr]
              show ofB (a + (rB T i).lo) (b + (rB T i).hi) = _
              rw [Int.add_comm a, Int.add_comm b]
            rw [hA]
            have L := rl_1000 T (lenT T) i a b false k rest
            rw [e1, e2] at L
            refine round_go L (pickL_ok ?_ _) rfl rfl rfl rfl
            repeat' (first | exact cd_nil | refine cd_cons ?_ ?_)
            all_goals first | rfl | with_reducible assumption | exact eqB _ | (apply Dl.sz; (repeat' (first | with_reducible assumption | apply Dl.add')); omega)
    · have c0 : decide (i < lenT T) = false := decide_eq_false hk
      rw [if_neg hk]
      have L := rlx_0 T (lenT T) i a b u k rest
      refine round_out L rfl (pickL_ok ?_ _) rfl rfl rfl
      repeat' (first | exact cd_nil | refine cd_cons ?_ ?_)
      all_goals first | rfl | with_reducible assumption
  · exfalso
    have : rlStep ⟨T, n, i, a, b, u, k⟩ = .bad := if_neg ok
    rw [this] at hb; cases hb
theorem rl_runs {T : List (List Int)} (h : lenT T ≤ 9223372036854775807) : ∀ (j i : Nat) (a b : Int) (u : Bool) (k : Int), i + j = T.length → 0 ≤ k → k ≤ i → okS ⟨a, b, u⟩ = true → ∃ c, runs rlStep c ⟨T, lenT T, i, a, b, u, k⟩ = some (.exit 0, [(19, .w (.one (.int .i64 (ruL (T.drop i) ⟨a, b, u⟩ k).2)))], [⟨24, [.int .i64 (ruL (T.drop i) ⟨a, b, u⟩ k).1.lo, .int .i64 (ruL (T.drop i) ⟨a, b, u⟩ k).1.hi, .bool (ruL (T.drop i) ⟨a, b, u⟩ k).1.u]⟩, ⟨24, [.int .i64 0, .int .i64 0, .bool true]⟩])
  | 0, i, a, b, u, k, hi, h0, h1, hs => by
    refine ⟨1, ?_⟩
    rw [runs, rl_go ⟨by omega, by unfold lenT; omega, rfl, h, h0, h1, hs⟩]
    unfold rlNx
    rw [if_neg (by unfold lenT; omega), List.drop_eq_nil_of_le (by omega)]
    rfl
  | j + 1, i, a, b, u, k, hi, h0, h1, hs => by
    have hl : (i : Int) < lenT T := by unfold lenT; omega
    have d := dropR (T := T) (i := i) (by omega)
    have hgo := rl_go (T := T) (n := lenT T) (i := i) (a := a) (b := b) (u := u) (k := k) ⟨by omega, by omega, rfl, h, h0, h1, hs⟩
    rw [d]
    unfold ruL
    rw [rB_eq]
    cases u with
    | true =>
      refine ⟨1, ?_⟩
      rw [runs, hgo]
      unfold rlNx
      rw [if_pos hl, if_pos rfl]
      rfl
    | false =>
      obtain ⟨c, hc⟩ := rl_runs h j (i + 1) (addB ⟨a, b, false⟩ (rB T i)).lo (addB ⟨a, b, false⟩ (rB T i)).hi (addB ⟨a, b, false⟩ (rB T i)).u (k + 1) (by omega) (by omega) (by omega) (okS_add _ _)
      refine ⟨c + 1, ?_⟩
      rw [runs, hgo]
      unfold rlNx
      rw [if_pos hl, if_neg (by decide)]
      exact hc
def rlD : LpDef rlT Nm where
  ts := [67, 68, 69, 19]
  ps := [17, 13]
  W := [13, 17, 19, 21, 22, 23, 24, 67, 68, 69, 70, 71, 72, 73, 74, 75, 76, 77, 78, 79, 80, 81, 82, 83, 84, 85, 86, 87, 88, 89, 90, 91, 92, 93, 94, 95, 96, 97]
  dec := fun vs ks => match vs, ks with
    | [.w (.one (.fv (.tab [some .i64, some .i64, none] T))), .w (.one (.int .i64 n)), .w (.one (.int .i64 i)), .w (.one (.int .i64 k))], [⟨24, [.int .i64 a, .int .i64 b, .bool u]⟩, ⟨24, [.int .i64 0, .int .i64 0, .bool true]⟩] => some ⟨T, n, i, a, b, u, k⟩
    | _, _ => none
  spec := fun t => some (.exit 0, [(19, .w (.one (.int .i64 (ruL t.T ⟨0, 0, false⟩ 0).2)))], [⟨24, [.int .i64 (ruL t.T ⟨0, 0, false⟩ 0).1.lo, .int .i64 (ruL t.T ⟨0, 0, false⟩ 0).1.hi, .bool (ruL t.T ⟨0, 0, false⟩ 0).1.u]⟩, ⟨24, [.int .i64 0, .int .i64 0, .bool true]⟩], [(decide (t.i = 0) && decide (t.n = lenT t.T) && decide (t.n ≤ 9223372036854775807) && decide (t.a = 0) && decide (t.b = 0) && decide (t.u = false) && decide (t.k = 0), true)])
theorem rlD_ok (x : Code) (hx : codeAt (bodyOf Try.f3) [false, true, false, true, true, true, true, true, true, true, true, true] = some (.loop x)) : LpOk Try.prog numI 137 x (rlD.sp nmSafe) := by
  obtain rfl := loopAt_eq hx
  refine lp_ok (c := ctxLp Try.prog numI (fun _ => false) libS2 fnsS2 []) (ctxLp_ok libS2_ok (eq_none _) fnsS2_ok (fun _ _ _ => lps_nil)) (by kernel_rfl) hx lps_nil (S := rlS) (step := rlStep) (fun _ h => h) (by kernel_rfl) (by kernel_rfl) ?_ rfl (fun t e he => ?_) (fun t hb rest => rl_round t hb rest) ?_
  · intro vs ks s hv1 h hv2
    simp only [rlD] at h
    split at h
    · cases h
      exact ⟨rfl, fun e he => he⟩
    · cases h
  · simp only [rlS, rlTm, List.mem_cons, List.not_mem_nil, or_false] at he
    rcases he with rfl | rfl | rfl | rfl <;> rfl
  · intro s ex outs wb cd h hc
    obtain ⟨T, n, i, a, b, u, k⟩ := s
    simp only [rlD] at h
    cases h
    have := c1s hc
    simp only [Bool.and_eq_true, decide_eq_true_eq] at this
    obtain ⟨⟨⟨⟨⟨⟨rfl, rfl⟩, h3⟩, rfl⟩, rfl⟩, rfl⟩, rfl⟩ := this
    obtain ⟨c, hc⟩ := rl_runs h3 T.length 0 0 0 false 0 (by omega) (by omega) (by omega) (by decide)
    refine ⟨c, ?_⟩
    rw [List.drop_zero] at hc
    exact hc
end
end Go.Proofs.Ytfhidjldmopbgaa.AtBr

