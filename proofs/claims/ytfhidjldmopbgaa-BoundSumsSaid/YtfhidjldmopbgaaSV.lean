/-
  Total's loops: what an iterator of a list hands on is summed.
  Conditions: those of each theorem.
-/
import Derived.Test.YtfhidjldmopbgaaB1
import Derived.Test.YtfhidjldmopbgaaTB
import Derived.Test.YtfhidjldmopbgaaLB
set_option linter.unusedVariables false
set_option linter.unusedSimpArgs false
namespace Go.Proofs.Ytfhidjldmopbgaa.AtBr
open Ev Go.RowKit
open Go.Proofs.Ytfhidjldmopbgaa
noncomputable section
def rB (T : List (List Int)) (i : Int) : Bd := ⟨cel T i 0, cel T i 1, decide (cel T i 2 = 1)⟩
def tbB (r : List Int) : Bd := ⟨r.getD 0 0, r.getD 1 0, decide (r.getD 2 0 = 1)⟩
/-- What Total's sum comes to, how many bounds it reads, whether it stops. -/
def ruB : List (List Int) → Bd → Int → (Bd × Int) × Bool
  | [], s, k => ((s, k), false)
  | r :: T, s, k => bif (addB s (tbB r)).u then ((addB s (tbB r), k + 1), true) else ruB T (addB s (tbB r)) (k + 1)
theorem dropR {T : List (List Int)} {i : Nat} (h : i < T.length) : T.drop i = T.getD i [] :: T.drop (i + 1) := by
  rw [List.drop_eq_getElem_cons h]
  have e : T.getD i [] = T[i] := by simp [List.getD_eq_getElem?_getD, h]
  rw [e]
theorem rB_eq (T : List (List Int)) (i : Nat) : tbB (T.getD i []) = rB T i := rfl
theorem w64 {x : Int} (h1 : -9223372036854775808 ≤ x) (h2 : x ≤ 9223372036854775807) : IntKind.i64.wrap x = x := by rw [IntKind.wrap_i64]; omega
theorem c1s {b : Bool} (h : ∀ p ∈ [(b, true)], p.1 = p.2) : b = true := h (b, true) (by simp)
noncomputable abbrev libS1 : List (Nat × FnSp Tb) := [(14, sp2 dBd dBd (fun a b => bA (addB a b)) (fun _ _ => []))]
noncomputable abbrev fnsS1 : List (Nat × Func) := [(31, Try.f31)]
theorem libS1_ok : LibOk Try.prog tbI (lib1 libS1) := lib1_cons (sp2_ok fun a b _ => ⟨_, rfl, add_pl a b⟩) Try.call14 (lib1_nil _ _)
set_option maxRecDepth 100000 in
theorem vl_0 (T : List (List Int)) (n : Int) (i : Int) (a : Int) (b : Int) (u : Bool) (rest : List (Nat × AV Tb)) : evView (ctxLp Try.prog tbI (fun _ => false) libS1 fnsS1 []) 16 (false :: [false, true]) (loopAt (bodyOf Try.f48) [false, true]) ([(5, (.w (.one (.fv (.tab [some .i64, some .i64, none] T))))), (6, (.w (.one (.int .i64 n)))), (7, (.w (.one (.int .i64 i))))] ++ (ptrN 0 [65536 * (31 + 1) + 0] ++ rest)) [⟨24, [.int .i64 a, .int .i64 b, .bool u]⟩] 1 [5, 6, 7, 0] [false] = some ((Ex.exit 0, [AV.w (AW.one (AC.fv (Tb.tab [some IntKind.i64, some IntKind.i64, none] T))), AV.w (AW.one (AC.int IntKind.i64 n)), AV.w (AW.one (AC.int IntKind.i64 i)), AV.w (AW.one (AC.fnc 31 [(0, 0)]))], [{ ty := 24, cs := [AC.int IntKind.i64 a, AC.int IntKind.i64 b, AC.bool u] }]), (pickL [(decide (i < n), false)] [0])) := by kernel_rfl
set_option maxRecDepth 100000 in
theorem vl_10 (T : List (List Int)) (n : Int) (i : Int) (a : Int) (b : Int) (u : Bool) (rest : List (Nat × AV Tb)) : evView (ctxLp Try.prog tbI (fun _ => false) libS1 fnsS1 []) 16 (false :: [false, true]) (loopAt (bodyOf Try.f48) [false, true]) ([(5, (.w (.one (.fv (.tab [some .i64, some .i64, none] T))))), (6, (.w (.one (.int .i64 n)))), (7, (.w (.one (.int .i64 i))))] ++ (ptrN 0 [65536 * (31 + 1) + 0] ++ rest)) [⟨24, [.int .i64 a, .int .i64 b, .bool u]⟩] 1 [5, 6, 7, 0] [true, false] = some ((Ex.normal, [AV.w (AW.one (AC.fv (Tb.tab [some IntKind.i64, some IntKind.i64, none] T))), AV.w (AW.one (AC.int IntKind.i64 n)), AV.w (AW.one (AC.int IntKind.i64 (IntKind.i64.wrap (i + 1)))), AV.w (AW.one (AC.fnc 31 [(0, 0)]))], [{ ty := 24, cs := [AC.int IntKind.i64 (addB ⟨a, b, u⟩ (rB T i)).lo, AC.int IntKind.i64 (addB ⟨a, b, u⟩ (rB T i)).hi, AC.bool (addB ⟨a, b, u⟩ (rB T i)).u] }]), (pickL [(decide (i < n), true), (decide (0 ≤ i), true), (decide (i < lenT T), true), (!!(addB ⟨a, b, u⟩ (rB T i)).u, false)] [0, 1, 2, 1, 2, 3])) := by kernel_rfl
set_option maxRecDepth 100000 in
theorem vlx_11 (T : List (List Int)) (n : Int) (i : Int) (a : Int) (b : Int) (u : Bool) (rest : List (Nat × AV Tb)) : evView (ctxLp Try.prog tbI (fun _ => false) libS1 fnsS1 []) 16 (false :: [false, true]) (loopAt (bodyOf Try.f48) [false, true]) ([(5, (.w (.one (.fv (.tab [some .i64, some .i64, none] T))))), (6, (.w (.one (.int .i64 n)))), (7, (.w (.one (.int .i64 i))))] ++ (ptrN 0 [65536 * (31 + 1) + 0] ++ rest)) [⟨24, [.int .i64 a, .int .i64 b, .bool u]⟩] 1 [0] [true, true] = some ((Ex.ret, [AV.w (AW.one (AC.fnc 31 [(0, 0)]))], [{ ty := 24, cs := [AC.int IntKind.i64 (addB ⟨a, b, u⟩ (rB T i)).lo, AC.int IntKind.i64 (addB ⟨a, b, u⟩ (rB T i)).hi, AC.bool (addB ⟨a, b, u⟩ (rB T i)).u] }]), (pickL [(decide (i < n), true), (decide (0 ≤ i), true), (decide (i < lenT T), true), (!!(addB ⟨a, b, u⟩ (rB T i)).u, true)] [0, 1, 2, 1, 2, 3])) := by kernel_rfl
structure vlT where
  T : List (List Int)
  n : Int
  i : Int
  a : Int
  b : Int
  u : Bool
def vlP (T : List (List Int)) (n : Int) (i : Int) (a : Int) (b : Int) (u : Bool) : Prop := 0 ≤ i ∧ i ≤ n ∧ n = lenT T ∧ n ≤ 9223372036854775807
instance (T : List (List Int)) (n : Int) (i : Int) (a : Int) (b : Int) (u : Bool) : Decidable (vlP T n i a b u) := by unfold vlP; infer_instance
def vlTm (T : List (List Int)) (n : Int) (i : Int) (a : Int) (b : Int) (u : Bool) : List (Nat × AV Tb) := [(5, (.w (.one (.fv (.tab [some .i64, some .i64, none] T))))), (6, (.w (.one (.int .i64 n)))), (7, (.w (.one (.int .i64 i))))]
def vlS : LpSt vlT Tb where
  ps := [65536 * (31 + 1) + 0]
  tm := fun t => vlTm t.T t.n t.i t.a t.b t.u
  hp := fun t => [⟨24, [.int .i64 t.a, .int .i64 t.b, .bool t.u]⟩]
def vlNx (T : List (List Int)) (n : Int) (i : Int) (a : Int) (b : Int) (u : Bool) : Nxt vlT Tb := if i < n then (if (addB ⟨a, b, u⟩ (rB T i)).u = true then .out .ret [] [⟨24, [.int .i64 (addB ⟨a, b, u⟩ (rB T i)).lo, .int .i64 (addB ⟨a, b, u⟩ (rB T i)).hi, .bool (addB ⟨a, b, u⟩ (rB T i)).u]⟩] else .go ⟨T, n, i + 1, (addB ⟨a, b, u⟩ (rB T i)).lo, (addB ⟨a, b, u⟩ (rB T i)).hi, (addB ⟨a, b, u⟩ (rB T i)).u⟩) else .out (.exit 0) (vlTm T n i a b u) [⟨24, [.int .i64 a, .int .i64 b, .bool u]⟩]
def vlStep (t : vlT) : Nxt vlT Tb := if vlP t.T t.n t.i t.a t.b t.u then vlNx t.T t.n t.i t.a t.b t.u else .bad
theorem vl_go {T : List (List Int)} {n : Int} {i : Int} {a : Int} {b : Int} {u : Bool} (h : vlP T n i a b u) : vlStep ⟨T, n, i, a, b, u⟩ = vlNx T n i a b u := if_pos h
set_option maxRecDepth 100000 in
set_option maxHeartbeats 4000000 in
theorem vl_round (t : vlT) (hb : (vlStep t).isBad = false) (rest : List (Nat × AV Tb)) : ∃ fuel path r, evC (ctxLp Try.prog tbI (fun _ => false) libS1 fnsS1 []) fuel 16 (false :: [false, true]) (loopAt (bodyOf Try.f48) [false, true]) (vlS.tm t ++ (ptrN 0 vlS.ps ++ rest)) (numb 0 (vlS.hp t)) 1 path = some r ∧ (∀ p ∈ r.cd, p.1 = p.2) ∧ Gives vlS 1 r (vlStep t) := by
  obtain ⟨T, n, i, a, b, u⟩ := t
  by_cases ok : vlP T n i a b u
  · rw [vl_go ok]
    clear hb
    unfold vlNx
    obtain ⟨h1, h2, rfl, h3⟩ := ok
    by_cases hk : i < lenT T
    · have e1 : IntKind.i64.wrap (i + 1) = i + 1 := w64 (by omega) (by omega)
      have c0 : decide (i < lenT T) = true := decide_eq_true hk
      have c1 : decide (0 ≤ i) = true := decide_eq_true h1
      rw [if_pos hk]
      by_cases hu : (addB ⟨a, b, u⟩ (rB T i)).u = true
      · have c2 : (!!(addB ⟨a, b, u⟩ (rB T i)).u) = true := by rw [hu]; rfl
        rw [if_pos hu]
        have L := vlx_11 T (lenT T) i a b u rest
        refine round_out L rfl (pickL_ok ?_ _) rfl rfl rfl
        repeat' (first | exact cd_nil | refine cd_cons ?_ ?_)
        all_goals first | rfl | with_reducible assumption
      · have hv := Bool.eq_false_iff.2 hu
        have c2 : (!!(addB ⟨a, b, u⟩ (rB T i)).u) = false := by rw [hv]; rfl
        rw [if_neg hu]
        have L := vl_10 T (lenT T) i a b u rest
        rw [e1] at L
        refine round_go L (pickL_ok ?_ _) rfl rfl rfl rfl
        repeat' (first | exact cd_nil | refine cd_cons ?_ ?_)
        all_goals first | rfl | with_reducible assumption
    · have c0 : decide (i < lenT T) = false := decide_eq_false hk
      rw [if_neg hk]
      have L := vl_0 T (lenT T) i a b u rest
      refine round_out L rfl (pickL_ok ?_ _) rfl rfl rfl
      repeat' (first | exact cd_nil | refine cd_cons ?_ ?_)
      all_goals first | rfl | with_reducible assumption
  · exfalso
    have : vlStep ⟨T, n, i, a, b, u⟩ = .bad := if_neg ok
    rw [this] at hb; cases hb
theorem vl_runs {T : List (List Int)} (h : lenT T ≤ 9223372036854775807) : ∀ (j i : Nat) (a b : Int) (u : Bool) (k : Int), i + j = T.length → 0 ≤ k → k ≤ i → ∃ c, runs vlStep c ⟨T, lenT T, i, a, b, u⟩ = (if (ruB (T.drop i) ⟨a, b, u⟩ k).2 = true then some (.ret, [], [⟨24, [.int .i64 (ruB (T.drop i) ⟨a, b, u⟩ k).1.1.lo, .int .i64 (ruB (T.drop i) ⟨a, b, u⟩ k).1.1.hi, .bool (ruB (T.drop i) ⟨a, b, u⟩ k).1.1.u]⟩]) else some (.exit 0, vlTm T (lenT T) (lenT T) a b u, [⟨24, [.int .i64 (ruB (T.drop i) ⟨a, b, u⟩ k).1.1.lo, .int .i64 (ruB (T.drop i) ⟨a, b, u⟩ k).1.1.hi, .bool (ruB (T.drop i) ⟨a, b, u⟩ k).1.1.u]⟩]))
  | 0, i, a, b, u, k, hi, h0, h1 => by
    have e : (i : Int) = lenT T := by unfold lenT; omega
    refine ⟨1, ?_⟩
    rw [runs, vl_go ⟨by omega, by omega, rfl, h⟩]
    unfold vlNx
    rw [if_neg (by omega), List.drop_eq_nil_of_le (by omega), e]
    rfl
  | j + 1, i, a, b, u, k, hi, h0, h1 => by
    have hl : (i : Int) < lenT T := by unfold lenT; omega
    have d := dropR (T := T) (i := i) (by omega)
    have hgo := vl_go (T := T) (n := lenT T) (i := i) (a := a) (b := b) (u := u) ⟨by omega, by omega, rfl, h⟩
    rw [d]
    unfold ruB
    rw [rB_eq]
    cases hu : (addB ⟨a, b, u⟩ (rB T i)).u with
    | true =>
      refine ⟨1, ?_⟩
      rw [runs, hgo]
      unfold vlNx
      rw [if_pos hl, if_pos hu, cond_true, if_pos rfl]
      try rfl
    | false =>
      obtain ⟨c, hc⟩ := vl_runs h j (i + 1) (addB ⟨a, b, u⟩ (rB T i)).lo (addB ⟨a, b, u⟩ (rB T i)).hi (addB ⟨a, b, u⟩ (rB T i)).u (k + 1) (by omega) (by omega) (by omega)
      refine ⟨c + 1, ?_⟩
      rw [runs, hgo]
      unfold vlNx
      rw [if_pos hl, if_neg (by rw [hu]; decide), cond_false]
      exact hc
def vlD : LpDefR vlT Tb where
  ts := [5, 6, 7]
  ps := [65536 * (31 + 1) + 0]
  rs := []
  W := [0, 4, 5, 6, 7, 8, 9, 10, 11, 12, 13, 14, 15]
  dec := fun vs tr ks => match vs, tr, ks with
    | [.w (.one (.fv (.tab [some .i64, some .i64, none] T))), .w (.one (.int .i64 n)), .w (.one (.int .i64 i))], [], [⟨24, [.int .i64 a, .int .i64 b, .bool u]⟩] => some ⟨T, n, i, a, b, u⟩
    | _, _, _ => none
  fk := fun t => some ((ruB t.T ⟨0, 0, false⟩ 0).2)
  spec := fun t β => match β with
    | true => some (.ret, [], [], [⟨24, [.int .i64 (ruB t.T ⟨0, 0, false⟩ 0).1.1.lo, .int .i64 (ruB t.T ⟨0, 0, false⟩ 0).1.1.hi, .bool (ruB t.T ⟨0, 0, false⟩ 0).1.1.u]⟩], [(decide (t.i = 0) && decide (t.n = lenT t.T) && decide (t.n ≤ 9223372036854775807) && decide (t.a = 0) && decide (t.b = 0) && decide (t.u = false), true)])
    | false => some (.exit 0, vlTm t.T t.n t.n t.a t.b t.u, [], [⟨24, [.int .i64 (ruB t.T ⟨0, 0, false⟩ 0).1.1.lo, .int .i64 (ruB t.T ⟨0, 0, false⟩ 0).1.1.hi, .bool (ruB t.T ⟨0, 0, false⟩ 0).1.1.u]⟩], [(decide (t.i = 0) && decide (t.n = lenT t.T) && decide (t.n ≤ 9223372036854775807) && decide (t.a = 0) && decide (t.b = 0) && decide (t.u = false), true)])
theorem vlD_ok (x : Code) (hx : codeAt (bodyOf Try.f48) [false, true] = some (.loop x)) : LpOk Try.prog tbI 16 x (vlD.sp (fun _ => true)) := by
  obtain rfl := loopAt_eq hx
  refine lpR_ok (c := ctxLp Try.prog tbI (fun _ => false) libS1 fnsS1 []) (ctxLp_ok libS1_ok (eq_none _) (fns_cons Try.func31 rfl Try.call31 (fns_nil _)) (fun _ _ _ => lps_nil)) (by kernel_rfl) (fun _ _ _ h => h) hx lps_nil (S := vlS) (step := vlStep) (fun _ _ => rfl) (by kernel_rfl) (by kernel_rfl) ?_ rfl (fun t e he => ?_) (fun t hb rest => vl_round t hb rest) ?_
  · intro vs tr ks s hv1 hv2 h hv3
    simp only [vlD] at h
    split at h
    · cases h
      exact ⟨rfl, fun e he => .inl he⟩
    · cases h
  · simp only [vlS, vlTm, List.mem_cons, List.not_mem_nil, or_false] at he
    rcases he with rfl | rfl | rfl <;> rfl
  · intro s β ex outs rts wb cd h hfk hc
    obtain ⟨T, n, i, a, b, u⟩ := s
    have hβ := hfk _ rfl
    cases β with
    | true =>
      simp only [vlD] at h hβ
      cases h
      have := c1s hc
      simp only [Bool.and_eq_true, decide_eq_true_eq] at this
      obtain ⟨⟨⟨⟨⟨rfl, rfl⟩, h3⟩, rfl⟩, rfl⟩, rfl⟩ := this
      obtain ⟨c, hc⟩ := vl_runs h3 T.length 0 0 0 false 0 (by omega) (by omega) (by omega)
      refine ⟨c, ?_⟩
      rw [List.drop_zero] at hc
      rw [if_pos (by simpa using hβ)] at hc
      exact hc
    | false =>
      simp only [vlD] at h hβ
      cases h
      have := c1s hc
      simp only [Bool.and_eq_true, decide_eq_true_eq] at this
      obtain ⟨⟨⟨⟨⟨rfl, rfl⟩, h3⟩, rfl⟩, rfl⟩, rfl⟩ := this
      obtain ⟨c, hc⟩ := vl_runs h3 T.length 0 0 0 false 0 (by omega) (by omega) (by omega)
      refine ⟨c, ?_⟩
      rw [List.drop_zero] at hc
      rw [if_neg (by simpa using hβ)] at hc
      exact hc
set_option maxRecDepth 100000 in
theorem cl_0 (T : List (List Int)) (n : Int) (i : Int) (a : Int) (b : Int) (u : Bool) (k : Int) (rest : List (Nat × AV Tb)) : evView (ctxLp Try.prog tbI (fun _ => false) libS1 fnsS1 []) 19 (false :: [false, true]) (loopAt (bodyOf Try.f12) [false, true]) ([(6, (.w (.one (.fv (.tab [some .i64, some .i64, none] T))))), (7, (.w (.one (.int .i64 n)))), (8, (.w (.one (.int .i64 i))))] ++ (ptrN 0 [65536 * (31 + 1) + 0, 2] ++ rest)) [⟨24, [.int .i64 a, .int .i64 b, .bool u]⟩, ⟨3, [.int .i64 k]⟩] 2 [6, 7, 8, 0, 2] [false] = some ((Ex.exit 0, [AV.w (AW.one (AC.fv (Tb.tab [some IntKind.i64, some IntKind.i64, none] T))), AV.w (AW.one (AC.int IntKind.i64 n)), AV.w (AW.one (AC.int IntKind.i64 i)), AV.w (AW.one (AC.fnc 31 [(0, 0)])), AV.w (AW.one (AC.ptr 1 0))], [{ ty := 24, cs := [AC.int IntKind.i64 a, AC.int IntKind.i64 b, AC.bool u] }, { ty := 3, cs := [AC.int IntKind.i64 k] }]), (pickL [(decide (i < n), false)] [0])) := by kernel_rfl
set_option maxRecDepth 100000 in
theorem cl_10 (T : List (List Int)) (n : Int) (i : Int) (a : Int) (b : Int) (u : Bool) (k : Int) (rest : List (Nat × AV Tb)) : evView (ctxLp Try.prog tbI (fun _ => false) libS1 fnsS1 []) 19 (false :: [false, true]) (loopAt (bodyOf Try.f12) [false, true]) ([(6, (.w (.one (.fv (.tab [some .i64, some .i64, none] T))))), (7, (.w (.one (.int .i64 n)))), (8, (.w (.one (.int .i64 i))))] ++ (ptrN 0 [65536 * (31 + 1) + 0, 2] ++ rest)) [⟨24, [.int .i64 a, .int .i64 b, .bool u]⟩, ⟨3, [.int .i64 k]⟩] 2 [6, 7, 8, 0, 2] [true, false] = some ((Ex.normal, [AV.w (AW.one (AC.fv (Tb.tab [some IntKind.i64, some IntKind.i64, none] T))), AV.w (AW.one (AC.int IntKind.i64 n)), AV.w (AW.one (AC.int IntKind.i64 (IntKind.i64.wrap (i + 1)))), AV.w (AW.one (AC.fnc 31 [(0, 0)])), AV.w (AW.one (AC.ptr 1 0))], [{ ty := 24, cs := [AC.int IntKind.i64 (addB ⟨a, b, u⟩ (rB T i)).lo, AC.int IntKind.i64 (addB ⟨a, b, u⟩ (rB T i)).hi, AC.bool (addB ⟨a, b, u⟩ (rB T i)).u] }, { ty := 3, cs := [AC.int IntKind.i64 (IntKind.i64.wrap (k + 1))] }]), (pickL [(decide (i < n), true), (decide (0 ≤ i), true), (decide (i < lenT T), true), (!!(addB ⟨a, b, u⟩ (rB T i)).u, false)] [0, 1, 2, 1, 2, 3])) := by kernel_rfl
set_option maxRecDepth 100000 in
theorem clx_11 (T : List (List Int)) (n : Int) (i : Int) (a : Int) (b : Int) (u : Bool) (k : Int) (rest : List (Nat × AV Tb)) : evView (ctxLp Try.prog tbI (fun _ => false) libS1 fnsS1 []) 19 (false :: [false, true]) (loopAt (bodyOf Try.f12) [false, true]) ([(6, (.w (.one (.fv (.tab [some .i64, some .i64, none] T))))), (7, (.w (.one (.int .i64 n)))), (8, (.w (.one (.int .i64 i))))] ++ (ptrN 0 [65536 * (31 + 1) + 0, 2] ++ rest)) [⟨24, [.int .i64 a, .int .i64 b, .bool u]⟩, ⟨3, [.int .i64 k]⟩] 2 [0, 2] [true, true] = some ((Ex.ret, [AV.w (AW.one (AC.fnc 31 [(0, 0)])), AV.w (AW.one (AC.ptr 1 0))], [{ ty := 24, cs := [AC.int IntKind.i64 (addB ⟨a, b, u⟩ (rB T i)).lo, AC.int IntKind.i64 (addB ⟨a, b, u⟩ (rB T i)).hi, AC.bool (addB ⟨a, b, u⟩ (rB T i)).u] }, { ty := 3, cs := [AC.int IntKind.i64 (IntKind.i64.wrap (k + 1))] }]), (pickL [(decide (i < n), true), (decide (0 ≤ i), true), (decide (i < lenT T), true), (!!(addB ⟨a, b, u⟩ (rB T i)).u, true)] [0, 1, 2, 1, 2, 3])) := by kernel_rfl
structure clT where
  T : List (List Int)
  n : Int
  i : Int
  a : Int
  b : Int
  u : Bool
  k : Int
def clP (T : List (List Int)) (n : Int) (i : Int) (a : Int) (b : Int) (u : Bool) (k : Int) : Prop := 0 ≤ i ∧ i ≤ n ∧ n = lenT T ∧ n ≤ 9223372036854775807 ∧ 0 ≤ k ∧ k ≤ i
instance (T : List (List Int)) (n : Int) (i : Int) (a : Int) (b : Int) (u : Bool) (k : Int) : Decidable (clP T n i a b u k) := by unfold clP; infer_instance
def clTm (T : List (List Int)) (n : Int) (i : Int) (a : Int) (b : Int) (u : Bool) (k : Int) : List (Nat × AV Tb) := [(6, (.w (.one (.fv (.tab [some .i64, some .i64, none] T))))), (7, (.w (.one (.int .i64 n)))), (8, (.w (.one (.int .i64 i))))]
def clS : LpSt clT Tb where
  ps := [65536 * (31 + 1) + 0, 2]
  tm := fun t => clTm t.T t.n t.i t.a t.b t.u t.k
  hp := fun t => [⟨24, [.int .i64 t.a, .int .i64 t.b, .bool t.u]⟩, ⟨3, [.int .i64 t.k]⟩]
def clNx (T : List (List Int)) (n : Int) (i : Int) (a : Int) (b : Int) (u : Bool) (k : Int) : Nxt clT Tb := if i < n then (if (addB ⟨a, b, u⟩ (rB T i)).u = true then .out .ret [] [⟨24, [.int .i64 (addB ⟨a, b, u⟩ (rB T i)).lo, .int .i64 (addB ⟨a, b, u⟩ (rB T i)).hi, .bool (addB ⟨a, b, u⟩ (rB T i)).u]⟩, ⟨3, [.int .i64 (k + 1)]⟩] else .go ⟨T, n, i + 1, (addB ⟨a, b, u⟩ (rB T i)).lo, (addB ⟨a, b, u⟩ (rB T i)).hi, (addB ⟨a, b, u⟩ (rB T i)).u, k + 1⟩) else .out (.exit 0) (clTm T n i a b u k) [⟨24, [.int .i64 a, .int .i64 b, .bool u]⟩, ⟨3, [.int .i64 (k)]⟩]
def clStep (t : clT) : Nxt clT Tb := if clP t.T t.n t.i t.a t.b t.u t.k then clNx t.T t.n t.i t.a t.b t.u t.k else .bad
theorem cl_go {T : List (List Int)} {n : Int} {i : Int} {a : Int} {b : Int} {u : Bool} {k : Int} (h : clP T n i a b u k) : clStep ⟨T, n, i, a, b, u, k⟩ = clNx T n i a b u k := if_pos h
set_option maxRecDepth 100000 in
set_option maxHeartbeats 4000000 in
theorem cl_round (t : clT) (hb : (clStep t).isBad = false) (rest : List (Nat × AV Tb)) : ∃ fuel path r, evC (ctxLp Try.prog tbI (fun _ => false) libS1 fnsS1 []) fuel 19 (false :: [false, true]) (loopAt (bodyOf Try.f12) [false, true]) (clS.tm t ++ (ptrN 0 clS.ps ++ rest)) (numb 0 (clS.hp t)) 2 path = some r ∧ (∀ p ∈ r.cd, p.1 = p.2) ∧ Gives clS 2 r (clStep t) := by
  obtain ⟨T, n, i, a, b, u, k⟩ := t
  by_cases ok : clP T n i a b u k
  · rw [cl_go ok]
    clear hb
    unfold clNx
    obtain ⟨h1, h2, rfl, h3, h4, h5⟩ := ok
    by_cases hk : i < lenT T
    · have e1 : IntKind.i64.wrap (i + 1) = i + 1 := w64 (by omega) (by omega)
      have e2 : IntKind.i64.wrap (k + 1) = k + 1 := w64 (by omega) (by omega)
      have c0 : decide (i < lenT T) = true := decide_eq_true hk
      have c1 : decide (0 ≤ i) = true := decide_eq_true h1
      rw [if_pos hk]
      by_cases hu : (addB ⟨a, b, u⟩ (rB T i)).u = true
      · have c2 : (!!(addB ⟨a, b, u⟩ (rB T i)).u) = true := by rw [hu]; rfl
        rw [if_pos hu]
        have L := clx_11 T (lenT T) i a b u k rest
        rw [e2] at L
        refine round_out L rfl (pickL_ok ?_ _) rfl rfl rfl
        repeat' (first | exact cd_nil | refine cd_cons ?_ ?_)
        all_goals first | rfl | with_reducible assumption
      · have hv := Bool.eq_false_iff.2 hu
        have c2 : (!!(addB ⟨a, b, u⟩ (rB T i)).u) = false := by rw [hv]; rfl
        rw [if_neg hu]
        have L := cl_10 T (lenT T) i a b u k rest
        rw [e1, e2] at L
        refine round_go L (pickL_ok ?_ _) rfl rfl rfl rfl
        repeat' (first | exact cd_nil | refine cd_cons ?_ ?_)
        all_goals first | rfl | with_reducible assumption
    · have c0 : decide (i < lenT T) = false := decide_eq_false hk
      rw [if_neg hk]
      have L := cl_0 T (lenT T) i a b u k rest
      refine round_out L rfl (pickL_ok ?_ _) rfl rfl rfl
      repeat' (first | exact cd_nil | refine cd_cons ?_ ?_)
      all_goals first | rfl | with_reducible assumption
  · exfalso
    have : clStep ⟨T, n, i, a, b, u, k⟩ = .bad := if_neg ok
    rw [this] at hb; cases hb
theorem cl_runs {T : List (List Int)} (h : lenT T ≤ 9223372036854775807) : ∀ (j i : Nat) (a b : Int) (u : Bool) (k : Int), i + j = T.length → 0 ≤ k → k ≤ i → ∃ c, runs clStep c ⟨T, lenT T, i, a, b, u, k⟩ = (if (ruB (T.drop i) ⟨a, b, u⟩ k).2 = true then some (.ret, [], [⟨24, [.int .i64 (ruB (T.drop i) ⟨a, b, u⟩ k).1.1.lo, .int .i64 (ruB (T.drop i) ⟨a, b, u⟩ k).1.1.hi, .bool (ruB (T.drop i) ⟨a, b, u⟩ k).1.1.u]⟩, ⟨3, [.int .i64 ((ruB (T.drop i) ⟨a, b, u⟩ k).1.2)]⟩]) else some (.exit 0, clTm T (lenT T) (lenT T) a b u k, [⟨24, [.int .i64 (ruB (T.drop i) ⟨a, b, u⟩ k).1.1.lo, .int .i64 (ruB (T.drop i) ⟨a, b, u⟩ k).1.1.hi, .bool (ruB (T.drop i) ⟨a, b, u⟩ k).1.1.u]⟩, ⟨3, [.int .i64 ((ruB (T.drop i) ⟨a, b, u⟩ k).1.2)]⟩]))
  | 0, i, a, b, u, k, hi, h0, h1 => by
    have e : (i : Int) = lenT T := by unfold lenT; omega
    refine ⟨1, ?_⟩
    rw [runs, cl_go ⟨by omega, by omega, rfl, h, h0, h1⟩]
    unfold clNx
    rw [if_neg (by omega), List.drop_eq_nil_of_le (by omega), e]
    rfl
  | j + 1, i, a, b, u, k, hi, h0, h1 => by
    have hl : (i : Int) < lenT T := by unfold lenT; omega
    have d := dropR (T := T) (i := i) (by omega)
    have hgo := cl_go (T := T) (n := lenT T) (i := i) (a := a) (b := b) (u := u) (k := k) ⟨by omega, by omega, rfl, h, h0, h1⟩
    rw [d]
    unfold ruB
    rw [rB_eq]
    cases hu : (addB ⟨a, b, u⟩ (rB T i)).u with
    | true =>
      refine ⟨1, ?_⟩
      rw [runs, hgo]
      unfold clNx
      rw [if_pos hl, if_pos hu, cond_true, if_pos rfl]
      try rfl
    | false =>
      obtain ⟨c, hc⟩ := cl_runs h j (i + 1) (addB ⟨a, b, u⟩ (rB T i)).lo (addB ⟨a, b, u⟩ (rB T i)).hi (addB ⟨a, b, u⟩ (rB T i)).u (k + 1) (by omega) (by omega) (by omega)
      refine ⟨c + 1, ?_⟩
      rw [runs, hgo]
      unfold clNx
      rw [if_pos hl, if_neg (by rw [hu]; decide), cond_false]
      exact hc
def clD : LpDefR clT Tb where
  ts := [6, 7, 8]
  ps := [65536 * (31 + 1) + 0, 2]
  rs := []
  W := [0, 2, 5, 6, 7, 8, 9, 10, 11, 12, 13, 14, 15, 16, 17, 18]
  dec := fun vs tr ks => match vs, tr, ks with
    | [.w (.one (.fv (.tab [some .i64, some .i64, none] T))), .w (.one (.int .i64 n)), .w (.one (.int .i64 i))], [], [⟨24, [.int .i64 a, .int .i64 b, .bool u]⟩, ⟨3, [.int .i64 k]⟩] => some ⟨T, n, i, a, b, u, k⟩
    | _, _, _ => none
  fk := fun t => some ((ruB t.T ⟨0, 0, false⟩ 0).2)
  spec := fun t β => match β with
    | true => some (.ret, [], [], [⟨24, [.int .i64 (ruB t.T ⟨0, 0, false⟩ 0).1.1.lo, .int .i64 (ruB t.T ⟨0, 0, false⟩ 0).1.1.hi, .bool (ruB t.T ⟨0, 0, false⟩ 0).1.1.u]⟩, ⟨3, [.int .i64 ((ruB t.T ⟨0, 0, false⟩ 0).1.2)]⟩], [(decide (t.i = 0) && decide (t.n = lenT t.T) && decide (t.n ≤ 9223372036854775807) && decide (t.a = 0) && decide (t.b = 0) && decide (t.u = false) && decide (t.k = 0), true)])
    | false => some (.exit 0, clTm t.T t.n t.n t.a t.b t.u t.k, [], [⟨24, [.int .i64 (ruB t.T ⟨0, 0, false⟩ 0).1.1.lo, .int .i64 (ruB t.T ⟨0, 0, false⟩ 0).1.1.hi, .bool (ruB t.T ⟨0, 0, false⟩ 0).1.1.u]⟩, ⟨3, [.int .i64 ((ruB t.T ⟨0, 0, false⟩ 0).1.2)]⟩], [(decide (t.i = 0) && decide (t.n = lenT t.T) && decide (t.n ≤ 9223372036854775807) && decide (t.a = 0) && decide (t.b = 0) && decide (t.u = false) && decide (t.k = 0), true)])
theorem clD_ok (x : Code) (hx : codeAt (bodyOf Try.f12) [false, true] = some (.loop x)) : LpOk Try.prog tbI 19 x (clD.sp (fun _ => true)) := by
  obtain rfl := loopAt_eq hx
  refine lpR_ok (c := ctxLp Try.prog tbI (fun _ => false) libS1 fnsS1 []) (ctxLp_ok libS1_ok (eq_none _) (fns_cons Try.func31 rfl Try.call31 (fns_nil _)) (fun _ _ _ => lps_nil)) (by kernel_rfl) (fun _ _ _ h => h) hx lps_nil (S := clS) (step := clStep) (fun _ _ => rfl) (by kernel_rfl) (by kernel_rfl) ?_ rfl (fun t e he => ?_) (fun t hb rest => cl_round t hb rest) ?_
  · intro vs tr ks s hv1 hv2 h hv3
    simp only [clD] at h
    split at h
    · cases h
      exact ⟨rfl, fun e he => .inl he⟩
    · cases h
  · simp only [clS, clTm, List.mem_cons, List.not_mem_nil, or_false] at he
    rcases he with rfl | rfl | rfl <;> rfl
  · intro s β ex outs rts wb cd h hfk hc
    obtain ⟨T, n, i, a, b, u, k⟩ := s
    have hβ := hfk _ rfl
    cases β with
    | true =>
      simp only [clD] at h hβ
      cases h
      have := c1s hc
      simp only [Bool.and_eq_true, decide_eq_true_eq] at this
      obtain ⟨⟨⟨⟨⟨⟨rfl, rfl⟩, h3⟩, rfl⟩, rfl⟩, rfl⟩, rfl⟩ := this
      obtain ⟨c, hc⟩ := cl_runs h3 T.length 0 0 0 false 0 (by omega) (by omega) (by omega)
      refine ⟨c, ?_⟩
      rw [List.drop_zero] at hc
      rw [if_pos (by simpa using hβ)] at hc
      exact hc
    | false =>
      simp only [clD] at h hβ
      cases h
      have := c1s hc
      simp only [Bool.and_eq_true, decide_eq_true_eq] at this
      obtain ⟨⟨⟨⟨⟨⟨rfl, rfl⟩, h3⟩, rfl⟩, rfl⟩, rfl⟩, rfl⟩ := this
      obtain ⟨c, hc⟩ := cl_runs h3 T.length 0 0 0 false 0 (by omega) (by omega) (by omega)
      refine ⟨c, ?_⟩
      rw [List.drop_zero] at hc
      rw [if_neg (by simpa using hβ)] at hc
      exact hc
end
end Go.Proofs.Ytfhidjldmopbgaa.AtBr

