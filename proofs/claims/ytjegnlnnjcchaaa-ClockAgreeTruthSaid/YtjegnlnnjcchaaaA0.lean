/-
  clock.Agree as a function of tables, at the interpretation of tables alone.
  Conditions: those of each theorem.
-/
import Derived.Test.YtjegnlnnjcchaaaC3
import Derived.Test.YtjegnlnnjcchaaaGM
import Derived.Test.YtjegnlnnjcchaaaAL
set_option linter.unusedVariables false
set_option linter.unusedSimpArgs false
namespace Go.Proofs.Ytjegnlnnjcchaaa.AtCk
open Ev Go.RowKit Go.Shelf Wd
open Go.Proofs.Ytjegnlnnjcchaaa
noncomputable section

noncomputable abbrev libA1 : List (Nat × FnSp Tb) := [(85, ckS), (86, unS)]
theorem libA1_ok : LibOk Try.prog tbI (lib1 libA1) := (lib1_cons (sp1_ok fun c _ => ⟨_, rfl, ckf_pl c⟩) Try.call85 (lib1_cons (sp2_ok fun c x _ => ⟨_, rfl, unf_pl c x⟩) Try.call86 (lib1_nil _ _)))
theorem kn_u {b : Bd} (h : b.u = true) : knB b = false := by unfold knB; rw [h]; rfl
def ckO (r : List Int) : Ck := ⟨r.getD 0 0, ⟨r.getD 1 0, r.getD 2 0, decide (r.getD 3 0 = 1)⟩, r.getD 4 0⟩
def bRow (b : Bd) : List Int := [b.lo, b.hi, bif b.u then 1 else 0]
/-- The first error of clocks. -/
def errC : List (List Int) → Int
  | [] => 0
  | r :: T => if ckE (ckO r) = 0 then errC T else ckE (ckO r)
/-- What is known of the times that clocks say. -/
def kpC : List (List Int) → List (List Int) → List (List Int)
  | r :: T, h :: H => (if (uniC (ckO r) (h.getD 0 0)).u = true then [] else [bRow (uniC (ckO r) (h.getD 0 0))]) ++ kpC T H
  | _, _ => []
def kfC : List (List Int) → List (List Int) → Nat
  | r :: T, h :: H => if ckE (ckO r) = 0 then (if (uniC (ckO r) (h.getD 0 0)).u = true then 0 else 1) + kfC T H else 0
  | _, _ => 0
def agL : Nat → List (List Int) → List (List Int) → List (List Int) → List (List Int)
  | i, r :: T, h :: H, L => if ckE (ckO r) = 0 then agL (i + 1) T H (L.set i (bRow (uniC (ckO r) (h.getD 0 0)))) else L
  | _, _, _, L => L
theorem dropH {T H : List (List Int)} {i : Nat} (h : i < T.length) (he : lenT H = lenT T) : H.drop i = rowT H i :: H.drop (i + 1) := dropT (by unfold lenT at he; omega)
set_option maxRecDepth 100000 in
theorem ag_10 (T : List (List Int)) (H : List (List Int)) (n : Int) (i : Int) (m : Int) (c : Int) (L : List (List Int)) (rest : List (Nat × AV Tb)) : evView (ctxOf Try.prog tbI (fun _ => false) libA1) 51 (false :: [false, true, false, true, true, true, true]) (loopAt (bodyOf Try.f55) [false, true, false, true, true, true, true]) ([(25, (.w (.one (.fv (.tab [some .i64, some .i64, some .i64, none, some .i64] T))))), (1, (.w (.one (.fv (.tab [some .i64] H))))), (26, (.w (.one (.int .i64 n)))), (27, (.w (.one (.int .i64 i)))), (8, (.w (.one (.wsl 1 3 0 m c))))] ++ (ptrN 0 [6] ++ rest)) [⟨79, [.int .i64 0, .int .i64 0, .yes false]⟩, ⟨79, [.arr [some .i64, some .i64, none] L]⟩] 2 [25, 1, 26, 27, 8, 6] [true, false] = some ((Ex.normal, [AV.w (AW.one (AC.fv (Tb.tab [some IntKind.i64, some IntKind.i64, some IntKind.i64, none, some IntKind.i64] T))), AV.w (AW.one (AC.fv (Tb.tab [some IntKind.i64] H))), AV.w (AW.one (AC.int IntKind.i64 n)), AV.w (AW.one (AC.int IntKind.i64 (IntKind.i64.wrap (i + 1)))), AV.w (AW.one (AC.wsl 1 3 0 m c)), AV.w (AW.one (AC.ptr 0 0))], [{ ty := 79, cs := [AC.int IntKind.i64 0, AC.int IntKind.i64 0, AC.yes false] }, { ty := 79, cs := [AC.arr [some IntKind.i64, some IntKind.i64, none] (List.set L (0 + i).toNat (bRow (uniC (ckO (rowT T i)) (cel H i 0))))] }]), (pickL [(decide (i < n), true), (decide (0 ≤ i), true), (decide (i < lenT T), true), (ckE (ckO (rowT T i)) != 0, false), (decide (i < lenT H), true), (decide (i < m), true), (decide (0 + i < lenT L), true)] [0, 1, 2, 1, 2, 3, 1, 4, 1, 4, 1, 5, 6])) := by kernel_rfl
set_option maxRecDepth 100000 in
theorem ag_0 (T : List (List Int)) (H : List (List Int)) (n : Int) (i : Int) (m : Int) (c : Int) (L : List (List Int)) (rest : List (Nat × AV Tb)) : evView (ctxOf Try.prog tbI (fun _ => false) libA1) 51 (false :: [false, true, false, true, true, true, true]) (loopAt (bodyOf Try.f55) [false, true, false, true, true, true, true]) ([(25, (.w (.one (.fv (.tab [some .i64, some .i64, some .i64, none, some .i64] T))))), (1, (.w (.one (.fv (.tab [some .i64] H))))), (26, (.w (.one (.int .i64 n)))), (27, (.w (.one (.int .i64 i)))), (8, (.w (.one (.wsl 1 3 0 m c))))] ++ (ptrN 0 [6] ++ rest)) [⟨79, [.int .i64 0, .int .i64 0, .yes false]⟩, ⟨79, [.arr [some .i64, some .i64, none] L]⟩] 2 [25, 1, 26, 27, 8, 6] [false] = some ((Ex.exit 0, [AV.w (AW.one (AC.fv (Tb.tab [some IntKind.i64, some IntKind.i64, some IntKind.i64, none, some IntKind.i64] T))), AV.w (AW.one (AC.fv (Tb.tab [some IntKind.i64] H))), AV.w (AW.one (AC.int IntKind.i64 n)), AV.w (AW.one (AC.int IntKind.i64 i)), AV.w (AW.one (AC.wsl 1 3 0 m c)), AV.w (AW.one (AC.ptr 0 0))], [{ ty := 79, cs := [AC.int IntKind.i64 0, AC.int IntKind.i64 0, AC.yes false] }, { ty := 79, cs := [AC.arr [some IntKind.i64, some IntKind.i64, none] L] }]), (pickL [(decide (i < n), false)] [0])) := by kernel_rfl
set_option maxRecDepth 100000 in
theorem agr_11 (T : List (List Int)) (H : List (List Int)) (n : Int) (i : Int) (m : Int) (c : Int) (L : List (List Int)) (rest : List (Nat × AV Tb)) : evView (ctxOf Try.prog tbI (fun _ => false) libA1) 51 (false :: [false, true, false, true, true, true, true]) (loopAt (bodyOf Try.f55) [false, true, false, true, true, true, true]) ([(25, (.w (.one (.fv (.tab [some .i64, some .i64, some .i64, none, some .i64] T))))), (1, (.w (.one (.fv (.tab [some .i64] H))))), (26, (.w (.one (.int .i64 n)))), (27, (.w (.one (.int .i64 i)))), (8, (.w (.one (.wsl 1 3 0 m c))))] ++ (ptrN 0 [6] ++ rest)) [⟨79, [.int .i64 0, .int .i64 0, .yes false]⟩, ⟨79, [.arr [some .i64, some .i64, none] L]⟩] 2 [7, 6] [true, true] = some ((Ex.ret, [AV.w (AW.one (AC.int IntKind.i64 (ckE (ckO (rowT T i))))), AV.w (AW.one (AC.ptr 0 0))], [{ ty := 79, cs := [AC.int IntKind.i64 0, AC.int IntKind.i64 0, AC.yes false] }, { ty := 79, cs := [AC.arr [some IntKind.i64, some IntKind.i64, none] L] }]), (pickL [(decide (i < n), true), (decide (0 ≤ i), true), (decide (i < lenT T), true), (ckE (ckO (rowT T i)) != 0, true)] [0, 1, 2, 1, 2, 3])) := by kernel_rfl
structure agT where
  T : List (List Int)
  H : List (List Int)
  n : Int
  i : Int
  m : Int
  c : Int
  L : List (List Int)
def agP (T : List (List Int)) (H : List (List Int)) (n : Int) (i : Int) (m : Int) (c : Int) (L : List (List Int)) : Prop := 0 ≤ i ∧ i ≤ n ∧ n = lenT T ∧ n ≤ 64 ∧ lenT H = lenT T ∧ m = lenT T ∧ lenT L = lenT T
instance (T : List (List Int)) (H : List (List Int)) (n : Int) (i : Int) (m : Int) (c : Int) (L : List (List Int)) : Decidable (agP T H n i m c L) := by unfold agP; infer_instance
def agTm (T : List (List Int)) (H : List (List Int)) (n : Int) (i : Int) (m : Int) (c : Int) (L : List (List Int)) : List (Nat × AV Tb) := [(25, (.w (.one (.fv (.tab [some .i64, some .i64, some .i64, none, some .i64] T))))), (1, (.w (.one (.fv (.tab [some .i64] H))))), (26, (.w (.one (.int .i64 n)))), (27, (.w (.one (.int .i64 i)))), (8, (.w (.one (.wsl 1 3 0 m c))))]
def agS : LpSt agT Tb where
  ps := [6]
  tm := fun t => agTm t.T t.H t.n t.i t.m t.c t.L
  hp := fun t => [⟨79, [.int .i64 0, .int .i64 0, .yes false]⟩, ⟨79, [.arr [some .i64, some .i64, none] t.L]⟩]
def agNx (T : List (List Int)) (H : List (List Int)) (n : Int) (i : Int) (m : Int) (c : Int) (L : List (List Int)) : Nxt agT Tb := if i < n then (if ckE (ckO (rowT T i)) = 0 then .go ⟨T, H, n, i + 1, m, c, L.set i.toNat (bRow (uniC (ckO (rowT T i)) (cel H i 0)))⟩ else .out .ret [(7, .w (.one (.int .i64 (ckE (ckO (rowT T i))))))] [⟨79, [.int .i64 0, .int .i64 0, .yes false]⟩, ⟨79, [.arr [some .i64, some .i64, none] L]⟩]) else .out (.exit 0) (agTm T H n i m c L) [⟨79, [.int .i64 0, .int .i64 0, .yes false]⟩, ⟨79, [.arr [some .i64, some .i64, none] L]⟩]
def agStep (t : agT) : Nxt agT Tb := if agP t.T t.H t.n t.i t.m t.c t.L then agNx t.T t.H t.n t.i t.m t.c t.L else .bad
theorem ag_go {T : List (List Int)} {H : List (List Int)} {n : Int} {i : Int} {m : Int} {c : Int} {L : List (List Int)} (h : agP T H n i m c L) : agStep ⟨T, H, n, i, m, c, L⟩ = agNx T H n i m c L := if_pos h
set_option maxRecDepth 100000 in
set_option maxHeartbeats 4000000 in
theorem ag_round (t : agT) (hb : (agStep t).isBad = false) (rest : List (Nat × AV Tb)) : ∃ fuel path r, evC (ctxOf Try.prog tbI (fun _ => false) libA1) fuel 51 (false :: [false, true, false, true, true, true, true]) (loopAt (bodyOf Try.f55) [false, true, false, true, true, true, true]) (agS.tm t ++ (ptrN 0 agS.ps ++ rest)) (numb 0 (agS.hp t)) 2 path = some r ∧ (∀ p ∈ r.cd, p.1 = p.2) ∧ Gives agS 2 r (agStep t) := by
  obtain ⟨T, H, n, i, m, c, L⟩ := t
  by_cases ok : agP T H n i m c L
  · rw [ag_go ok]
    clear hb
    unfold agNx
    obtain ⟨h1, h2, rfl, h4, h5, h6, h7⟩ := ok
    have e0 : decide (0 ≤ i) = true := decide_eq_true h1
    have e1 : i < lenT T → IntKind.i64.wrap (i + 1) = i + 1 := fun _ => v64 (by omega) (by omega)
    have e2 : i < lenT T → decide (i < lenT H) = true := fun _ => decide_eq_true (by omega)
    cases k0 : (decide (i < lenT T)) with
    | true =>
      cases k1 : (ckE (ckO (rowT T i)) != 0) with
      | true =>
        rw [if_pos (of_decide_eq_true k0)]
        have hE : ¬ ckE (ckO (rowT T i)) = 0 := by simpa using k1
        rw [if_neg hE]
        have L := agr_11 T H (lenT T) i m c L rest
        refine round_out L rfl (pickL_ok ?_ _) rfl rfl rfl
        repeat' (first | exact cd_nil | refine cd_cons ?_ ?_)
        all_goals first | rfl | with_reducible assumption | exact e2 (of_decide_eq_true k0)
      | false =>
        rw [if_pos (of_decide_eq_true k0)]
        have hE : ckE (ckO (rowT T i)) = 0 := by simpa using k1
        rw [if_pos hE]
        have m1 : decide (i < m) = true := decide_eq_true (by have := of_decide_eq_true k0; omega)
        have m2 : decide (i < lenT L) = true := decide_eq_true (by have := of_decide_eq_true k0; omega)
        have L := ag_10 T H (lenT T) i m c L rest
        rw [e1 (of_decide_eq_true k0), Int.zero_add] at L
        refine round_go L (pickL_ok ?_ _) rfl rfl rfl rfl
        repeat' (first | exact cd_nil | refine cd_cons ?_ ?_)
        all_goals first | rfl | with_reducible assumption | exact e2 (of_decide_eq_true k0)
    | false =>
      rw [if_neg (of_decide_eq_false k0)]
      have L0 := ag_0 T H (lenT T) i m c L rest
      refine round_outR L0 rfl (pickL_ok ?_ _) rfl rfl
      repeat' (first | exact cd_nil | refine cd_cons ?_ ?_)
      all_goals first | rfl | with_reducible assumption | exact e2 (of_decide_eq_true k0)
  · exfalso
    have : agStep ⟨T, H, n, i, m, c, L⟩ = .bad := if_neg ok
    rw [this] at hb; cases hb
theorem ag_runs {T H : List (List Int)} {c : Int} (h : lenT T ≤ 64) (he : lenT H = lenT T) : ∀ (j i : Nat) (L : List (List Int)), i + j = T.length → L.length = T.length → ∃ f, runs agStep f ⟨T, H, lenT T, i, lenT T, c, L⟩ =
    (if errC (T.drop i) = 0 then some (.exit 0, agTm T H (lenT T) (lenT T) (lenT T) c [], [⟨79, [.int .i64 0, .int .i64 0, .yes false]⟩, ⟨79, [.arr [some .i64, some .i64, none] (agL i (T.drop i) (H.drop i) L)]⟩])
      else some (.ret, [(7, .w (.one (.int .i64 (errC (T.drop i)))))], [⟨79, [.int .i64 0, .int .i64 0, .yes false]⟩, ⟨79, [.arr [some .i64, some .i64, none] (agL i (T.drop i) (H.drop i) L)]⟩]))
  | 0, i, L, hi, hk => by
    have e : (i : Int) = lenT T := by unfold lenT; omega
    refine ⟨1, ?_⟩
    rw [runs, ag_go ⟨by omega, by omega, rfl, h, he, rfl, by unfold lenT; omega⟩]
    unfold agNx
    rw [if_neg (by omega), List.drop_eq_nil_of_le (by omega), e]
    simp only [errC, agL, if_true]
    rfl
  | j + 1, i, L, hi, hk => by
    have hl : (i : Int) < lenT T := by unfold lenT; omega
    have d := dropT (T := T) (i := i) (by omega)
    have dH := dropH (T := T) (H := H) (i := i) (by omega) he
    by_cases g : ckE (ckO (rowT T i)) = 0
    · obtain ⟨f, hc⟩ := ag_runs (c := c) h he j (i + 1) (L.set i (bRow (uniC (ckO (rowT T i)) (cel H i 0)))) (by omega) (by rw [List.length_set]; exact hk)
      refine ⟨f + 1, ?_⟩
      rw [runs, ag_go ⟨by omega, by omega, rfl, h, he, rfl, by unfold lenT; omega⟩]
      unfold agNx
      rw [if_pos hl, if_pos g, d, dH]
      simp only [errC, agL, if_pos g, Int.toNat_natCast]
      exact hc
    · refine ⟨1, ?_⟩
      rw [runs, ag_go ⟨by omega, by omega, rfl, h, he, rfl, by unfold lenT; omega⟩]
      unfold agNx
      rw [if_pos hl, if_neg g, d, dH]
      simp only [errC, agL, if_neg g]
def agD : LpDefA agT Tb where
  ts := [25, 1, 26, 27]
  ps := [6]
  rs := [8]
  W := [1, 6, 7, 8, 9, 10, 11, 25, 26, 27, 28, 29, 30, 31, 32, 33, 34, 35, 36, 37, 38, 39, 40, 41, 42, 43, 44, 45, 46, 47]
  dec := fun vs tr ks => match vs, tr, ks with
    | [.w (.one (.fv (.tab [some .i64, some .i64, some .i64, none, some .i64] T))), .w (.one (.fv (.tab [some .i64] H))), .w (.one (.int .i64 n)), .w (.one (.int .i64 i))], [.wsl _ 3 0 m c], [⟨79, [.int .i64 0, .int .i64 0, .yes false]⟩, ⟨79, [.arr [some .i64, some .i64, none] L]⟩] => some ⟨T, H, n, i, m, c, L⟩
    | _, _, _ => none
  fk := fun t => some (decide (errC t.T = 0))
  spec := fun t β => match β with
    | true => some (.exit 0, [(25, (.w (.one (.fv (.tab [some .i64, some .i64, some .i64, none, some .i64] t.T))))), (1, (.w (.one (.fv (.tab [some .i64] t.H))))), (26, .w (.one (.int .i64 t.n))), (27, .w (.one (.int .i64 t.n)))], [(8, 1, .wsl 0 3 0 t.m t.c)], [⟨79, [.int .i64 0, .int .i64 0, .yes false]⟩, ⟨79, [.arr [some .i64, some .i64, none] (agL 0 t.T t.H t.L)]⟩], [(decide (t.i = 0) && decide (t.n = lenT t.T) && decide (t.n ≤ 64) && decide (lenT t.H = lenT t.T) && decide (t.m = lenT t.T) && decide (lenT t.L = lenT t.T), true)])
    | false => some (.ret, [(7, .w (.one (.int .i64 (errC t.T))))], [], [⟨79, [.int .i64 0, .int .i64 0, .yes false]⟩, ⟨79, [.arr [some .i64, some .i64, none] (agL 0 t.T t.H t.L)]⟩], [(decide (t.i = 0) && decide (t.n = lenT t.T) && decide (t.n ≤ 64) && decide (lenT t.H = lenT t.T) && decide (t.m = lenT t.T) && decide (lenT t.L = lenT t.T), true)])
theorem agD_ok (x : Code) (hx : codeAt (bodyOf Try.f55) [false, true, false, true, true, true, true] = some (.loop x)) : LpOk Try.prog tbI 51 x (agD.sp (fun _ => true)) := by
  obtain rfl := loopAt_eq hx
  refine lpA_ok (c := ctxOf Try.prog tbI (fun _ => false) libA1) (ctxOf_ok libA1_ok (eq_none _)) (by kernel_rfl) (fun _ _ _ h => h) hx lps_nil (S := agS) (step := agStep) (fun _ h => h) (by kernel_rfl) (by kernel_rfl) ?_ rfl (fun t e he => ?_) (fun t hb rest => ag_round t hb rest) ?_
  · intro vs tr ks s hv1 hv2 h hv3
    simp only [agD] at h
    split at h
    · cases h
      refine ⟨rfl, fun e he => ?_⟩
      simp only [agS, agTm] at he
      rcases List.mem_cons.1 he with rfl | he
      · exact .inl (List.mem_of_getElem? (i := 0) rfl)
      rcases List.mem_cons.1 he with rfl | he
      · exact .inl (List.mem_of_getElem? (i := 1) rfl)
      rcases List.mem_cons.1 he with rfl | he
      · exact .inl (List.mem_of_getElem? (i := 2) rfl)
      rcases List.mem_cons.1 he with rfl | he
      · exact .inl (List.mem_of_getElem? (i := 3) rfl)
      obtain rfl := List.mem_singleton.1 he
      exact .inr ⟨0, _, _, rfl, rfl, rfl⟩
    · cases h
  · simp only [agS, agTm, List.mem_cons, List.not_mem_nil, or_false] at he
    rcases he with rfl | rfl | rfl | rfl | rfl <;> rfl
  · intro s β ex outs rts wb cd h hfk hc
    obtain ⟨T, H, n, i, m, c, L⟩ := s
    have hβ := hfk _ rfl
    cases β with
    | true =>
      simp only [agD] at h hβ
      cases h
      have := c1x hc
      simp only [Bool.and_eq_true, decide_eq_true_eq] at this
      obtain ⟨⟨⟨⟨⟨rfl, rfl⟩, h3⟩, h4⟩, rfl⟩, h6⟩ := this
      obtain ⟨f, hc⟩ := ag_runs (c := c) h3 h4 T.length 0 L (by omega) (by unfold lenT at h6; omega)
      refine ⟨f, ?_⟩
      rw [List.drop_zero, List.drop_zero, if_pos (of_decide_eq_true hβ)] at hc
      exact hc
    | false =>
      simp only [agD] at h hβ
      cases h
      have := c1x hc
      simp only [Bool.and_eq_true, decide_eq_true_eq] at this
      obtain ⟨⟨⟨⟨⟨rfl, rfl⟩, h3⟩, h4⟩, rfl⟩, h6⟩ := this
      obtain ⟨f, hc⟩ := ag_runs (c := c) h3 h4 T.length 0 L (by omega) (by unfold lenT at h6; omega)
      refine ⟨f, ?_⟩
      rw [List.drop_zero, List.drop_zero, if_neg (of_decide_eq_false hβ)] at hc
      exact hc
noncomputable abbrev libA2 : List (Nat × FnSp Tb) := [(87, arrFSp AtTick.Fs.bk AtTick.Fs.gFu)]
noncomputable abbrev agLps : Lps Tb := [((51, [false, true, false, true, true, true, true]), agD.sp (fun _ => true))]
theorem kns_cons (r : List Int) (T : List (List Int)) : AtTick.Fs.knsOf (r :: T) = if knB (AtTick.Fs.toBd r) = true then AtTick.Fs.toBd r :: AtTick.Fs.knsOf T else AtTick.Fs.knsOf T := by
  unfold AtTick.Fs.knsOf AtTick.Fs.bdsOf
  rw [List.map_cons, List.filter_cons]
def agE (T H : List (List Int)) : Int := if 64 < lenT T then 2 else if lenT H = lenT T then errC T else 14
def agB (T H : List (List Int)) (f : Int) : Bd := if agE T H = 0 then AtTick.Fs.fuseB (kpC T H) f else ⟨0, 0, false⟩
def gAgT : List (AV Tb) → Option (AV Tb × List (Bool × Bool))
  | [.w (.one (.fv (.tab [some .i64, some .i64, some .i64, none, some .i64] T))), .w (.one (.fv (.tab [some .i64] H))), .w (.one (.int .i64 f))] => some (.tup [.agg [.int .i64 (agB T H f).lo, .int .i64 (agB T H f).hi, .bool (agB T H f).u], .one (.int .i64 (agE T H))], [])
  | _ => none
theorem tb_R {E : Env Tb} {x y e : Int} {b : Bool} {u : Value} (h : AV.R E (.tup [.agg [.int .i64 x, .int .i64 y, .yes b], .one (.int .i64 e)]) u) : AV.R E (.tup [.agg [.int .i64 x, .int .i64 y, .bool b], .one (.int .i64 e)]) u := by
  obtain ⟨vs, rfl, h2⟩ := h
  cases h2 with | cons h0 h1 => ?_
  obtain ⟨ws, rfl, h3⟩ := h0
  cases h3 with | cons a h3 => ?_
  cases h3 with | cons a2 h3 => ?_
  cases h3 with | cons a3 h3 => ?_
  cases h3
  exact ⟨_, rfl, .cons ⟨_, rfl, .cons a (.cons a2 (.cons a3 .nil))⟩ h1⟩
theorem fuse_congr {l l' : List (List Int)} (h : AtTick.Fs.knsOf l = AtTick.Fs.knsOf l') (f : Int) : AtTick.Fs.fuseB l f = AtTick.Fs.fuseB l' f := by
  unfold AtTick.Fs.fuseB; rw [h]
theorem of_kn (x y : Int) (h : (ofB x y).u = false) : knB (ofB x y) = true := by
  unfold ofB normB at h ⊢
  cases k : knB (⟨x, y, false⟩ : Bd) with
  | true => rw [k] at h; exact k
  | false => rw [k] at h; cases h
theorem uni_kn {c : Ck} {x : Int} (h : (uniC c x).u = false) : knB (uniC c x) = true := by
  unfold uniC at h ⊢
  cases k : (tlC c && (tmC x && decide (c.s ≤ x))) with
  | true => rw [k] at h; exact of_kn _ _ h
  | false => rw [k] at h; cases h
theorem toBd_bRow (b : Bd) : AtTick.Fs.toBd (bRow b) = b := by
  obtain ⟨lo, hi, u⟩ := b
  cases u <;> rfl
theorem kns_app (a b : List (List Int)) : AtTick.Fs.knsOf (a ++ b) = AtTick.Fs.knsOf a ++ AtTick.Fs.knsOf b := by
  unfold AtTick.Fs.knsOf AtTick.Fs.bdsOf
  rw [List.map_append, List.filter_append]
theorem kns_one {c : Ck} {x : Int} : AtTick.Fs.knsOf [bRow (uniC c x)] = AtTick.Fs.knsOf (if (uniC c x).u = true then [] else [bRow (uniC c x)]) := by
  by_cases h : (uniC c x).u = true
  · rw [if_pos h, kns_cons, toBd_bRow, if_neg (by rw [kn_u h]; simp)]
  · rw [if_neg h]
theorem agL_len : ∀ (T H L : List (List Int)) (i : Nat), (agL i T H L).length = L.length
  | [], H, L, i => by unfold agL; rfl
  | r :: T, [], L, i => by unfold agL; rfl
  | r :: T, h :: H, L, i => by
    unfold agL
    split
    · rw [agL_len T H, List.length_set]
    · rfl
theorem agL_kns : ∀ (T H L : List (List Int)) (i : Nat), errC T = 0 → H.length = T.length → L.length = i + T.length → AtTick.Fs.knsOf (agL i T H L) = AtTick.Fs.knsOf (L.take i ++ kpC T H)
  | [], H, L, i, he, hh, hl => by
    unfold agL kpC
    rw [List.append_nil, List.take_of_length_le (by simp at hl; omega)]
  | r :: T, [], L, i, he, hh, hl => by simp at hh
  | r :: T, h :: H, L, i, he, hh, hl => by
    unfold errC at he
    by_cases g : ckE (ckO r) = 0
    · rw [if_pos g] at he
      simp only [List.length_cons] at hh hl
      unfold agL kpC
      rw [if_pos g, agL_kns T H _ (i + 1) he (by omega) (by rw [List.length_set]; omega)]
      have e : (L.set i (bRow (uniC (ckO r) (h.getD 0 0)))).take (i + 1) = L.take i ++ [bRow (uniC (ckO r) (h.getD 0 0))] := by
        rw [List.set_eq_take_append_cons_drop, if_pos (by omega), List.take_append]
        have e2 : (L.take i).length = i := by rw [List.length_take]; omega
        rw [e2, List.take_of_length_le (by omega), show i + 1 - i = 1 by omega]
        rfl
      rw [e]
      simp only [kns_app]
      rw [← kns_one, List.append_assoc]
    · rw [if_neg g] at he; exact absurd he g
theorem kp_all : ∀ (T H : List (List Int)), ∀ r ∈ kpC T H, knB (AtTick.Fs.toBd r) = true
  | [], H, r, hr => by unfold kpC at hr; cases hr
  | t :: T, [], r, hr => by unfold kpC at hr; cases hr
  | t :: T, h :: H, r, hr => by
    unfold kpC at hr
    rcases List.mem_append.1 hr with g | g
    · by_cases u : (uniC (ckO t) (h.getD 0 0)).u = true
      · rw [if_pos u] at g; cases g
      · rw [if_neg u] at g
        obtain rfl := List.mem_singleton.1 g
        rw [toBd_bRow]
        exact uni_kn (by simpa using u)
    · exact kp_all T H r g
theorem kns_all {l : List (List Int)} (h : ∀ r ∈ l, knB (AtTick.Fs.toBd r) = true) : (AtTick.Fs.knsOf l).length = l.length := by
  unfold AtTick.Fs.knsOf AtTick.Fs.bdsOf
  rw [List.filter_eq_self.2 (by
    intro b hb
    obtain ⟨r, hr, rfl⟩ := List.mem_map.1 hb
    exact h r hr), List.length_map]
theorem agLps_ok : LpsOk Try.prog tbI agLps Try.f55.ntmps (bodyOf Try.f55) := lps_cons (fun _ x hx => agD_ok x hx) lps_nil
theorem fuseA_ok {I : Interp Tb} : (arrFSp AtTick.Fs.bk AtTick.Fs.gFu).ok Try.prog I 87 :=
  arrFSp_ok fun l r v cd hg hc w s ht E us hr => by
    unfold AtTick.Fs.gFu at hg
    split at hg
    · cases hg
      cases hr with | cons h0 hr => ?_
      cases hr
      cases (h0 : _ = _)
      exact ⟨_, rfl, AtTick.Fs.fuse_pl ht (of_decide_eq_true (hc (decide (l.length ≤ 34359738368), true) (by simp))) _⟩
    · cases hg
theorem libA2_ok : LibOk Try.prog tbI (lib1 libA2) := lib1_cons fuseA_ok Try.call87 (lib1_nil _ _)
theorem zero_len {n : Int} {w : Nat} (h : 0 ≤ n) : lenT (zeroT n w) = n := by
  unfold lenT zeroT
  rw [List.length_replicate]; omega
set_option maxRecDepth 100000 in
theorem agf_1 (T : List (List Int)) (H : List (List Int)) (f : Int) : evR (ctxLp Try.prog tbI (fun _ => false) libA2 [] agLps) Try.f55 [(.w (.one (.fv (.tab [some .i64, some .i64, some .i64, none, some .i64] T)))), (.w (.one (.fv (.tab [some .i64] H)))), (.w (.one (.int .i64 f)))] [true] = some (AV.tup [AW.agg [AC.int IntKind.i64 0, AC.int IntKind.i64 0, AC.yes false], AW.one (AC.int IntKind.i64 2)], (pickL [(decide (lenT T > 64), true)] [0])) := by kernel_rfl
set_option maxRecDepth 100000 in
theorem agf_01 (T : List (List Int)) (H : List (List Int)) (f : Int) : evR (ctxLp Try.prog tbI (fun _ => false) libA2 [] agLps) Try.f55 [(.w (.one (.fv (.tab [some .i64, some .i64, some .i64, none, some .i64] T)))), (.w (.one (.fv (.tab [some .i64] H)))), (.w (.one (.int .i64 f)))] [false, true] = some (AV.tup [AW.agg [AC.int IntKind.i64 0, AC.int IntKind.i64 0, AC.yes false], AW.one (AC.int IntKind.i64 14)], (pickL [(decide (lenT T > 64), false), (lenT H != lenT T, true)] [0, 1])) := by kernel_rfl
set_option maxRecDepth 100000 in
theorem agf_001 (T : List (List Int)) (H : List (List Int)) (f : Int) : evR (ctxLp Try.prog tbI (fun _ => false) libA2 [] agLps) Try.f55 [(.w (.one (.fv (.tab [some .i64, some .i64, some .i64, none, some .i64] T)))), (.w (.one (.fv (.tab [some .i64] H)))), (.w (.one (.int .i64 f)))] [false, false, true] = some (AV.tup [AW.agg [AC.int IntKind.i64 (AtTick.Fs.fuseB (agL 0 T H (zeroT (lenT T) [some IntKind.i64, some IntKind.i64, none].length)) f).lo, AC.int IntKind.i64 (AtTick.Fs.fuseB (agL 0 T H (zeroT (lenT T) [some IntKind.i64, some IntKind.i64, none].length)) f).hi, AC.bool (AtTick.Fs.fuseB (agL 0 T H (zeroT (lenT T) [some IntKind.i64, some IntKind.i64, none].length)) f).u], AW.one (AC.int IntKind.i64 0)], (pickL [(decide (lenT T > 64), false), (lenT H != lenT T, false), (decide (0 ≤ lenT T), true), (decide (lenT T ≤ lenT T), true), (decide (lenT T ≤ 34359738368), true), (decide (errC T = 0), true), (decide ((0 : Int) = 0) && decide (lenT T = lenT T) && decide (lenT T ≤ 64) && decide (lenT H = lenT T) && decide (lenT T = lenT T) && decide (lenT (zeroT (lenT T) [some IntKind.i64, some IntKind.i64, none].length) = lenT T), true), (decide ((0 : Int) = 0), true), (decide (lenT T = lenT (agL 0 T H (zeroT (lenT T) [some IntKind.i64, some IntKind.i64, none].length))), true), (decide ((agL 0 T H (zeroT (lenT T) [some IntKind.i64, some IntKind.i64, none].length)).length ≤ 34359738368), true)] [0, 1, 2, 3, 4, 5, 6, 7, 8, 9])) := by kernel_rfl
set_option maxRecDepth 100000 in
theorem agf_000 (T : List (List Int)) (H : List (List Int)) (f : Int) : evR (ctxLp Try.prog tbI (fun _ => false) libA2 [] agLps) Try.f55 [(.w (.one (.fv (.tab [some .i64, some .i64, some .i64, none, some .i64] T)))), (.w (.one (.fv (.tab [some .i64] H)))), (.w (.one (.int .i64 f)))] [false, false, false] = some (AV.tup [AW.agg [AC.int IntKind.i64 0, AC.int IntKind.i64 0, AC.yes false], AW.one (AC.int IntKind.i64 (errC T))], (pickL [(decide (lenT T > 64), false), (lenT H != lenT T, false), (decide (0 ≤ lenT T), true), (decide (lenT T ≤ lenT T), true), (decide (lenT T ≤ 34359738368), true), (decide (errC T = 0), false), (decide ((0 : Int) = 0) && decide (lenT T = lenT T) && decide (lenT T ≤ 64) && decide (lenT H = lenT T) && decide (lenT T = lenT T) && decide (lenT (zeroT (lenT T) [some IntKind.i64, some IntKind.i64, none].length) = lenT T), true)] [0, 1, 2, 3, 4, 5, 6])) := by kernel_rfl
set_option maxHeartbeats 4000000 in
theorem gAgT_ok : (factSp gAgT).ok Try.prog tbI 55 :=
  factR_ok (ctxLp_ok libA2_ok (eq_none _) (fns_nil _) (fun f fn h => by cases h)) (by kernel_rfl) Try.func55 rfl agLps_ok fun args v cd hg hc => by
    unfold gAgT at hg
    split at hg
    · rename_i T H f
      cases hg
      refine ⟨rfl, rfl, rfl, ?_⟩
      by_cases h1 : 64 < lenT T
      · have k1 : decide (lenT T > 64) = true := decide_eq_true h1
        have eE : agE T H = 2 := if_pos h1
        have eB : agB T H f = ⟨0, 0, false⟩ := if_neg (by omega)
        refine ⟨[true], _, _, agf_1 T H f, fun E u hu => ?_, pickL_ok ?_ _⟩
        · rw [eB, eE]; exact tb_R hu
        repeat' (first | exact cd_nil | refine cd_cons ?_ ?_)
        all_goals first | rfl | with_reducible assumption

      · have k1 : decide (lenT T > 64) = false := decide_eq_false h1
        have l0 : 0 ≤ lenT T := by unfold lenT; omega
        by_cases h2 : lenT H = lenT T
        · have k2 : (lenT H != lenT T) = false := by simpa using h2
          have eE0 : agE T H = errC T := (if_neg h1).trans (if_pos h2)
          have k3 : decide (0 ≤ lenT T) = true := decide_eq_true l0
          have k4 : decide (lenT T ≤ lenT T) = true := decide_eq_true (Int.le_refl _)
          have k5 : decide (lenT T ≤ 34359738368) = true := decide_eq_true (by omega)
          have zl := zero_len (w := [some IntKind.i64, some IntKind.i64, none].length) l0
          have k6 : (decide ((0 : Int) = 0) && decide (lenT T = lenT T) && decide (lenT T ≤ 64) && decide (lenT H = lenT T) && decide (lenT T = lenT T) && decide (lenT (zeroT (lenT T) [some IntKind.i64, some IntKind.i64, none].length) = lenT T)) = true := by
            rw [decide_eq_true (rfl : lenT T = lenT T), decide_eq_true (show lenT T ≤ 64 by omega), decide_eq_true h2, decide_eq_true zl]; rfl
          by_cases h3 : errC T = 0
          · have k7 : decide (errC T = 0) = true := decide_eq_true h3
            have ll : (agL 0 T H (zeroT (lenT T) [some IntKind.i64, some IntKind.i64, none].length)).length = T.length := by rw [agL_len]; unfold lenT at zl; unfold lenT; omega
            have k8 : decide (lenT T = lenT (agL 0 T H (zeroT (lenT T) [some IntKind.i64, some IntKind.i64, none].length))) = true := decide_eq_true (by show ((T.length : Nat) : Int) = (((agL 0 T H (zeroT (lenT T) [some IntKind.i64, some IntKind.i64, none].length)).length : Nat) : Int); rw [ll])
            have k9 : decide ((agL 0 T H (zeroT (lenT T) [some IntKind.i64, some IntKind.i64, none].length)).length ≤ 34359738368) = true := decide_eq_true (by rw [ll]; unfold lenT at h1; omega)
            have eE : agE T H = 0 := eE0.trans h3
            have eB : agB T H f = AtTick.Fs.fuseB (agL 0 T H (zeroT (lenT T) [some IntKind.i64, some IntKind.i64, none].length)) f := (if_pos eE).trans (fuse_congr (by
              rw [agL_kns T H _ 0 h3 (by unfold lenT at h2; omega) (by unfold lenT at zl; unfold lenT; omega), List.take_zero, List.nil_append]) f)
            refine ⟨[false, false, true], _, _, agf_001 T H f, fun E u hu => ?_, pickL_ok ?_ _⟩
            · rw [eB, eE]; exact hu
            repeat' (first | exact cd_nil | refine cd_cons ?_ ?_)
            all_goals first | rfl | with_reducible assumption

          · have k7 : decide (errC T = 0) = false := decide_eq_false h3
            have eB : agB T H f = ⟨0, 0, false⟩ := if_neg (by rw [eE0]; exact h3)
            refine ⟨[false, false, false], _, _, agf_000 T H f, fun E u hu => ?_, pickL_ok ?_ _⟩
            · rw [eB, eE0]; exact tb_R hu
            repeat' (first | exact cd_nil | refine cd_cons ?_ ?_)
            all_goals first | rfl | with_reducible assumption

        · have k2 : (lenT H != lenT T) = true := by simpa using h2
          have eE : agE T H = 14 := (if_neg h1).trans (if_neg h2)
          have eB : agB T H f = ⟨0, 0, false⟩ := if_neg (by omega)
          refine ⟨[false, true], _, _, agf_01 T H f, fun E u hu => ?_, pickL_ok ?_ _⟩
          · rw [eB, eE]; exact tb_R hu
          repeat' (first | exact cd_nil | refine cd_cons ?_ ?_)
          all_goals first | rfl | with_reducible assumption

    · cases hg
end
end Go.Proofs.Ytjegnlnnjcchaaa.AtCk

