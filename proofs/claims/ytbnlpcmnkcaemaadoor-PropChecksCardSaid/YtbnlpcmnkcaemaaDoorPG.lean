/-
  Package prop: programmes: ProgrammeFault and Slots as functions, the loops of Find and IndexOf.
  Conditions: those of each theorem.
-/
import Derived.Test.YtbnlpcmnkcaemaaDoorPF
set_option linter.unusedVariables false
set_option linter.unusedSimpArgs false
namespace Go.Proofs.YtbnlpcmnkcaemaaDoor.AtPr
open Go.RowKit Ev Wd AtRt AtHz
open Go.Proofs.YtbnlpcmnkcaemaaDoor
variable {F : Type}
noncomputable section

noncomputable abbrev ofLps : Lps Tb := [((89, [false, true, false, true, true]), oaD.sp (fun _ => true)), ((89, [false, true, false, true, true, true]), obD.sp (fun _ => true))]
/-- The place of the first request with an ID, or -1. -/
def fiI (T : List (List Int)) (d : Int) : Nat → Nat → Int
  | 0, _ => -1
  | j + 1, i => if (rowT T i).getD 0 0 = d then (i : Int) else fiI T d j (i + 1)
def fi (T : List (List Int)) (d : Int) : Int := fiI T d T.length 0
def fiC (T : List (List Int)) (d : Int) (o : Nat) : Int := if fi T d < 0 then 0 else cel T (fi T d) o
def sltE (l : List Int) : Int := if rqE l = 0 then IntKind.i64.wrap (rq l 6 * rq l 5) else 0
def gfi : List (AV Tb) → Option (AV Tb × List (Bool × Bool))
  | [(.w (.agg [.fv (.tab [some .i8, some .i64] T), .fv (.tab [some .i64, some .i64, some .i64, some .i64, some .i64, some .i64, some .i64, some .i64, some .i64, some .i64, some .i64, some .i64, some .i64] U)])), (.w (.one (.int .i64 d)))] => some (.tup [.agg [.int .i64 (fiC U d 0), .int .i64 (fiC U d 1), .int .i64 (fiC U d 2), .int .i64 (fiC U d 3), .int .i64 (fiC U d 4), .int .i64 (fiC U d 5), .int .i64 (fiC U d 6), .int .i64 (fiC U d 7), .int .i64 (fiC U d 8), .int .i64 (fiC U d 9), .int .i64 (fiC U d 10), .int .i64 (fiC U d 11), .int .i64 (fiC U d 12)], .one (.bool (decide (0 ≤ fi U d)))], [(lnB U, true)])
  | _ => none
def gix : List (AV Tb) → Option (AV Tb × List (Bool × Bool))
  | [(.w (.agg [.fv (.tab [some .i8, some .i64] T), .fv (.tab [some .i64, some .i64, some .i64, some .i64, some .i64, some .i64, some .i64, some .i64, some .i64, some .i64, some .i64, some .i64, some .i64] U)])), (.w (.one (.int .i64 d)))] => some (.w (.one (.int .i64 (fi U d))), [(lnB U, true)])
  | _ => none
abbrev slS : FnSp F := sp1 dRq (fun l => aInt .i64 (sltE l)) (fun _ => [])
noncomputable abbrev libG0 : List (Nat × FnSp Empty) := [(13, rqS)]
theorem ofLps_ok : LpsOk Tryd.prog tbI ofLps Tryd.f16.ntmps (bodyOf Tryd.f16) := lps_cons (fun _ x hx => oaD_ok x hx) (lps_cons (fun _ x hx => obD_ok x hx) lps_nil)
set_option maxRecDepth 100000 in
theorem fa_10 (T : List (List Int)) (n : Int) (i : Int) (d : Int) (rest : List (Nat × AV Tb)) : evView (ctxOf Tryd.prog tbI (fun _ => false) []) 22 (false :: [false, true, false, true]) (loopAt (bodyOf Tryd.f17) [false, true, false, true]) ([(9, (.w (.one (.fv (.tab [some .i64, some .i64, some .i64, some .i64, some .i64, some .i64, some .i64, some .i64, some .i64, some .i64, some .i64, some .i64, some .i64] T))))), (10, (.w (.one (.int .i64 n)))), (11, (.w (.one (.int .i64 i)))), (1, (.w (.one (.int .i64 d))))] ++ (ptrN 0 [4] ++ rest)) [⟨32, [.int .i64 0, .int .i64 0, .int .i64 0, .int .i64 0, .int .i64 0, .int .i64 0, .int .i64 0, .int .i64 0, .int .i64 0, .int .i64 0, .int .i64 0, .int .i64 0, .int .i64 0]⟩] 1 [9, 10, 11, 1, 4] [true, false] = some ((Ex.normal, [AV.w (AW.one (AC.fv (Tb.tab [some IntKind.i64, some IntKind.i64, some IntKind.i64, some IntKind.i64, some IntKind.i64, some IntKind.i64, some IntKind.i64, some IntKind.i64, some IntKind.i64, some IntKind.i64, some IntKind.i64, some IntKind.i64, some IntKind.i64] T))), AV.w (AW.one (AC.int IntKind.i64 n)), AV.w (AW.one (AC.int IntKind.i64 (IntKind.i64.wrap (i + 1)))), AV.w (AW.one (AC.int IntKind.i64 d)), AV.w (AW.one (AC.ptr 0 0))], [{ ty := 32, cs := [AC.int IntKind.i64 0, AC.int IntKind.i64 0, AC.int IntKind.i64 0, AC.int IntKind.i64 0, AC.int IntKind.i64 0, AC.int IntKind.i64 0, AC.int IntKind.i64 0, AC.int IntKind.i64 0, AC.int IntKind.i64 0, AC.int IntKind.i64 0, AC.int IntKind.i64 0, AC.int IntKind.i64 0, AC.int IntKind.i64 0] }]), (pickL [(decide (i < n), true), (decide ((0 : Int) ≤ i), true), (decide (i < lenT T), true), (cel T i 0 == d, false)] [0, 1, 2, 1, 2, 3])) := by kernel_rfl
set_option maxRecDepth 100000 in
theorem fa_0 (T : List (List Int)) (n : Int) (i : Int) (d : Int) (rest : List (Nat × AV Tb)) : evView (ctxOf Tryd.prog tbI (fun _ => false) []) 22 (false :: [false, true, false, true]) (loopAt (bodyOf Tryd.f17) [false, true, false, true]) ([(9, (.w (.one (.fv (.tab [some .i64, some .i64, some .i64, some .i64, some .i64, some .i64, some .i64, some .i64, some .i64, some .i64, some .i64, some .i64, some .i64] T))))), (10, (.w (.one (.int .i64 n)))), (11, (.w (.one (.int .i64 i)))), (1, (.w (.one (.int .i64 d))))] ++ (ptrN 0 [4] ++ rest)) [⟨32, [.int .i64 0, .int .i64 0, .int .i64 0, .int .i64 0, .int .i64 0, .int .i64 0, .int .i64 0, .int .i64 0, .int .i64 0, .int .i64 0, .int .i64 0, .int .i64 0, .int .i64 0]⟩] 1 [9, 10, 11, 1, 4] [false] = some ((Ex.exit 0, [AV.w (AW.one (AC.fv (Tb.tab [some IntKind.i64, some IntKind.i64, some IntKind.i64, some IntKind.i64, some IntKind.i64, some IntKind.i64, some IntKind.i64, some IntKind.i64, some IntKind.i64, some IntKind.i64, some IntKind.i64, some IntKind.i64, some IntKind.i64] T))), AV.w (AW.one (AC.int IntKind.i64 n)), AV.w (AW.one (AC.int IntKind.i64 i)), AV.w (AW.one (AC.int IntKind.i64 d)), AV.w (AW.one (AC.ptr 0 0))], [{ ty := 32, cs := [AC.int IntKind.i64 0, AC.int IntKind.i64 0, AC.int IntKind.i64 0, AC.int IntKind.i64 0, AC.int IntKind.i64 0, AC.int IntKind.i64 0, AC.int IntKind.i64 0, AC.int IntKind.i64 0, AC.int IntKind.i64 0, AC.int IntKind.i64 0, AC.int IntKind.i64 0, AC.int IntKind.i64 0, AC.int IntKind.i64 0] }]), (pickL [(decide (i < n), false)] [0])) := by kernel_rfl
set_option maxRecDepth 100000 in
theorem far_11 (T : List (List Int)) (n : Int) (i : Int) (d : Int) (rest : List (Nat × AV Tb)) : evView (ctxOf Tryd.prog tbI (fun _ => false) []) 22 (false :: [false, true, false, true]) (loopAt (bodyOf Tryd.f17) [false, true, false, true]) ([(9, (.w (.one (.fv (.tab [some .i64, some .i64, some .i64, some .i64, some .i64, some .i64, some .i64, some .i64, some .i64, some .i64, some .i64, some .i64, some .i64] T))))), (10, (.w (.one (.int .i64 n)))), (11, (.w (.one (.int .i64 i)))), (1, (.w (.one (.int .i64 d))))] ++ (ptrN 0 [4] ++ rest)) [⟨32, [.int .i64 0, .int .i64 0, .int .i64 0, .int .i64 0, .int .i64 0, .int .i64 0, .int .i64 0, .int .i64 0, .int .i64 0, .int .i64 0, .int .i64 0, .int .i64 0, .int .i64 0]⟩] 1 [5, 4] [true, true] = some ((Ex.ret, [AV.w (AW.one (AC.yes true)), AV.w (AW.one (AC.ptr 0 0))], [{ ty := 32, cs := [AC.int IntKind.i64 (cel T i 0), AC.int IntKind.i64 (cel T i 1), AC.int IntKind.i64 (cel T i 2), AC.int IntKind.i64 (cel T i 3), AC.int IntKind.i64 (cel T i 4), AC.int IntKind.i64 (cel T i 5), AC.int IntKind.i64 (cel T i 6), AC.int IntKind.i64 (cel T i 7), AC.int IntKind.i64 (cel T i 8), AC.int IntKind.i64 (cel T i 9), AC.int IntKind.i64 (cel T i 10), AC.int IntKind.i64 (cel T i 11), AC.int IntKind.i64 (cel T i 12)] }]), (pickL [(decide (i < n), true), (decide ((0 : Int) ≤ i), true), (decide (i < lenT T), true), (cel T i 0 == d, true)] [0, 1, 2, 1, 2, 3])) := by kernel_rfl
structure faT where
  T : List (List Int)
  n : Int
  i : Int
  d : Int
def faP (T : List (List Int)) (n : Int) (i : Int) (d : Int) : Prop := 0 ≤ i ∧ i ≤ n ∧ n = lenT T ∧ n ≤ 9223372036854775807
instance (T : List (List Int)) (n : Int) (i : Int) (d : Int) : Decidable (faP T n i d) := by unfold faP; infer_instance
def faTm (T : List (List Int)) (n : Int) (i : Int) (d : Int) : List (Nat × AV Tb) := [(9, (.w (.one (.fv (.tab [some .i64, some .i64, some .i64, some .i64, some .i64, some .i64, some .i64, some .i64, some .i64, some .i64, some .i64, some .i64, some .i64] T))))), (10, (.w (.one (.int .i64 n)))), (11, (.w (.one (.int .i64 i)))), (1, (.w (.one (.int .i64 d))))]
def faS : LpSt faT Tb where
  ps := [4]
  tm := fun t => faTm t.T t.n t.i t.d
  hp := fun t => [⟨32, [.int .i64 0, .int .i64 0, .int .i64 0, .int .i64 0, .int .i64 0, .int .i64 0, .int .i64 0, .int .i64 0, .int .i64 0, .int .i64 0, .int .i64 0, .int .i64 0, .int .i64 0]⟩]
def faNx (T : List (List Int)) (n : Int) (i : Int) (d : Int) : Nxt faT Tb := if i < n then (if cel T i 0 = d then .out .ret [(5, .w (.one (.yes true)))] [⟨32, [.int .i64 (cel T i 0), .int .i64 (cel T i 1), .int .i64 (cel T i 2), .int .i64 (cel T i 3), .int .i64 (cel T i 4), .int .i64 (cel T i 5), .int .i64 (cel T i 6), .int .i64 (cel T i 7), .int .i64 (cel T i 8), .int .i64 (cel T i 9), .int .i64 (cel T i 10), .int .i64 (cel T i 11), .int .i64 (cel T i 12)]⟩] else .go ⟨T, n, i + 1, d⟩) else .out (.exit 0) (faTm T n i d) [⟨32, [.int .i64 0, .int .i64 0, .int .i64 0, .int .i64 0, .int .i64 0, .int .i64 0, .int .i64 0, .int .i64 0, .int .i64 0, .int .i64 0, .int .i64 0, .int .i64 0, .int .i64 0]⟩]
def faStep (t : faT) : Nxt faT Tb := if faP t.T t.n t.i t.d then faNx t.T t.n t.i t.d else .bad
theorem fa_go {T : List (List Int)} {n : Int} {i : Int} {d : Int} (h : faP T n i d) : faStep ⟨T, n, i, d⟩ = faNx T n i d := if_pos h
set_option maxRecDepth 100000 in
set_option maxHeartbeats 4000000 in
theorem fa_round (t : faT) (hb : (faStep t).isBad = false) (rest : List (Nat × AV Tb)) : ∃ fuel path r, evC (ctxOf Tryd.prog tbI (fun _ => false) []) fuel 22 (false :: [false, true, false, true]) (loopAt (bodyOf Tryd.f17) [false, true, false, true]) (faS.tm t ++ (ptrN 0 faS.ps ++ rest)) (numb 0 (faS.hp t)) 1 path = some r ∧ (∀ p ∈ r.cd, p.1 = p.2) ∧ Gives faS 1 r (faStep t) := by
  obtain ⟨T, n, i, d⟩ := t
  by_cases ok : faP T n i d
  · rw [fa_go ok]
    clear hb
    unfold faNx
    obtain ⟨h1, h2, rfl, h4⟩ := ok
    have e0 : decide ((0 : Int) ≤ i) = true := decide_eq_true h1
    have e1 : i < lenT T → IntKind.i64.wrap (i + 1) = i + 1 := fun _ => v64p (by omega) (by omega)
    cases k0 : (decide (i < lenT T)) with
    | true =>
      cases k1 : (cel T i 0 == d) with
      | true =>
        rw [if_pos (of_decide_eq_true k0)]
        have hE : cel T i 0 = d := by simpa using k1
        rw [if_pos hE]
        have L := far_11 T (lenT T) i d rest
        refine round_out L rfl (pickL_ok ?_ _) rfl rfl rfl
        repeat' (first | exact cd_nil | refine cd_cons ?_ ?_)
        all_goals first | rfl | with_reducible assumption
      | false =>
        rw [if_pos (of_decide_eq_true k0)]
        have hE : ¬ cel T i 0 = d := by simpa using k1
        rw [if_neg hE]
        have L := fa_10 T (lenT T) i d rest
        rw [e1 (of_decide_eq_true k0)] at L
        refine round_go L (pickL_ok ?_ _) rfl rfl rfl rfl
        repeat' (first | exact cd_nil | refine cd_cons ?_ ?_)
        all_goals first | rfl | with_reducible assumption
    | false =>
      rw [if_neg (of_decide_eq_false k0)]
      have L := fa_0 T (lenT T) i d rest
      refine round_out L rfl (pickL_ok ?_ _) rfl rfl rfl
      repeat' (first | exact cd_nil | refine cd_cons ?_ ?_)
      all_goals first | rfl | with_reducible assumption
  · exfalso
    have : faStep ⟨T, n, i, d⟩ = .bad := if_neg ok
    rw [this] at hb; cases hb
theorem fa_runs {T : List (List Int)} {d : Int} (h : lenT T ≤ 9223372036854775807) : ∀ (j i : Nat), i + j = T.length → ∃ c, runs faStep c ⟨T, lenT T, i, d⟩ = (if fiI T d j i < 0 then some (.exit 0, faTm T (lenT T) (lenT T) d, [⟨32, [.int .i64 0, .int .i64 0, .int .i64 0, .int .i64 0, .int .i64 0, .int .i64 0, .int .i64 0, .int .i64 0, .int .i64 0, .int .i64 0, .int .i64 0, .int .i64 0, .int .i64 0]⟩]) else some (.ret, [(5, .w (.one (.yes true)))], [⟨32, [.int .i64 (cel T (fiI T d j i) 0), .int .i64 (cel T (fiI T d j i) 1), .int .i64 (cel T (fiI T d j i) 2), .int .i64 (cel T (fiI T d j i) 3), .int .i64 (cel T (fiI T d j i) 4), .int .i64 (cel T (fiI T d j i) 5), .int .i64 (cel T (fiI T d j i) 6), .int .i64 (cel T (fiI T d j i) 7), .int .i64 (cel T (fiI T d j i) 8), .int .i64 (cel T (fiI T d j i) 9), .int .i64 (cel T (fiI T d j i) 10), .int .i64 (cel T (fiI T d j i) 11), .int .i64 (cel T (fiI T d j i) 12)]⟩]))
  | 0, i, hi => by
    have e : (i : Int) = lenT T := by unfold lenT; omega
    refine ⟨1, ?_⟩
    rw [runs, fa_go ⟨by omega, by omega, rfl, h⟩]
    unfold faNx
    rw [if_neg (by omega), e]
    rfl
  | j + 1, i, hi => by
    have hl : (i : Int) < lenT T := by unfold lenT; omega
    have er : (rowT T (i : Int)).getD 0 0 = cel T (i : Int) 0 := rfl
    by_cases g : cel T (i : Int) 0 = d
    · refine ⟨1, ?_⟩
      have e : fiI T d (j + 1) i = (i : Int) := by rw [fiI, er, if_pos g]
      rw [runs, fa_go ⟨by omega, by omega, rfl, h⟩]
      unfold faNx
      rw [if_pos hl, if_pos g, e, if_neg (by omega)]
    · obtain ⟨c, hc⟩ := fa_runs (d := d) h j (i + 1) (by omega)
      refine ⟨c + 1, ?_⟩
      have e : fiI T d (j + 1) i = fiI T d j (i + 1) := by rw [fiI, er, if_neg g]
      rw [runs, fa_go ⟨by omega, by omega, rfl, h⟩]
      unfold faNx
      rw [if_pos hl, if_neg g, e]
      exact hc
def faD : LpDefR faT Tb where
  ts := [9, 10, 11, 1]
  ps := [4]
  rs := []
  W := [1, 4, 5, 7, 9, 10, 11, 12, 13, 14, 15, 16, 17, 18, 19, 20]
  dec := fun vs tr ks => match vs, tr, ks with
    | [.w (.one (.fv (.tab [some .i64, some .i64, some .i64, some .i64, some .i64, some .i64, some .i64, some .i64, some .i64, some .i64, some .i64, some .i64, some .i64] T))), .w (.one (.int .i64 n)), .w (.one (.int .i64 i)), .w (.one (.int .i64 d))], [], [⟨32, [.int .i64 0, .int .i64 0, .int .i64 0, .int .i64 0, .int .i64 0, .int .i64 0, .int .i64 0, .int .i64 0, .int .i64 0, .int .i64 0, .int .i64 0, .int .i64 0, .int .i64 0]⟩] => some ⟨T, n, i, d⟩
    | _, _, _ => none
  fk := fun t => some (decide (fi t.T t.d < 0))
  spec := fun t β => match β with
    | true => some (.exit 0, faTm t.T t.n t.n t.d, [], [⟨32, [.int .i64 0, .int .i64 0, .int .i64 0, .int .i64 0, .int .i64 0, .int .i64 0, .int .i64 0, .int .i64 0, .int .i64 0, .int .i64 0, .int .i64 0, .int .i64 0, .int .i64 0]⟩], [(decide (t.i = 0) && decide (t.n = lenT t.T) && decide (t.n ≤ 9223372036854775807), true)])
    | false => some (.ret, [(5, .w (.one (.yes true)))], [], [⟨32, [.int .i64 (cel t.T (fi t.T t.d) 0), .int .i64 (cel t.T (fi t.T t.d) 1), .int .i64 (cel t.T (fi t.T t.d) 2), .int .i64 (cel t.T (fi t.T t.d) 3), .int .i64 (cel t.T (fi t.T t.d) 4), .int .i64 (cel t.T (fi t.T t.d) 5), .int .i64 (cel t.T (fi t.T t.d) 6), .int .i64 (cel t.T (fi t.T t.d) 7), .int .i64 (cel t.T (fi t.T t.d) 8), .int .i64 (cel t.T (fi t.T t.d) 9), .int .i64 (cel t.T (fi t.T t.d) 10), .int .i64 (cel t.T (fi t.T t.d) 11), .int .i64 (cel t.T (fi t.T t.d) 12)]⟩], [(decide (t.i = 0) && decide (t.n = lenT t.T) && decide (t.n ≤ 9223372036854775807), true)])
theorem faD_ok (x : Code) (hx : codeAt (bodyOf Tryd.f17) [false, true, false, true] = some (.loop x)) : LpOk Tryd.prog tbI 22 x (faD.sp (fun _ => true)) := by
  obtain rfl := loopAt_eq hx
  refine lpR_ok (c := ctxOf Tryd.prog tbI (fun _ => false) []) (ctxOf_ok (lib1_nil _ _) (eq_none _)) (by kernel_rfl) (fun _ _ _ h => h) hx lps_nil (S := faS) (step := faStep) (fun _ _ => rfl) (by kernel_rfl) (by kernel_rfl) ?_ rfl (fun t e he => ?_) (fun t hb rest => fa_round t hb rest) ?_
  · intro vs tr ks s hv1 hv2 h hv3
    simp only [faD] at h
    split at h
    · cases h
      exact ⟨rfl, fun e he => .inl he⟩
    · cases h
  · simp only [faS, faTm, List.mem_cons, List.not_mem_nil, or_false] at he
    rcases he with rfl | rfl | rfl | rfl <;> rfl
  · intro s β ex outs rts wb cd h hfk hc
    obtain ⟨T, n, i, d⟩ := s
    have hβ := hfk _ rfl
    cases β with
    | true =>
      simp only [faD] at h hβ
      cases h
      have := c1x hc
      simp only [Bool.and_eq_true, decide_eq_true_eq] at this
      obtain ⟨⟨rfl, rfl⟩, h3⟩ := this
      obtain ⟨c, hc⟩ := fa_runs (d := d) h3 T.length 0 (by omega)
      refine ⟨c, ?_⟩
      have hf : fiI T d T.length 0 < 0 := of_decide_eq_true hβ
      rw [if_pos hf] at hc
      exact hc
    | false =>
      simp only [faD] at h hβ
      cases h
      have := c1x hc
      simp only [Bool.and_eq_true, decide_eq_true_eq] at this
      obtain ⟨⟨rfl, rfl⟩, h3⟩ := this
      obtain ⟨c, hc⟩ := fa_runs (d := d) h3 T.length 0 (by omega)
      refine ⟨c, ?_⟩
      have hf : ¬ fiI T d T.length 0 < 0 := of_decide_eq_false hβ
      rw [if_neg hf] at hc
      exact hc
set_option maxRecDepth 100000 in
theorem fb_10 (T : List (List Int)) (n : Int) (i : Int) (d : Int) (rest : List (Nat × AV Tb)) : evView (ctxOf Tryd.prog tbI (fun _ => false) []) 21 (false :: [false, true, false, true]) (loopAt (bodyOf Tryd.f18) [false, true, false, true]) ([(8, (.w (.one (.fv (.tab [some .i64, some .i64, some .i64, some .i64, some .i64, some .i64, some .i64, some .i64, some .i64, some .i64, some .i64, some .i64, some .i64] T))))), (9, (.w (.one (.int .i64 n)))), (10, (.w (.one (.int .i64 i)))), (1, (.w (.one (.int .i64 d))))] ++ (ptrN 0 [] ++ rest)) [] 0 [8, 9, 10, 1] [true, false] = some ((Ex.normal, [AV.w (AW.one (AC.fv (Tb.tab [some IntKind.i64, some IntKind.i64, some IntKind.i64, some IntKind.i64, some IntKind.i64, some IntKind.i64, some IntKind.i64, some IntKind.i64, some IntKind.i64, some IntKind.i64, some IntKind.i64, some IntKind.i64, some IntKind.i64] T))), AV.w (AW.one (AC.int IntKind.i64 n)), AV.w (AW.one (AC.int IntKind.i64 (IntKind.i64.wrap (i + 1)))), AV.w (AW.one (AC.int IntKind.i64 d))], []), (pickL [(decide (i < n), true), (decide ((0 : Int) ≤ i), true), (decide (i < lenT T), true), (cel T i 0 == d, false)] [0, 1, 2, 1, 2, 3])) := by kernel_rfl
set_option maxRecDepth 100000 in
theorem fb_0 (T : List (List Int)) (n : Int) (i : Int) (d : Int) (rest : List (Nat × AV Tb)) : evView (ctxOf Tryd.prog tbI (fun _ => false) []) 21 (false :: [false, true, false, true]) (loopAt (bodyOf Tryd.f18) [false, true, false, true]) ([(8, (.w (.one (.fv (.tab [some .i64, some .i64, some .i64, some .i64, some .i64, some .i64, some .i64, some .i64, some .i64, some .i64, some .i64, some .i64, some .i64] T))))), (9, (.w (.one (.int .i64 n)))), (10, (.w (.one (.int .i64 i)))), (1, (.w (.one (.int .i64 d))))] ++ (ptrN 0 [] ++ rest)) [] 0 [8, 9, 10, 1] [false] = some ((Ex.exit 0, [AV.w (AW.one (AC.fv (Tb.tab [some IntKind.i64, some IntKind.i64, some IntKind.i64, some IntKind.i64, some IntKind.i64, some IntKind.i64, some IntKind.i64, some IntKind.i64, some IntKind.i64, some IntKind.i64, some IntKind.i64, some IntKind.i64, some IntKind.i64] T))), AV.w (AW.one (AC.int IntKind.i64 n)), AV.w (AW.one (AC.int IntKind.i64 i)), AV.w (AW.one (AC.int IntKind.i64 d))], []), (pickL [(decide (i < n), false)] [0])) := by kernel_rfl
set_option maxRecDepth 100000 in
theorem fbr_11 (T : List (List Int)) (n : Int) (i : Int) (d : Int) (rest : List (Nat × AV Tb)) : evView (ctxOf Tryd.prog tbI (fun _ => false) []) 21 (false :: [false, true, false, true]) (loopAt (bodyOf Tryd.f18) [false, true, false, true]) ([(8, (.w (.one (.fv (.tab [some .i64, some .i64, some .i64, some .i64, some .i64, some .i64, some .i64, some .i64, some .i64, some .i64, some .i64, some .i64, some .i64] T))))), (9, (.w (.one (.int .i64 n)))), (10, (.w (.one (.int .i64 i)))), (1, (.w (.one (.int .i64 d))))] ++ (ptrN 0 [] ++ rest)) [] 0 [4] [true, true] = some ((Ex.ret, [AV.w (AW.one (AC.int IntKind.i64 i))], []), (pickL [(decide (i < n), true), (decide ((0 : Int) ≤ i), true), (decide (i < lenT T), true), (cel T i 0 == d, true)] [0, 1, 2, 1, 2, 3])) := by kernel_rfl
structure fbT where
  T : List (List Int)
  n : Int
  i : Int
  d : Int
def fbP (T : List (List Int)) (n : Int) (i : Int) (d : Int) : Prop := 0 ≤ i ∧ i ≤ n ∧ n = lenT T ∧ n ≤ 9223372036854775807
instance (T : List (List Int)) (n : Int) (i : Int) (d : Int) : Decidable (fbP T n i d) := by unfold fbP; infer_instance
def fbTm (T : List (List Int)) (n : Int) (i : Int) (d : Int) : List (Nat × AV Tb) := [(8, (.w (.one (.fv (.tab [some .i64, some .i64, some .i64, some .i64, some .i64, some .i64, some .i64, some .i64, some .i64, some .i64, some .i64, some .i64, some .i64] T))))), (9, (.w (.one (.int .i64 n)))), (10, (.w (.one (.int .i64 i)))), (1, (.w (.one (.int .i64 d))))]
def fbS : LpSt fbT Tb where
  ps := []
  tm := fun t => fbTm t.T t.n t.i t.d
  hp := fun t => []
def fbNx (T : List (List Int)) (n : Int) (i : Int) (d : Int) : Nxt fbT Tb := if i < n then (if cel T i 0 = d then .out .ret [(4, .w (.one (.int .i64 i)))] [] else .go ⟨T, n, i + 1, d⟩) else .out (.exit 0) (fbTm T n i d) []
def fbStep (t : fbT) : Nxt fbT Tb := if fbP t.T t.n t.i t.d then fbNx t.T t.n t.i t.d else .bad
theorem fb_go {T : List (List Int)} {n : Int} {i : Int} {d : Int} (h : fbP T n i d) : fbStep ⟨T, n, i, d⟩ = fbNx T n i d := if_pos h
set_option maxRecDepth 100000 in
set_option maxHeartbeats 4000000 in
theorem fb_round (t : fbT) (hb : (fbStep t).isBad = false) (rest : List (Nat × AV Tb)) : ∃ fuel path r, evC (ctxOf Tryd.prog tbI (fun _ => false) []) fuel 21 (false :: [false, true, false, true]) (loopAt (bodyOf Tryd.f18) [false, true, false, true]) (fbS.tm t ++ (ptrN 0 fbS.ps ++ rest)) (numb 0 (fbS.hp t)) 0 path = some r ∧ (∀ p ∈ r.cd, p.1 = p.2) ∧ Gives fbS 0 r (fbStep t) := by
  obtain ⟨T, n, i, d⟩ := t
  by_cases ok : fbP T n i d
  · rw [fb_go ok]
    clear hb
    unfold fbNx
    obtain ⟨h1, h2, rfl, h4⟩ := ok
    have e0 : decide ((0 : Int) ≤ i) = true := decide_eq_true h1
    have e1 : i < lenT T → IntKind.i64.wrap (i + 1) = i + 1 := fun _ => v64p (by omega) (by omega)
    cases k0 : (decide (i < lenT T)) with
    | true =>
      cases k1 : (cel T i 0 == d) with
      | true =>
        rw [if_pos (of_decide_eq_true k0)]
        have hE : cel T i 0 = d := by simpa using k1
        rw [if_pos hE]
        have L := fbr_11 T (lenT T) i d rest
        refine round_out L rfl (pickL_ok ?_ _) rfl rfl rfl
        repeat' (first | exact cd_nil | refine cd_cons ?_ ?_)
        all_goals first | rfl | with_reducible assumption
      | false =>
        rw [if_pos (of_decide_eq_true k0)]
        have hE : ¬ cel T i 0 = d := by simpa using k1
        rw [if_neg hE]
        have L := fb_10 T (lenT T) i d rest
        rw [e1 (of_decide_eq_true k0)] at L
        refine round_go L (pickL_ok ?_ _) rfl rfl rfl rfl
        repeat' (first | exact cd_nil | refine cd_cons ?_ ?_)
        all_goals first | rfl | with_reducible assumption
    | false =>
      rw [if_neg (of_decide_eq_false k0)]
      have L := fb_0 T (lenT T) i d rest
      refine round_out L rfl (pickL_ok ?_ _) rfl rfl rfl
      repeat' (first | exact cd_nil | refine cd_cons ?_ ?_)
      all_goals first | rfl | with_reducible assumption
  · exfalso
    have : fbStep ⟨T, n, i, d⟩ = .bad := if_neg ok
    rw [this] at hb; cases hb
theorem fb_runs {T : List (List Int)} {d : Int} (h : lenT T ≤ 9223372036854775807) : ∀ (j i : Nat), i + j = T.length → ∃ c, runs fbStep c ⟨T, lenT T, i, d⟩ = (if fiI T d j i < 0 then some (.exit 0, fbTm T (lenT T) (lenT T) d, []) else some (.ret, [(4, .w (.one (.int .i64 (fiI T d j i))))], []))
  | 0, i, hi => by
    have e : (i : Int) = lenT T := by unfold lenT; omega
    refine ⟨1, ?_⟩
    rw [runs, fb_go ⟨by omega, by omega, rfl, h⟩]
    unfold fbNx
    rw [if_neg (by omega), e]
    rfl
  | j + 1, i, hi => by
    have hl : (i : Int) < lenT T := by unfold lenT; omega
    have er : (rowT T (i : Int)).getD 0 0 = cel T (i : Int) 0 := rfl
    by_cases g : cel T (i : Int) 0 = d
    · refine ⟨1, ?_⟩
      have e : fiI T d (j + 1) i = (i : Int) := by rw [fiI, er, if_pos g]
      rw [runs, fb_go ⟨by omega, by omega, rfl, h⟩]
      unfold fbNx
      rw [if_pos hl, if_pos g, e, if_neg (by omega)]
    · obtain ⟨c, hc⟩ := fb_runs (d := d) h j (i + 1) (by omega)
      refine ⟨c + 1, ?_⟩
      have e : fiI T d (j + 1) i = fiI T d j (i + 1) := by rw [fiI, er, if_neg g]
      rw [runs, fb_go ⟨by omega, by omega, rfl, h⟩]
      unfold fbNx
      rw [if_pos hl, if_neg g, e]
      exact hc
def fbD : LpDefR fbT Tb where
  ts := [8, 9, 10, 1]
  ps := []
  rs := []
  W := [1, 4, 5, 6, 8, 9, 10, 11, 12, 13, 14, 15, 16, 17, 18, 19, 20]
  dec := fun vs tr ks => match vs, tr, ks with
    | [.w (.one (.fv (.tab [some .i64, some .i64, some .i64, some .i64, some .i64, some .i64, some .i64, some .i64, some .i64, some .i64, some .i64, some .i64, some .i64] T))), .w (.one (.int .i64 n)), .w (.one (.int .i64 i)), .w (.one (.int .i64 d))], [], [] => some ⟨T, n, i, d⟩
    | _, _, _ => none
  fk := fun t => some (decide (fi t.T t.d < 0))
  spec := fun t β => match β with
    | true => some (.exit 0, fbTm t.T t.n t.n t.d, [], [], [(decide (t.i = 0) && decide (t.n = lenT t.T) && decide (t.n ≤ 9223372036854775807), true)])
    | false => some (.ret, [(4, .w (.one (.int .i64 (fi t.T t.d))))], [], [], [(decide (t.i = 0) && decide (t.n = lenT t.T) && decide (t.n ≤ 9223372036854775807), true)])
theorem fbD_ok (x : Code) (hx : codeAt (bodyOf Tryd.f18) [false, true, false, true] = some (.loop x)) : LpOk Tryd.prog tbI 21 x (fbD.sp (fun _ => true)) := by
  obtain rfl := loopAt_eq hx
  refine lpR_ok (c := ctxOf Tryd.prog tbI (fun _ => false) []) (ctxOf_ok (lib1_nil _ _) (eq_none _)) (by kernel_rfl) (fun _ _ _ h => h) hx lps_nil (S := fbS) (step := fbStep) (fun _ _ => rfl) (by kernel_rfl) (by kernel_rfl) ?_ rfl (fun t e he => ?_) (fun t hb rest => fb_round t hb rest) ?_
  · intro vs tr ks s hv1 hv2 h hv3
    simp only [fbD] at h
    split at h
    · cases h
      exact ⟨rfl, fun e he => .inl he⟩
    · cases h
  · simp only [fbS, fbTm, List.mem_cons, List.not_mem_nil, or_false] at he
    rcases he with rfl | rfl | rfl | rfl <;> rfl
  · intro s β ex outs rts wb cd h hfk hc
    obtain ⟨T, n, i, d⟩ := s
    have hβ := hfk _ rfl
    cases β with
    | true =>
      simp only [fbD] at h hβ
      cases h
      have := c1x hc
      simp only [Bool.and_eq_true, decide_eq_true_eq] at this
      obtain ⟨⟨rfl, rfl⟩, h3⟩ := this
      obtain ⟨c, hc⟩ := fb_runs (d := d) h3 T.length 0 (by omega)
      refine ⟨c, ?_⟩
      have hf : fiI T d T.length 0 < 0 := of_decide_eq_true hβ
      rw [if_pos hf] at hc
      exact hc
    | false =>
      simp only [fbD] at h hβ
      cases h
      have := c1x hc
      simp only [Bool.and_eq_true, decide_eq_true_eq] at this
      obtain ⟨⟨rfl, rfl⟩, h3⟩ := this
      obtain ⟨c, hc⟩ := fb_runs (d := d) h3 T.length 0 (by omega)
      refine ⟨c, ?_⟩
      have hf : ¬ fiI T d T.length 0 < 0 := of_decide_eq_false hβ
      rw [if_neg hf] at hc
      exact hc
set_option maxRecDepth 100000 in
theorem fpf_1 (T : List (List Int)) (U : List (List Int)) : evR (ctxLp Tryd.prog tbI (fun _ => false) libE3 [] ofLps) Tryd.f16 [(.w (.agg [.fv (.tab [some .i8, some .i64] T), .fv (.tab [some .i64, some .i64, some .i64, some .i64, some .i64, some .i64, some .i64, some .i64, some .i64, some .i64, some .i64, some .i64, some .i64] U)]))] [true] = some (AV.w (AW.one (AC.int IntKind.i64 2)), (pickL [(decide (lenT T > 6), true), (true, true)] [0, 0, 0, 0, 0, 1])) := by kernel_rfl
set_option maxRecDepth 100000 in
theorem fpf_01 (T : List (List Int)) (U : List (List Int)) : evR (ctxLp Tryd.prog tbI (fun _ => false) libE3 [] ofLps) Tryd.f16 [(.w (.agg [.fv (.tab [some .i8, some .i64] T), .fv (.tab [some .i64, some .i64, some .i64, some .i64, some .i64, some .i64, some .i64, some .i64, some .i64, some .i64, some .i64, some .i64, some .i64] U)]))] [false, true] = some (AV.w (AW.one (AC.int IntKind.i64 2)), (pickL [(decide (lenT T > 6), false), (decide (lenT U > 16), true)] [0, 0, 0, 0, 0, 1])) := by kernel_rfl
set_option maxRecDepth 100000 in
theorem fpf_0011 (T : List (List Int)) (U : List (List Int)) : evR (ctxLp Tryd.prog tbI (fun _ => false) libE3 [] ofLps) Tryd.f16 [(.w (.agg [.fv (.tab [some .i8, some .i64] T), .fv (.tab [some .i64, some .i64, some .i64, some .i64, some .i64, some .i64, some .i64, some .i64, some .i64, some .i64, some .i64, some .i64, some .i64] U)]))] [false, false, true, true] = some (AV.w (AW.one (AC.int IntKind.i64 0)), (pickL [(decide (lenT T > 6), false), (decide (lenT U > 16), false), (decide (chE kfP efP pf0 T T.length 0 = 0), true), (decide ((0 : Int) = 0) && decide (lenT T = lenT T) && decide (lenT T ≤ 9223372036854775807) && decide (T = T), true), (decide (chE kfR rqE (pfR (lenT T)) U U.length 0 = 0), true), (decide ((0 : Int) = 0) && decide (lenT U = lenT U) && decide (lenT U ≤ 9223372036854775807) && decide (U = U) && decide (lenT T ≤ 9223372036854775807), true)] [0, 0, 0, 0, 0, 1, 2, 3, 4, 5])) := by kernel_rfl
set_option maxRecDepth 100000 in
theorem fpf_0010 (T : List (List Int)) (U : List (List Int)) : evR (ctxLp Tryd.prog tbI (fun _ => false) libE3 [] ofLps) Tryd.f16 [(.w (.agg [.fv (.tab [some .i8, some .i64] T), .fv (.tab [some .i64, some .i64, some .i64, some .i64, some .i64, some .i64, some .i64, some .i64, some .i64, some .i64, some .i64, some .i64, some .i64] U)]))] [false, false, true, false] = some (AV.w (AW.one (AC.int IntKind.i64 (chE kfR rqE (pfR (lenT T)) U U.length 0))), (pickL [(decide (lenT T > 6), false), (decide (lenT U > 16), false), (decide (chE kfP efP pf0 T T.length 0 = 0), true), (decide ((0 : Int) = 0) && decide (lenT T = lenT T) && decide (lenT T ≤ 9223372036854775807) && decide (T = T), true), (decide (chE kfR rqE (pfR (lenT T)) U U.length 0 = 0), false), (decide ((0 : Int) = 0) && decide (lenT U = lenT U) && decide (lenT U ≤ 9223372036854775807) && decide (U = U) && decide (lenT T ≤ 9223372036854775807), true)] [0, 0, 0, 0, 0, 1, 2, 3, 4, 5])) := by kernel_rfl
set_option maxRecDepth 100000 in
theorem fpf_000 (T : List (List Int)) (U : List (List Int)) : evR (ctxLp Tryd.prog tbI (fun _ => false) libE3 [] ofLps) Tryd.f16 [(.w (.agg [.fv (.tab [some .i8, some .i64] T), .fv (.tab [some .i64, some .i64, some .i64, some .i64, some .i64, some .i64, some .i64, some .i64, some .i64, some .i64, some .i64, some .i64, some .i64] U)]))] [false, false, false] = some (AV.w (AW.one (AC.int IntKind.i64 (chE kfP efP pf0 T T.length 0))), (pickL [(decide (lenT T > 6), false), (decide (lenT U > 16), false), (decide (chE kfP efP pf0 T T.length 0 = 0), false), (decide ((0 : Int) = 0) && decide (lenT T = lenT T) && decide (lenT T ≤ 9223372036854775807) && decide (T = T), true)] [0, 0, 0, 0, 0, 1, 2, 3])) := by kernel_rfl
set_option maxHeartbeats 4000000 in
theorem gpf_ok : (factSp gpg).ok Tryd.prog tbI 16 :=
  factR_ok (ctxLp_ok libE3_ok (eq_none _) (fns_nil _) (fun f fn h => by cases h)) (by kernel_rfl) Tryd.func16 rfl ofLps_ok fun args v cd hg hc => by
    unfold gpg at hg
    split at hg
    · rename_i T U
      cases hg
      refine ⟨rfl, rfl, rfl, ?_⟩
      obtain ⟨hl, hu⟩ := c2p hc
      unfold lnB at hl hu
      have ka : (decide ((0 : Int) = 0) && decide (lenT T = lenT T) && decide (lenT T ≤ 9223372036854775807) && decide (T = T)) = true := by
        rw [hl, decide_eq_true (rfl : lenT T = lenT T), decide_eq_true (rfl : T = T)]; rfl
      have kb : (decide ((0 : Int) = 0) && decide (lenT U = lenT U) && decide (lenT U ≤ 9223372036854775807) && decide (U = U) && decide (lenT T ≤ 9223372036854775807)) = true := by
        rw [hl, hu, decide_eq_true (rfl : lenT U = lenT U), decide_eq_true (rfl : U = U)]; rfl
      cases k0 : (decide (lenT T > 6)) with
      | true =>
        have V : (pgE T U) = (2) := by
          clear hl hu ka kb
          unfold pgE cpE crE
          simp only [beq_iff_eq, beq_eq_false_iff_ne, ne_eq, bne_iff_ne, bne_eq_false_iff_eq, decide_eq_true_eq, decide_eq_false_iff_not, Bool.not_eq_true', Bool.not_eq_false', gt_iff_lt] at *
          exact if_pos (.inl (by omega))
        refine ⟨[true], _, _, fpf_1 T U, fun E u hu => by rw [V]; exact hu, pickL_ok ?_ _⟩
        repeat' (first | exact cd_nil | refine cd_cons ?_ ?_)
        all_goals first | rfl | with_reducible assumption

      | false =>
        cases k1 : (decide (lenT U > 16)) with
        | true =>
          have V : (pgE T U) = (2) := by
            clear hl hu ka kb
            unfold pgE cpE crE
            simp only [beq_iff_eq, beq_eq_false_iff_ne, ne_eq, bne_iff_ne, bne_eq_false_iff_eq, decide_eq_true_eq, decide_eq_false_iff_not, Bool.not_eq_true', Bool.not_eq_false', gt_iff_lt] at *
            exact if_pos (.inr (by omega))
          refine ⟨[false, true], _, _, fpf_01 T U, fun E u hu => by rw [V]; exact hu, pickL_ok ?_ _⟩
          repeat' (first | exact cd_nil | refine cd_cons ?_ ?_)
          all_goals first | rfl | with_reducible assumption

        | false =>
          cases k2 : (decide (chE kfP efP pf0 T T.length 0 = 0)) with
          | true =>
            cases k3 : (decide (chE kfR rqE (pfR (lenT T)) U U.length 0 = 0)) with
            | true =>
              have V : (pgE T U) = (0) := by
                clear hl hu ka kb
                unfold pgE cpE crE
                simp only [beq_iff_eq, beq_eq_false_iff_ne, ne_eq, bne_iff_ne, bne_eq_false_iff_eq, decide_eq_true_eq, decide_eq_false_iff_not, Bool.not_eq_true', Bool.not_eq_false', gt_iff_lt] at *
                rw [if_neg (by omega)]
                rw [if_pos (by assumption)]
                assumption
              refine ⟨[false, false, true, true], _, _, fpf_0011 T U, fun E u hu => by rw [V]; exact hu, pickL_ok ?_ _⟩
              repeat' (first | exact cd_nil | refine cd_cons ?_ ?_)
              all_goals first | rfl | with_reducible assumption

            | false =>
              have V : (pgE T U) = ((chE kfR rqE (pfR (lenT T)) U U.length 0)) := by
                clear hl hu ka kb
                unfold pgE cpE crE
                simp only [beq_iff_eq, beq_eq_false_iff_ne, ne_eq, bne_iff_ne, bne_eq_false_iff_eq, decide_eq_true_eq, decide_eq_false_iff_not, Bool.not_eq_true', Bool.not_eq_false', gt_iff_lt] at *
                rw [if_neg (by omega)]
                rw [if_pos (by assumption)]
              refine ⟨[false, false, true, false], _, _, fpf_0010 T U, fun E u hu => by rw [V]; exact hu, pickL_ok ?_ _⟩
              repeat' (first | exact cd_nil | refine cd_cons ?_ ?_)
              all_goals first | rfl | with_reducible assumption

          | false =>
            have V : (pgE T U) = ((chE kfP efP pf0 T T.length 0)) := by
              clear hl hu ka kb
              unfold pgE cpE crE
              simp only [beq_iff_eq, beq_eq_false_iff_ne, ne_eq, bne_iff_ne, bne_eq_false_iff_eq, decide_eq_true_eq, decide_eq_false_iff_not, Bool.not_eq_true', Bool.not_eq_false', gt_iff_lt] at *
              rw [if_neg (by omega)]
              exact if_neg (by assumption)
            refine ⟨[false, false, false], _, _, fpf_000 T U, fun E u hu => by rw [V]; exact hu, pickL_ok ?_ _⟩
            repeat' (first | exact cd_nil | refine cd_cons ?_ ?_)
            all_goals first | rfl | with_reducible assumption

    · cases hg
theorem libG0_ok : LibOk Tryd.prog noFacts (lib1 libG0) := (lib1_cons (sp1_ok fun l _ => ⟨_, rfl, crql_pl l⟩) Tryd.call13 (lib1_nil _ _))
set_option maxRecDepth 100000 in
theorem slt_1 (q0 : Int) (q1 : Int) (q2 : Int) (q3 : Int) (q4 : Int) (q5 : Int) (q6 : Int) (q7 : Int) (q8 : Int) (q9 : Int) (q10 : Int) (q11 : Int) (q12 : Int) : evR (ctxOf Tryd.prog noFacts (fun _ => false) libG0) Tryd.f19 [(.w (.agg [.int .i64 q0, .int .i64 q1, .int .i64 q2, .int .i64 q3, .int .i64 q4, .int .i64 q5, .int .i64 q6, .int .i64 q7, .int .i64 q8, .int .i64 q9, .int .i64 q10, .int .i64 q11, .int .i64 q12]))] [true] = some (AV.w (AW.one (AC.int IntKind.i64 0)), (pickL [(rqE [q0, q1, q2, q3, q4, q5, q6, q7, q8, q9, q10, q11, q12] != 0, true)] [0])) := by kernel_rfl
set_option maxRecDepth 100000 in
theorem slt_0 (q0 : Int) (q1 : Int) (q2 : Int) (q3 : Int) (q4 : Int) (q5 : Int) (q6 : Int) (q7 : Int) (q8 : Int) (q9 : Int) (q10 : Int) (q11 : Int) (q12 : Int) : evR (ctxOf Tryd.prog noFacts (fun _ => false) libG0) Tryd.f19 [(.w (.agg [.int .i64 q0, .int .i64 q1, .int .i64 q2, .int .i64 q3, .int .i64 q4, .int .i64 q5, .int .i64 q6, .int .i64 q7, .int .i64 q8, .int .i64 q9, .int .i64 q10, .int .i64 q11, .int .i64 q12]))] [false] = some (AV.w (AW.one (AC.int IntKind.i64 (IntKind.i64.wrap (q6 * q5)))), (pickL [(rqE [q0, q1, q2, q3, q4, q5, q6, q7, q8, q9, q10, q11, q12] != 0, false)] [0])) := by kernel_rfl
theorem slt_pl (q0 : Int) (q1 : Int) (q2 : Int) (q3 : Int) (q4 : Int) (q5 : Int) (q6 : Int) (q7 : Int) (q8 : Int) (q9 : Int) (q10 : Int) (q11 : Int) (q12 : Int)  : Pl Tryd.prog 19 [.agg #[.int .i64 q0, .int .i64 q1, .int .i64 q2, .int .i64 q3, .int .i64 q4, .int .i64 q5, .int .i64 q6, .int .i64 q7, .int .i64 q8, .int .i64 q9, .int .i64 q10, .int .i64 q11, .int .i64 q12]] (.int .i64 (sltE [q0, q1, q2, q3, q4, q5, q6, q7, q8, q9, q10, q11, q12])) := fun w => by
  cases k0 : (rqE [q0, q1, q2, q3, q4, q5, q6, q7, q8, q9, q10, q11, q12] != 0) with
  | true =>
    have V : (sltE [q0, q1, q2, q3, q4, q5, q6, q7, q8, q9, q10, q11, q12]) = (0) := by
      simp only [beq_iff_eq, beq_eq_false_iff_ne, ne_eq, bne_iff_ne, bne_eq_false_iff_eq, decide_eq_true_eq, decide_eq_false_iff_not, Bool.not_eq_true', Bool.not_eq_false'] at *
      unfold sltE
      exact if_neg (by assumption)
    rw [V]
    refine evR_calls (I := noFacts) (v := .int .i64 (0)) (ctxOf_ok libG0_ok (eq_none _)) (by kernel_rfl) Tryd.func19 rfl lps_nil (slt_1 q0 q1 q2 q3 q4 q5 q6 q7 q8 q9 q10 q11 q12) rfl (all2_R (.cons rfl .nil)) rfl w (Nat.zero_le _) (pickL_ok ?_ _)
    repeat' (first | exact cd_nil | refine cd_cons ?_ ?_)
    all_goals first | rfl | with_reducible assumption

  | false =>
    have V : (sltE [q0, q1, q2, q3, q4, q5, q6, q7, q8, q9, q10, q11, q12]) = ((IntKind.i64.wrap (q6 * q5))) := by
      simp only [beq_iff_eq, beq_eq_false_iff_ne, ne_eq, bne_iff_ne, bne_eq_false_iff_eq, decide_eq_true_eq, decide_eq_false_iff_not, Bool.not_eq_true', Bool.not_eq_false'] at *
      unfold sltE
      rw [if_pos (by assumption)]
      rfl
    rw [V]
    refine evR_calls (I := noFacts) (v := .int .i64 ((IntKind.i64.wrap (q6 * q5)))) (ctxOf_ok libG0_ok (eq_none _)) (by kernel_rfl) Tryd.func19 rfl lps_nil (slt_0 q0 q1 q2 q3 q4 q5 q6 q7 q8 q9 q10 q11 q12) rfl (all2_R (.cons rfl .nil)) rfl w (Nat.zero_le _) (pickL_ok ?_ _)
    repeat' (first | exact cd_nil | refine cd_cons ?_ ?_)
    all_goals first | rfl | with_reducible assumption
end
end Go.Proofs.YtbnlpcmnkcaemaaDoor.AtPr

