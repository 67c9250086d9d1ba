/-
  Package prop: programmes: the reference's outer loops; checkProposals, checkRequests and Check as functions of tables.
  Conditions: those of each theorem.
-/
import Derived.Test.YtbnlpcmnkcaemaaDoorPE
set_option linter.unusedVariables false
set_option linter.unusedSimpArgs false
namespace Go.Proofs.YtbnlpcmnkcaemaaDoor.AtPr
open Go.RowKit Ev Wd AtRt AtHz
open Go.Proofs.YtbnlpcmnkcaemaaDoor
variable {F : Type}
noncomputable section

noncomputable abbrev iaLps : Lps Tb := [((89, [false, true, true, true, false, false, true, true, false, false, true, false, true, true]), iaD.sp (fun _ => true))]
noncomputable abbrev ibLps : Lps Tb := [((89, [false, true, false, true, true, false, false, true, true, false, false, true, false, true, true, true]), ibD.sp (fun _ => true))]
noncomputable abbrev maLps : Lps Tb := [((27, [false, true, false, true, true]), maD.sp (fun _ => true))]
noncomputable abbrev mbLps : Lps Tb := [((35, [false, true, false, true, true]), mbD.sp (fun _ => true))]
/-- The error of a programme. -/
def cpE (T : List (List Int)) : Int := chE kfP efP pf0 T T.length 0
def crE (U : List (List Int)) (m : Int) : Int := chE kfR rqE (pfR m) U U.length 0
def pgE (T U : List (List Int)) : Int := if 6 < lenT T ∨ 16 < lenT U then 2 else if cpE T = 0 then crE U (lenT T) else cpE T
def lnB (T : List (List Int)) : Bool := decide (lenT T ≤ 9223372036854775807)
def gcp : List (AV Tb) → Option (AV Tb × List (Bool × Bool))
  | [(.w (.one (.fv (.tab [some .i8, some .i64] T))))] => some (.w (.one (.int .i64 (cpE T))), [(lnB T, true)])
  | _ => none
def gcr : List (AV Tb) → Option (AV Tb × List (Bool × Bool))
  | [(.w (.one (.fv (.tab [some .i64, some .i64, some .i64, some .i64, some .i64, some .i64, some .i64, some .i64, some .i64, some .i64, some .i64, some .i64, some .i64] U)))), (.w (.one (.int .i64 m)))] => some (.w (.one (.int .i64 (crE U m))), [(lnB U, true), (decide (0 ≤ m), true), (decide (m ≤ 9223372036854775807), true)])
  | _ => none
def gpg : List (AV Tb) → Option (AV Tb × List (Bool × Bool))
  | [(.w (.agg [.fv (.tab [some .i8, some .i64] T), .fv (.tab [some .i64, some .i64, some .i64, some .i64, some .i64, some .i64, some .i64, some .i64, some .i64, some .i64, some .i64, some .i64, some .i64] U)]))] => some (.w (.one (.int .i64 (pgE T U))), [(lnB T, true), (lnB U, true)])
  | _ => none
theorem iaLps_ok : LpsOk Tryd.prog tbI iaLps Tryd.f16.ntmps (bodyOf Tryd.f16) := lps_cons (fun _ x hx => iaD_ok x hx) lps_nil
theorem ibLps_ok : LpsOk Tryd.prog tbI ibLps Tryd.f16.ntmps (bodyOf Tryd.f16) := lps_cons (fun _ x hx => ibD_ok x hx) lps_nil
theorem maLps_ok : LpsOk Tryd.prog tbI maLps Tryd.f45.ntmps (bodyOf Tryd.f45) := lps_cons (fun _ x hx => maD_ok x hx) lps_nil
theorem mbLps_ok : LpsOk Tryd.prog tbI mbLps Tryd.f46.ntmps (bodyOf Tryd.f46) := lps_cons (fun _ x hx => mbD_ok x hx) lps_nil
theorem sEq_comm (a b : ByteArray) : sEq a b = sEq b a := by
  cases h : sEq a b with
  | true => rw [(sEq_iff a b).1 h]; exact ((sEq_iff b b).2 rfl).symm
  | false =>
    cases h2 : sEq b a with
    | false => rfl
    | true => rw [(sEq_iff b a).1 h2, (sEq_iff a a).2 rfl] at h; cases h
theorem row_nat (T : List (List Int)) (i : Int) : rowT T (i.toNat : Int) = rowT T i := by unfold rowT; rw [Int.toNat_natCast]
theorem seen_A {T : List (List Int)} {i : Int} : seenB kfP T i.toNat = !((List.drop (Int.toNat 0) (List.take i.toNat T)).all (npA (decS (cel T i 0)))) := by
  unfold seenB
  rw [row_nat, any_all]
  congr 1
  show (List.take i.toNat T).all _ = (List.take i.toNat T).all _
  congr 1
  funext q
  show (!sEq (decS (q.getD 0 0)) (decS ((rowT T i).getD 0 0))) = !sEq (decS (cel T i 0)) (decS (q.getD 0 0))
  rw [sEq_comm]; rfl
theorem seen_B {T : List (List Int)} {i : Int} : seenB kfR T i.toNat = !((List.drop (Int.toNat 0) (List.take i.toNat T)).all (npB (cel T i 0))) := by
  unfold seenB
  rw [row_nat, any_all]
  congr 1
  show (List.take i.toNat T).all _ = (List.take i.toNat T).all _
  congr 1
  funext q
  show (!decide (q.getD 0 0 = (rowT T i).getD 0 0)) = !(cel T i 0 == q.getD 0 0)
  congr 1
  rw [Bool.eq_iff_iff, decide_eq_true_eq, beq_iff_eq]
  exact eq_comm
theorem len_sub {T : List (List Int)} {i : Int} (h : lenT T ≤ 9223372036854775807) : (decide ((0 : Int) = 0) && decide (lenT (List.drop (Int.toNat 0) (List.take i.toNat T)) = lenT (List.drop (Int.toNat 0) (List.take i.toNat T))) && decide (lenT (List.drop (Int.toNat 0) (List.take i.toNat T)) ≤ 9223372036854775807)) = true := by
  have hx : lenT (List.drop (Int.toNat 0) (List.take i.toNat T)) ≤ 9223372036854775807 := by
    unfold lenT at h ⊢
    simp only [List.length_drop, List.length_take]
    omega
  rw [decide_eq_true hx, decide_eq_true (rfl : lenT (List.drop (Int.toNat 0) (List.take i.toNat T)) = _)]; rfl
set_option maxRecDepth 100000 in
theorem oa_101 (T : List (List Int)) (n : Int) (i : Int) (P : List (List Int)) (R : List (List Int)) (rest : List (Nat × AV Tb)) : evView (ctxLp Tryd.prog tbI (fun _ => false) libE3 [] iaLps) 89 (false :: [false, true, false, true, true]) (loopAt (bodyOf Tryd.f16) [false, true, false, true, true]) ([(24, (.w (.one (.fv (.tab [some .i8, some .i64] T))))), (25, (.w (.one (.int .i64 n)))), (26, (.w (.one (.int .i64 i))))] ++ (ptrN 0 [1] ++ rest)) [⟨25, [.fv (.tab [some .i8, some .i64] P), .fv (.tab [some .i64, some .i64, some .i64, some .i64, some .i64, some .i64, some .i64, some .i64, some .i64, some .i64, some .i64, some .i64, some .i64] R)]⟩] 1 [24, 25, 26, 1] [true, false, true] = some ((Ex.normal, [AV.w (AW.one (AC.fv (Tb.tab [some IntKind.i8, some IntKind.i64] T))), AV.w (AW.one (AC.int IntKind.i64 n)), AV.w (AW.one (AC.int IntKind.i64 (IntKind.i64.wrap (i + 1)))), AV.w (AW.one (AC.ptr 0 0))], [{ ty := 25, cs := [AC.fv (Tb.tab [some IntKind.i8, some IntKind.i64] P), AC.fv (Tb.tab [some IntKind.i64, some IntKind.i64, some IntKind.i64, some IntKind.i64, some IntKind.i64, some IntKind.i64, some IntKind.i64, some IntKind.i64, some IntKind.i64, some IntKind.i64, some IntKind.i64, some IntKind.i64, some IntKind.i64] R)] }]), (pickL [(decide (i < n), true), (decide ((0 : Int) ≤ i), true), (decide (i < lenT T), true), (efP (rowT T i) != 0, false), (decide ((0 : Int) ≤ 0), true), (decide (i ≤ lenT P), true), ((List.drop (Int.toNat 0) (List.take i.toNat P)).all (npA (decS (cel T i 0))), true), (decide ((0 : Int) = 0) && decide (lenT (List.drop (Int.toNat 0) (List.take i.toNat P)) = lenT (List.drop (Int.toNat 0) (List.take i.toNat P))) && decide (lenT (List.drop (Int.toNat 0) (List.take i.toNat P)) ≤ 9223372036854775807), true)] [0, 1, 2, 1, 2, 3, 4, 1, 5, 6, 7])) := by kernel_rfl
set_option maxRecDepth 100000 in
theorem oa_0 (T : List (List Int)) (n : Int) (i : Int) (P : List (List Int)) (R : List (List Int)) (rest : List (Nat × AV Tb)) : evView (ctxLp Tryd.prog tbI (fun _ => false) libE3 [] iaLps) 89 (false :: [false, true, false, true, true]) (loopAt (bodyOf Tryd.f16) [false, true, false, true, true]) ([(24, (.w (.one (.fv (.tab [some .i8, some .i64] T))))), (25, (.w (.one (.int .i64 n)))), (26, (.w (.one (.int .i64 i))))] ++ (ptrN 0 [1] ++ rest)) [⟨25, [.fv (.tab [some .i8, some .i64] P), .fv (.tab [some .i64, some .i64, some .i64, some .i64, some .i64, some .i64, some .i64, some .i64, some .i64, some .i64, some .i64, some .i64, some .i64] R)]⟩] 1 [24, 25, 26, 1] [false] = some ((Ex.exit 0, [AV.w (AW.one (AC.fv (Tb.tab [some IntKind.i8, some IntKind.i64] T))), AV.w (AW.one (AC.int IntKind.i64 n)), AV.w (AW.one (AC.int IntKind.i64 i)), AV.w (AW.one (AC.ptr 0 0))], [{ ty := 25, cs := [AC.fv (Tb.tab [some IntKind.i8, some IntKind.i64] P), AC.fv (Tb.tab [some IntKind.i64, some IntKind.i64, some IntKind.i64, some IntKind.i64, some IntKind.i64, some IntKind.i64, some IntKind.i64, some IntKind.i64, some IntKind.i64, some IntKind.i64, some IntKind.i64, some IntKind.i64, some IntKind.i64] R)] }]), (pickL [(decide (i < n), false)] [0])) := by kernel_rfl
set_option maxRecDepth 100000 in
theorem oar_11 (T : List (List Int)) (n : Int) (i : Int) (P : List (List Int)) (R : List (List Int)) (rest : List (Nat × AV Tb)) : evView (ctxLp Tryd.prog tbI (fun _ => false) libE3 [] iaLps) 89 (false :: [false, true, false, true, true]) (loopAt (bodyOf Tryd.f16) [false, true, false, true, true]) ([(24, (.w (.one (.fv (.tab [some .i8, some .i64] T))))), (25, (.w (.one (.int .i64 n)))), (26, (.w (.one (.int .i64 i))))] ++ (ptrN 0 [1] ++ rest)) [⟨25, [.fv (.tab [some .i8, some .i64] P), .fv (.tab [some .i64, some .i64, some .i64, some .i64, some .i64, some .i64, some .i64, some .i64, some .i64, some .i64, some .i64, some .i64, some .i64] R)]⟩] 1 [2, 1] [true, true] = some ((Ex.ret, [AV.w (AW.one (AC.int IntKind.i64 (efP (rowT T i)))), AV.w (AW.one (AC.ptr 0 0))], [{ ty := 25, cs := [AC.fv (Tb.tab [some IntKind.i8, some IntKind.i64] P), AC.fv (Tb.tab [some IntKind.i64, some IntKind.i64, some IntKind.i64, some IntKind.i64, some IntKind.i64, some IntKind.i64, some IntKind.i64, some IntKind.i64, some IntKind.i64, some IntKind.i64, some IntKind.i64, some IntKind.i64, some IntKind.i64] R)] }]), (pickL [(decide (i < n), true), (decide ((0 : Int) ≤ i), true), (decide (i < lenT T), true), (efP (rowT T i) != 0, true)] [0, 1, 2, 1, 2, 3])) := by kernel_rfl
set_option maxRecDepth 100000 in
theorem oar_100 (T : List (List Int)) (n : Int) (i : Int) (P : List (List Int)) (R : List (List Int)) (rest : List (Nat × AV Tb)) : evView (ctxLp Tryd.prog tbI (fun _ => false) libE3 [] iaLps) 89 (false :: [false, true, false, true, true]) (loopAt (bodyOf Tryd.f16) [false, true, false, true, true]) ([(24, (.w (.one (.fv (.tab [some .i8, some .i64] T))))), (25, (.w (.one (.int .i64 n)))), (26, (.w (.one (.int .i64 i))))] ++ (ptrN 0 [1] ++ rest)) [⟨25, [.fv (.tab [some .i8, some .i64] P), .fv (.tab [some .i64, some .i64, some .i64, some .i64, some .i64, some .i64, some .i64, some .i64, some .i64, some .i64, some .i64, some .i64, some .i64] R)]⟩] 1 [2, 1] [true, false, false] = some ((Ex.ret, [AV.w (AW.one (AC.int IntKind.i64 7)), AV.w (AW.one (AC.ptr 0 0))], [{ ty := 25, cs := [AC.fv (Tb.tab [some IntKind.i8, some IntKind.i64] P), AC.fv (Tb.tab [some IntKind.i64, some IntKind.i64, some IntKind.i64, some IntKind.i64, some IntKind.i64, some IntKind.i64, some IntKind.i64, some IntKind.i64, some IntKind.i64, some IntKind.i64, some IntKind.i64, some IntKind.i64, some IntKind.i64] R)] }]), (pickL [(decide (i < n), true), (decide ((0 : Int) ≤ i), true), (decide (i < lenT T), true), (efP (rowT T i) != 0, false), (decide ((0 : Int) ≤ 0), true), (decide (i ≤ lenT P), true), ((List.drop (Int.toNat 0) (List.take i.toNat P)).all (npA (decS (cel T i 0))), false), (decide ((0 : Int) = 0) && decide (lenT (List.drop (Int.toNat 0) (List.take i.toNat P)) = lenT (List.drop (Int.toNat 0) (List.take i.toNat P))) && decide (lenT (List.drop (Int.toNat 0) (List.take i.toNat P)) ≤ 9223372036854775807), true)] [0, 1, 2, 1, 2, 3, 4, 1, 5, 6, 7])) := by kernel_rfl
structure oaT where
  T : List (List Int)
  n : Int
  i : Int
  P : List (List Int)
  R : List (List Int)
def oaP (T : List (List Int)) (n : Int) (i : Int) (P : List (List Int)) (R : List (List Int)) : Prop := 0 ≤ i ∧ i ≤ n ∧ n = lenT T ∧ n ≤ 9223372036854775807 ∧ T = P
instance (T : List (List Int)) (n : Int) (i : Int) (P : List (List Int)) (R : List (List Int)) : Decidable (oaP T n i P R) := by unfold oaP; infer_instance
def oaTm (T : List (List Int)) (n : Int) (i : Int) (P : List (List Int)) (R : List (List Int)) : List (Nat × AV Tb) := [(24, (.w (.one (.fv (.tab [some .i8, some .i64] T))))), (25, (.w (.one (.int .i64 n)))), (26, (.w (.one (.int .i64 i))))]
def oaS : LpSt oaT Tb where
  ps := [1]
  tm := fun t => oaTm t.T t.n t.i t.P t.R
  hp := fun t => [⟨25, [.fv (.tab [some .i8, some .i64] t.P), .fv (.tab [some .i64, some .i64, some .i64, some .i64, some .i64, some .i64, some .i64, some .i64, some .i64, some .i64, some .i64, some .i64, some .i64] t.R)]⟩]
def oaNx (T : List (List Int)) (n : Int) (i : Int) (P : List (List Int)) (R : List (List Int)) : Nxt oaT Tb := if i < n then (if efP (rowT T i) = 0 then (if seenB kfP T i.toNat = true then .out .ret [(2, .w (.one (.int .i64 7)))] [⟨25, [.fv (.tab [some .i8, some .i64] P), .fv (.tab [some .i64, some .i64, some .i64, some .i64, some .i64, some .i64, some .i64, some .i64, some .i64, some .i64, some .i64, some .i64, some .i64] R)]⟩] else if pf0 (rowT T i) = 0 then .go ⟨T, n, i + 1, P, R⟩ else .out .ret [(2, .w (.one (.int .i64 (pf0 (rowT T i)))))] [⟨25, [.fv (.tab [some .i8, some .i64] P), .fv (.tab [some .i64, some .i64, some .i64, some .i64, some .i64, some .i64, some .i64, some .i64, some .i64, some .i64, some .i64, some .i64, some .i64] R)]⟩]) else .out .ret [(2, .w (.one (.int .i64 (efP (rowT T i)))))] [⟨25, [.fv (.tab [some .i8, some .i64] P), .fv (.tab [some .i64, some .i64, some .i64, some .i64, some .i64, some .i64, some .i64, some .i64, some .i64, some .i64, some .i64, some .i64, some .i64] R)]⟩]) else .out (.exit 0) (oaTm T n i P R) [⟨25, [.fv (.tab [some .i8, some .i64] P), .fv (.tab [some .i64, some .i64, some .i64, some .i64, some .i64, some .i64, some .i64, some .i64, some .i64, some .i64, some .i64, some .i64, some .i64] R)]⟩]
def oaStep (t : oaT) : Nxt oaT Tb := if oaP t.T t.n t.i t.P t.R then oaNx t.T t.n t.i t.P t.R else .bad
theorem oa_go {T : List (List Int)} {n : Int} {i : Int} {P : List (List Int)} {R : List (List Int)} (h : oaP T n i P R) : oaStep ⟨T, n, i, P, R⟩ = oaNx T n i P R := if_pos h
set_option maxRecDepth 100000 in
set_option maxHeartbeats 4000000 in
theorem oa_round (t : oaT) (hb : (oaStep t).isBad = false) (rest : List (Nat × AV Tb)) : ∃ fuel path r, evC (ctxLp Tryd.prog tbI (fun _ => false) libE3 [] iaLps) fuel 89 (false :: [false, true, false, true, true]) (loopAt (bodyOf Tryd.f16) [false, true, false, true, true]) (oaS.tm t ++ (ptrN 0 oaS.ps ++ rest)) (numb 0 (oaS.hp t)) 1 path = some r ∧ (∀ p ∈ r.cd, p.1 = p.2) ∧ Gives oaS 1 r (oaStep t) := by
  obtain ⟨T, n, i, P, R⟩ := t
  by_cases ok : oaP T n i P R
  · rw [oa_go ok]
    clear hb
    unfold oaNx
    obtain ⟨h1, h2, rfl, h4, rfl⟩ := ok
    have e0 : decide (0 ≤ i) = true := decide_eq_true h1
    have e1 : i < lenT T → IntKind.i64.wrap (i + 1) = i + 1 := fun _ => v64p (by omega) (by omega)
    have e2 : decide (i ≤ lenT T) = true := decide_eq_true h2
    have e3 := len_sub (T := T) (i := i) h4
    cases k0 : (decide (i < lenT T)) with
    | true =>
      cases k1 : (efP (rowT T i) != 0) with
      | true =>
        rw [if_pos (of_decide_eq_true k0)]
        have hE : ¬ efP (rowT T i) = 0 := by simpa using k1
        rw [if_neg hE]
        have L := oar_11 T (lenT T) i T R rest
        refine round_out L rfl (pickL_ok ?_ _) rfl rfl rfl
        repeat' (first | exact cd_nil | refine cd_cons ?_ ?_)
        all_goals first | rfl | with_reducible assumption
      | false =>
        cases k2 : ((List.drop (Int.toNat 0) (List.take i.toNat T)).all (npA (decS (cel T i 0)))) with
        | true =>
          rw [if_pos (of_decide_eq_true k0)]
          have hE : efP (rowT T i) = 0 := by simpa using k1
          rw [if_pos hE]
          have hS : seenB kfP T i.toNat = false := by rw [seen_A, k2]; rfl
          rw [hS]
          rw [if_neg (by simp)]
          rw [if_pos (show pf0 (rowT T i) = 0 from rfl)]
          have L := oa_101 T (lenT T) i T R rest
          rw [e1 (of_decide_eq_true k0)] at L
          refine round_go L (pickL_ok ?_ _) rfl rfl rfl rfl
          repeat' (first | exact cd_nil | refine cd_cons ?_ ?_)
          all_goals first | rfl | with_reducible assumption
        | false =>
          rw [if_pos (of_decide_eq_true k0)]
          have hE : efP (rowT T i) = 0 := by simpa using k1
          rw [if_pos hE]
          have hS : seenB kfP T i.toNat = true := by rw [seen_A, k2]; rfl
          rw [hS]
          rw [if_pos rfl]
          have L := oar_100 T (lenT T) i T R rest
          refine round_out L rfl (pickL_ok ?_ _) rfl rfl rfl
          repeat' (first | exact cd_nil | refine cd_cons ?_ ?_)
          all_goals first | rfl | with_reducible assumption
    | false =>
      rw [if_neg (of_decide_eq_false k0)]
      have L := oa_0 T (lenT T) i T R rest
      refine round_out L rfl (pickL_ok ?_ _) rfl rfl rfl
      repeat' (first | exact cd_nil | refine cd_cons ?_ ?_)
      all_goals first | rfl | with_reducible assumption
  · exfalso
    have : oaStep ⟨T, n, i, P, R⟩ = .bad := if_neg ok
    rw [this] at hb; cases hb
theorem oa_runs {T R : List (List Int)} (h : lenT T ≤ 9223372036854775807) : ∀ (j i : Nat), i + j = T.length → ∃ c, runs oaStep c ⟨T, lenT T, i, T, R⟩ =
    (if chE kfP efP pf0 T j i = 0 then some (.exit 0, oaTm T (lenT T) (lenT T) T R, [⟨25, [.fv (.tab [some .i8, some .i64] T), .fv (.tab [some .i64, some .i64, some .i64, some .i64, some .i64, some .i64, some .i64, some .i64, some .i64, some .i64, some .i64, some .i64, some .i64] R)]⟩]) else some (.ret, [(2, .w (.one (.int .i64 (chE kfP efP pf0 T j i))))], [⟨25, [.fv (.tab [some .i8, some .i64] T), .fv (.tab [some .i64, some .i64, some .i64, some .i64, some .i64, some .i64, some .i64, some .i64, some .i64, some .i64, some .i64, some .i64, some .i64] R)]⟩]))
  | 0, i, hi => by
    have e : (i : Int) = lenT T := by unfold lenT; omega
    refine ⟨1, ?_⟩
    rw [runs, oa_go ⟨by omega, by omega, rfl, h, rfl⟩]
    unfold oaNx
    rw [if_neg (by omega), e]
    rfl
  | j + 1, i, hi => by
    have hl : (i : Int) < lenT T := by unfold lenT; omega
    have en : (i : Int).toNat = i := Int.toNat_natCast i
    by_cases g : efP (rowT T i) = 0
    · by_cases g2 : seenB kfP T i = true
      · refine ⟨1, ?_⟩
        rw [runs, oa_go ⟨by omega, by omega, rfl, h, rfl⟩]
        unfold oaNx
        have e : chE kfP efP pf0 T (j + 1) i = 7 := by rw [chE, if_pos g, if_pos g2]
        rw [if_pos hl, if_pos g, en, if_pos g2, e]
        rfl
      · by_cases g3 : pf0 (rowT T i) = 0
        · obtain ⟨c, hc⟩ := oa_runs h j (i + 1) (by omega)
          refine ⟨c + 1, ?_⟩
          rw [runs, oa_go ⟨by omega, by omega, rfl, h, rfl⟩]
          unfold oaNx
          have e : chE kfP efP pf0 T (j + 1) i = chE kfP efP pf0 T j (i + 1) := by rw [chE, if_pos g, if_neg g2, if_pos g3]
          rw [if_pos hl, if_pos g, en, if_neg g2, if_pos g3, e]
          exact hc
        · refine ⟨1, ?_⟩
          rw [runs, oa_go ⟨by omega, by omega, rfl, h, rfl⟩]
          unfold oaNx
          have e : chE kfP efP pf0 T (j + 1) i = pf0 (rowT T i) := by rw [chE, if_pos g, if_neg g2, if_neg g3]
          rw [if_pos hl, if_pos g, en, if_neg g2, if_neg g3, e, if_neg g3]
    · refine ⟨1, ?_⟩
      rw [runs, oa_go ⟨by omega, by omega, rfl, h, rfl⟩]
      unfold oaNx
      have e : chE kfP efP pf0 T (j + 1) i = efP (rowT T i) := by rw [chE, if_neg g]
      rw [if_pos hl, if_neg g, e, if_neg g]
def oaD : LpDefR oaT Tb where
  ts := [24, 25, 26]
  ps := [1]
  rs := []
  W := [1, 2, 3, 4, 5, 7, 24, 25, 26, 27, 28, 29, 30, 31, 32, 33, 34, 35, 36, 37, 38, 39, 40, 41, 42, 43, 44, 45, 46, 47, 48, 49, 50, 51]
  dec := fun vs tr ks => match vs, tr, ks with
    | [.w (.one (.fv (.tab [some .i8, some .i64] T))), .w (.one (.int .i64 n)), .w (.one (.int .i64 i))], [], [⟨25, [.fv (.tab [some .i8, some .i64] P), .fv (.tab [some .i64, some .i64, some .i64, some .i64, some .i64, some .i64, some .i64, some .i64, some .i64, some .i64, some .i64, some .i64, some .i64] R)]⟩] => some ⟨T, n, i, P, R⟩
    | _, _, _ => none
  fk := fun t => some (decide (chE kfP efP pf0 t.T t.T.length 0 = 0))
  spec := fun t β => match β with
    | true => some (.exit 0, oaTm t.T t.n t.n t.P t.R, [], [⟨25, [.fv (.tab [some .i8, some .i64] t.P), .fv (.tab [some .i64, some .i64, some .i64, some .i64, some .i64, some .i64, some .i64, some .i64, some .i64, some .i64, some .i64, some .i64, some .i64] t.R)]⟩], [(decide (t.i = 0) && decide (t.n = lenT t.T) && decide (t.n ≤ 9223372036854775807) && decide (t.T = t.P), true)])
    | false => some (.ret, [(2, .w (.one (.int .i64 (chE kfP efP pf0 t.T t.T.length 0))))], [], [⟨25, [.fv (.tab [some .i8, some .i64] t.P), .fv (.tab [some .i64, some .i64, some .i64, some .i64, some .i64, some .i64, some .i64, some .i64, some .i64, some .i64, some .i64, some .i64, some .i64] t.R)]⟩], [(decide (t.i = 0) && decide (t.n = lenT t.T) && decide (t.n ≤ 9223372036854775807) && decide (t.T = t.P), true)])
theorem oaD_ok (x : Code) (hx : codeAt (bodyOf Tryd.f16) [false, true, false, true, true] = some (.loop x)) : LpOk Tryd.prog tbI 89 x (oaD.sp (fun _ => true)) := by
  obtain rfl := loopAt_eq hx
  refine lpR_ok (c := ctxLp Tryd.prog tbI (fun _ => false) libE3 [] iaLps) (ctxLp_ok libE3_ok (eq_none _) (fns_nil _) (fun f fn h => by cases h)) (by kernel_rfl) (fun _ _ _ h => h) hx iaLps_ok (S := oaS) (step := oaStep) (fun _ _ => rfl) (by kernel_rfl) (by kernel_rfl) ?_ rfl (fun t e he => ?_) (fun t hb rest => oa_round t hb rest) ?_
  · intro vs tr ks s hv1 hv2 h hv3
    simp only [oaD] at h
    split at h
    · cases h
      exact ⟨rfl, fun e he => .inl he⟩
    · cases h
  · simp only [oaS, oaTm, List.mem_cons, List.not_mem_nil, or_false] at he
    rcases he with rfl | rfl | rfl <;> rfl
  · intro s β ex outs rts wb cd h hfk hc
    obtain ⟨T, n, i, P, R⟩ := s
    have hβ := hfk _ rfl
    cases β with
    | true =>
      simp only [oaD] at h hβ
      cases h
      have := c1x hc
      simp only [Bool.and_eq_true, decide_eq_true_eq] at this
      obtain ⟨⟨⟨rfl, rfl⟩, h3⟩, rfl⟩ := this
      obtain ⟨c, hc⟩ := oa_runs (R := R) h3 T.length 0 (by omega)
      refine ⟨c, ?_⟩
      rw [if_pos (of_decide_eq_true hβ)] at hc
      exact hc
    | false =>
      simp only [oaD] at h hβ
      cases h
      have := c1x hc
      simp only [Bool.and_eq_true, decide_eq_true_eq] at this
      obtain ⟨⟨⟨rfl, rfl⟩, h3⟩, rfl⟩ := this
      obtain ⟨c, hc⟩ := oa_runs (R := R) h3 T.length 0 (by omega)
      refine ⟨c, ?_⟩
      rw [if_neg (of_decide_eq_false hβ)] at hc
      exact hc
set_option maxRecDepth 100000 in
theorem ob_1010 (T : List (List Int)) (n : Int) (i : Int) (P : List (List Int)) (R : List (List Int)) (rest : List (Nat × AV Tb)) : evView (ctxLp Tryd.prog tbI (fun _ => false) libE3 [] ibLps) 89 (false :: [false, true, false, true, true, true]) (loopAt (bodyOf Tryd.f16) [false, true, false, true, true, true]) ([(53, (.w (.one (.fv (.tab [some .i64, some .i64, some .i64, some .i64, some .i64, some .i64, some .i64, some .i64, some .i64, some .i64, some .i64, some .i64, some .i64] T))))), (54, (.w (.one (.int .i64 n)))), (55, (.w (.one (.int .i64 i))))] ++ (ptrN 0 [1] ++ rest)) [⟨25, [.fv (.tab [some .i8, some .i64] P), .fv (.tab [some .i64, some .i64, some .i64, some .i64, some .i64, some .i64, some .i64, some .i64, some .i64, some .i64, some .i64, some .i64, some .i64] R)]⟩] 1 [53, 54, 55, 1] [true, false, true, false] = some ((Ex.normal, [AV.w (AW.one (AC.fv (Tb.tab [some IntKind.i64, some IntKind.i64, some IntKind.i64, some IntKind.i64, some IntKind.i64, some IntKind.i64, some IntKind.i64, some IntKind.i64, some IntKind.i64, some IntKind.i64, some IntKind.i64, some IntKind.i64, some IntKind.i64] T))), AV.w (AW.one (AC.int IntKind.i64 n)), AV.w (AW.one (AC.int IntKind.i64 (IntKind.i64.wrap (i + 1)))), AV.w (AW.one (AC.ptr 0 0))], [{ ty := 25, cs := [AC.fv (Tb.tab [some IntKind.i8, some IntKind.i64] P), AC.fv (Tb.tab [some IntKind.i64, some IntKind.i64, some IntKind.i64, some IntKind.i64, some IntKind.i64, some IntKind.i64, some IntKind.i64, some IntKind.i64, some IntKind.i64, some IntKind.i64, some IntKind.i64, some IntKind.i64, some IntKind.i64] R)] }]), (pickL [(decide (i < n), true), (decide ((0 : Int) ≤ i), true), (decide (i < lenT T), true), (rqE (rowT T i) != 0, false), (decide ((0 : Int) ≤ 0), true), (decide (i ≤ lenT R), true), ((List.drop (Int.toNat 0) (List.take i.toNat R)).all (npB (cel T i 0)), true), (decide ((0 : Int) = 0) && decide (lenT (List.drop (Int.toNat 0) (List.take i.toNat R)) = lenT (List.drop (Int.toNat 0) (List.take i.toNat R))) && decide (lenT (List.drop (Int.toNat 0) (List.take i.toNat R)) ≤ 9223372036854775807), true), (!inR (cel T i 1) 0 (IntKind.i64.wrap (lenT P - 1)), false)] [0, 1, 2, 1, 2, 3, 4, 1, 5, 6, 7, 8])) := by kernel_rfl
set_option maxRecDepth 100000 in
theorem ob_0 (T : List (List Int)) (n : Int) (i : Int) (P : List (List Int)) (R : List (List Int)) (rest : List (Nat × AV Tb)) : evView (ctxLp Tryd.prog tbI (fun _ => false) libE3 [] ibLps) 89 (false :: [false, true, false, true, true, true]) (loopAt (bodyOf Tryd.f16) [false, true, false, true, true, true]) ([(53, (.w (.one (.fv (.tab [some .i64, some .i64, some .i64, some .i64, some .i64, some .i64, some .i64, some .i64, some .i64, some .i64, some .i64, some .i64, some .i64] T))))), (54, (.w (.one (.int .i64 n)))), (55, (.w (.one (.int .i64 i))))] ++ (ptrN 0 [1] ++ rest)) [⟨25, [.fv (.tab [some .i8, some .i64] P), .fv (.tab [some .i64, some .i64, some .i64, some .i64, some .i64, some .i64, some .i64, some .i64, some .i64, some .i64, some .i64, some .i64, some .i64] R)]⟩] 1 [53, 54, 55, 1] [false] = some ((Ex.exit 4, [AV.w (AW.one (AC.fv (Tb.tab [some IntKind.i64, some IntKind.i64, some IntKind.i64, some IntKind.i64, some IntKind.i64, some IntKind.i64, some IntKind.i64, some IntKind.i64, some IntKind.i64, some IntKind.i64, some IntKind.i64, some IntKind.i64, some IntKind.i64] T))), AV.w (AW.one (AC.int IntKind.i64 n)), AV.w (AW.one (AC.int IntKind.i64 i)), AV.w (AW.one (AC.ptr 0 0))], [{ ty := 25, cs := [AC.fv (Tb.tab [some IntKind.i8, some IntKind.i64] P), AC.fv (Tb.tab [some IntKind.i64, some IntKind.i64, some IntKind.i64, some IntKind.i64, some IntKind.i64, some IntKind.i64, some IntKind.i64, some IntKind.i64, some IntKind.i64, some IntKind.i64, some IntKind.i64, some IntKind.i64, some IntKind.i64] R)] }]), (pickL [(decide (i < n), false)] [0])) := by kernel_rfl
set_option maxRecDepth 100000 in
theorem obr_11 (T : List (List Int)) (n : Int) (i : Int) (P : List (List Int)) (R : List (List Int)) (rest : List (Nat × AV Tb)) : evView (ctxLp Tryd.prog tbI (fun _ => false) libE3 [] ibLps) 89 (false :: [false, true, false, true, true, true]) (loopAt (bodyOf Tryd.f16) [false, true, false, true, true, true]) ([(53, (.w (.one (.fv (.tab [some .i64, some .i64, some .i64, some .i64, some .i64, some .i64, some .i64, some .i64, some .i64, some .i64, some .i64, some .i64, some .i64] T))))), (54, (.w (.one (.int .i64 n)))), (55, (.w (.one (.int .i64 i))))] ++ (ptrN 0 [1] ++ rest)) [⟨25, [.fv (.tab [some .i8, some .i64] P), .fv (.tab [some .i64, some .i64, some .i64, some .i64, some .i64, some .i64, some .i64, some .i64, some .i64, some .i64, some .i64, some .i64, some .i64] R)]⟩] 1 [2, 1] [true, true] = some ((Ex.ret, [AV.w (AW.one (AC.int IntKind.i64 (rqE (rowT T i)))), AV.w (AW.one (AC.ptr 0 0))], [{ ty := 25, cs := [AC.fv (Tb.tab [some IntKind.i8, some IntKind.i64] P), AC.fv (Tb.tab [some IntKind.i64, some IntKind.i64, some IntKind.i64, some IntKind.i64, some IntKind.i64, some IntKind.i64, some IntKind.i64, some IntKind.i64, some IntKind.i64, some IntKind.i64, some IntKind.i64, some IntKind.i64, some IntKind.i64] R)] }]), (pickL [(decide (i < n), true), (decide ((0 : Int) ≤ i), true), (decide (i < lenT T), true), (rqE (rowT T i) != 0, true)] [0, 1, 2, 1, 2, 3])) := by kernel_rfl
set_option maxRecDepth 100000 in
theorem obr_1011 (T : List (List Int)) (n : Int) (i : Int) (P : List (List Int)) (R : List (List Int)) (rest : List (Nat × AV Tb)) : evView (ctxLp Tryd.prog tbI (fun _ => false) libE3 [] ibLps) 89 (false :: [false, true, false, true, true, true]) (loopAt (bodyOf Tryd.f16) [false, true, false, true, true, true]) ([(53, (.w (.one (.fv (.tab [some .i64, some .i64, some .i64, some .i64, some .i64, some .i64, some .i64, some .i64, some .i64, some .i64, some .i64, some .i64, some .i64] T))))), (54, (.w (.one (.int .i64 n)))), (55, (.w (.one (.int .i64 i))))] ++ (ptrN 0 [1] ++ rest)) [⟨25, [.fv (.tab [some .i8, some .i64] P), .fv (.tab [some .i64, some .i64, some .i64, some .i64, some .i64, some .i64, some .i64, some .i64, some .i64, some .i64, some .i64, some .i64, some .i64] R)]⟩] 1 [2, 1] [true, false, true, true] = some ((Ex.ret, [AV.w (AW.one (AC.int IntKind.i64 8)), AV.w (AW.one (AC.ptr 0 0))], [{ ty := 25, cs := [AC.fv (Tb.tab [some IntKind.i8, some IntKind.i64] P), AC.fv (Tb.tab [some IntKind.i64, some IntKind.i64, some IntKind.i64, some IntKind.i64, some IntKind.i64, some IntKind.i64, some IntKind.i64, some IntKind.i64, some IntKind.i64, some IntKind.i64, some IntKind.i64, some IntKind.i64, some IntKind.i64] R)] }]), (pickL [(decide (i < n), true), (decide ((0 : Int) ≤ i), true), (decide (i < lenT T), true), (rqE (rowT T i) != 0, false), (decide ((0 : Int) ≤ 0), true), (decide (i ≤ lenT R), true), ((List.drop (Int.toNat 0) (List.take i.toNat R)).all (npB (cel T i 0)), true), (decide ((0 : Int) = 0) && decide (lenT (List.drop (Int.toNat 0) (List.take i.toNat R)) = lenT (List.drop (Int.toNat 0) (List.take i.toNat R))) && decide (lenT (List.drop (Int.toNat 0) (List.take i.toNat R)) ≤ 9223372036854775807), true), (!inR (cel T i 1) 0 (IntKind.i64.wrap (lenT P - 1)), true)] [0, 1, 2, 1, 2, 3, 4, 1, 5, 6, 7, 8])) := by kernel_rfl
set_option maxRecDepth 100000 in
theorem obr_100 (T : List (List Int)) (n : Int) (i : Int) (P : List (List Int)) (R : List (List Int)) (rest : List (Nat × AV Tb)) : evView (ctxLp Tryd.prog tbI (fun _ => false) libE3 [] ibLps) 89 (false :: [false, true, false, true, true, true]) (loopAt (bodyOf Tryd.f16) [false, true, false, true, true, true]) ([(53, (.w (.one (.fv (.tab [some .i64, some .i64, some .i64, some .i64, some .i64, some .i64, some .i64, some .i64, some .i64, some .i64, some .i64, some .i64, some .i64] T))))), (54, (.w (.one (.int .i64 n)))), (55, (.w (.one (.int .i64 i))))] ++ (ptrN 0 [1] ++ rest)) [⟨25, [.fv (.tab [some .i8, some .i64] P), .fv (.tab [some .i64, some .i64, some .i64, some .i64, some .i64, some .i64, some .i64, some .i64, some .i64, some .i64, some .i64, some .i64, some .i64] R)]⟩] 1 [2, 1] [true, false, false] = some ((Ex.ret, [AV.w (AW.one (AC.int IntKind.i64 7)), AV.w (AW.one (AC.ptr 0 0))], [{ ty := 25, cs := [AC.fv (Tb.tab [some IntKind.i8, some IntKind.i64] P), AC.fv (Tb.tab [some IntKind.i64, some IntKind.i64, some IntKind.i64, some IntKind.i64, some IntKind.i64, some IntKind.i64, some IntKind.i64, some IntKind.i64, some IntKind.i64, some IntKind.i64, some IntKind.i64, some IntKind.i64, some IntKind.i64] R)] }]), (pickL [(decide (i < n), true), (decide ((0 : Int) ≤ i), true), (decide (i < lenT T), true), (rqE (rowT T i) != 0, false), (decide ((0 : Int) ≤ 0), true), (decide (i ≤ lenT R), true), ((List.drop (Int.toNat 0) (List.take i.toNat R)).all (npB (cel T i 0)), false), (decide ((0 : Int) = 0) && decide (lenT (List.drop (Int.toNat 0) (List.take i.toNat R)) = lenT (List.drop (Int.toNat 0) (List.take i.toNat R))) && decide (lenT (List.drop (Int.toNat 0) (List.take i.toNat R)) ≤ 9223372036854775807), true)] [0, 1, 2, 1, 2, 3, 4, 1, 5, 6, 7])) := by kernel_rfl
structure obT where
  T : List (List Int)
  n : Int
  i : Int
  P : List (List Int)
  R : List (List Int)
def obP (T : List (List Int)) (n : Int) (i : Int) (P : List (List Int)) (R : List (List Int)) : Prop := 0 ≤ i ∧ i ≤ n ∧ n = lenT T ∧ n ≤ 9223372036854775807 ∧ T = R ∧ lenT P ≤ 9223372036854775807
instance (T : List (List Int)) (n : Int) (i : Int) (P : List (List Int)) (R : List (List Int)) : Decidable (obP T n i P R) := by unfold obP; infer_instance
def obTm (T : List (List Int)) (n : Int) (i : Int) (P : List (List Int)) (R : List (List Int)) : List (Nat × AV Tb) := [(53, (.w (.one (.fv (.tab [some .i64, some .i64, some .i64, some .i64, some .i64, some .i64, some .i64, some .i64, some .i64, some .i64, some .i64, some .i64, some .i64] T))))), (54, (.w (.one (.int .i64 n)))), (55, (.w (.one (.int .i64 i))))]
def obS : LpSt obT Tb where
  ps := [1]
  tm := fun t => obTm t.T t.n t.i t.P t.R
  hp := fun t => [⟨25, [.fv (.tab [some .i8, some .i64] t.P), .fv (.tab [some .i64, some .i64, some .i64, some .i64, some .i64, some .i64, some .i64, some .i64, some .i64, some .i64, some .i64, some .i64, some .i64] t.R)]⟩]
def obNx (T : List (List Int)) (n : Int) (i : Int) (P : List (List Int)) (R : List (List Int)) : Nxt obT Tb := if i < n then (if rqE (rowT T i) = 0 then (if seenB kfR T i.toNat = true then .out .ret [(2, .w (.one (.int .i64 7)))] [⟨25, [.fv (.tab [some .i8, some .i64] P), .fv (.tab [some .i64, some .i64, some .i64, some .i64, some .i64, some .i64, some .i64, some .i64, some .i64, some .i64, some .i64, some .i64, some .i64] R)]⟩] else if (pfR (lenT P)) (rowT T i) = 0 then .go ⟨T, n, i + 1, P, R⟩ else .out .ret [(2, .w (.one (.int .i64 ((pfR (lenT P)) (rowT T i)))))] [⟨25, [.fv (.tab [some .i8, some .i64] P), .fv (.tab [some .i64, some .i64, some .i64, some .i64, some .i64, some .i64, some .i64, some .i64, some .i64, some .i64, some .i64, some .i64, some .i64] R)]⟩]) else .out .ret [(2, .w (.one (.int .i64 (rqE (rowT T i)))))] [⟨25, [.fv (.tab [some .i8, some .i64] P), .fv (.tab [some .i64, some .i64, some .i64, some .i64, some .i64, some .i64, some .i64, some .i64, some .i64, some .i64, some .i64, some .i64, some .i64] R)]⟩]) else .out (.exit 4) (obTm T n i P R) [⟨25, [.fv (.tab [some .i8, some .i64] P), .fv (.tab [some .i64, some .i64, some .i64, some .i64, some .i64, some .i64, some .i64, some .i64, some .i64, some .i64, some .i64, some .i64, some .i64] R)]⟩]
def obStep (t : obT) : Nxt obT Tb := if obP t.T t.n t.i t.P t.R then obNx t.T t.n t.i t.P t.R else .bad
theorem ob_go {T : List (List Int)} {n : Int} {i : Int} {P : List (List Int)} {R : List (List Int)} (h : obP T n i P R) : obStep ⟨T, n, i, P, R⟩ = obNx T n i P R := if_pos h
set_option maxRecDepth 100000 in
set_option maxHeartbeats 4000000 in
theorem ob_round (t : obT) (hb : (obStep t).isBad = false) (rest : List (Nat × AV Tb)) : ∃ fuel path r, evC (ctxLp Tryd.prog tbI (fun _ => false) libE3 [] ibLps) fuel 89 (false :: [false, true, false, true, true, true]) (loopAt (bodyOf Tryd.f16) [false, true, false, true, true, true]) (obS.tm t ++ (ptrN 0 obS.ps ++ rest)) (numb 0 (obS.hp t)) 1 path = some r ∧ (∀ p ∈ r.cd, p.1 = p.2) ∧ Gives obS 1 r (obStep t) := by
  obtain ⟨T, n, i, P, R⟩ := t
  by_cases ok : obP T n i P R
  · rw [ob_go ok]
    clear hb
    unfold obNx
    obtain ⟨h1, h2, rfl, h4, rfl, h6⟩ := ok
    have hp0 := lenT_nn P
    have e0 : decide (0 ≤ i) = true := decide_eq_true h1
    have e1 : i < lenT T → IntKind.i64.wrap (i + 1) = i + 1 := fun _ => v64p (by omega) (by omega)
    have e2 : decide (i ≤ lenT T) = true := decide_eq_true h2
    have e3 := len_sub (T := T) (i := i) h4
    cases k0 : (decide (i < lenT T)) with
    | true =>
      cases k1 : (rqE (rowT T i) != 0) with
      | true =>
        rw [if_pos (of_decide_eq_true k0)]
        have hE : ¬ rqE (rowT T i) = 0 := by simpa using k1
        rw [if_neg hE]
        have L := obr_11 T (lenT T) i P T rest
        refine round_out L rfl (pickL_ok ?_ _) rfl rfl rfl
        repeat' (first | exact cd_nil | refine cd_cons ?_ ?_)
        all_goals first | rfl | with_reducible assumption
      | false =>
        cases k2 : ((List.drop (Int.toNat 0) (List.take i.toNat T)).all (npB (cel T i 0))) with
        | true =>
          cases k3 : (!inR (cel T i 1) 0 (IntKind.i64.wrap (lenT P - 1))) with
          | true =>
            rw [if_pos (of_decide_eq_true k0)]
            have hE : rqE (rowT T i) = 0 := by simpa using k1
            rw [if_pos hE]
            have hS : seenB kfR T i.toNat = false := by rw [seen_B, k2]; rfl
            rw [hS]
            rw [if_neg (by simp)]
            have hm : IntKind.i64.wrap (lenT P - 1) = lenT P - 1 := v64p (by omega) (by omega)
            have hI : inR (cel T i 1) 0 (lenT P - 1) = false := by rw [← hm]; simpa using k3
            have hP : pfR (lenT P) (rowT T i) = 8 := if_neg (by rw [show inR ((rowT T i).getD 1 0) 0 (lenT P - 1) = false from hI]; simp)
            rw [if_neg (by omega), hP]
            have L := obr_1011 T (lenT T) i P T rest
            refine round_out L rfl (pickL_ok ?_ _) rfl rfl rfl
            repeat' (first | exact cd_nil | refine cd_cons ?_ ?_)
            all_goals first | rfl | with_reducible assumption
          | false =>
            rw [if_pos (of_decide_eq_true k0)]
            have hE : rqE (rowT T i) = 0 := by simpa using k1
            rw [if_pos hE]
            have hS : seenB kfR T i.toNat = false := by rw [seen_B, k2]; rfl
            rw [hS]
            rw [if_neg (by simp)]
            have hm : IntKind.i64.wrap (lenT P - 1) = lenT P - 1 := v64p (by omega) (by omega)
            have hI : inR (cel T i 1) 0 (lenT P - 1) = true := by rw [← hm]; simpa using k3
            have hP : pfR (lenT P) (rowT T i) = 0 := if_pos (show inR ((rowT T i).getD 1 0) 0 (lenT P - 1) = true from hI)
            rw [if_pos hP]
            have L := ob_1010 T (lenT T) i P T rest
            rw [e1 (of_decide_eq_true k0)] at L
            refine round_go L (pickL_ok ?_ _) rfl rfl rfl rfl
            repeat' (first | exact cd_nil | refine cd_cons ?_ ?_)
            all_goals first | rfl | with_reducible assumption
        | false =>
          rw [if_pos (of_decide_eq_true k0)]
          have hE : rqE (rowT T i) = 0 := by simpa using k1
          rw [if_pos hE]
          have hS : seenB kfR T i.toNat = true := by rw [seen_B, k2]; rfl
          rw [hS]
          rw [if_pos rfl]
          have L := obr_100 T (lenT T) i P T rest
          refine round_out L rfl (pickL_ok ?_ _) rfl rfl rfl
          repeat' (first | exact cd_nil | refine cd_cons ?_ ?_)
          all_goals first | rfl | with_reducible assumption
    | false =>
      rw [if_neg (of_decide_eq_false k0)]
      have L := ob_0 T (lenT T) i P T rest
      refine round_out L rfl (pickL_ok ?_ _) rfl rfl rfl
      repeat' (first | exact cd_nil | refine cd_cons ?_ ?_)
      all_goals first | rfl | with_reducible assumption
  · exfalso
    have : obStep ⟨T, n, i, P, R⟩ = .bad := if_neg ok
    rw [this] at hb; cases hb
theorem ob_runs {T P : List (List Int)} (h : lenT T ≤ 9223372036854775807) (hp : lenT P ≤ 9223372036854775807) : ∀ (j i : Nat), i + j = T.length → ∃ c, runs obStep c ⟨T, lenT T, i, P, T⟩ =
    (if chE kfR rqE (pfR (lenT P)) T j i = 0 then some (.exit 4, obTm T (lenT T) (lenT T) P T, [⟨25, [.fv (.tab [some .i8, some .i64] P), .fv (.tab [some .i64, some .i64, some .i64, some .i64, some .i64, some .i64, some .i64, some .i64, some .i64, some .i64, some .i64, some .i64, some .i64] T)]⟩]) else some (.ret, [(2, .w (.one (.int .i64 (chE kfR rqE (pfR (lenT P)) T j i))))], [⟨25, [.fv (.tab [some .i8, some .i64] P), .fv (.tab [some .i64, some .i64, some .i64, some .i64, some .i64, some .i64, some .i64, some .i64, some .i64, some .i64, some .i64, some .i64, some .i64] T)]⟩]))
  | 0, i, hi => by
    have e : (i : Int) = lenT T := by unfold lenT; omega
    refine ⟨1, ?_⟩
    rw [runs, ob_go ⟨by omega, by omega, rfl, h, rfl, hp⟩]
    unfold obNx
    rw [if_neg (by omega), e]
    rfl
  | j + 1, i, hi => by
    have hl : (i : Int) < lenT T := by unfold lenT; omega
    have en : (i : Int).toNat = i := Int.toNat_natCast i
    by_cases g : rqE (rowT T i) = 0
    · by_cases g2 : seenB kfR T i = true
      · refine ⟨1, ?_⟩
        rw [runs, ob_go ⟨by omega, by omega, rfl, h, rfl, hp⟩]
        unfold obNx
        have e : chE kfR rqE (pfR (lenT P)) T (j + 1) i = 7 := by rw [chE, if_pos g, if_pos g2]
        rw [if_pos hl, if_pos g, en, if_pos g2, e]
        rfl
      · by_cases g3 : (pfR (lenT P)) (rowT T i) = 0
        · obtain ⟨c, hc⟩ := ob_runs h hp j (i + 1) (by omega)
          refine ⟨c + 1, ?_⟩
          rw [runs, ob_go ⟨by omega, by omega, rfl, h, rfl, hp⟩]
          unfold obNx
          have e : chE kfR rqE (pfR (lenT P)) T (j + 1) i = chE kfR rqE (pfR (lenT P)) T j (i + 1) := by rw [chE, if_pos g, if_neg g2, if_pos g3]
          rw [if_pos hl, if_pos g, en, if_neg g2, if_pos g3, e]
          exact hc
        · refine ⟨1, ?_⟩
          rw [runs, ob_go ⟨by omega, by omega, rfl, h, rfl, hp⟩]
          unfold obNx
          have e : chE kfR rqE (pfR (lenT P)) T (j + 1) i = (pfR (lenT P)) (rowT T i) := by rw [chE, if_pos g, if_neg g2, if_neg g3]
          rw [if_pos hl, if_pos g, en, if_neg g2, if_neg g3, e, if_neg g3]
    · refine ⟨1, ?_⟩
      rw [runs, ob_go ⟨by omega, by omega, rfl, h, rfl, hp⟩]
      unfold obNx
      have e : chE kfR rqE (pfR (lenT P)) T (j + 1) i = rqE (rowT T i) := by rw [chE, if_neg g]
      rw [if_pos hl, if_neg g, e, if_neg g]
def obD : LpDefR obT Tb where
  ts := [53, 54, 55]
  ps := [1]
  rs := []
  W := [1, 2, 8, 9, 10, 12, 53, 54, 55, 56, 57, 58, 59, 60, 61, 62, 63, 64, 65, 66, 67, 68, 69, 70, 71, 72, 73, 74, 75, 76, 77, 78, 79, 80, 81, 82, 83, 84, 85, 86, 87, 88]
  dec := fun vs tr ks => match vs, tr, ks with
    | [.w (.one (.fv (.tab [some .i64, some .i64, some .i64, some .i64, some .i64, some .i64, some .i64, some .i64, some .i64, some .i64, some .i64, some .i64, some .i64] T))), .w (.one (.int .i64 n)), .w (.one (.int .i64 i))], [], [⟨25, [.fv (.tab [some .i8, some .i64] P), .fv (.tab [some .i64, some .i64, some .i64, some .i64, some .i64, some .i64, some .i64, some .i64, some .i64, some .i64, some .i64, some .i64, some .i64] R)]⟩] => some ⟨T, n, i, P, R⟩
    | _, _, _ => none
  fk := fun t => some (decide (chE kfR rqE (pfR (lenT t.P)) t.T t.T.length 0 = 0))
  spec := fun t β => match β with
    | true => some (.exit 4, obTm t.T t.n t.n t.P t.R, [], [⟨25, [.fv (.tab [some .i8, some .i64] t.P), .fv (.tab [some .i64, some .i64, some .i64, some .i64, some .i64, some .i64, some .i64, some .i64, some .i64, some .i64, some .i64, some .i64, some .i64] t.R)]⟩], [(decide (t.i = 0) && decide (t.n = lenT t.T) && decide (t.n ≤ 9223372036854775807) && decide (t.T = t.R) && decide (lenT t.P ≤ 9223372036854775807), true)])
    | false => some (.ret, [(2, .w (.one (.int .i64 (chE kfR rqE (pfR (lenT t.P)) t.T t.T.length 0))))], [], [⟨25, [.fv (.tab [some .i8, some .i64] t.P), .fv (.tab [some .i64, some .i64, some .i64, some .i64, some .i64, some .i64, some .i64, some .i64, some .i64, some .i64, some .i64, some .i64, some .i64] t.R)]⟩], [(decide (t.i = 0) && decide (t.n = lenT t.T) && decide (t.n ≤ 9223372036854775807) && decide (t.T = t.R) && decide (lenT t.P ≤ 9223372036854775807), true)])
theorem obD_ok (x : Code) (hx : codeAt (bodyOf Tryd.f16) [false, true, false, true, true, true] = some (.loop x)) : LpOk Tryd.prog tbI 89 x (obD.sp (fun _ => true)) := by
  obtain rfl := loopAt_eq hx
  refine lpR_ok (c := ctxLp Tryd.prog tbI (fun _ => false) libE3 [] ibLps) (ctxLp_ok libE3_ok (eq_none _) (fns_nil _) (fun f fn h => by cases h)) (by kernel_rfl) (fun _ _ _ h => h) hx ibLps_ok (S := obS) (step := obStep) (fun _ _ => rfl) (by kernel_rfl) (by kernel_rfl) ?_ rfl (fun t e he => ?_) (fun t hb rest => ob_round t hb rest) ?_
  · intro vs tr ks s hv1 hv2 h hv3
    simp only [obD] at h
    split at h
    · cases h
      exact ⟨rfl, fun e he => .inl he⟩
    · cases h
  · simp only [obS, obTm, List.mem_cons, List.not_mem_nil, or_false] at he
    rcases he with rfl | rfl | rfl <;> rfl
  · intro s β ex outs rts wb cd h hfk hc
    obtain ⟨T, n, i, P, R⟩ := s
    have hβ := hfk _ rfl
    cases β with
    | true =>
      simp only [obD] at h hβ
      cases h
      have := c1x hc
      simp only [Bool.and_eq_true, decide_eq_true_eq] at this
      obtain ⟨⟨⟨⟨rfl, rfl⟩, h3⟩, rfl⟩, hp⟩ := this
      obtain ⟨c, hc⟩ := ob_runs (P := P) h3 hp T.length 0 (by omega)
      refine ⟨c, ?_⟩
      rw [if_pos (of_decide_eq_true hβ)] at hc
      exact hc
    | false =>
      simp only [obD] at h hβ
      cases h
      have := c1x hc
      simp only [Bool.and_eq_true, decide_eq_true_eq] at this
      obtain ⟨⟨⟨⟨rfl, rfl⟩, h3⟩, rfl⟩, hp⟩ := this
      obtain ⟨c, hc⟩ := ob_runs (P := P) h3 hp T.length 0 (by omega)
      refine ⟨c, ?_⟩
      rw [if_neg (of_decide_eq_false hβ)] at hc
      exact hc
theorem ca3p {a b c : Bool} {l : List (Bool × Bool)} (h : ∀ p ∈ (a, true) :: (b, true) :: (c, true) :: l, p.1 = p.2) : a = true ∧ b = true ∧ c = true := ⟨h (a, true) (by simp), h (b, true) (by simp), h (c, true) (by simp)⟩
set_option maxRecDepth 100000 in
theorem fcp_1 (T : List (List Int)) : evR (ctxLp Tryd.prog tbI (fun _ => false) libE1 [] maLps) Tryd.f45 [(.w (.one (.fv (.tab [some .i8, some .i64] T))))] [true] = some (AV.w (AW.one (AC.int IntKind.i64 0)), (pickL [(decide (chE kfP efP pf0 T T.length 0 = 0), true), (decide ((0 : Int) = 0) && decide (lenT T = lenT T) && decide (lenT T ≤ 9223372036854775807), true)] [0, 1])) := by kernel_rfl
set_option maxRecDepth 100000 in
theorem fcp_0 (T : List (List Int)) : evR (ctxLp Tryd.prog tbI (fun _ => false) libE1 [] maLps) Tryd.f45 [(.w (.one (.fv (.tab [some .i8, some .i64] T))))] [false] = some (AV.w (AW.one (AC.int IntKind.i64 (chE kfP efP pf0 T T.length 0))), (pickL [(decide (chE kfP efP pf0 T T.length 0 = 0), false), (decide ((0 : Int) = 0) && decide (lenT T = lenT T) && decide (lenT T ≤ 9223372036854775807), true)] [0, 1])) := by kernel_rfl
set_option maxHeartbeats 4000000 in
theorem gcp_ok : (factSp gcp).ok Tryd.prog tbI 45 :=
  factR_ok (ctxLp_ok libE1_ok (eq_none _) (fns_nil _) (fun f fn h => by cases h)) (by kernel_rfl) Tryd.func45 rfl maLps_ok fun args v cd hg hc => by
    unfold gcp at hg
    split at hg
    · rename_i T
      cases hg
      refine ⟨rfl, rfl, rfl, ?_⟩
      have hl := ca1p hc
      unfold lnB at hl
      have kq : (decide ((0 : Int) = 0) && decide (lenT T = lenT T) && decide (lenT T ≤ 9223372036854775807)) = true := by
        rw [hl, decide_eq_true (rfl : lenT T = lenT T)]; rfl
      cases k0 : (decide (chE kfP efP pf0 T T.length 0 = 0)) with
      | true =>
        have V : (cpE T) = (0) := by
          exact of_decide_eq_true k0
        refine ⟨[true], _, _, fcp_1 T, fun E u hu => by rw [V]; exact hu, pickL_ok ?_ _⟩
        repeat' (first | exact cd_nil | refine cd_cons ?_ ?_)
        all_goals first | rfl | with_reducible assumption

      | false =>
        have V : (cpE T) = ((chE kfP efP pf0 T T.length 0)) := by
          rfl
        refine ⟨[false], _, _, fcp_0 T, fun E u hu => by rw [V]; exact hu, pickL_ok ?_ _⟩
        repeat' (first | exact cd_nil | refine cd_cons ?_ ?_)
        all_goals first | rfl | with_reducible assumption

    · cases hg
set_option maxRecDepth 100000 in
theorem fcr_1 (U : List (List Int)) (m : Int) : evR (ctxLp Tryd.prog tbI (fun _ => false) libE2 [] mbLps) Tryd.f46 [(.w (.one (.fv (.tab [some .i64, some .i64, some .i64, some .i64, some .i64, some .i64, some .i64, some .i64, some .i64, some .i64, some .i64, some .i64, some .i64] U)))), (.w (.one (.int .i64 m)))] [true] = some (AV.w (AW.one (AC.int IntKind.i64 0)), (pickL [(decide (chE kfR rqE (pfR m) U U.length 0 = 0), true), (decide ((0 : Int) = 0) && decide (lenT U = lenT U) && decide (lenT U ≤ 9223372036854775807) && decide ((0 : Int) ≤ m) && decide (m ≤ 9223372036854775807), true)] [0, 1])) := by kernel_rfl
set_option maxRecDepth 100000 in
theorem fcr_0 (U : List (List Int)) (m : Int) : evR (ctxLp Tryd.prog tbI (fun _ => false) libE2 [] mbLps) Tryd.f46 [(.w (.one (.fv (.tab [some .i64, some .i64, some .i64, some .i64, some .i64, some .i64, some .i64, some .i64, some .i64, some .i64, some .i64, some .i64, some .i64] U)))), (.w (.one (.int .i64 m)))] [false] = some (AV.w (AW.one (AC.int IntKind.i64 (chE kfR rqE (pfR m) U U.length 0))), (pickL [(decide (chE kfR rqE (pfR m) U U.length 0 = 0), false), (decide ((0 : Int) = 0) && decide (lenT U = lenT U) && decide (lenT U ≤ 9223372036854775807) && decide ((0 : Int) ≤ m) && decide (m ≤ 9223372036854775807), true)] [0, 1])) := by kernel_rfl
set_option maxHeartbeats 4000000 in
theorem gcr_ok : (factSp gcr).ok Tryd.prog tbI 46 :=
  factR_ok (ctxLp_ok libE2_ok (eq_none _) (fns_nil _) (fun f fn h => by cases h)) (by kernel_rfl) Tryd.func46 rfl mbLps_ok fun args v cd hg hc => by
    unfold gcr at hg
    split at hg
    · rename_i U m
      cases hg
      refine ⟨rfl, rfl, rfl, ?_⟩
      obtain ⟨hl, hm0, hm1⟩ := ca3p hc
      unfold lnB at hl
      have kq : (decide ((0 : Int) = 0) && decide (lenT U = lenT U) && decide (lenT U ≤ 9223372036854775807) && decide ((0 : Int) ≤ m) && decide (m ≤ 9223372036854775807)) = true := by
        rw [hl, hm0, hm1, decide_eq_true (rfl : lenT U = lenT U)]; rfl
      cases k0 : (decide (chE kfR rqE (pfR m) U U.length 0 = 0)) with
      | true =>
        have V : (crE U m) = (0) := by
          exact of_decide_eq_true k0
        refine ⟨[true], _, _, fcr_1 U m, fun E u hu => by rw [V]; exact hu, pickL_ok ?_ _⟩
        repeat' (first | exact cd_nil | refine cd_cons ?_ ?_)
        all_goals first | rfl | with_reducible assumption

      | false =>
        have V : (crE U m) = ((chE kfR rqE (pfR m) U U.length 0)) := by
          rfl
        refine ⟨[false], _, _, fcr_0 U m, fun E u hu => by rw [V]; exact hu, pickL_ok ?_ _⟩
        repeat' (first | exact cd_nil | refine cd_cons ?_ ?_)
        all_goals first | rfl | with_reducible assumption

    · cases hg
noncomputable abbrev libF1 : List (Nat × FnSp Tb) := [(45, factSp gcp), (46, factSp gcr)]
theorem libF1_ok : LibOk Tryd.prog tbI (lib1 libF1) := (lib1_cons gcp_ok Tryd.call45 (lib1_cons gcr_ok Tryd.call46 (lib1_nil _ _)))
set_option maxRecDepth 100000 in
theorem fck_1 (T : List (List Int)) (U : List (List Int)) : evR (ctxOf Tryd.prog tbI (fun _ => false) libF1) Tryd.f15 [(.w (.agg [.fv (.tab [some .i8, some .i64] T), .fv (.tab [some .i64, some .i64, some .i64, some .i64, some .i64, some .i64, some .i64, some .i64, some .i64, some .i64, some .i64, some .i64, some .i64] U)]))] [true] = some (AV.w (AW.one (AC.int IntKind.i64 2)), (pickL [(decide (lenT T > 6), true), (true, true)] [0, 0, 0, 0, 0, 1])) := by kernel_rfl
set_option maxRecDepth 100000 in
theorem fck_01 (T : List (List Int)) (U : List (List Int)) : evR (ctxOf Tryd.prog tbI (fun _ => false) libF1) Tryd.f15 [(.w (.agg [.fv (.tab [some .i8, some .i64] T), .fv (.tab [some .i64, some .i64, some .i64, some .i64, some .i64, some .i64, some .i64, some .i64, some .i64, some .i64, some .i64, some .i64, some .i64] U)]))] [false, true] = some (AV.w (AW.one (AC.int IntKind.i64 2)), (pickL [(decide (lenT T > 6), false), (decide (lenT U > 16), true)] [0, 0, 0, 0, 0, 1])) := by kernel_rfl
set_option maxRecDepth 100000 in
theorem fck_001 (T : List (List Int)) (U : List (List Int)) : evR (ctxOf Tryd.prog tbI (fun _ => false) libF1) Tryd.f15 [(.w (.agg [.fv (.tab [some .i8, some .i64] T), .fv (.tab [some .i64, some .i64, some .i64, some .i64, some .i64, some .i64, some .i64, some .i64, some .i64, some .i64, some .i64, some .i64, some .i64] U)]))] [false, false, true] = some (AV.w (AW.one (AC.int IntKind.i64 (cpE T))), (pickL [(decide (lenT T > 6), false), (decide (lenT U > 16), false), (lnB T, true), (cpE T != 0, true)] [0, 0, 0, 0, 0, 1, 2, 3])) := by kernel_rfl
set_option maxRecDepth 100000 in
theorem fck_000 (T : List (List Int)) (U : List (List Int)) : evR (ctxOf Tryd.prog tbI (fun _ => false) libF1) Tryd.f15 [(.w (.agg [.fv (.tab [some .i8, some .i64] T), .fv (.tab [some .i64, some .i64, some .i64, some .i64, some .i64, some .i64, some .i64, some .i64, some .i64, some .i64, some .i64, some .i64, some .i64] U)]))] [false, false, false] = some (AV.w (AW.one (AC.int IntKind.i64 (crE U (lenT T)))), (pickL [(decide (lenT T > 6), false), (decide (lenT U > 16), false), (lnB T, true), (cpE T != 0, false), (lnB U, true), (decide ((0 : Int) ≤ lenT T), true), (decide (lenT T ≤ 9223372036854775807), true)] [0, 0, 0, 0, 0, 1, 2, 3, 4, 5, 6])) := by kernel_rfl
set_option maxHeartbeats 4000000 in
theorem gck_ok : (factSp gpg).ok Tryd.prog tbI 15 :=
  factR_ok (ctxOf_ok libF1_ok (eq_none _)) (by kernel_rfl) Tryd.func15 rfl lps_nil fun args v cd hg hc => by
    unfold gpg at hg
    split at hg
    · rename_i T U
      cases hg
      refine ⟨rfl, rfl, rfl, ?_⟩
      obtain ⟨hl, hu⟩ := c2p hc
      have hl' := hl
      unfold lnB at hl'
      have h0 : decide ((0 : Int) ≤ lenT T) = true := decide_eq_true (lenT_nn T)
      cases k0 : (decide (lenT T > 6)) with
      | true =>
        have V : (pgE T U) = (2) := by
          clear hl hu hl' h0
          unfold pgE
          simp only [beq_iff_eq, beq_eq_false_iff_ne, ne_eq, bne_iff_ne, bne_eq_false_iff_eq, decide_eq_true_eq, decide_eq_false_iff_not, Bool.not_eq_true', Bool.not_eq_false', gt_iff_lt] at *
          exact if_pos (.inl (by omega))
        refine ⟨[true], _, _, fck_1 T U, fun E u hu => by rw [V]; exact hu, pickL_ok ?_ _⟩
        repeat' (first | exact cd_nil | refine cd_cons ?_ ?_)
        all_goals first | rfl | with_reducible assumption

      | false =>
        cases k1 : (decide (lenT U > 16)) with
        | true =>
          have V : (pgE T U) = (2) := by
            clear hl hu hl' h0
            unfold pgE
            simp only [beq_iff_eq, beq_eq_false_iff_ne, ne_eq, bne_iff_ne, bne_eq_false_iff_eq, decide_eq_true_eq, decide_eq_false_iff_not, Bool.not_eq_true', Bool.not_eq_false', gt_iff_lt] at *
            exact if_pos (.inr (by omega))
          refine ⟨[false, true], _, _, fck_01 T U, fun E u hu => by rw [V]; exact hu, pickL_ok ?_ _⟩
          repeat' (first | exact cd_nil | refine cd_cons ?_ ?_)
          all_goals first | rfl | with_reducible assumption

        | false =>
          cases k2 : (cpE T != 0) with
          | true =>
            have V : (pgE T U) = ((cpE T)) := by
              clear hl hu hl' h0
              unfold pgE
              simp only [beq_iff_eq, beq_eq_false_iff_ne, ne_eq, bne_iff_ne, bne_eq_false_iff_eq, decide_eq_true_eq, decide_eq_false_iff_not, Bool.not_eq_true', Bool.not_eq_false', gt_iff_lt] at *
              rw [if_neg (by omega)]
              exact if_neg (by simp_all)
            refine ⟨[false, false, true], _, _, fck_001 T U, fun E u hu => by rw [V]; exact hu, pickL_ok ?_ _⟩
            repeat' (first | exact cd_nil | refine cd_cons ?_ ?_)
            all_goals first | rfl | with_reducible assumption

          | false =>
            have V : (pgE T U) = ((crE U (lenT T))) := by
              clear hl hu hl' h0
              unfold pgE
              simp only [beq_iff_eq, beq_eq_false_iff_ne, ne_eq, bne_iff_ne, bne_eq_false_iff_eq, decide_eq_true_eq, decide_eq_false_iff_not, Bool.not_eq_true', Bool.not_eq_false', gt_iff_lt] at *
              rw [if_neg (by omega)]
              exact if_pos (by simp_all)
            refine ⟨[false, false, false], _, _, fck_000 T U, fun E u hu => by rw [V]; exact hu, pickL_ok ?_ _⟩
            repeat' (first | exact cd_nil | refine cd_cons ?_ ?_)
            all_goals first | rfl | with_reducible assumption

    · cases hg
end
end Go.Proofs.YtbnlpcmnkcaemaaDoor.AtPr

