/-
  Package prop: Find and IndexOf as functions; the walk of the law PropChecks.
  Conditions: those of each theorem.
-/
import Derived.Test.YtbnlpcmnkcaemaaDoorPG
import Derived.Test.YtbnlpcmnkcaemaaDoorGO
import Derived.Test.YtbnlpcmnkcaemaaDoorPA
set_option linter.unusedVariables false
set_option linter.unusedSimpArgs false
namespace Go.Proofs.YtbnlpcmnkcaemaaDoor.AtPr
open Go.RowKit Ev Wd AtRt AtHz
open Go.Proofs.YtbnlpcmnkcaemaaDoor
noncomputable section

noncomputable abbrev fiLps : Lps Tb := [((22, [false, true, false, true]), faD.sp (fun _ => true))]
noncomputable abbrev ixLps : Lps Tb := [((21, [false, true, false, true]), fbD.sp (fun _ => true))]
theorem fiLps_ok : LpsOk Tryd.prog tbI fiLps Tryd.f17.ntmps (bodyOf Tryd.f17) := lps_cons (fun _ x hx => faD_ok x hx) lps_nil
theorem ixLps_ok : LpsOk Tryd.prog tbI ixLps Tryd.f18.ntmps (bodyOf Tryd.f18) := lps_cons (fun _ x hx => fbD_ok x hx) lps_nil
theorem sltl_pl (l : List Int) : Pl Tryd.prog 19 [.agg #[.int .i64 (rq l 0), .int .i64 (rq l 1), .int .i64 (rq l 2), .int .i64 (rq l 3), .int .i64 (rq l 4), .int .i64 (rq l 5), .int .i64 (rq l 6), .int .i64 (rq l 7), .int .i64 (rq l 8), .int .i64 (rq l 9), .int .i64 (rq l 10), .int .i64 (rq l 11), .int .i64 (rq l 12)]] (.int .i64 (sltE l)) := slt_pl (rq l 0) (rq l 1) (rq l 2) (rq l 3) (rq l 4) (rq l 5) (rq l 6) (rq l 7) (rq l 8) (rq l 9) (rq l 10) (rq l 11) (rq l 12)
theorem fi_c {U : List (List Int)} {d : Int} (o : Nat) (h : ¬ fi U d < 0) : fiC U d o = cel U (fi U d) o := if_neg h
theorem fi_0 {U : List (List Int)} {d : Int} (o : Nat) (h : fi U d < 0) : fiC U d o = 0 := if_pos h
theorem fi_lt (U : List (List Int)) (d : Int) : fi U d < lenT U ∨ fi U d < 0 := by
  have : ∀ (j i : Nat), fiI U d j i < (i : Int) + j ∨ fiI U d j i < 0 := by
    intro j
    induction j with
    | zero => intro i; right; unfold fiI; omega
    | succ j ih =>
      intro i
      unfold fiI
      split
      · left; omega
      · rcases ih (i + 1) with h | h
        · left; omega
        · right; exact h
  have := this U.length 0
  unfold fi lenT
  omega
theorem fi_m1 (U : List (List Int)) (d : Int) : fi U d = -1 ∨ 0 ≤ fi U d := by
  have : ∀ (j i : Nat), fiI U d j i = -1 ∨ 0 ≤ fiI U d j i := by
    intro j
    induction j with
    | zero => intro i; left; rfl
    | succ j ih =>
      intro i
      unfold fiI
      split
      · right; omega
      · exact ih (i + 1)
  exact this U.length 0
theorem rq_R {E : Env Tb} {xs : List (AC Tb)} {b : Bool} {u : Value} (h : AV.R E (.tup [.agg xs, .one (.yes b)]) u) : AV.R E (.tup [.agg xs, .one (.bool b)]) u := by
  obtain ⟨vs, rfl, h2⟩ := h
  cases h2 with | cons h0 h1 => ?_
  cases h1 with | cons a h1 => ?_
  cases h1
  exact ⟨_, rfl, .cons h0 (.cons a .nil)⟩
set_option maxRecDepth 100000 in
theorem fix_1 (T : List (List Int)) (U : List (List Int)) (d : Int) : evR (ctxLp Tryd.prog tbI (fun _ => false) [] [] ixLps) Tryd.f18 [(.w (.agg [.fv (.tab [some .i8, some .i64] T), .fv (.tab [some .i64, some .i64, some .i64, some .i64, some .i64, some .i64, some .i64, some .i64, some .i64, some .i64, some .i64, some .i64, some .i64] U)])), (.w (.one (.int .i64 d)))] [true] = some (AV.w (AW.one (AC.int IntKind.i64 (-1))), (pickL [(decide (fi U d < 0), true), (decide ((0 : Int) = 0) && decide (lenT U = lenT U) && decide (lenT U ≤ 9223372036854775807), true)] [0, 1])) := by kernel_rfl
set_option maxRecDepth 100000 in
theorem fix_0 (T : List (List Int)) (U : List (List Int)) (d : Int) : evR (ctxLp Tryd.prog tbI (fun _ => false) [] [] ixLps) Tryd.f18 [(.w (.agg [.fv (.tab [some .i8, some .i64] T), .fv (.tab [some .i64, some .i64, some .i64, some .i64, some .i64, some .i64, some .i64, some .i64, some .i64, some .i64, some .i64, some .i64, some .i64] U)])), (.w (.one (.int .i64 d)))] [false] = some (AV.w (AW.one (AC.int IntKind.i64 (fi U d))), (pickL [(decide (fi U d < 0), false), (decide ((0 : Int) = 0) && decide (lenT U = lenT U) && decide (lenT U ≤ 9223372036854775807), true)] [0, 1])) := by kernel_rfl
set_option maxHeartbeats 4000000 in
theorem gix_ok : (factSp gix).ok Tryd.prog tbI 18 :=
  factR_ok (ctxLp_ok (lib1_nil _ _) (eq_none _) (fns_nil _) (fun f fn h => by cases h)) (by kernel_rfl) Tryd.func18 rfl ixLps_ok fun args v cd hg hc => by
    unfold gix at hg
    split at hg
    · rename_i T U d
      cases hg
      refine ⟨rfl, rfl, rfl, ?_⟩
      have hl := c1x hc
      unfold lnB at hl
      have kq : (decide ((0 : Int) = 0) && decide (lenT U = lenT U) && decide (lenT U ≤ 9223372036854775807)) = true := by
        rw [hl, decide_eq_true (rfl : lenT U = lenT U)]; rfl
      cases k0 : (decide (fi U d < 0)) with
      | true =>
        have V : (fi U d) = ((-1)) := by
          clear hl kq
          simp only [beq_iff_eq, beq_eq_false_iff_ne, ne_eq, bne_iff_ne, bne_eq_false_iff_eq, decide_eq_true_eq, decide_eq_false_iff_not, Bool.not_eq_true', Bool.not_eq_false'] at *
          rcases fi_m1 U d with h | h
          · exact h
          · omega
        refine ⟨[true], _, _, fix_1 T U d, fun E u hu => by rw [V]; exact hu, pickL_ok ?_ _⟩
        repeat' (first | exact cd_nil | refine cd_cons ?_ ?_)
        all_goals first | rfl | with_reducible assumption

      | false =>
        have V : (fi U d) = ((fi U d)) := by
          rfl
        refine ⟨[false], _, _, fix_0 T U d, fun E u hu => by rw [V]; exact hu, pickL_ok ?_ _⟩
        repeat' (first | exact cd_nil | refine cd_cons ?_ ?_)
        all_goals first | rfl | with_reducible assumption

    · cases hg
set_option maxRecDepth 100000 in
theorem ffi_1 (T : List (List Int)) (U : List (List Int)) (d : Int) : evR (ctxLp Tryd.prog tbI (fun _ => false) [] [] fiLps) Tryd.f17 [(.w (.agg [.fv (.tab [some .i8, some .i64] T), .fv (.tab [some .i64, some .i64, some .i64, some .i64, some .i64, some .i64, some .i64, some .i64, some .i64, some .i64, some .i64, some .i64, some .i64] U)])), (.w (.one (.int .i64 d)))] [true] = some (AV.tup [AW.agg [AC.int IntKind.i64 0, AC.int IntKind.i64 0, AC.int IntKind.i64 0, AC.int IntKind.i64 0, AC.int IntKind.i64 0, AC.int IntKind.i64 0, AC.int IntKind.i64 0, AC.int IntKind.i64 0, AC.int IntKind.i64 0, AC.int IntKind.i64 0, AC.int IntKind.i64 0, AC.int IntKind.i64 0, AC.int IntKind.i64 0], AW.one (AC.yes false)], (pickL [(decide (fi U d < 0), true), (decide ((0 : Int) = 0) && decide (lenT U = lenT U) && decide (lenT U ≤ 9223372036854775807), true)] [0, 1])) := by kernel_rfl
set_option maxRecDepth 100000 in
theorem ffi_0 (T : List (List Int)) (U : List (List Int)) (d : Int) : evR (ctxLp Tryd.prog tbI (fun _ => false) [] [] fiLps) Tryd.f17 [(.w (.agg [.fv (.tab [some .i8, some .i64] T), .fv (.tab [some .i64, some .i64, some .i64, some .i64, some .i64, some .i64, some .i64, some .i64, some .i64, some .i64, some .i64, some .i64, some .i64] U)])), (.w (.one (.int .i64 d)))] [false] = some (AV.tup [AW.agg [AC.int IntKind.i64 (cel U (fi U d) 0), AC.int IntKind.i64 (cel U (fi U d) 1), AC.int IntKind.i64 (cel U (fi U d) 2), AC.int IntKind.i64 (cel U (fi U d) 3), AC.int IntKind.i64 (cel U (fi U d) 4), AC.int IntKind.i64 (cel U (fi U d) 5), AC.int IntKind.i64 (cel U (fi U d) 6), AC.int IntKind.i64 (cel U (fi U d) 7), AC.int IntKind.i64 (cel U (fi U d) 8), AC.int IntKind.i64 (cel U (fi U d) 9), AC.int IntKind.i64 (cel U (fi U d) 10), AC.int IntKind.i64 (cel U (fi U d) 11), AC.int IntKind.i64 (cel U (fi U d) 12)], AW.one (AC.yes true)], (pickL [(decide (fi U d < 0), false), (decide ((0 : Int) = 0) && decide (lenT U = lenT U) && decide (lenT U ≤ 9223372036854775807), true)] [0, 1])) := by kernel_rfl
set_option maxHeartbeats 4000000 in
theorem gfi_ok : (factSp gfi).ok Tryd.prog tbI 17 :=
  factR_ok (ctxLp_ok (lib1_nil _ _) (eq_none _) (fns_nil _) (fun f fn h => by cases h)) (by kernel_rfl) Tryd.func17 rfl fiLps_ok fun args v cd hg hc => by
    unfold gfi at hg
    split at hg
    · rename_i T U d
      cases hg
      refine ⟨rfl, rfl, rfl, ?_⟩
      have hl := c1x hc
      unfold lnB at hl
      have kq : (decide ((0 : Int) = 0) && decide (lenT U = lenT U) && decide (lenT U ≤ 9223372036854775807)) = true := by
        rw [hl, decide_eq_true (rfl : lenT U = lenT U)]; rfl
      cases k0 : (decide (fi U d < 0)) with
      | true =>
        have hf := of_decide_eq_true k0
        have hb : decide (0 ≤ fi U d) = false := decide_eq_false (by omega)
        simp only [fi_0 _ hf, hb]
        refine ⟨[true], _, _, ffi_1 T U d, fun E u hu => rq_R hu, pickL_ok ?_ _⟩
        repeat' (first | exact cd_nil | refine cd_cons ?_ ?_)
        all_goals first | rfl | with_reducible assumption

      | false =>
        have hf := of_decide_eq_false k0
        have hb : decide (0 ≤ fi U d) = true := decide_eq_true (by omega)
        simp only [fi_c _ hf, hb]
        refine ⟨[false], _, _, ffi_0 T U d, fun E u hu => rq_R hu, pickL_ok ?_ _⟩
        repeat' (first | exact cd_nil | refine cd_cons ?_ ?_)
        all_goals first | rfl | with_reducible assumption

    · cases hg
noncomputable abbrev libH1 : List (Nat × FnSp Tb) := [(8, sp0 (aBool true)), (9, namS), (10, namS), (11, prS), (12, prS), (13, rqS), (14, rqS), (15, factSp gpg), (16, factSp gpg), (17, factSp gfi), (18, factSp gix), (19, slS)]
theorem libH1_ok : LibOk Tryd.prog tbI (lib1 libH1) := (lib1_cons (sp0_ok rfl props_pl) Tryd.call8 (lib1_cons (sp1_ok fun s _ => ⟨_, rfl, nam_pl s⟩) Tryd.call9 (lib1_cons (sp1_ok fun s _ => ⟨_, rfl, nao_pl s⟩) Tryd.call10 (lib1_cons (sp1_ok fun p _ => ⟨_, rfl, cpr_pl p.1 p.2⟩) Tryd.call11 (lib1_cons (sp1_ok fun p _ => ⟨_, rfl, prf_pl p.1 p.2⟩) Tryd.call12 (lib1_cons (sp1_ok fun l _ => ⟨_, rfl, crql_pl l⟩) Tryd.call13 (lib1_cons (sp1_ok fun l _ => ⟨_, rfl, rrfl_pl l⟩) Tryd.call14 (lib1_cons gck_ok Tryd.call15 (lib1_cons gpf_ok Tryd.call16 (lib1_cons gfi_ok Tryd.call17 (lib1_cons gix_ok Tryd.call18 (lib1_cons (sp1_ok fun l _ => ⟨_, rfl, sltl_pl l⟩) Tryd.call19 (lib1_nil _ _)))))))))))))
theorem eqR_ok : EqOk Tryd.prog (tabOf Tryd.prog) (fun t => Nat.beq t 32 || Nat.beq t 29) := eq_of fun t ht => by
  rcases Bool.or_eq_true_iff.1 ht with h | h
  · have := Nat.eq_of_beq_eq_true h
    subst this
    exact ⟨by kernel_rfl, by kernel_rfl, by kernel_rfl⟩
  · have := Nat.eq_of_beq_eq_true h
    subst this
    exact ⟨by kernel_rfl, by kernel_rfl, by kernel_rfl⟩
theorem len_of {W : World} {u : Value} {ks : List (Option IntKind)} {T : List (List Int)} (hu : tabHv (fun _ _ => False) W u ks T) : decide (lenT T ≤ 9223372036854775807) = true := by
  obtain ⟨p, cap, _, h1, h2, _⟩ := hu
  unfold lenT
  have : maxLen = 9223372036854775807 := by decide
  exact decide_eq_true (by omega)
theorem sl_want (q0 q1 q2 q3 q4 q5 q6 q7 q8 q9 q10 q11 q12 : Int) : sltE [q0, q1, q2, q3, q4, q5, q6, q7, q8, q9, q10, q11, q12] = if rqE [q0, q1, q2, q3, q4, q5, q6, q7, q8, q9, q10, q11, q12] = 0 then IntKind.i64.wrap (q5 * q6) else 0 := by
  rw [Int.mul_comm q5 q6]; rfl
set_option maxRecDepth 100000 in
theorem pch_000001001 (T : List (List Int)) (U : List (List Int)) (s : ByteArray) (w : Int) (q0 : Int) (q1 : Int) (q2 : Int) (q3 : Int) (q4 : Int) (q5 : Int) (q6 : Int) (q7 : Int) (q8 : Int) (q9 : Int) (q10 : Int) (q11 : Int) (q12 : Int) (d : Int) : evR (ctxOf Tryd.prog tbI (fun t => Nat.beq t 32 || Nat.beq t 29) libH1) Tryd.f3 [(.w (.agg [.fv (.tab [some .i8, some .i64] T), .fv (.tab [some .i64, some .i64, some .i64, some .i64, some .i64, some .i64, some .i64, some .i64, some .i64, some .i64, some .i64, some .i64, some .i64] U)])), (.w (.agg [.lit (.string s), .int .i64 w])), (.w (.agg [.int .i64 q0, .int .i64 q1, .int .i64 q2, .int .i64 q3, .int .i64 q4, .int .i64 q5, .int .i64 q6, .int .i64 q7, .int .i64 q8, .int .i64 q9, .int .i64 q10, .int .i64 q11, .int .i64 q12])), (.w (.one (.int .i64 d)))] [false, false, false, false, false, true, false, false, true] = some (AV.w (AW.one (AC.bool (fiC U d 0 == 0 && (fiC U d 1 == 0 && (fiC U d 2 == 0 && (fiC U d 3 == 0 && (fiC U d 4 == 0 && (fiC U d 5 == 0 && (fiC U d 6 == 0 && (fiC U d 7 == 0 && (fiC U d 8 == 0 && (fiC U d 9 == 0 && (fiC U d 10 == 0 && (fiC U d 11 == 0 && (fiC U d 12 == 0 && true))))))))))))))), (pickL [(!true, false), (!nmB s == nmB s, false), (prE s w != prE s w, false), (rqE [q0, q1, q2, q3, q4, q5, q6, q7, q8, q9, q10, q11, q12] != rqE [q0, q1, q2, q3, q4, q5, q6, q7, q8, q9, q10, q11, q12], false), (lnB T, true), (lnB U, true), (pgE T U != pgE T U, false), (rqE [q0, q1, q2, q3, q4, q5, q6, q7, q8, q9, q10, q11, q12] == 0, true), (!decide ((0 : Int) ≤ fi U d) == decide (fi U d ≥ 0), false), (sltE [q0, q1, q2, q3, q4, q5, q6, q7, q8, q9, q10, q11, q12] != IntKind.i64.wrap (q5 * q6), false), (decide (fi U d < 0), true)] [0, 1, 1, 1, 1, 1, 1, 2, 2, 2, 2, 2, 2, 3, 3, 4, 5, 3, 3, 4, 5, 3, 3, 6, 7, 5, 5, 8, 8, 8, 8, 8, 9, 10])) := by kernel_rfl
set_option maxRecDepth 100000 in
theorem pch_000001000 (T : List (List Int)) (U : List (List Int)) (s : ByteArray) (w : Int) (q0 : Int) (q1 : Int) (q2 : Int) (q3 : Int) (q4 : Int) (q5 : Int) (q6 : Int) (q7 : Int) (q8 : Int) (q9 : Int) (q10 : Int) (q11 : Int) (q12 : Int) (d : Int) : evR (ctxOf Tryd.prog tbI (fun t => Nat.beq t 32 || Nat.beq t 29) libH1) Tryd.f3 [(.w (.agg [.fv (.tab [some .i8, some .i64] T), .fv (.tab [some .i64, some .i64, some .i64, some .i64, some .i64, some .i64, some .i64, some .i64, some .i64, some .i64, some .i64, some .i64, some .i64] U)])), (.w (.agg [.lit (.string s), .int .i64 w])), (.w (.agg [.int .i64 q0, .int .i64 q1, .int .i64 q2, .int .i64 q3, .int .i64 q4, .int .i64 q5, .int .i64 q6, .int .i64 q7, .int .i64 q8, .int .i64 q9, .int .i64 q10, .int .i64 q11, .int .i64 q12])), (.w (.one (.int .i64 d)))] [false, false, false, false, false, true, false, false, false] = some (AV.w (AW.one (AC.bool (fiC U d 0 == cel U (fi U d) 0 && (fiC U d 1 == cel U (fi U d) 1 && (fiC U d 2 == cel U (fi U d) 2 && (fiC U d 3 == cel U (fi U d) 3 && (fiC U d 4 == cel U (fi U d) 4 && (fiC U d 5 == cel U (fi U d) 5 && (fiC U d 6 == cel U (fi U d) 6 && (fiC U d 7 == cel U (fi U d) 7 && (fiC U d 8 == cel U (fi U d) 8 && (fiC U d 9 == cel U (fi U d) 9 && (fiC U d 10 == cel U (fi U d) 10 && (fiC U d 11 == cel U (fi U d) 11 && (fiC U d 12 == cel U (fi U d) 12 && true))))))))))))))), (pickL [(!true, false), (!nmB s == nmB s, false), (prE s w != prE s w, false), (rqE [q0, q1, q2, q3, q4, q5, q6, q7, q8, q9, q10, q11, q12] != rqE [q0, q1, q2, q3, q4, q5, q6, q7, q8, q9, q10, q11, q12], false), (lnB T, true), (lnB U, true), (pgE T U != pgE T U, false), (rqE [q0, q1, q2, q3, q4, q5, q6, q7, q8, q9, q10, q11, q12] == 0, true), (!decide ((0 : Int) ≤ fi U d) == decide (fi U d ≥ 0), false), (sltE [q0, q1, q2, q3, q4, q5, q6, q7, q8, q9, q10, q11, q12] != IntKind.i64.wrap (q5 * q6), false), (decide (fi U d < 0), false), (decide ((0 : Int) ≤ fi U d), true), (decide (fi U d < lenT U), true)] [0, 1, 1, 1, 1, 1, 1, 2, 2, 2, 2, 2, 2, 3, 3, 4, 5, 3, 3, 4, 5, 3, 3, 6, 7, 5, 5, 8, 8, 8, 8, 8, 9, 10, 11, 12, 11, 12])) := by kernel_rfl
set_option maxRecDepth 100000 in
theorem pch_000000001 (T : List (List Int)) (U : List (List Int)) (s : ByteArray) (w : Int) (q0 : Int) (q1 : Int) (q2 : Int) (q3 : Int) (q4 : Int) (q5 : Int) (q6 : Int) (q7 : Int) (q8 : Int) (q9 : Int) (q10 : Int) (q11 : Int) (q12 : Int) (d : Int) : evR (ctxOf Tryd.prog tbI (fun t => Nat.beq t 32 || Nat.beq t 29) libH1) Tryd.f3 [(.w (.agg [.fv (.tab [some .i8, some .i64] T), .fv (.tab [some .i64, some .i64, some .i64, some .i64, some .i64, some .i64, some .i64, some .i64, some .i64, some .i64, some .i64, some .i64, some .i64] U)])), (.w (.agg [.lit (.string s), .int .i64 w])), (.w (.agg [.int .i64 q0, .int .i64 q1, .int .i64 q2, .int .i64 q3, .int .i64 q4, .int .i64 q5, .int .i64 q6, .int .i64 q7, .int .i64 q8, .int .i64 q9, .int .i64 q10, .int .i64 q11, .int .i64 q12])), (.w (.one (.int .i64 d)))] [false, false, false, false, false, false, false, false, true] = some (AV.w (AW.one (AC.bool (fiC U d 0 == 0 && (fiC U d 1 == 0 && (fiC U d 2 == 0 && (fiC U d 3 == 0 && (fiC U d 4 == 0 && (fiC U d 5 == 0 && (fiC U d 6 == 0 && (fiC U d 7 == 0 && (fiC U d 8 == 0 && (fiC U d 9 == 0 && (fiC U d 10 == 0 && (fiC U d 11 == 0 && (fiC U d 12 == 0 && true))))))))))))))), (pickL [(!true, false), (!nmB s == nmB s, false), (prE s w != prE s w, false), (rqE [q0, q1, q2, q3, q4, q5, q6, q7, q8, q9, q10, q11, q12] != rqE [q0, q1, q2, q3, q4, q5, q6, q7, q8, q9, q10, q11, q12], false), (lnB T, true), (lnB U, true), (pgE T U != pgE T U, false), (rqE [q0, q1, q2, q3, q4, q5, q6, q7, q8, q9, q10, q11, q12] == 0, false), (!decide ((0 : Int) ≤ fi U d) == decide (fi U d ≥ 0), false), (sltE [q0, q1, q2, q3, q4, q5, q6, q7, q8, q9, q10, q11, q12] != 0, false), (decide (fi U d < 0), true)] [0, 1, 1, 1, 1, 1, 1, 2, 2, 2, 2, 2, 2, 3, 3, 4, 5, 3, 3, 4, 5, 3, 3, 6, 7, 5, 5, 8, 8, 8, 8, 8, 9, 10])) := by kernel_rfl
set_option maxRecDepth 100000 in
theorem pch_000000000 (T : List (List Int)) (U : List (List Int)) (s : ByteArray) (w : Int) (q0 : Int) (q1 : Int) (q2 : Int) (q3 : Int) (q4 : Int) (q5 : Int) (q6 : Int) (q7 : Int) (q8 : Int) (q9 : Int) (q10 : Int) (q11 : Int) (q12 : Int) (d : Int) : evR (ctxOf Tryd.prog tbI (fun t => Nat.beq t 32 || Nat.beq t 29) libH1) Tryd.f3 [(.w (.agg [.fv (.tab [some .i8, some .i64] T), .fv (.tab [some .i64, some .i64, some .i64, some .i64, some .i64, some .i64, some .i64, some .i64, some .i64, some .i64, some .i64, some .i64, some .i64] U)])), (.w (.agg [.lit (.string s), .int .i64 w])), (.w (.agg [.int .i64 q0, .int .i64 q1, .int .i64 q2, .int .i64 q3, .int .i64 q4, .int .i64 q5, .int .i64 q6, .int .i64 q7, .int .i64 q8, .int .i64 q9, .int .i64 q10, .int .i64 q11, .int .i64 q12])), (.w (.one (.int .i64 d)))] [false, false, false, false, false, false, false, false, false] = some (AV.w (AW.one (AC.bool (fiC U d 0 == cel U (fi U d) 0 && (fiC U d 1 == cel U (fi U d) 1 && (fiC U d 2 == cel U (fi U d) 2 && (fiC U d 3 == cel U (fi U d) 3 && (fiC U d 4 == cel U (fi U d) 4 && (fiC U d 5 == cel U (fi U d) 5 && (fiC U d 6 == cel U (fi U d) 6 && (fiC U d 7 == cel U (fi U d) 7 && (fiC U d 8 == cel U (fi U d) 8 && (fiC U d 9 == cel U (fi U d) 9 && (fiC U d 10 == cel U (fi U d) 10 && (fiC U d 11 == cel U (fi U d) 11 && (fiC U d 12 == cel U (fi U d) 12 && true))))))))))))))), (pickL [(!true, false), (!nmB s == nmB s, false), (prE s w != prE s w, false), (rqE [q0, q1, q2, q3, q4, q5, q6, q7, q8, q9, q10, q11, q12] != rqE [q0, q1, q2, q3, q4, q5, q6, q7, q8, q9, q10, q11, q12], false), (lnB T, true), (lnB U, true), (pgE T U != pgE T U, false), (rqE [q0, q1, q2, q3, q4, q5, q6, q7, q8, q9, q10, q11, q12] == 0, false), (!decide ((0 : Int) ≤ fi U d) == decide (fi U d ≥ 0), false), (sltE [q0, q1, q2, q3, q4, q5, q6, q7, q8, q9, q10, q11, q12] != 0, false), (decide (fi U d < 0), false), (decide ((0 : Int) ≤ fi U d), true), (decide (fi U d < lenT U), true)] [0, 1, 1, 1, 1, 1, 1, 2, 2, 2, 2, 2, 2, 3, 3, 4, 5, 3, 3, 4, 5, 3, 3, 6, 7, 5, 5, 8, 8, 8, 8, 8, 9, 10, 11, 12, 11, 12])) := by kernel_rfl
theorem propChecks_law (W : World) (T : List (List Int)) (u : Value) (hu : tabHv (fun _ _ => False) W u [some .i8, some .i64] T) (hT : okRows [some .i8, some .i64] T) (U : List (List Int)) (u' : Value) (hu' : tabHv (fun _ _ => False) W u' [some .i64, some .i64, some .i64, some .i64, some .i64, some .i64, some .i64, some .i64, some .i64, some .i64, some .i64, some .i64, some .i64] U) (hU : okRows [some .i64, some .i64, some .i64, some .i64, some .i64, some .i64, some .i64, some .i64, some .i64, some .i64, some .i64, some .i64, some .i64] U) (s : ByteArray) (hs : s.size ≤ maxLen) (w : Int) (hw : okK (some .i64) w) (q0 : Int) (hq0 : okK (some .i64) q0) (q1 : Int) (hq1 : okK (some .i64) q1) (q2 : Int) (hq2 : okK (some .i64) q2) (q3 : Int) (hq3 : okK (some .i64) q3) (q4 : Int) (hq4 : okK (some .i64) q4) (q5 : Int) (hq5 : okK (some .i64) q5) (q6 : Int) (hq6 : okK (some .i64) q6) (q7 : Int) (hq7 : okK (some .i64) q7) (q8 : Int) (hq8 : okK (some .i64) q8) (q9 : Int) (hq9 : okK (some .i64) q9) (q10 : Int) (hq10 : okK (some .i64) q10) (q11 : Int) (hq11 : okK (some .i64) q11) (q12 : Int) (hq12 : okK (some .i64) q12) (d : Int) (hd : okK (some .i64) d) :
    Calls Tryd.prog 3 #[.agg #[u, u'], .agg #[.string s, .int .i64 w], .agg #[.int .i64 q0, .int .i64 q1, .int .i64 q2, .int .i64 q3, .int .i64 q4, .int .i64 q5, .int .i64 q6, .int .i64 q7, .int .i64 q8, .int .i64 q9, .int .i64 q10, .int .i64 q11, .int .i64 q12], .int .i64 d] W fun e w' => e = .returned (.bool true) ∧ Below W.heap.size W w' := by
  have k0 : (!nmB s == nmB s) = false := by simp
  have k1 : (prE s w != prE s w) = false := by simp
  have k2 : (rqE [q0, q1, q2, q3, q4, q5, q6, q7, q8, q9, q10, q11, q12] != rqE [q0, q1, q2, q3, q4, q5, q6, q7, q8, q9, q10, q11, q12]) = false := by simp
  have k3 : (pgE T U != pgE T U) = false := by simp
  cases k4 : (rqE [q0, q1, q2, q3, q4, q5, q6, q7, q8, q9, q10, q11, q12] == 0) with
  | true =>
    cases k5 : (!decide ((0 : Int) ≤ fi U d) == decide (fi U d ≥ 0)) with
    | true =>
      exfalso
      have e : (decide (fi U d ≥ 0)) = decide (0 ≤ fi U d) := rfl
      rw [e] at k5
      simp at k5
    | false =>
      cases k6 : (sltE [q0, q1, q2, q3, q4, q5, q6, q7, q8, q9, q10, q11, q12] != IntKind.i64.wrap (q5 * q6)) with
      | true =>
        exfalso
        rw [sl_want] at k6
        simp_all
      | false =>
        cases k7 : (decide (fi U d < 0)) with
        | true =>
          have L := pch_000001001 T U s w q0 q1 q2 q3 q4 q5 q6 q7 q8 q9 q10 q11 q12 d
          have V : ((fiC U d 0 == 0 && (fiC U d 1 == 0 && (fiC U d 2 == 0 && (fiC U d 3 == 0 && (fiC U d 4 == 0 && (fiC U d 5 == 0 && (fiC U d 6 == 0 && (fiC U d 7 == 0 && (fiC U d 8 == 0 && (fiC U d 9 == 0 && (fiC U d 10 == 0 && (fiC U d 11 == 0 && (fiC U d 12 == 0 && true)))))))))))))) = true := by
            simp only [fi_0 _ (of_decide_eq_true k7)]
            rfl
          refine law_facts (I := tbI) (h := fun q v => (q = .tab [some .i8, some .i64] T ∧ v = u) ∨ (q = .tab [some .i64, some .i64, some .i64, some .i64, some .i64, some .i64, some .i64, some .i64, some .i64, some .i64, some .i64, some .i64, some .i64] U ∧ v = u')) (v := .bool true) (ctxOf_ok libH1_ok eqR_ok) (by kernel_rfl) Tryd.func3 rfl lps_nil rfl (fun q v hq => by rcases hq with ⟨rfl, rfl⟩ | ⟨rfl, rfl⟩; exact hu; exact hu') L rfl (.cons ⟨_, rfl, .cons (.inl ⟨rfl, rfl⟩) (.cons (.inr ⟨rfl, rfl⟩) .nil)⟩ (.cons ⟨_, rfl, .cons rfl (.cons rfl .nil)⟩ (.cons ⟨_, rfl, (.cons rfl (.cons rfl (.cons rfl (.cons rfl (.cons rfl (.cons rfl (.cons rfl (.cons rfl (.cons rfl (.cons rfl (.cons rfl (.cons rfl (.cons rfl .nil)))))))))))))⟩ (.cons rfl .nil)))) (congrArg (fun b => some (Value.bool b)) V) (pickL_ok ?_ _)
          repeat' (first | exact cd_nil | refine cd_cons ?_ ?_)
          all_goals first | with_reducible rfl | with_reducible assumption | (simp only [beq_self_eq_true]; done) | exact len_of hu | exact len_of hu' | rfl

        | false =>
          have L := pch_000001000 T U s w q0 q1 q2 q3 q4 q5 q6 q7 q8 q9 q10 q11 q12 d
          have hf : ¬ fi U d < 0 := of_decide_eq_false k7
          have hb1 : decide ((0 : Int) ≤ fi U d) = true := decide_eq_true (by omega)
          have hb2 : decide (fi U d < lenT U) = true := decide_eq_true (by rcases fi_lt U d with h | h <;> omega)
          have V : ((fiC U d 0 == cel U (fi U d) 0 && (fiC U d 1 == cel U (fi U d) 1 && (fiC U d 2 == cel U (fi U d) 2 && (fiC U d 3 == cel U (fi U d) 3 && (fiC U d 4 == cel U (fi U d) 4 && (fiC U d 5 == cel U (fi U d) 5 && (fiC U d 6 == cel U (fi U d) 6 && (fiC U d 7 == cel U (fi U d) 7 && (fiC U d 8 == cel U (fi U d) 8 && (fiC U d 9 == cel U (fi U d) 9 && (fiC U d 10 == cel U (fi U d) 10 && (fiC U d 11 == cel U (fi U d) 11 && (fiC U d 12 == cel U (fi U d) 12 && true)))))))))))))) = true := by
            simp only [fi_c _ (of_decide_eq_false k7), beq_self_eq_true, Bool.and_self, Bool.and_true]
          refine law_facts (I := tbI) (h := fun q v => (q = .tab [some .i8, some .i64] T ∧ v = u) ∨ (q = .tab [some .i64, some .i64, some .i64, some .i64, some .i64, some .i64, some .i64, some .i64, some .i64, some .i64, some .i64, some .i64, some .i64] U ∧ v = u')) (v := .bool true) (ctxOf_ok libH1_ok eqR_ok) (by kernel_rfl) Tryd.func3 rfl lps_nil rfl (fun q v hq => by rcases hq with ⟨rfl, rfl⟩ | ⟨rfl, rfl⟩; exact hu; exact hu') L rfl (.cons ⟨_, rfl, .cons (.inl ⟨rfl, rfl⟩) (.cons (.inr ⟨rfl, rfl⟩) .nil)⟩ (.cons ⟨_, rfl, .cons rfl (.cons rfl .nil)⟩ (.cons ⟨_, rfl, (.cons rfl (.cons rfl (.cons rfl (.cons rfl (.cons rfl (.cons rfl (.cons rfl (.cons rfl (.cons rfl (.cons rfl (.cons rfl (.cons rfl (.cons rfl .nil)))))))))))))⟩ (.cons rfl .nil)))) (congrArg (fun b => some (Value.bool b)) V) (pickL_ok ?_ _)
          repeat' (first | exact cd_nil | refine cd_cons ?_ ?_)
          all_goals first | with_reducible rfl | with_reducible assumption | (simp only [beq_self_eq_true]; done) | exact len_of hu | exact len_of hu' | rfl

  | false =>
    cases k8 : (!decide ((0 : Int) ≤ fi U d) == decide (fi U d ≥ 0)) with
    | true =>
      exfalso
      have e : (decide (fi U d ≥ 0)) = decide (0 ≤ fi U d) := rfl
      rw [e] at k8
      simp at k8
    | false =>
      cases k9 : (sltE [q0, q1, q2, q3, q4, q5, q6, q7, q8, q9, q10, q11, q12] != 0) with
      | true =>
        exfalso
        rw [sl_want] at k9
        simp_all
      | false =>
        cases k10 : (decide (fi U d < 0)) with
        | true =>
          have L := pch_000000001 T U s w q0 q1 q2 q3 q4 q5 q6 q7 q8 q9 q10 q11 q12 d
          have V : ((fiC U d 0 == 0 && (fiC U d 1 == 0 && (fiC U d 2 == 0 && (fiC U d 3 == 0 && (fiC U d 4 == 0 && (fiC U d 5 == 0 && (fiC U d 6 == 0 && (fiC U d 7 == 0 && (fiC U d 8 == 0 && (fiC U d 9 == 0 && (fiC U d 10 == 0 && (fiC U d 11 == 0 && (fiC U d 12 == 0 && true)))))))))))))) = true := by
            simp only [fi_0 _ (of_decide_eq_true k10)]
            rfl
          refine law_facts (I := tbI) (h := fun q v => (q = .tab [some .i8, some .i64] T ∧ v = u) ∨ (q = .tab [some .i64, some .i64, some .i64, some .i64, some .i64, some .i64, some .i64, some .i64, some .i64, some .i64, some .i64, some .i64, some .i64] U ∧ v = u')) (v := .bool true) (ctxOf_ok libH1_ok eqR_ok) (by kernel_rfl) Tryd.func3 rfl lps_nil rfl (fun q v hq => by rcases hq with ⟨rfl, rfl⟩ | ⟨rfl, rfl⟩; exact hu; exact hu') L rfl (.cons ⟨_, rfl, .cons (.inl ⟨rfl, rfl⟩) (.cons (.inr ⟨rfl, rfl⟩) .nil)⟩ (.cons ⟨_, rfl, .cons rfl (.cons rfl .nil)⟩ (.cons ⟨_, rfl, (.cons rfl (.cons rfl (.cons rfl (.cons rfl (.cons rfl (.cons rfl (.cons rfl (.cons rfl (.cons rfl (.cons rfl (.cons rfl (.cons rfl (.cons rfl .nil)))))))))))))⟩ (.cons rfl .nil)))) (congrArg (fun b => some (Value.bool b)) V) (pickL_ok ?_ _)
          repeat' (first | exact cd_nil | refine cd_cons ?_ ?_)
          all_goals first | with_reducible rfl | with_reducible assumption | (simp only [beq_self_eq_true]; done) | exact len_of hu | exact len_of hu' | rfl

        | false =>
          have L := pch_000000000 T U s w q0 q1 q2 q3 q4 q5 q6 q7 q8 q9 q10 q11 q12 d
          have hf : ¬ fi U d < 0 := of_decide_eq_false k10
          have hb1 : decide ((0 : Int) ≤ fi U d) = true := decide_eq_true (by omega)
          have hb2 : decide (fi U d < lenT U) = true := decide_eq_true (by rcases fi_lt U d with h | h <;> omega)
          have V : ((fiC U d 0 == cel U (fi U d) 0 && (fiC U d 1 == cel U (fi U d) 1 && (fiC U d 2 == cel U (fi U d) 2 && (fiC U d 3 == cel U (fi U d) 3 && (fiC U d 4 == cel U (fi U d) 4 && (fiC U d 5 == cel U (fi U d) 5 && (fiC U d 6 == cel U (fi U d) 6 && (fiC U d 7 == cel U (fi U d) 7 && (fiC U d 8 == cel U (fi U d) 8 && (fiC U d 9 == cel U (fi U d) 9 && (fiC U d 10 == cel U (fi U d) 10 && (fiC U d 11 == cel U (fi U d) 11 && (fiC U d 12 == cel U (fi U d) 12 && true)))))))))))))) = true := by
            simp only [fi_c _ (of_decide_eq_false k10), beq_self_eq_true, Bool.and_self, Bool.and_true]
          refine law_facts (I := tbI) (h := fun q v => (q = .tab [some .i8, some .i64] T ∧ v = u) ∨ (q = .tab [some .i64, some .i64, some .i64, some .i64, some .i64, some .i64, some .i64, some .i64, some .i64, some .i64, some .i64, some .i64, some .i64] U ∧ v = u')) (v := .bool true) (ctxOf_ok libH1_ok eqR_ok) (by kernel_rfl) Tryd.func3 rfl lps_nil rfl (fun q v hq => by rcases hq with ⟨rfl, rfl⟩ | ⟨rfl, rfl⟩; exact hu; exact hu') L rfl (.cons ⟨_, rfl, .cons (.inl ⟨rfl, rfl⟩) (.cons (.inr ⟨rfl, rfl⟩) .nil)⟩ (.cons ⟨_, rfl, .cons rfl (.cons rfl .nil)⟩ (.cons ⟨_, rfl, (.cons rfl (.cons rfl (.cons rfl (.cons rfl (.cons rfl (.cons rfl (.cons rfl (.cons rfl (.cons rfl (.cons rfl (.cons rfl (.cons rfl (.cons rfl .nil)))))))))))))⟩ (.cons rfl .nil)))) (congrArg (fun b => some (Value.bool b)) V) (pickL_ok ?_ _)
          repeat' (first | exact cd_nil | refine cd_cons ?_ ?_)
          all_goals first | with_reducible rfl | with_reducible assumption | (simp only [beq_self_eq_true]; done) | exact len_of hu | exact len_of hu' | rfl

end
end Go.Proofs.YtbnlpcmnkcaemaaDoor.AtPr

