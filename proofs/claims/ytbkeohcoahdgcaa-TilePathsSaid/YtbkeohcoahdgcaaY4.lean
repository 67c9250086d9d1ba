/-
  The walk of TilePaths: it returns true.
  Conditions: none.
-/
import Derived.Test.YtbkeohcoahdgcaaY3
set_option linter.unusedVariables false
set_option linter.unusedSimpArgs false
namespace Go.Proofs.Ytbkeohcoahdgcaa.AtTl
open Go.RowKit Ev Wd AtHz
open Go.Proofs.Ytbkeohcoahdgcaa
noncomputable section

noncomputable abbrev libV2 : List (Nat × FnSp Fct) := [(5, veS), (6, ofS), (7, sp0 (aBool true))]
theorem libV2_ok (B : Nat) : LibOk Try.prog (fctI B) (lib1 libV2) := (lib1_cons (veS_ok B) Try.call5 (lib1_cons (sp2_ok fun v k _ => ⟨_, rfl, tof_pl v k⟩) Try.call6 (lib1_cons (sp0_ok rfl tft_pl) Try.call7 (lib1_nil _ _))))
theorem tpLps_ok (B : Nat) : LpsOk Try.prog (fctI B) [((95, [false, true, false, true, true, true, true, true]), tpD.sp (fun _ => true))] Try.f3.ntmps (bodyOf Try.f3) := lps_cons (fun _ x hx => tpD_ok B x hx) lps_nil
set_option maxRecDepth 100000 in
theorem tpl_00 (B : Nat) (l : List Int) : evL (ctxLp Try.prog (fctI B) (fun _ => false) libV2 [] [((95, [false, true, false, true, true, true, true, true]), tpD.sp (fun _ => true))]) Try.f3 l [] [false, false] = some (AV.w (AW.one (AC.yes true)), (pickL [(atB (0 + 6), true), (listB l, true), (atB 0, true), (!true, false), (ofE (veV l 0) 0 != 0, false), (vE (veV l 0) == 0, true), (ofV (veV l 0) 0 == ofV (veV l 0) 0, true), (1 == 1, true)] [0, 1, 2, 3, 3, 3, 4, 5, 6, 7])) := by kernel_rfl
set_option maxRecDepth 100000 in
theorem tilePaths_walk (l : List Int) (p : Option Addr) (cap : Nat) (hL : listB l = true) (W : World)
    (hl : fctHolds W.heap.size (.ints l) W #[.slice p l.length cap]) : Calls Try.prog 3 #[.slice p l.length cap] W fun e w' => e = .returned (.bool true) ∧ Below W.heap.size W w' := by
  have hv := ve_in l 0
  have h0 : ofE (veV l 0) 0 = 0 := by unfold ofE; rw [if_pos hv]; rfl
  have c1 : (ofE (veV l 0) 0 != 0) = false := by rw [h0]; rfl
  have c2 : (vE (veV l 0) == 0) = true := by rw [hv]; rfl
  have c3 : (ofV (veV l 0) 0 == ofV (veV l 0) 0) = true := by simp
  have L := tpl_00 W.heap.size l
  refine list_calls (B := W.heap.size) (v := .bool true) (ctxLp_ok (libV2_ok _) (eq_none _) (fns_nil _) (fun _ _ h => by cases h)) (by kernel_rfl) Try.func3 rfl L rfl .nil rfl W rfl hl ?_ (hL := tpLps_ok _)
  clear L
  refine pickL_ok ?_ _
  repeat' (first | exact cd_nil | refine cd_cons ?_ ?_)
  all_goals first | with_reducible assumption | rfl | (with_reducible refine atB_iff.2 ?_; omega)
end
end Go.Proofs.Ytbkeohcoahdgcaa.AtTl

