/-
  The walk of the law ClockShowsTruth: it returns true, for every list and number.
  Conditions: those of each theorem.
-/
import Derived.Test.YtpolpckjfgndeabCM
import Derived.Test.YtpolpckjfgndeabST
set_option linter.unusedVariables false
set_option linter.unusedSimpArgs false
namespace Go.Proofs.Ytpolpckjfgndeab.AtCk
open Go.RowKit Ev Wd
open Go.Proofs.Ytpolpckjfgndeab
noncomputable section

def nlL (t : TypeId) : Option Fct := bif Nat.beq t 27 then some (.tab [some .i64, some .i64] []) else none
theorem nlL_ok (B : Nat) : ∀ t g D w, nlL t = some g → (fctI B).hv g D w (.slice none 0 0) := fun t g D w h => by
  unfold nlL at h
  cases hb : Nat.beq t 27 with
  | false => rw [hb] at h; cases h
  | true => rw [hb] at h; cases h; exact nil_tab _ D w
def legI (B : Nat) : Interp Fct := (fctI B).rows nlL (nlL_ok B)
abbrev eqC : TypeId → Bool := fun t => Nat.beq t 31
noncomputable abbrev libL0 : List (Nat × FnSp Empty) := [(12, unS)]
noncomputable abbrev libT : List (Nat × FnSp Fct) := [(14, nextS), (18, rangeS), (8, belowS), (9, factSp (liftG cvF inF [some .i64, some .i64] gRd)), (12, unS), (13, hoS), (11, sp2 dBd (dInt .i64) (fun b v => aBool (hasB b v)) (fun _ _ => [])), (10, sp0 (aBool true))]
noncomputable abbrev fnsU : List (Nat × Func) := [(7, Try.f7)]
theorem eqC_ok : EqOk Try.prog (tabOf Try.prog) eqC := eq_of fun t ht => by
  have := Nat.eq_of_beq_eq_true ht
  subst this
  exact ⟨by kernel_rfl, by kernel_rfl, by kernel_rfl⟩
theorem libL0_ok : LibOk Try.prog noFacts (lib1 libL0) := lib1_cons (sp2_ok fun c x _ => ⟨_, rfl, unf_pl c x⟩) Try.call12 (lib1_nil _ _)
set_option maxRecDepth 100000 in
theorem cfa_l0  : evR (ctxOf Try.prog noFacts eqC libL0) Try.f10 [] [] = some (AV.w (AW.one (AC.bool ((uniC { s := 1000, b := { lo := 5000, hi := 5010, u := false }, d := 100000 } 1100).lo == 5090 && ((uniC { s := 1000, b := { lo := 5000, hi := 5010, u := false }, d := 100000 } 1100).hi == 5123 && ((uniC { s := 1000, b := { lo := 5000, hi := 5010, u := false }, d := 100000 } 1100).u == false && true))))), []) := by kernel_rfl
set_option maxRecDepth 100000 in
theorem cfa_t  : Pl Try.prog 10 [] (AV.get ((AV.w (AW.one (AC.bool ((uniC { s := 1000, b := { lo := 5000, hi := 5010, u := false }, d := 100000 } 1100).lo == 5090 && ((uniC { s := 1000, b := { lo := 5000, hi := 5010, u := false }, d := 100000 } 1100).hi == 5123 && ((uniC { s := 1000, b := { lo := 5000, hi := 5010, u := false }, d := 100000 } 1100).u == false && true)))))) : AV Empty)) :=
  (pl_leaf rfl (ctxOf_ok libL0_ok eqC_ok) (by kernel_rfl) Try.func10 rfl (cfa_l0) rfl (all2_R .nil) rfl cd_nil)
theorem fact_pl   : Pl Try.prog 10 [] (.bool true) := by
  refine Eq.mp (congrArg (Pl _ _ _) ?_) (cfa_t )
  rw [show uniC ⟨1000, ⟨5000, 5010, false⟩, 100000⟩ 1100 = ⟨5090, 5123, false⟩ by kernel_rfl]; rfl
theorem shows_fin {s a d lo hi y : Int} {T : List (List Int)} (hs : -1000 ≤ s ∧ s ≤ 1000) (ha : -1000 ≤ a ∧ a ≤ 1000) (hd : 0 ≤ d ∧ d ≤ 100000) (hlo : a - 30 ≤ lo ∧ lo ≤ a) (hhi : a ≤ hi ∧ hi ≤ a + 30) (hy : 0 ≤ y ∧ y < 30000) (hl : lenT T ≤ 64) (h1 : T.all lgB = true) (h2 : T.all (ppB d) = true) :
    rdE s a T (a + y) = 0 ∧ hasB (uniC ⟨s, ⟨lo, hi, false⟩, d⟩ (rdV s a T (a + y))) (a + y) = true ∧ hasB (shoC ⟨s, ⟨lo, hi, false⟩, d⟩ (a + y)) (rdV s a T (a + y)) = true ∧ (uniC ⟨s, ⟨lo, hi, false⟩, d⟩ (rdV s a T (a + y))).u = false := by
  have hru : ruE s a T = 0 := by
    unfold ruE
    rw [if_pos (by rw [Bool.and_eq_true, tmC_iff, tmC_iff]; omega), if_neg (by omega), if_pos h1]
  have ht : tmC (a + y) = true := tmC_iff.2 (by omega)
  have hrd : rdE s a T (a + y) = 0 := by
    unfold rdE
    rw [if_neg (by omega), if_pos ⟨ht, by omega, by omega⟩]
  have hv : rdV s a T (a + y) = s + gnT T (a + y - a) / 1000000 := if_pos hrd
  have p := gn_pos (x := a + y - a) h1 (by omega)
  have H : Tells s a T ⟨s, ⟨lo, hi, false⟩, d⟩ a := by
    refine ⟨hru, h2, hd.1, hd.2, Int.le_refl _, ?_, hlo.2, hhi.1⟩
    have e : gnT T (a - a) = 0 := by have := gn_pos (x := a - a) h1 (by omega); omega
    simp only [e]; omega
  have hck : ckE ⟨s, ⟨lo, hi, false⟩, d⟩ = 0 := by
    unfold ckE
    have e : chkB ⟨lo, hi, false⟩ = 0 := by
      unfold chkB
      rw [inB_iff.2 (by simp only; omega), inB_iff.2 (by simp only; omega), decide_eq_false (show ¬ lo > hi by omega)]; rfl
    rw [if_pos e, if_pos (by simp only [Bool.and_eq_true, tmC_iff, drC_iff]; omega)]
  have htl : tlC ⟨s, ⟨lo, hi, false⟩, d⟩ = true := tl_iff.2 ⟨hck, rfl⟩
  have hk := uni_known (c := ⟨s, ⟨lo, hi, false⟩, d⟩) (x := rdV s a T (a + y)) htl (by rw [hv, tmC_iff]; omega) (by rw [hv]; simp only; omega)
  exact ⟨hrd, by rw [hv]; exact truth_uni H (by omega), by rw [hv]; exact truth_sho H (by omega), hk.1⟩
theorem lg_mk {d f p : Int} (hf : 0 ≤ f ∧ f < 5000) (hp : -d ≤ p ∧ p ≤ d) (hd : d ≤ 100000) : lgB [f, p] = true ∧ ppB d [f, p] = true :=
  ⟨lgB_iff.2 (by simp only [List.getD_cons_zero, List.getD_cons_succ]; omega), ppB_iff.2 (by simp only [List.getD_cons_zero, List.getD_cons_succ]; omega)⟩
theorem ngv {d : Int} (h0 : 0 ≤ d) (h1 : d ≤ 100000) : IntKind.i64.wrap (0 - d) = -d := by rw [v64 (by omega) (by omega)]; omega
theorem libT_ok (B : Nat) : LibOk Try.prog (legI B) (lib1 libT) := by
  have h : LibOk Try.prog (fctI B) (lib1 libT) := (lib1_cons (nextS_ok B) Try.call14 (lib1_cons (rangeS_ok B) Try.call18 (lib1_cons (belowS_ok _) Try.call8 (lib1_cons (liftF_ok gRd_ok) Try.call9 (lib1_cons (sp2_ok fun c x _ => ⟨_, rfl, unf_pl c x⟩) Try.call12 (lib1_cons (sp2_ok fun c t _ => ⟨_, rfl, hof_pl c t⟩) Try.call13 (lib1_cons (sp2_ok fun b v _ => ⟨_, rfl, AtTick.has_pl b v⟩) Try.call11 (lib1_cons (sp0_ok rfl fact_pl) Try.call10 (lib1_nil _ _)))))))))
  exact h.rows
theorem fnlU (B : Nat) : ∀ f fn, Ev.look f fnsU = some fn → LpsOk Try.prog (legI B) ([] : Lps Fct) fn.ntmps (bodyOf fn) := fun f fn h => by
  unfold fnsU at h
  rw [look_cons] at h
  split at h
  · cases h; exact lps_nil
  · cases h
theorem fnsU_ok : FnsOk Try.prog fnsU := fns_cons Try.func7 rfl Try.call7 (fns_nil _)
set_option maxRecDepth 100000 in
theorem ct_01111 (B : Nat) (l : List Int) (x : Int) : evL (ctxLp Try.prog (legI B) (fun _ => false) libT fnsU []) Try.f3 l [(.w (.one (.int .i64 x)))] [false, true, true, true, true] = some (AV.w (AW.one (AC.bool !(uniC { s := rangeV l 0 (-1000) 1000, b := { lo := IntKind.i64.wrap (rangeV l 1 (-1000) 1000 - nextV l 4 30), hi := IntKind.i64.wrap (rangeV l 1 (-1000) 1000 + nextV l 5 30), u := false }, d := nextV l 2 100001 } (rdV (rangeV l 0 (-1000) 1000) (rangeV l 1 (-1000) 1000) [] (IntKind.i64.wrap (rangeV l 1 (-1000) 1000 + belowV x 30000)))).u)), (pickL [(decide (1000 < -1000), false), (rB (-1000), true), (rB 1000, true), (listB l, true), (atB 0, true), (atB 1, true), (i64B 100001, true), (atB 2, true), (i64B 5, true), (atB 3, true), (decide (0 < nextV l 3 5), false), (i64B 30, true), (atB 4, true), (atB 5, true), (i64B x, true), (i64B 30000, true), (true, true), (rdE (rangeV l 0 (-1000) 1000) (rangeV l 1 (-1000) 1000) [] (IntKind.i64.wrap (rangeV l 1 (-1000) 1000 + belowV x 30000)) == 0, true), (hasB (uniC { s := rangeV l 0 (-1000) 1000, b := { lo := IntKind.i64.wrap (rangeV l 1 (-1000) 1000 - nextV l 4 30), hi := IntKind.i64.wrap (rangeV l 1 (-1000) 1000 + nextV l 5 30), u := false }, d := nextV l 2 100001 } (rdV (rangeV l 0 (-1000) 1000) (rangeV l 1 (-1000) 1000) [] (IntKind.i64.wrap (rangeV l 1 (-1000) 1000 + belowV x 30000)))) (IntKind.i64.wrap (rangeV l 1 (-1000) 1000 + belowV x 30000)), true), (hasB (shoC { s := rangeV l 0 (-1000) 1000, b := { lo := IntKind.i64.wrap (rangeV l 1 (-1000) 1000 - nextV l 4 30), hi := IntKind.i64.wrap (rangeV l 1 (-1000) 1000 + nextV l 5 30), u := false }, d := nextV l 2 100001 } (IntKind.i64.wrap (rangeV l 1 (-1000) 1000 + belowV x 30000))) (rdV (rangeV l 0 (-1000) 1000) (rangeV l 1 (-1000) 1000) [] (IntKind.i64.wrap (rangeV l 1 (-1000) 1000 + belowV x 30000))), true)] [0, 1, 2, 3, 4, 0, 1, 2, 3, 5, 6, 3, 7, 8, 3, 9, 10, 11, 3, 12, 11, 3, 13, 14, 15, 16, 16, 16, 17, 17, 17, 17, 17, 17, 18, 18, 18, 18, 18, 18, 19, 19, 19, 19, 19, 19])) := by kernel_rfl
set_option maxRecDepth 100000 in
theorem ct_101111 (B : Nat) (l : List Int) (x : Int) : evL (ctxLp Try.prog (legI B) (fun _ => false) libT fnsU []) Try.f3 l [(.w (.one (.int .i64 x)))] [true, false, true, true, true, true] = some (AV.w (AW.one (AC.bool !(uniC { s := rangeV l 0 (-1000) 1000, b := { lo := IntKind.i64.wrap (rangeV l 1 (-1000) 1000 - nextV l 6 30), hi := IntKind.i64.wrap (rangeV l 1 (-1000) 1000 + nextV l 7 30), u := false }, d := nextV l 2 100001 } (rdV (rangeV l 0 (-1000) 1000) (rangeV l 1 (-1000) 1000) ([] ++ [[nextV l 4 5000, rangeV l 5 (IntKind.i64.wrap (0 - nextV l 2 100001)) (nextV l 2 100001)]]) (IntKind.i64.wrap (rangeV l 1 (-1000) 1000 + belowV x 30000)))).u)), (pickL [(decide (1000 < -1000), false), (rB (-1000), true), (rB 1000, true), (listB l, true), (atB 0, true), (atB 1, true), (i64B 100001, true), (atB 2, true), (i64B 5, true), (atB 3, true), (decide (0 < nextV l 3 5), true), (i64B 5000, true), (atB 4, true), (decide (nextV l 2 100001 < IntKind.i64.wrap (0 - nextV l 2 100001)), false), (rB (IntKind.i64.wrap (0 - nextV l 2 100001)), true), (rB (nextV l 2 100001), true), (atB 5, true), (decide (0 = 0), true), (decide (0 + 1 ≤ 34359738368), true), (decide (IntKind.i64.wrap 1 < nextV l 3 5), false), (i64B 30, true), (atB 6, true), (atB 7, true), (i64B x, true), (i64B 30000, true), (true, true), (rdE (rangeV l 0 (-1000) 1000) (rangeV l 1 (-1000) 1000) ([] ++ [[nextV l 4 5000, rangeV l 5 (IntKind.i64.wrap (0 - nextV l 2 100001)) (nextV l 2 100001)]]) (IntKind.i64.wrap (rangeV l 1 (-1000) 1000 + belowV x 30000)) == 0, true), (hasB (uniC { s := rangeV l 0 (-1000) 1000, b := { lo := IntKind.i64.wrap (rangeV l 1 (-1000) 1000 - nextV l 6 30), hi := IntKind.i64.wrap (rangeV l 1 (-1000) 1000 + nextV l 7 30), u := false }, d := nextV l 2 100001 } (rdV (rangeV l 0 (-1000) 1000) (rangeV l 1 (-1000) 1000) ([] ++ [[nextV l 4 5000, rangeV l 5 (IntKind.i64.wrap (0 - nextV l 2 100001)) (nextV l 2 100001)]]) (IntKind.i64.wrap (rangeV l 1 (-1000) 1000 + belowV x 30000)))) (IntKind.i64.wrap (rangeV l 1 (-1000) 1000 + belowV x 30000)), true), (hasB (shoC { s := rangeV l 0 (-1000) 1000, b := { lo := IntKind.i64.wrap (rangeV l 1 (-1000) 1000 - nextV l 6 30), hi := IntKind.i64.wrap (rangeV l 1 (-1000) 1000 + nextV l 7 30), u := false }, d := nextV l 2 100001 } (IntKind.i64.wrap (rangeV l 1 (-1000) 1000 + belowV x 30000))) (rdV (rangeV l 0 (-1000) 1000) (rangeV l 1 (-1000) 1000) ([] ++ [[nextV l 4 5000, rangeV l 5 (IntKind.i64.wrap (0 - nextV l 2 100001)) (nextV l 2 100001)]]) (IntKind.i64.wrap (rangeV l 1 (-1000) 1000 + belowV x 30000))), true)] [0, 1, 2, 3, 4, 0, 1, 2, 3, 5, 6, 3, 7, 8, 3, 9, 10, 11, 3, 12, 13, 14, 15, 3, 16, 17, 18, 19, 20, 3, 21, 20, 3, 22, 23, 24, 25, 25, 25, 26, 26, 26, 26, 26, 26, 27, 27, 27, 27, 27, 27, 28, 28, 28, 28, 28, 28])) := by kernel_rfl
set_option maxRecDepth 100000 in
theorem ct_1101111 (B : Nat) (l : List Int) (x : Int) : evL (ctxLp Try.prog (legI B) (fun _ => false) libT fnsU []) Try.f3 l [(.w (.one (.int .i64 x)))] [true, true, false, true, true, true, true] = some (AV.w (AW.one (AC.bool !(uniC { s := rangeV l 0 (-1000) 1000, b := { lo := IntKind.i64.wrap (rangeV l 1 (-1000) 1000 - nextV l 8 30), hi := IntKind.i64.wrap (rangeV l 1 (-1000) 1000 + nextV l 9 30), u := false }, d := nextV l 2 100001 } (rdV (rangeV l 0 (-1000) 1000) (rangeV l 1 (-1000) 1000) ([] ++ [[nextV l 4 5000, rangeV l 5 (IntKind.i64.wrap (0 - nextV l 2 100001)) (nextV l 2 100001)]] ++ [[nextV l 6 5000, rangeV l 7 (IntKind.i64.wrap (0 - nextV l 2 100001)) (nextV l 2 100001)]]) (IntKind.i64.wrap (rangeV l 1 (-1000) 1000 + belowV x 30000)))).u)), (pickL [(decide (1000 < -1000), false), (rB (-1000), true), (rB 1000, true), (listB l, true), (atB 0, true), (atB 1, true), (i64B 100001, true), (atB 2, true), (i64B 5, true), (atB 3, true), (decide (0 < nextV l 3 5), true), (i64B 5000, true), (atB 4, true), (decide (nextV l 2 100001 < IntKind.i64.wrap (0 - nextV l 2 100001)), false), (rB (IntKind.i64.wrap (0 - nextV l 2 100001)), true), (rB (nextV l 2 100001), true), (atB 5, true), (decide (0 = 0), true), (decide (0 + 1 ≤ 34359738368), true), (decide (IntKind.i64.wrap 1 < nextV l 3 5), true), (atB 6, true), (atB 7, true), (decide (0 + 1 = 0 + 1), true), (decide (0 + 1 + 1 ≤ 34359738368), true), (decide (IntKind.i64.wrap (IntKind.i64.wrap 1 + 1) < nextV l 3 5), false), (i64B 30, true), (atB 8, true), (atB 9, true), (i64B x, true), (i64B 30000, true), (true, true), (rdE (rangeV l 0 (-1000) 1000) (rangeV l 1 (-1000) 1000) ([] ++ [[nextV l 4 5000, rangeV l 5 (IntKind.i64.wrap (0 - nextV l 2 100001)) (nextV l 2 100001)]] ++ [[nextV l 6 5000, rangeV l 7 (IntKind.i64.wrap (0 - nextV l 2 100001)) (nextV l 2 100001)]]) (IntKind.i64.wrap (rangeV l 1 (-1000) 1000 + belowV x 30000)) == 0, true), (hasB (uniC { s := rangeV l 0 (-1000) 1000, b := { lo := IntKind.i64.wrap (rangeV l 1 (-1000) 1000 - nextV l 8 30), hi := IntKind.i64.wrap (rangeV l 1 (-1000) 1000 + nextV l 9 30), u := false }, d := nextV l 2 100001 } (rdV (rangeV l 0 (-1000) 1000) (rangeV l 1 (-1000) 1000) ([] ++ [[nextV l 4 5000, rangeV l 5 (IntKind.i64.wrap (0 - nextV l 2 100001)) (nextV l 2 100001)]] ++ [[nextV l 6 5000, rangeV l 7 (IntKind.i64.wrap (0 - nextV l 2 100001)) (nextV l 2 100001)]]) (IntKind.i64.wrap (rangeV l 1 (-1000) 1000 + belowV x 30000)))) (IntKind.i64.wrap (rangeV l 1 (-1000) 1000 + belowV x 30000)), true), (hasB (shoC { s := rangeV l 0 (-1000) 1000, b := { lo := IntKind.i64.wrap (rangeV l 1 (-1000) 1000 - nextV l 8 30), hi := IntKind.i64.wrap (rangeV l 1 (-1000) 1000 + nextV l 9 30), u := false }, d := nextV l 2 100001 } (IntKind.i64.wrap (rangeV l 1 (-1000) 1000 + belowV x 30000))) (rdV (rangeV l 0 (-1000) 1000) (rangeV l 1 (-1000) 1000) ([] ++ [[nextV l 4 5000, rangeV l 5 (IntKind.i64.wrap (0 - nextV l 2 100001)) (nextV l 2 100001)]] ++ [[nextV l 6 5000, rangeV l 7 (IntKind.i64.wrap (0 - nextV l 2 100001)) (nextV l 2 100001)]]) (IntKind.i64.wrap (rangeV l 1 (-1000) 1000 + belowV x 30000))), true)] [0, 1, 2, 3, 4, 0, 1, 2, 3, 5, 6, 3, 7, 8, 3, 9, 10, 11, 3, 12, 13, 14, 15, 3, 16, 17, 18, 19, 11, 3, 20, 13, 14, 15, 3, 21, 22, 23, 24, 25, 3, 26, 25, 3, 27, 28, 29, 30, 30, 30, 31, 31, 31, 31, 31, 31, 32, 32, 32, 32, 32, 32, 33, 33, 33, 33, 33, 33])) := by kernel_rfl
set_option maxRecDepth 100000 in
theorem ct_11101111 (B : Nat) (l : List Int) (x : Int) : evL (ctxLp Try.prog (legI B) (fun _ => false) libT fnsU []) Try.f3 l [(.w (.one (.int .i64 x)))] [true, true, true, false, true, true, true, true] = some (AV.w (AW.one (AC.bool !(uniC { s := rangeV l 0 (-1000) 1000, b := { lo := IntKind.i64.wrap (rangeV l 1 (-1000) 1000 - nextV l 10 30), hi := IntKind.i64.wrap (rangeV l 1 (-1000) 1000 + nextV l 11 30), u := false }, d := nextV l 2 100001 } (rdV (rangeV l 0 (-1000) 1000) (rangeV l 1 (-1000) 1000) ([] ++ [[nextV l 4 5000, rangeV l 5 (IntKind.i64.wrap (0 - nextV l 2 100001)) (nextV l 2 100001)]] ++ [[nextV l 6 5000, rangeV l 7 (IntKind.i64.wrap (0 - nextV l 2 100001)) (nextV l 2 100001)]] ++ [[nextV l 8 5000, rangeV l 9 (IntKind.i64.wrap (0 - nextV l 2 100001)) (nextV l 2 100001)]]) (IntKind.i64.wrap (rangeV l 1 (-1000) 1000 + belowV x 30000)))).u)), (pickL [(decide (1000 < -1000), false), (rB (-1000), true), (rB 1000, true), (listB l, true), (atB 0, true), (atB 1, true), (i64B 100001, true), (atB 2, true), (i64B 5, true), (atB 3, true), (decide (0 < nextV l 3 5), true), (i64B 5000, true), (atB 4, true), (decide (nextV l 2 100001 < IntKind.i64.wrap (0 - nextV l 2 100001)), false), (rB (IntKind.i64.wrap (0 - nextV l 2 100001)), true), (rB (nextV l 2 100001), true), (atB 5, true), (decide (0 = 0), true), (decide (0 + 1 ≤ 34359738368), true), (decide (IntKind.i64.wrap 1 < nextV l 3 5), true), (atB 6, true), (atB 7, true), (decide (0 + 1 = 0 + 1), true), (decide (0 + 1 + 1 ≤ 34359738368), true), (decide (IntKind.i64.wrap (IntKind.i64.wrap 1 + 1) < nextV l 3 5), true), (atB 8, true), (atB 9, true), (decide (0 + 1 + 1 = 0 + 1 + 1), true), (decide (0 + 1 + 1 + 1 ≤ 34359738368), true), (decide (IntKind.i64.wrap (IntKind.i64.wrap (IntKind.i64.wrap 1 + 1) + 1) < nextV l 3 5), false), (i64B 30, true), (atB 10, true), (atB 11, true), (i64B x, true), (i64B 30000, true), (true, true), (rdE (rangeV l 0 (-1000) 1000) (rangeV l 1 (-1000) 1000) ([] ++ [[nextV l 4 5000, rangeV l 5 (IntKind.i64.wrap (0 - nextV l 2 100001)) (nextV l 2 100001)]] ++ [[nextV l 6 5000, rangeV l 7 (IntKind.i64.wrap (0 - nextV l 2 100001)) (nextV l 2 100001)]] ++ [[nextV l 8 5000, rangeV l 9 (IntKind.i64.wrap (0 - nextV l 2 100001)) (nextV l 2 100001)]]) (IntKind.i64.wrap (rangeV l 1 (-1000) 1000 + belowV x 30000)) == 0, true), (hasB (uniC { s := rangeV l 0 (-1000) 1000, b := { lo := IntKind.i64.wrap (rangeV l 1 (-1000) 1000 - nextV l 10 30), hi := IntKind.i64.wrap (rangeV l 1 (-1000) 1000 + nextV l 11 30), u := false }, d := nextV l 2 100001 } (rdV (rangeV l 0 (-1000) 1000) (rangeV l 1 (-1000) 1000) ([] ++ [[nextV l 4 5000, rangeV l 5 (IntKind.i64.wrap (0 - nextV l 2 100001)) (nextV l 2 100001)]] ++ [[nextV l 6 5000, rangeV l 7 (IntKind.i64.wrap (0 - nextV l 2 100001)) (nextV l 2 100001)]] ++ [[nextV l 8 5000, rangeV l 9 (IntKind.i64.wrap (0 - nextV l 2 100001)) (nextV l 2 100001)]]) (IntKind.i64.wrap (rangeV l 1 (-1000) 1000 + belowV x 30000)))) (IntKind.i64.wrap (rangeV l 1 (-1000) 1000 + belowV x 30000)), true), (hasB (shoC { s := rangeV l 0 (-1000) 1000, b := { lo := IntKind.i64.wrap (rangeV l 1 (-1000) 1000 - nextV l 10 30), hi := IntKind.i64.wrap (rangeV l 1 (-1000) 1000 + nextV l 11 30), u := false }, d := nextV l 2 100001 } (IntKind.i64.wrap (rangeV l 1 (-1000) 1000 + belowV x 30000))) (rdV (rangeV l 0 (-1000) 1000) (rangeV l 1 (-1000) 1000) ([] ++ [[nextV l 4 5000, rangeV l 5 (IntKind.i64.wrap (0 - nextV l 2 100001)) (nextV l 2 100001)]] ++ [[nextV l 6 5000, rangeV l 7 (IntKind.i64.wrap (0 - nextV l 2 100001)) (nextV l 2 100001)]] ++ [[nextV l 8 5000, rangeV l 9 (IntKind.i64.wrap (0 - nextV l 2 100001)) (nextV l 2 100001)]]) (IntKind.i64.wrap (rangeV l 1 (-1000) 1000 + belowV x 30000))), true)] [0, 1, 2, 3, 4, 0, 1, 2, 3, 5, 6, 3, 7, 8, 3, 9, 10, 11, 3, 12, 13, 14, 15, 3, 16, 17, 18, 19, 11, 3, 20, 13, 14, 15, 3, 21, 22, 23, 24, 11, 3, 25, 13, 14, 15, 3, 26, 27, 28, 29, 30, 3, 31, 30, 3, 32, 33, 34, 35, 35, 35, 36, 36, 36, 36, 36, 36, 37, 37, 37, 37, 37, 37, 38, 38, 38, 38, 38, 38])) := by kernel_rfl
set_option maxRecDepth 100000 in
theorem ct_111101111 (B : Nat) (l : List Int) (x : Int) : evL (ctxLp Try.prog (legI B) (fun _ => false) libT fnsU []) Try.f3 l [(.w (.one (.int .i64 x)))] [true, true, true, true, false, true, true, true, true] = some (AV.w (AW.one (AC.bool !(uniC { s := rangeV l 0 (-1000) 1000, b := { lo := IntKind.i64.wrap (rangeV l 1 (-1000) 1000 - nextV l 12 30), hi := IntKind.i64.wrap (rangeV l 1 (-1000) 1000 + nextV l 13 30), u := false }, d := nextV l 2 100001 } (rdV (rangeV l 0 (-1000) 1000) (rangeV l 1 (-1000) 1000) ([] ++ [[nextV l 4 5000, rangeV l 5 (IntKind.i64.wrap (0 - nextV l 2 100001)) (nextV l 2 100001)]] ++ [[nextV l 6 5000, rangeV l 7 (IntKind.i64.wrap (0 - nextV l 2 100001)) (nextV l 2 100001)]] ++ [[nextV l 8 5000, rangeV l 9 (IntKind.i64.wrap (0 - nextV l 2 100001)) (nextV l 2 100001)]] ++ [[nextV l 10 5000, rangeV l 11 (IntKind.i64.wrap (0 - nextV l 2 100001)) (nextV l 2 100001)]]) (IntKind.i64.wrap (rangeV l 1 (-1000) 1000 + belowV x 30000)))).u)), (pickL [(decide (1000 < -1000), false), (rB (-1000), true), (rB 1000, true), (listB l, true), (atB 0, true), (atB 1, true), (i64B 100001, true), (atB 2, true), (i64B 5, true), (atB 3, true), (decide (0 < nextV l 3 5), true), (i64B 5000, true), (atB 4, true), (decide (nextV l 2 100001 < IntKind.i64.wrap (0 - nextV l 2 100001)), false), (rB (IntKind.i64.wrap (0 - nextV l 2 100001)), true), (rB (nextV l 2 100001), true), (atB 5, true), (decide (0 = 0), true), (decide (0 + 1 ≤ 34359738368), true), (decide (IntKind.i64.wrap 1 < nextV l 3 5), true), (atB 6, true), (atB 7, true), (decide (0 + 1 = 0 + 1), true), (decide (0 + 1 + 1 ≤ 34359738368), true), (decide (IntKind.i64.wrap (IntKind.i64.wrap 1 + 1) < nextV l 3 5), true), (atB 8, true), (atB 9, true), (decide (0 + 1 + 1 = 0 + 1 + 1), true), (decide (0 + 1 + 1 + 1 ≤ 34359738368), true), (decide (IntKind.i64.wrap (IntKind.i64.wrap (IntKind.i64.wrap 1 + 1) + 1) < nextV l 3 5), true), (atB 10, true), (atB 11, true), (decide (0 + 1 + 1 + 1 = 0 + 1 + 1 + 1), true), (decide (0 + 1 + 1 + 1 + 1 ≤ 34359738368), true), (decide (IntKind.i64.wrap (IntKind.i64.wrap (IntKind.i64.wrap (IntKind.i64.wrap 1 + 1) + 1) + 1) < nextV l 3 5), false), (i64B 30, true), (atB 12, true), (atB 13, true), (i64B x, true), (i64B 30000, true), (true, true), (rdE (rangeV l 0 (-1000) 1000) (rangeV l 1 (-1000) 1000) ([] ++ [[nextV l 4 5000, rangeV l 5 (IntKind.i64.wrap (0 - nextV l 2 100001)) (nextV l 2 100001)]] ++ [[nextV l 6 5000, rangeV l 7 (IntKind.i64.wrap (0 - nextV l 2 100001)) (nextV l 2 100001)]] ++ [[nextV l 8 5000, rangeV l 9 (IntKind.i64.wrap (0 - nextV l 2 100001)) (nextV l 2 100001)]] ++ [[nextV l 10 5000, rangeV l 11 (IntKind.i64.wrap (0 - nextV l 2 100001)) (nextV l 2 100001)]]) (IntKind.i64.wrap (rangeV l 1 (-1000) 1000 + belowV x 30000)) == 0, true), (hasB (uniC { s := rangeV l 0 (-1000) 1000, b := { lo := IntKind.i64.wrap (rangeV l 1 (-1000) 1000 - nextV l 12 30), hi := IntKind.i64.wrap (rangeV l 1 (-1000) 1000 + nextV l 13 30), u := false }, d := nextV l 2 100001 } (rdV (rangeV l 0 (-1000) 1000) (rangeV l 1 (-1000) 1000) ([] ++ [[nextV l 4 5000, rangeV l 5 (IntKind.i64.wrap (0 - nextV l 2 100001)) (nextV l 2 100001)]] ++ [[nextV l 6 5000, rangeV l 7 (IntKind.i64.wrap (0 - nextV l 2 100001)) (nextV l 2 100001)]] ++ [[nextV l 8 5000, rangeV l 9 (IntKind.i64.wrap (0 - nextV l 2 100001)) (nextV l 2 100001)]] ++ [[nextV l 10 5000, rangeV l 11 (IntKind.i64.wrap (0 - nextV l 2 100001)) (nextV l 2 100001)]]) (IntKind.i64.wrap (rangeV l 1 (-1000) 1000 + belowV x 30000)))) (IntKind.i64.wrap (rangeV l 1 (-1000) 1000 + belowV x 30000)), true), (hasB (shoC { s := rangeV l 0 (-1000) 1000, b := { lo := IntKind.i64.wrap (rangeV l 1 (-1000) 1000 - nextV l 12 30), hi := IntKind.i64.wrap (rangeV l 1 (-1000) 1000 + nextV l 13 30), u := false }, d := nextV l 2 100001 } (IntKind.i64.wrap (rangeV l 1 (-1000) 1000 + belowV x 30000))) (rdV (rangeV l 0 (-1000) 1000) (rangeV l 1 (-1000) 1000) ([] ++ [[nextV l 4 5000, rangeV l 5 (IntKind.i64.wrap (0 - nextV l 2 100001)) (nextV l 2 100001)]] ++ [[nextV l 6 5000, rangeV l 7 (IntKind.i64.wrap (0 - nextV l 2 100001)) (nextV l 2 100001)]] ++ [[nextV l 8 5000, rangeV l 9 (IntKind.i64.wrap (0 - nextV l 2 100001)) (nextV l 2 100001)]] ++ [[nextV l 10 5000, rangeV l 11 (IntKind.i64.wrap (0 - nextV l 2 100001)) (nextV l 2 100001)]]) (IntKind.i64.wrap (rangeV l 1 (-1000) 1000 + belowV x 30000))), true)] [0, 1, 2, 3, 4, 0, 1, 2, 3, 5, 6, 3, 7, 8, 3, 9, 10, 11, 3, 12, 13, 14, 15, 3, 16, 17, 18, 19, 11, 3, 20, 13, 14, 15, 3, 21, 22, 23, 24, 11, 3, 25, 13, 14, 15, 3, 26, 27, 28, 29, 11, 3, 30, 13, 14, 15, 3, 31, 32, 33, 34, 35, 3, 36, 35, 3, 37, 38, 39, 40, 40, 40, 41, 41, 41, 41, 41, 41, 42, 42, 42, 42, 42, 42, 43, 43, 43, 43, 43, 43])) := by kernel_rfl
set_option maxHeartbeats 4000000 in
theorem clockShowsTruth_law (l : List Int) (p : Option Addr) (cap : Nat) (hl : listB l = true) (x : Int) (hx : i64B x = true) (W : World) (hf : fctHolds W.heap.size (.ints l) W #[.slice p l.length cap]) :
    Calls Try.prog 3 #[.slice p l.length cap, .int .i64 x] W fun e w' => e = .returned (.bool true) ∧ Below W.heap.size W w' := by
  have hs := rangeV_in l 0 (-1000) 1000 (by omega)
  have ha := rangeV_in l 1 (-1000) 1000 (by omega)
  have hd := nextV_in l 2 100001 (by omega)
  have hn := nextV_in l 3 5 (by omega)
  have hy := belowV_in x 30000 (by omega)
  have eN := ngv hd.1 (by omega)
  have eT : IntKind.i64.wrap (rangeV l 1 (-1000) 1000 + belowV x 30000) = rangeV l 1 (-1000) 1000 + belowV x 30000 := v64 (by omega) (by omega)
  have at_ : ∀ i : Int, 0 ≤ i → i < 100 → atB i = true := fun i h1 h2 => atB_iff.2 (by omega)
  have c1 : decide ((1000 : Int) < -1000) = false := by decide
  have c2 : rB (-1000) = true := by decide
  have c3 : rB 1000 = true := by decide
  have c4 : i64B 100001 = true := by decide
  have c5 : i64B 5 = true := by decide
  have c6 : i64B 30 = true := by decide
  have c7 : i64B 30000 = true := by decide
  have c8 : i64B 5000 = true := by decide
  have c9 : decide (nextV l 2 100001 < -nextV l 2 100001) = false := decide_eq_false (by omega)
  have c10 : rB (-nextV l 2 100001) = true := rB_iff.2 (by omega)
  have c11 : rB (nextV l 2 100001) = true := rB_iff.2 (by omega)
  have cases_n : nextV l 3 5 = 0 ∨ nextV l 3 5 = 1 ∨ nextV l 3 5 = 2 ∨ nextV l 3 5 = 3 ∨ nextV l 3 5 = 4 := by omega
  rcases cases_n with hk | hk | hk | hk | hk
  · have eLo : IntKind.i64.wrap (rangeV l 1 (-1000) 1000 - nextV l 4 30) = rangeV l 1 (-1000) 1000 - nextV l 4 30 := v64 (by have := nextV_in l 4 30 (by omega); omega) (by have := nextV_in l 4 30 (by omega); omega)
    have eHi : IntKind.i64.wrap (rangeV l 1 (-1000) 1000 + nextV l 5 30) = rangeV l 1 (-1000) 1000 + nextV l 5 30 := v64 (by have := nextV_in l 5 30 (by omega); omega) (by have := nextV_in l 5 30 (by omega); omega)
    have w0 := nextV_in l 4 30 (by omega)
    have w1 := nextV_in l 5 30 (by omega)
    have L := ct_01111 W.heap.size l x
    rw [eLo, eHi, eT] at L
    have F := shows_fin (T := []) (y := belowV x 30000) (lo := rangeV l 1 (-1000) 1000 - nextV l 4 30) (hi := rangeV l 1 (-1000) 1000 + nextV l 5 30) hs ha ⟨hd.1, by omega⟩ (by omega) (by omega) hy (by simp [lenT]) (by simp only [List.nil_append, List.cons_append, List.all_cons, List.all_nil, Bool.and_self]) (by simp only [List.nil_append, List.cons_append, List.all_cons, List.all_nil, Bool.and_self])
    obtain ⟨F1, F2, F3, F4⟩ := F
    have n0 : decide (0 < nextV l 3 5) = false := by rw [show (0 : Int) = 0 by decide, hk]; rfl
    have V : (!(uniC { s := rangeV l 0 (-1000) 1000, b := { lo := rangeV l 1 (-1000) 1000 - nextV l 4 30, hi := rangeV l 1 (-1000) 1000 + nextV l 5 30, u := false }, d := nextV l 2 100001 } (rdV (rangeV l 0 (-1000) 1000) (rangeV l 1 (-1000) 1000) ([]) (rangeV l 1 (-1000) 1000 + belowV x 30000))).u) = true := by rw [F4]; rfl
    have F0 : (rdE (rangeV l 0 (-1000) 1000) (rangeV l 1 (-1000) 1000) ([]) (rangeV l 1 (-1000) 1000 + belowV x 30000) == 0) = true := by rw [F1]; rfl
    refine list_callsR (B := W.heap.size) (v := .bool true) (ctxLp_ok (libT_ok _) (eq_none _) fnsU_ok (fnlU W.heap.size)) (by kernel_rfl) Try.func3 rfl L rfl (.cons rfl .nil) (congrArg (fun b => some (Value.bool b)) V) W rfl hf (pickL_ok ?_ _)
    repeat' (first | exact cd_nil | refine cd_cons ?_ ?_)
    all_goals first | rfl | with_reducible assumption | exact at_ _ (by omega) (by omega) | decide

  · have eLo : IntKind.i64.wrap (rangeV l 1 (-1000) 1000 - nextV l 6 30) = rangeV l 1 (-1000) 1000 - nextV l 6 30 := v64 (by have := nextV_in l 6 30 (by omega); omega) (by have := nextV_in l 6 30 (by omega); omega)
    have eHi : IntKind.i64.wrap (rangeV l 1 (-1000) 1000 + nextV l 7 30) = rangeV l 1 (-1000) 1000 + nextV l 7 30 := v64 (by have := nextV_in l 7 30 (by omega); omega) (by have := nextV_in l 7 30 (by omega); omega)
    have w0 := nextV_in l 6 30 (by omega)
    have w1 := nextV_in l 7 30 (by omega)
    have f0 := nextV_in l 4 5000 (by omega)
    have p0 := rangeV_in l 5 (-nextV l 2 100001) (nextV l 2 100001) (by omega)
    obtain ⟨a0, b0⟩ := lg_mk f0 p0 (by omega)
    have L := ct_101111 W.heap.size l x
    rw [eN, eLo, eHi, eT] at L
    have F := shows_fin (T := [] ++ [[nextV l 4 5000, rangeV l 5 (-nextV l 2 100001) (nextV l 2 100001)]]) (y := belowV x 30000) (lo := rangeV l 1 (-1000) 1000 - nextV l 6 30) (hi := rangeV l 1 (-1000) 1000 + nextV l 7 30) hs ha ⟨hd.1, by omega⟩ (by omega) (by omega) hy (by simp [lenT]) (by simp only [List.nil_append, List.cons_append, List.all_cons, List.all_nil, a0, Bool.and_self]) (by simp only [List.nil_append, List.cons_append, List.all_cons, List.all_nil, b0, Bool.and_self])
    obtain ⟨F1, F2, F3, F4⟩ := F
    have n0 : decide (0 < nextV l 3 5) = true := by rw [show (0 : Int) = 0 by decide, hk]; rfl
    have n1 : decide (IntKind.i64.wrap 1 < nextV l 3 5) = false := by rw [show (IntKind.i64.wrap 1 : Int) = 1 by decide, hk]; rfl
    have V : (!(uniC { s := rangeV l 0 (-1000) 1000, b := { lo := rangeV l 1 (-1000) 1000 - nextV l 6 30, hi := rangeV l 1 (-1000) 1000 + nextV l 7 30, u := false }, d := nextV l 2 100001 } (rdV (rangeV l 0 (-1000) 1000) (rangeV l 1 (-1000) 1000) ([] ++ [[nextV l 4 5000, rangeV l 5 (-nextV l 2 100001) (nextV l 2 100001)]]) (rangeV l 1 (-1000) 1000 + belowV x 30000))).u) = true := by rw [F4]; rfl
    have F0 : (rdE (rangeV l 0 (-1000) 1000) (rangeV l 1 (-1000) 1000) ([] ++ [[nextV l 4 5000, rangeV l 5 (-nextV l 2 100001) (nextV l 2 100001)]]) (rangeV l 1 (-1000) 1000 + belowV x 30000) == 0) = true := by rw [F1]; rfl
    refine list_callsR (B := W.heap.size) (v := .bool true) (ctxLp_ok (libT_ok _) (eq_none _) fnsU_ok (fnlU W.heap.size)) (by kernel_rfl) Try.func3 rfl L rfl (.cons rfl .nil) (congrArg (fun b => some (Value.bool b)) V) W rfl hf (pickL_ok ?_ _)
    repeat' (first | exact cd_nil | refine cd_cons ?_ ?_)
    all_goals first | rfl | with_reducible assumption | exact at_ _ (by omega) (by omega) | decide

  · have eLo : IntKind.i64.wrap (rangeV l 1 (-1000) 1000 - nextV l 8 30) = rangeV l 1 (-1000) 1000 - nextV l 8 30 := v64 (by have := nextV_in l 8 30 (by omega); omega) (by have := nextV_in l 8 30 (by omega); omega)
    have eHi : IntKind.i64.wrap (rangeV l 1 (-1000) 1000 + nextV l 9 30) = rangeV l 1 (-1000) 1000 + nextV l 9 30 := v64 (by have := nextV_in l 9 30 (by omega); omega) (by have := nextV_in l 9 30 (by omega); omega)
    have w0 := nextV_in l 8 30 (by omega)
    have w1 := nextV_in l 9 30 (by omega)
    have f0 := nextV_in l 4 5000 (by omega)
    have p0 := rangeV_in l 5 (-nextV l 2 100001) (nextV l 2 100001) (by omega)
    obtain ⟨a0, b0⟩ := lg_mk f0 p0 (by omega)
    have f1 := nextV_in l 6 5000 (by omega)
    have p1 := rangeV_in l 7 (-nextV l 2 100001) (nextV l 2 100001) (by omega)
    obtain ⟨a1, b1⟩ := lg_mk f1 p1 (by omega)
    have L := ct_1101111 W.heap.size l x
    rw [eN, eLo, eHi, eT] at L
    have F := shows_fin (T := [] ++ [[nextV l 4 5000, rangeV l 5 (-nextV l 2 100001) (nextV l 2 100001)]] ++ [[nextV l 6 5000, rangeV l 7 (-nextV l 2 100001) (nextV l 2 100001)]]) (y := belowV x 30000) (lo := rangeV l 1 (-1000) 1000 - nextV l 8 30) (hi := rangeV l 1 (-1000) 1000 + nextV l 9 30) hs ha ⟨hd.1, by omega⟩ (by omega) (by omega) hy (by simp [lenT]) (by simp only [List.nil_append, List.cons_append, List.all_cons, List.all_nil, a0, a1, Bool.and_self]) (by simp only [List.nil_append, List.cons_append, List.all_cons, List.all_nil, b0, b1, Bool.and_self])
    obtain ⟨F1, F2, F3, F4⟩ := F
    have n0 : decide (0 < nextV l 3 5) = true := by rw [show (0 : Int) = 0 by decide, hk]; rfl
    have n1 : decide (IntKind.i64.wrap 1 < nextV l 3 5) = true := by rw [show (IntKind.i64.wrap 1 : Int) = 1 by decide, hk]; rfl
    have n2 : decide (IntKind.i64.wrap (IntKind.i64.wrap 1 + 1) < nextV l 3 5) = false := by rw [show (IntKind.i64.wrap (IntKind.i64.wrap 1 + 1) : Int) = 2 by decide, hk]; rfl
    have V : (!(uniC { s := rangeV l 0 (-1000) 1000, b := { lo := rangeV l 1 (-1000) 1000 - nextV l 8 30, hi := rangeV l 1 (-1000) 1000 + nextV l 9 30, u := false }, d := nextV l 2 100001 } (rdV (rangeV l 0 (-1000) 1000) (rangeV l 1 (-1000) 1000) ([] ++ [[nextV l 4 5000, rangeV l 5 (-nextV l 2 100001) (nextV l 2 100001)]] ++ [[nextV l 6 5000, rangeV l 7 (-nextV l 2 100001) (nextV l 2 100001)]]) (rangeV l 1 (-1000) 1000 + belowV x 30000))).u) = true := by rw [F4]; rfl
    have F0 : (rdE (rangeV l 0 (-1000) 1000) (rangeV l 1 (-1000) 1000) ([] ++ [[nextV l 4 5000, rangeV l 5 (-nextV l 2 100001) (nextV l 2 100001)]] ++ [[nextV l 6 5000, rangeV l 7 (-nextV l 2 100001) (nextV l 2 100001)]]) (rangeV l 1 (-1000) 1000 + belowV x 30000) == 0) = true := by rw [F1]; rfl
    refine list_callsR (B := W.heap.size) (v := .bool true) (ctxLp_ok (libT_ok _) (eq_none _) fnsU_ok (fnlU W.heap.size)) (by kernel_rfl) Try.func3 rfl L rfl (.cons rfl .nil) (congrArg (fun b => some (Value.bool b)) V) W rfl hf (pickL_ok ?_ _)
    repeat' (first | exact cd_nil | refine cd_cons ?_ ?_)
    all_goals first | rfl | with_reducible assumption | exact at_ _ (by omega) (by omega) | decide

  · have eLo : IntKind.i64.wrap (rangeV l 1 (-1000) 1000 - nextV l 10 30) = rangeV l 1 (-1000) 1000 - nextV l 10 30 := v64 (by have := nextV_in l 10 30 (by omega); omega) (by have := nextV_in l 10 30 (by omega); omega)
    have eHi : IntKind.i64.wrap (rangeV l 1 (-1000) 1000 + nextV l 11 30) = rangeV l 1 (-1000) 1000 + nextV l 11 30 := v64 (by have := nextV_in l 11 30 (by omega); omega) (by have := nextV_in l 11 30 (by omega); omega)
    have w0 := nextV_in l 10 30 (by omega)
    have w1 := nextV_in l 11 30 (by omega)
    have f0 := nextV_in l 4 5000 (by omega)
    have p0 := rangeV_in l 5 (-nextV l 2 100001) (nextV l 2 100001) (by omega)
    obtain ⟨a0, b0⟩ := lg_mk f0 p0 (by omega)
    have f1 := nextV_in l 6 5000 (by omega)
    have p1 := rangeV_in l 7 (-nextV l 2 100001) (nextV l 2 100001) (by omega)
    obtain ⟨a1, b1⟩ := lg_mk f1 p1 (by omega)
    have f2 := nextV_in l 8 5000 (by omega)
    have p2 := rangeV_in l 9 (-nextV l 2 100001) (nextV l 2 100001) (by omega)
    obtain ⟨a2, b2⟩ := lg_mk f2 p2 (by omega)
    have L := ct_11101111 W.heap.size l x
    rw [eN, eLo, eHi, eT] at L
    have F := shows_fin (T := [] ++ [[nextV l 4 5000, rangeV l 5 (-nextV l 2 100001) (nextV l 2 100001)]] ++ [[nextV l 6 5000, rangeV l 7 (-nextV l 2 100001) (nextV l 2 100001)]] ++ [[nextV l 8 5000, rangeV l 9 (-nextV l 2 100001) (nextV l 2 100001)]]) (y := belowV x 30000) (lo := rangeV l 1 (-1000) 1000 - nextV l 10 30) (hi := rangeV l 1 (-1000) 1000 + nextV l 11 30) hs ha ⟨hd.1, by omega⟩ (by omega) (by omega) hy (by simp [lenT]) (by simp only [List.nil_append, List.cons_append, List.all_cons, List.all_nil, a0, a1, a2, Bool.and_self]) (by simp only [List.nil_append, List.cons_append, List.all_cons, List.all_nil, b0, b1, b2, Bool.and_self])
    obtain ⟨F1, F2, F3, F4⟩ := F
    have n0 : decide (0 < nextV l 3 5) = true := by rw [show (0 : Int) = 0 by decide, hk]; rfl
    have n1 : decide (IntKind.i64.wrap 1 < nextV l 3 5) = true := by rw [show (IntKind.i64.wrap 1 : Int) = 1 by decide, hk]; rfl
    have n2 : decide (IntKind.i64.wrap (IntKind.i64.wrap 1 + 1) < nextV l 3 5) = true := by rw [show (IntKind.i64.wrap (IntKind.i64.wrap 1 + 1) : Int) = 2 by decide, hk]; rfl
    have n3 : decide (IntKind.i64.wrap (IntKind.i64.wrap (IntKind.i64.wrap 1 + 1) + 1) < nextV l 3 5) = false := by rw [show (IntKind.i64.wrap (IntKind.i64.wrap (IntKind.i64.wrap 1 + 1) + 1) : Int) = 3 by decide, hk]; rfl
    have V : (!(uniC { s := rangeV l 0 (-1000) 1000, b := { lo := rangeV l 1 (-1000) 1000 - nextV l 10 30, hi := rangeV l 1 (-1000) 1000 + nextV l 11 30, u := false }, d := nextV l 2 100001 } (rdV (rangeV l 0 (-1000) 1000) (rangeV l 1 (-1000) 1000) ([] ++ [[nextV l 4 5000, rangeV l 5 (-nextV l 2 100001) (nextV l 2 100001)]] ++ [[nextV l 6 5000, rangeV l 7 (-nextV l 2 100001) (nextV l 2 100001)]] ++ [[nextV l 8 5000, rangeV l 9 (-nextV l 2 100001) (nextV l 2 100001)]]) (rangeV l 1 (-1000) 1000 + belowV x 30000))).u) = true := by rw [F4]; rfl
    have F0 : (rdE (rangeV l 0 (-1000) 1000) (rangeV l 1 (-1000) 1000) ([] ++ [[nextV l 4 5000, rangeV l 5 (-nextV l 2 100001) (nextV l 2 100001)]] ++ [[nextV l 6 5000, rangeV l 7 (-nextV l 2 100001) (nextV l 2 100001)]] ++ [[nextV l 8 5000, rangeV l 9 (-nextV l 2 100001) (nextV l 2 100001)]]) (rangeV l 1 (-1000) 1000 + belowV x 30000) == 0) = true := by rw [F1]; rfl
    refine list_callsR (B := W.heap.size) (v := .bool true) (ctxLp_ok (libT_ok _) (eq_none _) fnsU_ok (fnlU W.heap.size)) (by kernel_rfl) Try.func3 rfl L rfl (.cons rfl .nil) (congrArg (fun b => some (Value.bool b)) V) W rfl hf (pickL_ok ?_ _)
    repeat' (first | exact cd_nil | refine cd_cons ?_ ?_)
    all_goals first | rfl | with_reducible assumption | exact at_ _ (by omega) (by omega) | decide

  · have eLo : IntKind.i64.wrap (rangeV l 1 (-1000) 1000 - nextV l 12 30) = rangeV l 1 (-1000) 1000 - nextV l 12 30 := v64 (by have := nextV_in l 12 30 (by omega); omega) (by have := nextV_in l 12 30 (by omega); omega)
    have eHi : IntKind.i64.wrap (rangeV l 1 (-1000) 1000 + nextV l 13 30) = rangeV l 1 (-1000) 1000 + nextV l 13 30 := v64 (by have := nextV_in l 13 30 (by omega); omega) (by have := nextV_in l 13 30 (by omega); omega)
    have w0 := nextV_in l 12 30 (by omega)
    have w1 := nextV_in l 13 30 (by omega)
    have f0 := nextV_in l 4 5000 (by omega)
    have p0 := rangeV_in l 5 (-nextV l 2 100001) (nextV l 2 100001) (by omega)
    obtain ⟨a0, b0⟩ := lg_mk f0 p0 (by omega)
    have f1 := nextV_in l 6 5000 (by omega)
    have p1 := rangeV_in l 7 (-nextV l 2 100001) (nextV l 2 100001) (by omega)
    obtain ⟨a1, b1⟩ := lg_mk f1 p1 (by omega)
    have f2 := nextV_in l 8 5000 (by omega)
    have p2 := rangeV_in l 9 (-nextV l 2 100001) (nextV l 2 100001) (by omega)
    obtain ⟨a2, b2⟩ := lg_mk f2 p2 (by omega)
    have f3 := nextV_in l 10 5000 (by omega)
    have p3 := rangeV_in l 11 (-nextV l 2 100001) (nextV l 2 100001) (by omega)
    obtain ⟨a3, b3⟩ := lg_mk f3 p3 (by omega)
    have L := ct_111101111 W.heap.size l x
    rw [eN, eLo, eHi, eT] at L
    have F := shows_fin (T := [] ++ [[nextV l 4 5000, rangeV l 5 (-nextV l 2 100001) (nextV l 2 100001)]] ++ [[nextV l 6 5000, rangeV l 7 (-nextV l 2 100001) (nextV l 2 100001)]] ++ [[nextV l 8 5000, rangeV l 9 (-nextV l 2 100001) (nextV l 2 100001)]] ++ [[nextV l 10 5000, rangeV l 11 (-nextV l 2 100001) (nextV l 2 100001)]]) (y := belowV x 30000) (lo := rangeV l 1 (-1000) 1000 - nextV l 12 30) (hi := rangeV l 1 (-1000) 1000 + nextV l 13 30) hs ha ⟨hd.1, by omega⟩ (by omega) (by omega) hy (by simp [lenT]) (by simp only [List.nil_append, List.cons_append, List.all_cons, List.all_nil, a0, a1, a2, a3, Bool.and_self]) (by simp only [List.nil_append, List.cons_append, List.all_cons, List.all_nil, b0, b1, b2, b3, Bool.and_self])
    obtain ⟨F1, F2, F3, F4⟩ := F
    have n0 : decide (0 < nextV l 3 5) = true := by rw [show (0 : Int) = 0 by decide, hk]; rfl
    have n1 : decide (IntKind.i64.wrap 1 < nextV l 3 5) = true := by rw [show (IntKind.i64.wrap 1 : Int) = 1 by decide, hk]; rfl
    have n2 : decide (IntKind.i64.wrap (IntKind.i64.wrap 1 + 1) < nextV l 3 5) = true := by rw [show (IntKind.i64.wrap (IntKind.i64.wrap 1 + 1) : Int) = 2 by decide, hk]; rfl
    have n3 : decide (IntKind.i64.wrap (IntKind.i64.wrap (IntKind.i64.wrap 1 + 1) + 1) < nextV l 3 5) = true := by rw [show (IntKind.i64.wrap (IntKind.i64.wrap (IntKind.i64.wrap 1 + 1) + 1) : Int) = 3 by decide, hk]; rfl
    have n4 : decide (IntKind.i64.wrap (IntKind.i64.wrap (IntKind.i64.wrap (IntKind.i64.wrap 1 + 1) + 1) + 1) < nextV l 3 5) = false := by rw [show (IntKind.i64.wrap (IntKind.i64.wrap (IntKind.i64.wrap (IntKind.i64.wrap 1 + 1) + 1) + 1) : Int) = 4 by decide, hk]; rfl
    have V : (!(uniC { s := rangeV l 0 (-1000) 1000, b := { lo := rangeV l 1 (-1000) 1000 - nextV l 12 30, hi := rangeV l 1 (-1000) 1000 + nextV l 13 30, u := false }, d := nextV l 2 100001 } (rdV (rangeV l 0 (-1000) 1000) (rangeV l 1 (-1000) 1000) ([] ++ [[nextV l 4 5000, rangeV l 5 (-nextV l 2 100001) (nextV l 2 100001)]] ++ [[nextV l 6 5000, rangeV l 7 (-nextV l 2 100001) (nextV l 2 100001)]] ++ [[nextV l 8 5000, rangeV l 9 (-nextV l 2 100001) (nextV l 2 100001)]] ++ [[nextV l 10 5000, rangeV l 11 (-nextV l 2 100001) (nextV l 2 100001)]]) (rangeV l 1 (-1000) 1000 + belowV x 30000))).u) = true := by rw [F4]; rfl
    have F0 : (rdE (rangeV l 0 (-1000) 1000) (rangeV l 1 (-1000) 1000) ([] ++ [[nextV l 4 5000, rangeV l 5 (-nextV l 2 100001) (nextV l 2 100001)]] ++ [[nextV l 6 5000, rangeV l 7 (-nextV l 2 100001) (nextV l 2 100001)]] ++ [[nextV l 8 5000, rangeV l 9 (-nextV l 2 100001) (nextV l 2 100001)]] ++ [[nextV l 10 5000, rangeV l 11 (-nextV l 2 100001) (nextV l 2 100001)]]) (rangeV l 1 (-1000) 1000 + belowV x 30000) == 0) = true := by rw [F1]; rfl
    refine list_callsR (B := W.heap.size) (v := .bool true) (ctxLp_ok (libT_ok _) (eq_none _) fnsU_ok (fnlU W.heap.size)) (by kernel_rfl) Try.func3 rfl L rfl (.cons rfl .nil) (congrArg (fun b => some (Value.bool b)) V) W rfl hf (pickL_ok ?_ _)
    repeat' (first | exact cd_nil | refine cd_cons ?_ ?_)
    all_goals first | rfl | with_reducible assumption | exact at_ _ (by omega) (by omega) | decide

theorem clockShowsTruth_walk (l : List Int) (p : Option Addr) (cap : Nat) (x : Int) (h1 : -9223372036854775808 ≤ x) (h2 : x ≤ 9223372036854775807) (hl : listB l = true) (W : World) (hf : fctHolds W.heap.size (.ints l) W #[.slice p l.length cap]) :
    Calls Try.prog 3 #[.slice p l.length cap, .int .i64 x] W fun e w' => e = .returned (.bool true) ∧ Below W.heap.size W w' := clockShowsTruth_law l p cap hl x (i64B_iff.2 ⟨h1, h2⟩) W hf
end
end Go.Proofs.Ytpolpckjfgndeab.AtCk

