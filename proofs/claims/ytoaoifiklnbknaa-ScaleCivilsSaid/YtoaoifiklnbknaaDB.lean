/-
  Package scale: dayOf and ToCivil as functions of their arguments; the loop of the reference's CivilOf.
  Conditions: those of each theorem.
-/
import Derived.Test.YtoaoifiklnbknaaDA
import Derived.Test.YtoaoifiklnbknaaNS
set_option linter.unusedVariables false
set_option linter.unusedSimpArgs false
namespace Go.Proofs.Ytoaoifiklnbknaa.RL
open Go.RowKit Ev Sc
open Go.Proofs.Ytoaoifiklnbknaa
variable {F : Type}
noncomputable section

/-- The civil day at a time. -/
def bgL (d : Int) (l : List (Int × Int)) : Int := 86400000 * d + 1000 * sumL d l
def dcV (t : Int) (l : List (Int × Int)) : Int := if t < bgL (t / 86400000) l then t / 86400000 - 1 else if bgL (t / 86400000 + 1) l ≤ t then t / 86400000 + 1 else t / 86400000
def tcE (t : Int) (l : List (Int × Int)) : Int := if tmB t = true then ckL l else 4
/-- Second of a day, and the fields of a civil time. -/
def tcS (t : Int) (l : List (Int × Int)) : Int := (t - bgL (dcV t l) l) / 1000
def tcM (t : Int) (l : List (Int × Int)) : Int := if tcS t l / 60 < 1439 then tcS t l / 60 else 1439
def z0 (t : Int) (l : List (Int × Int)) (x : Int) : Int := if tcE t l = 0 then x else 0
abbrev tcA (t : Int) (l : List (Int × Int)) : AW Lp := .agg [.int .i64 (z0 t l (dtY (dcV t l))), .int .i64 (z0 t l (dtM (dcV t l))), .int .i64 (z0 t l (dtD (dcV t l))), .int .i64 (z0 t l (tcM t l / 60)), .int .i64 (z0 t l (tcM t l % 60)), .int .i64 (z0 t l (tcS t l - 60 * tcM t l)), .int .i64 (z0 t l ((t - bgL (dcV t l) l) % 1000))]
def gDayOf : List (AV Lp) → Option (AV Lp × List (Bool × Bool))
  | [.w (.one (.int .i64 t)), .w (.one (.fv (.row l)))] => some (.w (.one (.int .i64 (dcV t l))), [(decide (okT l), true), (tmB t, true)])
  | _ => none
def gToC : List (AV Lp) → Option (AV Lp × List (Bool × Bool))
  | [.w (.one (.int .i64 t)), .w (.one (.fv (.row l)))] => some (.tup [tcA t l, .one (.int .i64 (tcE t l))], [(i64B t, true)])
  | _ => none
noncomputable abbrev libDO : List (Nat × FnSp Lp) := [(141, floordivS), (106, bothSp mkLp gBegin)]
def mnV (x : Int) : Int := if 1439 < x then 1439 else x
theorem tmB_iff {t : Int} : tmB t = true ↔ -17592186044416 ≤ t ∧ t ≤ 17592186044416 := by unfold tmB; simp
theorem bg_bd {l : List (Int × Int)} (h : okT l) (d : Int) : 86400000 * d - 64000 ≤ bgL d l ∧ bgL d l ≤ 86400000 * d + 64000 := by
  have := sumL_in (day := d) h.2
  have := h.1
  unfold bgL; omega
theorem dc_in {t : Int} {l : List (Int × Int)} (ht : tmB t = true) (hl : okT l) : bgL (dcV t l) l ≤ t ∧ t < bgL (dcV t l + 1) l ∧ -300000 ≤ dcV t l ∧ dcV t l ≤ 300000 ∧ t / 86400000 - 1 ≤ dcV t l ∧ -300000 ≤ t / 86400000 ∧ t / 86400000 ≤ 300000 := by
  rw [tmB_iff] at ht
  have hq : -203700 ≤ t / 86400000 ∧ t / 86400000 ≤ 203700 := by omega
  unfold dcV
  have b0 := bg_bd hl (t / 86400000 - 1)
  have b1 := bg_bd hl (t / 86400000)
  have b2 := bg_bd hl (t / 86400000 + 1)
  have b3 := bg_bd hl (t / 86400000 + 1 + 1)
  by_cases h1 : t < bgL (t / 86400000) l
  · rw [if_pos h1, show t / 86400000 - 1 + 1 = t / 86400000 by omega]
    omega
  · rw [if_neg h1]
    by_cases h2 : bgL (t / 86400000 + 1) l ≤ t
    · rw [if_pos h2]; omega
    · rw [if_neg h2]; omega
theorem dayB_of {d : Int} (h1 : -10000000 ≤ d) (h2 : d ≤ 10000000) : dayB d = true := by
  unfold dayB; rw [decide_eq_true h1, decide_eq_true h2]; rfl
theorem libDO_ok : LibOk Try.prog lpI (lib1 libDO) := lib1_cons (floordivS_ok _) Try.call141 (lib1_cons gBegin_ok Try.call106 (lib1_nil _ _))
set_option maxRecDepth 100000 in
theorem dof_1 (t : Int) (l : List (Int × Int)) : evR (ctxOf Try.prog lpI (fun _ => false) libDO) Try.f111 [(.w (.one (.int .i64 t))), (.w (.one (.fv (.row l))))] [true] = some (AV.w (AW.one (AC.int IntKind.i64 (IntKind.i64.wrap (fdV t 86400000 - 1)))), (pickL [(i64B t, true), (i64B 86400000, true), (decide (okT l), true), (dayB (fdV t 86400000), true), (decide (t < 86400000 * fdV t 86400000 + 1000 * sumL (fdV t 86400000) l), true)] [0, 1, 2, 3, 4])) := by kernel_rfl
set_option maxRecDepth 100000 in
theorem dof_01 (t : Int) (l : List (Int × Int)) : evR (ctxOf Try.prog lpI (fun _ => false) libDO) Try.f111 [(.w (.one (.int .i64 t))), (.w (.one (.fv (.row l))))] [false, true] = some (AV.w (AW.one (AC.int IntKind.i64 (IntKind.i64.wrap (fdV t 86400000 + 1)))), (pickL [(i64B t, true), (i64B 86400000, true), (decide (okT l), true), (dayB (fdV t 86400000), true), (decide (t < 86400000 * fdV t 86400000 + 1000 * sumL (fdV t 86400000) l), false), (dayB (IntKind.i64.wrap (fdV t 86400000 + 1)), true), (decide (t ≥ 86400000 * IntKind.i64.wrap (fdV t 86400000 + 1) + 1000 * sumL (IntKind.i64.wrap (fdV t 86400000 + 1)) l), true)] [0, 1, 2, 3, 4, 2, 5, 6])) := by kernel_rfl
set_option maxRecDepth 100000 in
theorem dof_00 (t : Int) (l : List (Int × Int)) : evR (ctxOf Try.prog lpI (fun _ => false) libDO) Try.f111 [(.w (.one (.int .i64 t))), (.w (.one (.fv (.row l))))] [false, false] = some (AV.w (AW.one (AC.int IntKind.i64 (fdV t 86400000))), (pickL [(i64B t, true), (i64B 86400000, true), (decide (okT l), true), (dayB (fdV t 86400000), true), (decide (t < 86400000 * fdV t 86400000 + 1000 * sumL (fdV t 86400000) l), false), (dayB (IntKind.i64.wrap (fdV t 86400000 + 1)), true), (decide (t ≥ 86400000 * IntKind.i64.wrap (fdV t 86400000 + 1) + 1000 * sumL (IntKind.i64.wrap (fdV t 86400000 + 1)) l), false)] [0, 1, 2, 3, 4, 2, 5, 6])) := by kernel_rfl
theorem gDayOf_ok : (bothSp mkLp gDayOf).ok Try.prog lpI 111 :=
  bothSp_ok (ctxOf_ok libDO_ok (eq_none _)) (by kernel_rfl) Try.func111 rfl lps_nil mkLp_ok fun args v cd hg hc => by
    unfold gDayOf at hg
    split at hg
    · rename_i t l
      cases hg
      refine ⟨rfl, rfl, rfl, ?_⟩
      have hl : okT l := of_decide_eq_true (hc (decide (okT l), true) (by simp))
      have ht : tmB t = true := hc (tmB t, true) (by simp)
      have c0 : decide (okT l) = true := decide_eq_true hl
      obtain ⟨_, _, _, _, _, q1, q2⟩ := dc_in ht hl
      have ht' := tmB_iff.1 ht
      have i1 : i64B t = true := i64B_iff.2 (by omega)
      have i2 : i64B 86400000 = true := i64B_iff.2 (by omega)
      have hf : fdV t 86400000 = t / 86400000 := by unfold fdV; rw [if_neg (by omega)]
      have w1 : IntKind.i64.wrap (t / 86400000 + 1) = t / 86400000 + 1 := w64 (by omega) (by omega)
      have w2 : IntKind.i64.wrap (t / 86400000 - 1) = t / 86400000 - 1 := w64 (by omega) (by omega)
      have d1 := dayB_of (d := t / 86400000) (by omega) (by omega)
      have d2 := dayB_of (d := t / 86400000 + 1) (by omega) (by omega)
      by_cases h1 : t < 86400000 * (t / 86400000) + 1000 * sumL (t / 86400000) l
      · have c1 : decide (t < 86400000 * (t / 86400000) + 1000 * sumL (t / 86400000) l) = true := decide_eq_true h1
        have e : dcV t l = t / 86400000 - 1 := if_pos h1
        have L := dof_1 t l
        rw [hf] at L
        rw [w2] at L
        refine ⟨[true], _, _, L, fun E u hu => ?_, pickL_ok ?_ _⟩
        · rw [e]; exact hu
        repeat' (first | exact cd_nil | refine cd_cons ?_ ?_)
        all_goals first | rfl | with_reducible assumption

      · have c1 : decide (t < 86400000 * (t / 86400000) + 1000 * sumL (t / 86400000) l) = false := decide_eq_false h1
        by_cases h2 : 86400000 * (t / 86400000 + 1) + 1000 * sumL (t / 86400000 + 1) l ≤ t
        · have c2 : decide (t ≥ 86400000 * (t / 86400000 + 1) + 1000 * sumL (t / 86400000 + 1) l) = true := decide_eq_true h2
          have e : dcV t l = t / 86400000 + 1 := (if_neg h1).trans (if_pos h2)
          have L := dof_01 t l
          rw [hf] at L
          rw [w1] at L
          refine ⟨[false, true], _, _, L, fun E u hu => ?_, pickL_ok ?_ _⟩
          · rw [e]; exact hu
          repeat' (first | exact cd_nil | refine cd_cons ?_ ?_)
          all_goals first | rfl | with_reducible assumption

        · have c2 : decide (t ≥ 86400000 * (t / 86400000 + 1) + 1000 * sumL (t / 86400000 + 1) l) = false := decide_eq_false h2
          have e : dcV t l = t / 86400000 := (if_neg h1).trans (if_neg h2)
          have L := dof_00 t l
          rw [hf] at L
          rw [w1] at L
          refine ⟨[false, false], _, _, L, fun E u hu => ?_, pickL_ok ?_ _⟩
          · rw [e]; exact hu
          repeat' (first | exact cd_nil | refine cd_cons ?_ ?_)
          all_goals first | rfl | with_reducible assumption

    · cases hg
noncomputable abbrev libTC : List (Nat × FnSp Lp) := [(107, tmS), (64, bothSp mkLp gCheckL), (111, bothSp mkLp gDayOf), (59, dateS), (106, bothSp mkLp gBegin)]
theorem libTC_ok : LibOk Try.prog lpI (lib1 libTC) := lib1_cons (sp1_ok fun t _ => ⟨_, rfl, tmf_pl t⟩) Try.call107 (lib1_cons gCheckL_ok Try.call64 (lib1_cons gDayOf_ok Try.call111 (lib1_cons (dateS_ok _) Try.call59 (lib1_cons gBegin_ok Try.call106 (lib1_nil _ _)))))
theorem tc_in {t : Int} {l : List (Int × Int)} (ht : tmB t = true) (hc : ckL l = 0) : IntKind.i64.wrap (t - (86400000 * dcV t l + 1000 * sumL (dcV t l) l)) = t - bgL (dcV t l) l ∧ IntKind.i64.wrap ((t - bgL (dcV t l) l).tdiv 1000) = tcS t l ∧ IntKind.i64.wrap ((tcS t l).tdiv 60) = tcS t l / 60 ∧ mnV (tcS t l / 60) = tcM t l ∧ IntKind.i64.wrap ((tcM t l).tdiv 60) = tcM t l / 60 ∧ (tcM t l).tmod 60 = tcM t l % 60 ∧
    IntKind.i64.wrap (60 * tcM t l) = 60 * tcM t l ∧ IntKind.i64.wrap (tcS t l - 60 * tcM t l) = tcS t l - 60 * tcM t l ∧ (t - bgL (dcV t l) l).tmod 1000 = (t - bgL (dcV t l) l) % 1000 ∧ dayB (dcV t l) = true ∧ 0 ≤ tcS t l ∧ tcS t l ≤ 86400 := by
  have hl := ckL_ok hc
  obtain ⟨q1, q2, q3, q4, _, _, _⟩ := dc_in ht hl
  have st := ck_step hc (dcV t l)
  have b1 : bgL (dcV t l + 1) l = 86400000 * (dcV t l + 1) + 1000 * sumL (dcV t l + 1) l := rfl
  have b0 : bgL (dcV t l) l = 86400000 * dcV t l + 1000 * sumL (dcV t l) l := rfl
  have hst := stL_in (day := dcV t l) hl.2
  have ht' := tmB_iff.1 ht
  have hR : t - bgL (dcV t l) l ≤ 86400999 := by omega
  have hS : tcS t l = (t - bgL (dcV t l) l) / 1000 := rfl
  have hM : tcM t l = if tcS t l / 60 < 1439 then tcS t l / 60 else 1439 := rfl
  have hM2 : tcM t l ≤ 1439 ∧ 0 ≤ tcM t l ∧ tcM t l ≤ tcS t l / 60 := by rw [hM]; split <;> omega
  refine ⟨by rw [← b0]; exact w64 (by omega) (by omega), ?_, ?_, ?_, ?_, ?_, w64 (by omega) (by omega), w64 (by omega) (by omega), ?_, dayB_of (by omega) (by omega), by omega, by omega⟩
  · rw [Int.tdiv_eq_ediv_of_nonneg (by omega), w64 (by omega) (by omega)]; rfl
  · rw [Int.tdiv_eq_ediv_of_nonneg (by omega), w64 (by omega) (by omega)]
  · rw [hM]; unfold mnV; split <;> split <;> omega
  · rw [Int.tdiv_eq_ediv_of_nonneg (by omega), w64 (by omega) (by omega)]
  · rw [Int.tmod_eq_emod_of_nonneg (by omega)]
  · rw [Int.tmod_eq_emod_of_nonneg (by omega)]
set_option maxRecDepth 100000 in
theorem tcf_1 (t : Int) (l : List (Int × Int)) : evR (ctxOf Try.prog lpI (fun _ => false) libTC) Try.f68 [(.w (.one (.int .i64 t))), (.w (.one (.fv (.row l))))] [true] = some (AV.tup [AW.agg [AC.int IntKind.i64 0, AC.int IntKind.i64 0, AC.int IntKind.i64 0, AC.int IntKind.i64 0, AC.int IntKind.i64 0, AC.int IntKind.i64 0, AC.int IntKind.i64 0], AW.one (AC.int IntKind.i64 4)], (pickL [(!tmB t, true)] [0])) := by kernel_rfl
set_option maxRecDepth 100000 in
theorem tcf_01 (t : Int) (l : List (Int × Int)) : evR (ctxOf Try.prog lpI (fun _ => false) libTC) Try.f68 [(.w (.one (.int .i64 t))), (.w (.one (.fv (.row l))))] [false, true] = some (AV.tup [AW.agg [AC.int IntKind.i64 0, AC.int IntKind.i64 0, AC.int IntKind.i64 0, AC.int IntKind.i64 0, AC.int IntKind.i64 0, AC.int IntKind.i64 0, AC.int IntKind.i64 0], AW.one (AC.int IntKind.i64 (ckL l))], (pickL [(!tmB t, false), (ckL l != 0, true)] [0, 1])) := by kernel_rfl
set_option maxRecDepth 100000 in
theorem tcf_00 (t : Int) (l : List (Int × Int)) : evR (ctxOf Try.prog lpI (fun _ => false) libTC) Try.f68 [(.w (.one (.int .i64 t))), (.w (.one (.fv (.row l))))] [false, false] = some (AV.tup [AW.agg [AC.int IntKind.i64 (dtY (dcV t l)), AC.int IntKind.i64 (dtM (dcV t l)), AC.int IntKind.i64 (dtD (dcV t l)), AC.int IntKind.i64 (IntKind.i64.wrap ((mnV (IntKind.i64.wrap ((IntKind.i64.wrap ((IntKind.i64.wrap (t - (86400000 * dcV t l + 1000 * sumL (dcV t l) l))).tdiv 1000)).tdiv 60))).tdiv 60)), AC.int IntKind.i64 ((mnV (IntKind.i64.wrap ((IntKind.i64.wrap ((IntKind.i64.wrap (t - (86400000 * dcV t l + 1000 * sumL (dcV t l) l))).tdiv 1000)).tdiv 60))).tmod 60), AC.int IntKind.i64 (IntKind.i64.wrap (IntKind.i64.wrap ((IntKind.i64.wrap (t - (86400000 * dcV t l + 1000 * sumL (dcV t l) l))).tdiv 1000) - IntKind.i64.wrap (60 * (mnV (IntKind.i64.wrap ((IntKind.i64.wrap ((IntKind.i64.wrap (t - (86400000 * dcV t l + 1000 * sumL (dcV t l) l))).tdiv 1000)).tdiv 60)))))), AC.int IntKind.i64 ((IntKind.i64.wrap (t - (86400000 * dcV t l + 1000 * sumL (dcV t l) l))).tmod 1000)], AW.one (AC.int IntKind.i64 0)], (pickL [(!tmB t, false), (ckL l != 0, false), (decide (okT l), true), (tmB t, true), (dayB (dcV t l), true), (decide ((1000 : Int) = 0), false), (decide ((60 : Int) = 0), false)] [0, 1, 2, 3, 2, 4, 5, 6, 6, 6, 5])) := by kernel_rfl
theorem gToC_ok : (bothSp mkLp gToC).ok Try.prog lpI 68 :=
  bothSp_ok (ctxOf_ok libTC_ok (eq_none _)) (by kernel_rfl) Try.func68 rfl lps_nil mkLp_ok fun args v cd hg hc => by
    unfold gToC at hg
    split at hg
    · rename_i t l
      cases hg
      refine ⟨rfl, rfl, rfl, ?_⟩
      by_cases h1 : tmB t = true
      · have ht := h1
        have c1 : (!tmB t) = false := by rw [h1]; rfl
        by_cases h2 : ckL l = 0
        · have c2 : (ckL l != 0) = false := by rw [h2]; rfl
          have hl := ckL_ok h2
          have c3 : decide (okT l) = true := decide_eq_true hl
          obtain ⟨r1, r2, r3, r4, r5, r6, r7, r8, r9, r10, r11, r12⟩ := tc_in ht h2
          have e : tcE t l = 0 := by unfold tcE; rw [if_pos h1, h2]
          have e1 : ∀ x, z0 t l x = x := fun x => if_pos e
          have L := tcf_00 t l
          rw [r1, r2, r3, r4, r5, r6, r7, r8, r9] at L
          refine ⟨[false, false], _, _, L, fun E u hu => ?_, pickL_ok ?_ _⟩
          · simp only [tcA, e1, e]; exact hu
          repeat' (first | exact cd_nil | refine cd_cons ?_ ?_)
          all_goals first | rfl | with_reducible assumption

        · have c2 : (ckL l != 0) = true := by simpa using h2
          have e : tcE t l = ckL l := by unfold tcE; rw [if_pos h1]
          have e1 : ∀ x, z0 t l x = 0 := fun x => if_neg (by rw [e]; exact h2)
          refine ⟨[false, true], _, _, tcf_01 t l, fun E u hu => ?_, pickL_ok ?_ _⟩
          · simp only [tcA, e1, e]; exact hu
          repeat' (first | exact cd_nil | refine cd_cons ?_ ?_)
          all_goals first | rfl | with_reducible assumption

      · have c1 : (!tmB t) = true := by simpa using h1
        have e : tcE t l = 4 := if_neg h1
        have e1 : ∀ x, z0 t l x = 0 := fun x => if_neg (by rw [e]; decide)
        refine ⟨[true], _, _, tcf_1 t l, fun E u hu => ?_, pickL_ok ?_ _⟩
        · simp only [tcA, e1, e]; exact hu
        repeat' (first | exact cd_nil | refine cd_cons ?_ ?_)
        all_goals first | rfl | with_reducible assumption

    · cases hg
noncomputable abbrev libCO : List (Nat × FnSp Lp) := [(65, bothSp mkLp gCheckL), (60, dateS), (108, bothSp mkLp gBegin)]
theorem libCO_ok : LibOk Try.prog lpI (lib1 libCO) := lib1_cons rLeaps_ok Try.call65 (lib1_cons (sp1_ok fun d _ => ⟨_, rfl, rdf_pl d⟩) Try.call60 (lib1_cons rBegin_ok Try.call108 (lib1_nil _ _)))
set_option maxRecDepth 100000 in
theorem co_1 (l : List (Int × Int)) (u : Int) (d : Int) (rest : List (Nat × AV Lp)) : evView (ctxOf Try.prog lpI (fun _ => false) libCO) 73 (false :: [false, false, true, true, true, true]) (loopAt (bodyOf Try.f69) [false, false, true, true, true, true]) ([(1, (.w (.one (.fv (.row l))))), (0, (.w (.one (.int .i64 u)))), (7, (.w (.one (.int .i64 d))))] ++ (ptrN 0 [] ++ rest)) [] 0 [1, 0, 7] [true] = some ((Ex.normal, [AV.w (AW.one (AC.fv (Lp.row l))), AV.w (AW.one (AC.int IntKind.i64 u)), AV.w (AW.one (AC.int IntKind.i64 (IntKind.i64.wrap (d + 1))))], []), (pickL [(decide (okT l), true), (dayB (IntKind.i64.wrap (d + 1)), true), (decide (86400000 * IntKind.i64.wrap (d + 1) + 1000 * sumL (IntKind.i64.wrap (d + 1)) l ≤ u), true)] [0, 1, 2])) := by kernel_rfl
set_option maxRecDepth 100000 in
theorem co_0 (l : List (Int × Int)) (u : Int) (d : Int) (rest : List (Nat × AV Lp)) : evView (ctxOf Try.prog lpI (fun _ => false) libCO) 73 (false :: [false, false, true, true, true, true]) (loopAt (bodyOf Try.f69) [false, false, true, true, true, true]) ([(1, (.w (.one (.fv (.row l))))), (0, (.w (.one (.int .i64 u)))), (7, (.w (.one (.int .i64 d))))] ++ (ptrN 0 [] ++ rest)) [] 0 [1, 0, 7] [false] = some ((Ex.exit 0, [AV.w (AW.one (AC.fv (Lp.row l))), AV.w (AW.one (AC.int IntKind.i64 u)), AV.w (AW.one (AC.int IntKind.i64 d))], []), (pickL [(decide (okT l), true), (dayB (IntKind.i64.wrap (d + 1)), true), (decide (86400000 * IntKind.i64.wrap (d + 1) + 1000 * sumL (IntKind.i64.wrap (d + 1)) l ≤ u), false)] [0, 1, 2])) := by kernel_rfl
structure coT where
  l : List (Int × Int)
  u : Int
  d : Int
def coP (l : List (Int × Int)) (u : Int) (d : Int) : Prop := okT l ∧ tmB u = true ∧ -1000000 ≤ d ∧ d ≤ dcV u l
instance (l : List (Int × Int)) (u : Int) (d : Int) : Decidable (coP l u d) := by unfold coP; infer_instance
def coTm (l : List (Int × Int)) (u : Int) (d : Int) : List (Nat × AV Lp) := [(1, (.w (.one (.fv (.row l))))), (0, (.w (.one (.int .i64 u)))), (7, (.w (.one (.int .i64 d))))]
def coS : LpSt coT Lp where
  ps := []
  tm := fun t => coTm t.l t.u t.d
  hp := fun t => []
def coNx (l : List (Int × Int)) (u : Int) (d : Int) : Nxt coT Lp := if bgL (d + 1) l ≤ u then .go ⟨l, u, d + 1⟩ else .out (.exit 0) (coTm l u d) []
def coStep (t : coT) : Nxt coT Lp := if coP t.l t.u t.d then coNx t.l t.u t.d else .bad
theorem co_go {l : List (Int × Int)} {u : Int} {d : Int} (h : coP l u d) : coStep ⟨l, u, d⟩ = coNx l u d := if_pos h
set_option maxRecDepth 100000 in
set_option maxHeartbeats 4000000 in
theorem co_round (t : coT) (hb : (coStep t).isBad = false) (rest : List (Nat × AV Lp)) : ∃ fuel path r, evC (ctxOf Try.prog lpI (fun _ => false) libCO) fuel 73 (false :: [false, false, true, true, true, true]) (loopAt (bodyOf Try.f69) [false, false, true, true, true, true]) (coS.tm t ++ (ptrN 0 coS.ps ++ rest)) (numb 0 (coS.hp t)) 0 path = some r ∧ (∀ p ∈ r.cd, p.1 = p.2) ∧ Gives coS 0 r (coStep t) := by
  obtain ⟨l, u, d⟩ := t
  by_cases ok : coP l u d
  · rw [co_go ok]
    clear hb
    unfold coNx
    obtain ⟨h1, h2, h3, h4⟩ := ok
    obtain ⟨_, _, _, q4, _, _, _⟩ := dc_in h2 h1
    have c0 : decide (okT l) = true := decide_eq_true h1
    have w1 : IntKind.i64.wrap (d + 1) = d + 1 := w64 (by omega) (by omega)
    have d1 := dayB_of (d := d + 1) (by omega) (by omega)
    by_cases h : bgL (d + 1) l ≤ u
    · have c1 : decide (86400000 * (d + 1) + 1000 * sumL (d + 1) l ≤ u) = true := decide_eq_true h
      rw [if_pos h]
      have L := co_1 l u d rest
      rw [w1] at L
      refine round_go L (pickL_ok ?_ _) rfl rfl rfl rfl
      repeat' (first | exact cd_nil | refine cd_cons ?_ ?_)
      all_goals first | rfl | with_reducible assumption
    · have c1 : decide (86400000 * (d + 1) + 1000 * sumL (d + 1) l ≤ u) = false := decide_eq_false h
      rw [if_neg h]
      have L := co_0 l u d rest
      rw [w1] at L
      refine round_out L rfl (pickL_ok ?_ _) rfl rfl rfl
      repeat' (first | exact cd_nil | refine cd_cons ?_ ?_)
      all_goals first | rfl | with_reducible assumption
  · exfalso
    have : coStep ⟨l, u, d⟩ = .bad := if_neg ok
    rw [this] at hb; cases hb
theorem co_runs {t : Int} {l : List (Int × Int)} (hl : okT l) (ht : tmB t = true) : ∀ (j : Nat) (d : Int), -1000000 ≤ d → d ≤ dcV t l → (dcV t l - d).toNat ≤ j → ∃ c, runs coStep c ⟨l, t, d⟩ = some (.exit 0, coTm l t (dcV t l), [])
  | j, d, h1, h2, h3 => by
    obtain ⟨q1, q2, _, _, _, _, _⟩ := dc_in ht hl
    by_cases hk : d = dcV t l
    · refine ⟨1, ?_⟩
      rw [runs, co_go ⟨hl, ht, h1, h2⟩]
      unfold coNx
      rw [hk, if_neg (by omega)]
    · cases j with
      | zero => omega
      | succ j =>
        have b : bgL (d + 1) l ≤ t := by
          by_cases g : d + 1 = dcV t l
          · rw [g]; exact q1
          · have b1 := bg_bd hl (d + 1)
            have b2 := bg_bd hl (dcV t l)
            omega
        obtain ⟨c, hc⟩ := co_runs hl ht j (d + 1) (by omega) (by omega) (by omega)
        refine ⟨c + 1, ?_⟩
        rw [runs, co_go ⟨hl, ht, h1, h2⟩]
        unfold coNx
        rw [if_pos b]
        exact hc
  termination_by j => j
def coD : LpDef coT Lp where
  ts := [1, 0, 7]
  ps := []
  W := [0, 1, 7, 27, 28, 29, 30, 31, 32, 33, 34]
  dec := fun vs ks => match vs, ks with
    | [.w (.one (.fv (.row l))), .w (.one (.int .i64 u)), .w (.one (.int .i64 d))], [] => some ⟨l, u, d⟩
    | _, _ => none
  spec := fun t => some ((.exit 0), coTm t.l t.u (dcV t.u t.l), [], [(decide (okT t.l) && tmB t.u && decide (-1000000 ≤ t.d) && decide (t.d ≤ dcV t.u t.l), true)])
theorem coD_ok (x : Code) (hx : codeAt (bodyOf Try.f69) [false, false, true, true, true, true] = some (.loop x)) : LpOk Try.prog lpI 73 x (coD.sp (fun _ => false)) := by
  obtain rfl := loopAt_eq hx
  refine lp_ok (c := ctxOf Try.prog lpI (fun _ => false) libCO) (ctxOf_ok libCO_ok (eq_none _)) (by kernel_rfl) hx lps_nil (S := coS) (step := coStep) (fun _ h => by cases h) (by kernel_rfl) (by kernel_rfl) ?_ rfl (fun t e he => ?_) (fun t hb rest => co_round t hb rest) ?_
  · intro vs ks s hv1 h hv2
    simp only [coD] at h
    split at h
    · cases h
      exact ⟨rfl, fun e he => he⟩
    · cases h
  · simp only [coS, coTm, List.mem_cons, List.not_mem_nil, or_false] at he
    rcases he with rfl | rfl | rfl <;> rfl
  · intro s ex outs wb cd h hc
    obtain ⟨l, u, d⟩ := s
    simp only [coD] at h
    cases h
    have := cd1' hc
    simp only [Bool.and_eq_true, decide_eq_true_eq] at this
    obtain ⟨⟨⟨h1, h2⟩, h3⟩, h4⟩ := this
    exact co_runs h1 h2 (dcV u l - d).toNat d h3 h4 (Nat.le_refl _)
end
end Go.Proofs.Ytoaoifiklnbknaa.RL

