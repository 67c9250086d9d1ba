/-
  The reference's CivilOf as a function of its arguments; the walk of spylaw1.ScaleCivils.
  Conditions: those of each theorem.
-/
import Derived.Test.YtoaoifiklnbknaaDB
set_option linter.unusedVariables false
set_option linter.unusedSimpArgs false
namespace Go.Proofs.Ytoaoifiklnbknaa.RL
open Go.RowKit Ev Sc
open Go.Proofs.Ytoaoifiklnbknaa
variable {F : Type}
noncomputable section

noncomputable abbrev coLps : Lps Lp := [((73, [false, false, true, true, true, true]), coD.sp (fun _ => false))]
theorem coLps_ok : LpsOk Try.prog lpI coLps Try.f69.ntmps (bodyOf Try.f69) := lps_cons (fun _ x hx => coD_ok x hx) lps_nil
set_option maxRecDepth 100000 in
theorem cof_1 (t : Int) (l : List (Int × Int)) : evR (ctxLp Try.prog lpI (fun _ => false) libCO [] coLps) Try.f69 [(.w (.one (.int .i64 t))), (.w (.one (.fv (.row l))))] [true] = some (AV.tup [AW.agg [AC.int IntKind.i64 0, AC.int IntKind.i64 0, AC.int IntKind.i64 0, AC.int IntKind.i64 0, AC.int IntKind.i64 0, AC.int IntKind.i64 0, AC.int IntKind.i64 0], AW.one (AC.int IntKind.i64 4)], (pickL [(decide (t > 17592186044416), true), (true, true)] [0, 0, 0, 1])) := by kernel_rfl
set_option maxRecDepth 100000 in
theorem cof_01 (t : Int) (l : List (Int × Int)) : evR (ctxLp Try.prog lpI (fun _ => false) libCO [] coLps) Try.f69 [(.w (.one (.int .i64 t))), (.w (.one (.fv (.row l))))] [false, true] = some (AV.tup [AW.agg [AC.int IntKind.i64 0, AC.int IntKind.i64 0, AC.int IntKind.i64 0, AC.int IntKind.i64 0, AC.int IntKind.i64 0, AC.int IntKind.i64 0, AC.int IntKind.i64 0], AW.one (AC.int IntKind.i64 4)], (pickL [(decide (t > 17592186044416), false), (decide (t < -17592186044416), true)] [0, 0, 0, 1])) := by kernel_rfl
set_option maxRecDepth 100000 in
theorem cof_001 (t : Int) (l : List (Int × Int)) : evR (ctxLp Try.prog lpI (fun _ => false) libCO [] coLps) Try.f69 [(.w (.one (.int .i64 t))), (.w (.one (.fv (.row l))))] [false, false, true] = some (AV.tup [AW.agg [AC.int IntKind.i64 0, AC.int IntKind.i64 0, AC.int IntKind.i64 0, AC.int IntKind.i64 0, AC.int IntKind.i64 0, AC.int IntKind.i64 0, AC.int IntKind.i64 0], AW.one (AC.int IntKind.i64 (ckL l))], (pickL [(decide (t > 17592186044416), false), (decide (t < -17592186044416), false), (ckL l != 0, true)] [0, 0, 0, 1, 2])) := by kernel_rfl
set_option maxRecDepth 100000 in
theorem cof_0001 (t : Int) (l : List (Int × Int)) : evR (ctxLp Try.prog lpI (fun _ => false) libCO [] coLps) Try.f69 [(.w (.one (.int .i64 t))), (.w (.one (.fv (.row l))))] [false, false, false, true] = some (AV.tup [AW.agg [AC.int IntKind.i64 (dtY (dcV t l)), AC.int IntKind.i64 (dtM (dcV t l)), AC.int IntKind.i64 (dtD (dcV t l)), AC.int IntKind.i64 23, AC.int IntKind.i64 59, AC.int IntKind.i64 60, AC.int IntKind.i64 ((IntKind.i64.wrap (t - (86400000 * dcV t l + 1000 * sumL (dcV t l) l))).tmod 1000)], AW.one (AC.int IntKind.i64 0)], (pickL [(decide (t > 17592186044416), false), (decide (t < -17592186044416), false), (ckL l != 0, false), (decide ((86400000 : Int) = 0), false), (decide (okT l) && tmB t && decide (-1000000 ≤ IntKind.i64.wrap (IntKind.i64.wrap (t.tdiv 86400000) - 2)) && decide (IntKind.i64.wrap (IntKind.i64.wrap (t.tdiv 86400000) - 2) ≤ dcV t l), true), (decide (okT l), true), (dayB (dcV t l), true), (decide ((1000 : Int) = 0), false), (IntKind.i64.wrap ((IntKind.i64.wrap (t - (86400000 * dcV t l + 1000 * sumL (dcV t l) l))).tdiv 1000) == 86400, true)] [0, 0, 0, 1, 2, 3, 4, 5, 6, 7, 7, 8])) := by kernel_rfl
set_option maxRecDepth 100000 in
theorem cof_0000 (t : Int) (l : List (Int × Int)) : evR (ctxLp Try.prog lpI (fun _ => false) libCO [] coLps) Try.f69 [(.w (.one (.int .i64 t))), (.w (.one (.fv (.row l))))] [false, false, false, false] = some (AV.tup [AW.agg [AC.int IntKind.i64 (dtY (dcV t l)), AC.int IntKind.i64 (dtM (dcV t l)), AC.int IntKind.i64 (dtD (dcV t l)), AC.int IntKind.i64 (IntKind.i64.wrap ((IntKind.i64.wrap ((IntKind.i64.wrap (t - (86400000 * dcV t l + 1000 * sumL (dcV t l) l))).tdiv 1000)).tdiv 3600)), AC.int IntKind.i64 ((IntKind.i64.wrap ((IntKind.i64.wrap ((IntKind.i64.wrap (t - (86400000 * dcV t l + 1000 * sumL (dcV t l) l))).tdiv 1000)).tdiv 60)).tmod 60), AC.int IntKind.i64 ((IntKind.i64.wrap ((IntKind.i64.wrap (t - (86400000 * dcV t l + 1000 * sumL (dcV t l) l))).tdiv 1000)).tmod 60), AC.int IntKind.i64 ((IntKind.i64.wrap (t - (86400000 * dcV t l + 1000 * sumL (dcV t l) l))).tmod 1000)], AW.one (AC.int IntKind.i64 0)], (pickL [(decide (t > 17592186044416), false), (decide (t < -17592186044416), false), (ckL l != 0, false), (decide ((86400000 : Int) = 0), false), (decide (okT l) && tmB t && decide (-1000000 ≤ IntKind.i64.wrap (IntKind.i64.wrap (t.tdiv 86400000) - 2)) && decide (IntKind.i64.wrap (IntKind.i64.wrap (t.tdiv 86400000) - 2) ≤ dcV t l), true), (decide (okT l), true), (dayB (dcV t l), true), (decide ((1000 : Int) = 0), false), (IntKind.i64.wrap ((IntKind.i64.wrap (t - (86400000 * dcV t l + 1000 * sumL (dcV t l) l))).tdiv 1000) == 86400, false), (decide ((3600 : Int) = 0), false), (decide ((60 : Int) = 0), false)] [0, 0, 0, 1, 2, 3, 4, 5, 6, 7, 7, 8, 9, 10, 10, 10])) := by kernel_rfl
theorem td_in {t : Int} {l : List (Int × Int)} (ht : tmB t = true) (hl : okT l) : (decide (okT l) && tmB t && decide (-1000000 ≤ IntKind.i64.wrap (IntKind.i64.wrap (t.tdiv 86400000) - 2)) && decide (IntKind.i64.wrap (IntKind.i64.wrap (t.tdiv 86400000) - 2) ≤ dcV t l)) = true := by
  obtain ⟨_, _, _, _, q5, q6, q7⟩ := dc_in ht hl
  have h : -300002 ≤ t.tdiv 86400000 ∧ t.tdiv 86400000 ≤ t / 86400000 + 1 := by
    by_cases g : 0 ≤ t
    · rw [Int.tdiv_eq_ediv_of_nonneg g]; omega
    · have e : t.tdiv 86400000 = -((-t) / 86400000) := by
        have := Int.neg_tdiv (-t) 86400000
        rw [Int.neg_neg, Int.tdiv_eq_ediv_of_nonneg (a := -t) (b := 86400000) (by omega)] at this
        exact this
      rw [e]; omega
  rw [w64 (x := t.tdiv 86400000) (by omega) (by omega), w64 (by omega) (by omega), decide_eq_true hl, ht, decide_eq_true (show -1000000 ≤ t.tdiv 86400000 - 2 by omega), decide_eq_true (show t.tdiv 86400000 - 2 ≤ dcV t l by omega)]
  rfl
theorem rToC_ok : (bothSp mkLp gToC).ok Try.prog lpI 69 :=
  bothSp_ok (ctxLp_ok libCO_ok (eq_none _) (fns_nil _) (fun f fn h => by cases h)) (by kernel_rfl) Try.func69 rfl coLps_ok mkLp_ok fun args v cd hg hc => by
    unfold gToC at hg
    split at hg
    · rename_i t l
      cases hg
      refine ⟨rfl, rfl, rfl, ?_⟩
      by_cases h0 : t > 17592186044416
      · have c1 : decide (t > 17592186044416) = true := decide_eq_true h0
        have hb : ¬ tmB t = true := fun h => by have := tmB_iff.1 h; omega
        have e : tcE t l = 4 := if_neg hb
        have e1 : ∀ x, z0 t l x = 0 := fun x => if_neg (by rw [e]; decide)
        refine ⟨[true], _, _, cof_1 t l, fun E u hu => ?_, pickL_ok ?_ _⟩
        · simp only [tcA, e1, e]; exact hu
        repeat' (first | exact cd_nil | refine cd_cons ?_ ?_)
        all_goals first | rfl | with_reducible assumption

      · have c1 : decide (t > 17592186044416) = false := decide_eq_false h0
        by_cases h0' : t < -17592186044416
        · have c2 : decide (t < -17592186044416) = true := decide_eq_true h0'
          have hb : ¬ tmB t = true := fun h => by have := tmB_iff.1 h; omega
          have e : tcE t l = 4 := if_neg hb
          have e1 : ∀ x, z0 t l x = 0 := fun x => if_neg (by rw [e]; decide)
          refine ⟨[false, true], _, _, cof_01 t l, fun E u hu => ?_, pickL_ok ?_ _⟩
          · simp only [tcA, e1, e]; exact hu
          repeat' (first | exact cd_nil | refine cd_cons ?_ ?_)
          all_goals first | rfl | with_reducible assumption

        · have c2 : decide (t < -17592186044416) = false := decide_eq_false h0'
          have ht : tmB t = true := tmB_iff.2 (by omega)
          by_cases h2 : ckL l = 0
          · have c3 : (ckL l != 0) = false := by rw [h2]; rfl
            have hl := ckL_ok h2
            have c4 : decide (okT l) = true := decide_eq_true hl
            have c5 := td_in ht hl
            obtain ⟨r1, r2, r3, r4, r5, r6, r7, r8, r9, r10, r11, r12⟩ := tc_in ht h2
            have e : tcE t l = 0 := by unfold tcE; rw [if_pos ht, h2]
            have e1 : ∀ x, z0 t l x = x := fun x => if_pos e
            have hM : tcM t l = if tcS t l / 60 < 1439 then tcS t l / 60 else 1439 := rfl
            by_cases h3 : tcS t l = 86400
            · have c6 : (tcS t l == 86400) = true := by simpa using h3
              have m1 : tcM t l / 60 = 23 := by rw [hM, h3]; decide
              have m2 : tcM t l % 60 = 59 := by rw [hM, h3]; decide
              have m3 : tcS t l - 60 * tcM t l = 60 := by rw [hM, h3]; decide
              have L := cof_0001 t l
              rw [r1, r2, r9] at L
              refine ⟨[false, false, false, true], _, _, L, fun E u hu => ?_, pickL_ok ?_ _⟩
              · simp only [tcA, e1, e, m1, m2, m3]; exact hu
              repeat' (first | exact cd_nil | refine cd_cons ?_ ?_)
              all_goals first | rfl | with_reducible assumption

            · have c6 : (tcS t l == 86400) = false := by simpa using h3
              have hM' : tcM t l = tcS t l / 60 := by rw [hM]; split <;> omega
              have m1 : tcM t l / 60 = tcS t l / 3600 := by rw [hM']; omega
              have m2 : tcM t l % 60 = tcS t l / 60 % 60 := by rw [hM']
              have m3 : tcS t l - 60 * tcM t l = tcS t l % 60 := by rw [hM']; omega
              have L := cof_0000 t l
              have s1 : IntKind.i64.wrap ((tcS t l).tdiv 3600) = tcS t l / 3600 := by rw [Int.tdiv_eq_ediv_of_nonneg (by omega), w64 (by omega) (by omega)]
              have s2 : (tcS t l / 60).tmod 60 = tcS t l / 60 % 60 := by rw [Int.tmod_eq_emod_of_nonneg (by omega)]
              have s3 : (tcS t l).tmod 60 = tcS t l % 60 := by rw [Int.tmod_eq_emod_of_nonneg (by omega)]
              rw [r1, r2, r9, s1, r3, s2, s3] at L
              refine ⟨[false, false, false, false], _, _, L, fun E u hu => ?_, pickL_ok ?_ _⟩
              · simp only [tcA, e1, e, m1, m2, m3]; exact hu
              repeat' (first | exact cd_nil | refine cd_cons ?_ ?_)
              all_goals first | rfl | with_reducible assumption

          · have c3 : (ckL l != 0) = true := by simpa using h2
            have e : tcE t l = ckL l := by unfold tcE; rw [if_pos ht]
            have e1 : ∀ x, z0 t l x = 0 := fun x => if_neg (by rw [e]; exact h2)
            refine ⟨[false, false, true], _, _, cof_001 t l, fun E u hu => ?_, pickL_ok ?_ _⟩
            · simp only [tcA, e1, e]; exact hu
            repeat' (first | exact cd_nil | refine cd_cons ?_ ?_)
            all_goals first | rfl | with_reducible assumption

    · cases hg
noncomputable abbrev libLC : List (Nat × FnSp Lp) := [(61, sp0 (.w (.one (.yes true)))), (68, bothSp mkLp gToC), (69, bothSp mkLp gToC)]
def eqCv (t : TypeId) : Bool := Nat.beq t 81
theorem eqCv_ok : EqOk Try.prog (tabOf Try.prog) eqCv := eq_of fun t ht => by
  have := Nat.eq_of_beq_eq_true ht
  subst this
  exact ⟨by kernel_rfl, by kernel_rfl, by kernel_rfl⟩
theorem libLC_ok : LibOk Try.prog lpI (lib1 libLC) := lib1_cons (sp0_ok rfl sfact_pl) Try.call61 (lib1_cons gToC_ok Try.call68 (lib1_cons rToC_ok Try.call69 (lib1_nil _ _)))
set_option maxRecDepth 100000 in
theorem lc_1 (t : Int) (l : List (Int × Int)) : evR (ctxOf Try.prog lpI eqCv libLC) Try.f11 [(.w (.one (.int .i64 t))), (.w (.one (.fv (.row l))))] [true] = some (AV.w (AW.one (AC.bool (tcE t l == tcE t l))), (pickL [(i64B t, true), (true, true), (z0 t l (dtY (dcV t l)) == z0 t l (dtY (dcV t l)) && (z0 t l (dtM (dcV t l)) == z0 t l (dtM (dcV t l)) && (z0 t l (dtD (dcV t l)) == z0 t l (dtD (dcV t l)) && (z0 t l (tcM t l / 60) == z0 t l (tcM t l / 60) && (z0 t l (tcM t l % 60) == z0 t l (tcM t l % 60) && (z0 t l (tcS t l - 60 * tcM t l) == z0 t l (tcS t l - 60 * tcM t l) && (z0 t l ((t - bgL (dcV t l) l) % 1000) == z0 t l ((t - bgL (dcV t l) l) % 1000) && true)))))), true)] [0, 0, 1, 1, 1, 1, 2, 2, 2, 2])) := by kernel_rfl
theorem scaleCivils_law (t : Int) (t1 : -9223372036854775808 ≤ t) (t2 : t ≤ 9223372036854775807) (l : List (Int × Int)) (u : Value) (W : World) (hu : prHv (fun _ _ => False) W u l) : Calls Try.prog 11 #[.int .i64 t, u] W fun e w' => e = .returned (.bool true) ∧ Below W.heap.size W w' := by
  have i1 : i64B t = true := i64B_iff.2 ⟨t1, t2⟩
  have V : (tcE t l == tcE t l) = true := beq_self_eq_true _
  refine law_lp (v := .bool true) (xs := [.w (.one (.int .i64 t))]) (us := [.int .i64 t]) (ctxOf_ok libLC_ok eqCv_ok) Try.func11 rfl lps_nil hu (lc_1 t l) rfl (.cons rfl .nil) (congrArg (fun b => some (Value.bool b)) V) (pickL_ok ?_ _)
  repeat' (first | exact cd_nil | refine cd_cons ?_ ?_)
  all_goals first | rfl | with_reducible assumption | (simp only [beq_self_eq_true, Bool.and_true]; done)
end
end Go.Proofs.Ytoaoifiklnbknaa.RL

