/-
  Mounts out of streams; the fact of the laws on axes; the walks of SlewBrakes, SlewTimes and SlewTogether.
  Conditions: those of each theorem.
-/
import Derived.Test.YtiamhppdacfmmaaQG
import Derived.Test.YtiamhppdacfmmaaQH
import Derived.Test.YtiamhppdacfmmaaGO
set_option linter.unusedVariables false
set_option linter.unusedSimpArgs false
namespace Go.Proofs.Ytiamhppdacfmmaa.AtSl
open Go.RowKit Ev Wd
open Go.Proofs.Ytiamhppdacfmmaa
variable {F : Type}
noncomputable section

def moZ (l : List Int) (a : Int) : Ax := bif decide (nextV l (axAt l (axAt l a)) 3 > 0) then ⟨-6442450944, 6442450944, (axF l a).sp, (axF l a).ac⟩ else axF l a
def moL (l : List Int) (a : Int) : Ax := bif decide (nextV l (axAt l (axAt l a) + 1) 3 > 0) then ⟨-1073741824, 1073741824, (axF l (axAt l a)).sp, (axF l (axAt l a)).ac⟩ else axF l (axAt l a)
def moF (l : List Int) (a : Int) : Mo := ⟨moZ l a, moL l a, ⟨inV l (axAt l (axAt l a) + 1 + 1) (moZ l a), inV l (inAt l (axAt l (axAt l a) + 1 + 1)) (moL l a)⟩⟩
def moAt (l : List Int) (a : Int) : Int := inAt l (inAt l (axAt l (axAt l a) + 1 + 1))
abbrev moG (l : List Int) (a : Int) (rest : List (AV Fct)) : Option (AV Fct × Int × List (Bool × Bool)) := match rest with
  | [] => some (moA (moF l a), moAt l a, (atB (a + 40), true) :: stC l a)
  | _ => none
abbrev moSt : FnSp Fct := stream 71 moG
theorem ov_ok {x : Ax} (h : axE x = 0) {y z : Int} (h1 : -17179869184 ≤ y) (h2 : y ≤ z) (h3 : z ≤ 17179869184) : axE ⟨y, z, x.sp, x.ac⟩ = 0 := by
  have := axE_ok.1 h
  unfold okA at this
  rw [axE_ok]; unfold okA
  exact ⟨⟨h1, h3, h2⟩, this.2⟩
theorem moF_ok (l : List Int) (a : Int) : moE (moF l a) = 0 ∧ axE (moZ l a) = 0 ∧ axE (moL l a) = 0 := by
  have h1 := (axF_ok l a).1
  have h2 := (axF_ok l (axAt l a)).1
  have z : axE (moZ l a) = 0 := by
    unfold moZ
    cases decide (nextV l (axAt l (axAt l a)) 3 > 0)
    · exact h1
    · exact ov_ok h1 (by omega) (by omega) (by omega)
  have y : axE (moL l a) = 0 := by
    unfold moL
    cases decide (nextV l (axAt l (axAt l a) + 1) 3 > 0)
    · exact h2
    · exact ov_ok h2 (by omega) (by omega) (by omega)
  refine ⟨mo_iff.2 ⟨z, y, inM_iff.2 ⟨inV_in l _ z, inV_in l _ y⟩⟩, z, y⟩
theorem moAt_in (l : List Int) (a : Int) : a + 16 ≤ moAt l a ∧ moAt l a ≤ a + 28 := by
  have h1 := axAt_in l a
  have h2 := axAt_in l (axAt l a)
  have h3 := inAt_in l (axAt l (axAt l a) + 1 + 1)
  have h4 := inAt_in l (inAt l (axAt l (axAt l a) + 1 + 1))
  unfold moAt; omega
set_option maxRecDepth 100000 in
theorem smo_11 (B : Nat) (l : List Int) (a : Int) : evS (ctxOf Try.prog (fctI B) (fun _ => false) libH1) Try.f46 71 l a [] [true, true] = some (AV.w (AW.agg [AC.int IntKind.i64 (-6442450944), AC.int IntKind.i64 6442450944, AC.int IntKind.i64 (axF l a).sp, AC.int IntKind.i64 (axF l a).ac, AC.int IntKind.i64 (-1073741824), AC.int IntKind.i64 1073741824, AC.int IntKind.i64 (axF l (axAt l a)).sp, AC.int IntKind.i64 (axF l (axAt l a)).ac, AC.int IntKind.i64 (inV l (axAt l (axAt l a) + 1 + 1) { mn := -6442450944, mx := 6442450944, sp := (axF l a).sp, ac := (axF l a).ac }), AC.int IntKind.i64 (inV l (inAt l (axAt l (axAt l a) + 1 + 1)) { mn := -1073741824, mx := 1073741824, sp := (axF l (axAt l a)).sp, ac := (axF l (axAt l a)).ac })]), inAt l (inAt l (axAt l (axAt l a) + 1 + 1)), (pickL [(atB (a + 12), true), (listB l, true), (atB a, true), (atB (axAt l a + 12), true), (atB (axAt l a), true), (i64B 3, true), (atB (axAt l (axAt l a)), true), (decide (nextV l (axAt l (axAt l a)) 3 > 0), true), (atB (axAt l (axAt l a) + 1), true), (decide (nextV l (axAt l (axAt l a) + 1) 3 > 0), true), (decide (axE { mn := -6442450944, mx := 6442450944, sp := (axF l a).sp, ac := (axF l a).ac } = 0), true), (atB (axAt l (axAt l a) + 1 + 1 + 4), true), (atB (axAt l (axAt l a) + 1 + 1), true), (decide (axE { mn := -1073741824, mx := 1073741824, sp := (axF l (axAt l a)).sp, ac := (axF l (axAt l a)).ac } = 0), true), (atB (inAt l (axAt l (axAt l a) + 1 + 1) + 4), true), (atB (inAt l (axAt l (axAt l a) + 1 + 1)), true)] [0, 1, 2, 3, 1, 4, 5, 1, 6, 7, 5, 1, 8, 9, 10, 11, 1, 12, 13, 14, 1, 15])) := by kernel_rfl
set_option maxRecDepth 100000 in
theorem smo_10 (B : Nat) (l : List Int) (a : Int) : evS (ctxOf Try.prog (fctI B) (fun _ => false) libH1) Try.f46 71 l a [] [true, false] = some (AV.w (AW.agg [AC.int IntKind.i64 (-6442450944), AC.int IntKind.i64 6442450944, AC.int IntKind.i64 (axF l a).sp, AC.int IntKind.i64 (axF l a).ac, AC.int IntKind.i64 (axF l (axAt l a)).mn, AC.int IntKind.i64 (axF l (axAt l a)).mx, AC.int IntKind.i64 (axF l (axAt l a)).sp, AC.int IntKind.i64 (axF l (axAt l a)).ac, AC.int IntKind.i64 (inV l (axAt l (axAt l a) + 1 + 1) { mn := -6442450944, mx := 6442450944, sp := (axF l a).sp, ac := (axF l a).ac }), AC.int IntKind.i64 (inV l (inAt l (axAt l (axAt l a) + 1 + 1)) (axF l (axAt l a)))]), inAt l (inAt l (axAt l (axAt l a) + 1 + 1)), (pickL [(atB (a + 12), true), (listB l, true), (atB a, true), (atB (axAt l a + 12), true), (atB (axAt l a), true), (i64B 3, true), (atB (axAt l (axAt l a)), true), (decide (nextV l (axAt l (axAt l a)) 3 > 0), true), (atB (axAt l (axAt l a) + 1), true), (decide (nextV l (axAt l (axAt l a) + 1) 3 > 0), false), (decide (axE { mn := -6442450944, mx := 6442450944, sp := (axF l a).sp, ac := (axF l a).ac } = 0), true), (atB (axAt l (axAt l a) + 1 + 1 + 4), true), (atB (axAt l (axAt l a) + 1 + 1), true), (decide (axE (axF l (axAt l a)) = 0), true), (atB (inAt l (axAt l (axAt l a) + 1 + 1) + 4), true), (atB (inAt l (axAt l (axAt l a) + 1 + 1)), true)] [0, 1, 2, 3, 1, 4, 5, 1, 6, 7, 5, 1, 8, 9, 10, 11, 1, 12, 13, 14, 1, 15])) := by kernel_rfl
set_option maxRecDepth 100000 in
theorem smo_01 (B : Nat) (l : List Int) (a : Int) : evS (ctxOf Try.prog (fctI B) (fun _ => false) libH1) Try.f46 71 l a [] [false, true] = some (AV.w (AW.agg [AC.int IntKind.i64 (axF l a).mn, AC.int IntKind.i64 (axF l a).mx, AC.int IntKind.i64 (axF l a).sp, AC.int IntKind.i64 (axF l a).ac, AC.int IntKind.i64 (-1073741824), AC.int IntKind.i64 1073741824, AC.int IntKind.i64 (axF l (axAt l a)).sp, AC.int IntKind.i64 (axF l (axAt l a)).ac, AC.int IntKind.i64 (inV l (axAt l (axAt l a) + 1 + 1) (axF l a)), AC.int IntKind.i64 (inV l (inAt l (axAt l (axAt l a) + 1 + 1)) { mn := -1073741824, mx := 1073741824, sp := (axF l (axAt l a)).sp, ac := (axF l (axAt l a)).ac })]), inAt l (inAt l (axAt l (axAt l a) + 1 + 1)), (pickL [(atB (a + 12), true), (listB l, true), (atB a, true), (atB (axAt l a + 12), true), (atB (axAt l a), true), (i64B 3, true), (atB (axAt l (axAt l a)), true), (decide (nextV l (axAt l (axAt l a)) 3 > 0), false), (atB (axAt l (axAt l a) + 1), true), (decide (nextV l (axAt l (axAt l a) + 1) 3 > 0), true), (decide (axE (axF l a) = 0), true), (atB (axAt l (axAt l a) + 1 + 1 + 4), true), (atB (axAt l (axAt l a) + 1 + 1), true), (decide (axE { mn := -1073741824, mx := 1073741824, sp := (axF l (axAt l a)).sp, ac := (axF l (axAt l a)).ac } = 0), true), (atB (inAt l (axAt l (axAt l a) + 1 + 1) + 4), true), (atB (inAt l (axAt l (axAt l a) + 1 + 1)), true)] [0, 1, 2, 3, 1, 4, 5, 1, 6, 7, 5, 1, 8, 9, 10, 11, 1, 12, 13, 14, 1, 15])) := by kernel_rfl
set_option maxRecDepth 100000 in
theorem smo_00 (B : Nat) (l : List Int) (a : Int) : evS (ctxOf Try.prog (fctI B) (fun _ => false) libH1) Try.f46 71 l a [] [false, false] = some (AV.w (AW.agg [AC.int IntKind.i64 (axF l a).mn, AC.int IntKind.i64 (axF l a).mx, AC.int IntKind.i64 (axF l a).sp, AC.int IntKind.i64 (axF l a).ac, AC.int IntKind.i64 (axF l (axAt l a)).mn, AC.int IntKind.i64 (axF l (axAt l a)).mx, AC.int IntKind.i64 (axF l (axAt l a)).sp, AC.int IntKind.i64 (axF l (axAt l a)).ac, AC.int IntKind.i64 (inV l (axAt l (axAt l a) + 1 + 1) (axF l a)), AC.int IntKind.i64 (inV l (inAt l (axAt l (axAt l a) + 1 + 1)) (axF l (axAt l a)))]), inAt l (inAt l (axAt l (axAt l a) + 1 + 1)), (pickL [(atB (a + 12), true), (listB l, true), (atB a, true), (atB (axAt l a + 12), true), (atB (axAt l a), true), (i64B 3, true), (atB (axAt l (axAt l a)), true), (decide (nextV l (axAt l (axAt l a)) 3 > 0), false), (atB (axAt l (axAt l a) + 1), true), (decide (nextV l (axAt l (axAt l a) + 1) 3 > 0), false), (decide (axE (axF l a) = 0), true), (atB (axAt l (axAt l a) + 1 + 1 + 4), true), (atB (axAt l (axAt l a) + 1 + 1), true), (decide (axE (axF l (axAt l a)) = 0), true), (atB (inAt l (axAt l (axAt l a) + 1 + 1) + 4), true), (atB (inAt l (axAt l (axAt l a) + 1 + 1)), true)] [0, 1, 2, 3, 1, 4, 5, 1, 6, 7, 5, 1, 8, 9, 10, 11, 1, 12, 13, 14, 1, 15])) := by kernel_rfl
theorem libH1_ok (B : Nat) : LibOk Try.prog (fctI B) (lib1 libH1) := lib1_cons (axSt_ok B) Try.call40 (lib1_cons (inSt_ok B) Try.call41 (lib1_cons (nextS_ok B) Try.call44 (lib1_nil _ _)))
set_option maxHeartbeats 4000000 in
theorem moSt_ok (B : Nat) : moSt.ok Try.prog (fctI B) 46 := by
  refine stream_ok (ctxOf_ok (libH1_ok B) (eq_none _)) (by kernel_rfl) Try.func46 rfl fun l a rest v a' cd hg hc => ?_
  simp only [moG] at hg
  split at hg
  · cases hg
    have hl : listB l = true := hc (listB l, true) (by simp)
    have ha : atB a = true := hc (atB a, true) (by simp)
    have ha1 := atB_iff.1 ha
    have ha5 := atB_iff.1 (hc (atB (a + 40), true) (by simp))
    have b1 := axAt_in l a
    have b2 := axAt_in l (axAt l a)
    have b3 := inAt_in l (axAt l (axAt l a) + 1 + 1)
    have b4 := inAt_in l (inAt l (axAt l (axAt l a) + 1 + 1))
    obtain ⟨_, g1, g2⟩ := moF_ok l a
    have x1 := decide_eq_true (axF_ok l a).1
    have x2 := decide_eq_true (axF_ok l (axAt l a)).1
    have i3 : i64B 3 = true := by decide
    cases h1 : decide (nextV l (axAt l (axAt l a)) 3 > 0) with
    | true =>
      cases h2 : decide (nextV l (axAt l (axAt l a) + 1) 3 > 0) with
      | true =>
        have e1 : moZ l a = ⟨-6442450944, 6442450944, (axF l a).sp, (axF l a).ac⟩ := by unfold moZ; rw [h1]; rfl
        have e2 : moL l a = ⟨-1073741824, 1073741824, (axF l (axAt l a)).sp, (axF l (axAt l a)).ac⟩ := by unfold moL; rw [h2]; rfl
        rw [e1] at g1
        rw [e2] at g2
        have d1 := decide_eq_true g1
        have d2 := decide_eq_true g2
        unfold moF moAt
        rw [e1, e2]
        have L := smo_11 B l a
        refine ⟨[], _, [true, true], _, _, [], .nil, .nil, rfl, rfl, rfl, L, pickL_ok ?_ _⟩
        repeat' (first | exact cd_nil | refine cd_cons ?_ ?_)
        all_goals first | with_reducible rfl | with_reducible assumption | rfl | (with_reducible refine atB_iff.2 ?_; omega) | (with_reducible refine decide_eq_false ?_; omega) | (with_reducible refine decide_eq_true ?_; omega)

      | false =>
        have e1 : moZ l a = ⟨-6442450944, 6442450944, (axF l a).sp, (axF l a).ac⟩ := by unfold moZ; rw [h1]; rfl
        have e2 : moL l a = (axF l (axAt l a)) := by unfold moL; rw [h2]; rfl
        rw [e1] at g1
        rw [e2] at g2
        have d1 := decide_eq_true g1
        have d2 := decide_eq_true g2
        unfold moF moAt
        rw [e1, e2]
        have L := smo_10 B l a
        refine ⟨[], _, [true, false], _, _, [], .nil, .nil, rfl, rfl, rfl, L, pickL_ok ?_ _⟩
        repeat' (first | exact cd_nil | refine cd_cons ?_ ?_)
        all_goals first | with_reducible rfl | with_reducible assumption | rfl | (with_reducible refine atB_iff.2 ?_; omega) | (with_reducible refine decide_eq_false ?_; omega) | (with_reducible refine decide_eq_true ?_; omega)

    | false =>
      cases h2 : decide (nextV l (axAt l (axAt l a) + 1) 3 > 0) with
      | true =>
        have e1 : moZ l a = (axF l a) := by unfold moZ; rw [h1]; rfl
        have e2 : moL l a = ⟨-1073741824, 1073741824, (axF l (axAt l a)).sp, (axF l (axAt l a)).ac⟩ := by unfold moL; rw [h2]; rfl
        rw [e1] at g1
        rw [e2] at g2
        have d1 := decide_eq_true g1
        have d2 := decide_eq_true g2
        unfold moF moAt
        rw [e1, e2]
        have L := smo_01 B l a
        refine ⟨[], _, [false, true], _, _, [], .nil, .nil, rfl, rfl, rfl, L, pickL_ok ?_ _⟩
        repeat' (first | exact cd_nil | refine cd_cons ?_ ?_)
        all_goals first | with_reducible rfl | with_reducible assumption | rfl | (with_reducible refine atB_iff.2 ?_; omega) | (with_reducible refine decide_eq_false ?_; omega) | (with_reducible refine decide_eq_true ?_; omega)

      | false =>
        have e1 : moZ l a = (axF l a) := by unfold moZ; rw [h1]; rfl
        have e2 : moL l a = (axF l (axAt l a)) := by unfold moL; rw [h2]; rfl
        rw [e1] at g1
        rw [e2] at g2
        have d1 := decide_eq_true g1
        have d2 := decide_eq_true g2
        unfold moF moAt
        rw [e1, e2]
        have L := smo_00 B l a
        refine ⟨[], _, [false, false], _, _, [], .nil, .nil, rfl, rfl, rfl, L, pickL_ok ?_ _⟩
        repeat' (first | exact cd_nil | refine cd_cons ?_ ?_)
        all_goals first | with_reducible rfl | with_reducible assumption | rfl | (with_reducible refine atB_iff.2 ?_; omega) | (with_reducible refine decide_eq_false ?_; omega) | (with_reducible refine decide_eq_true ?_; omega)

  · cases hg
noncomputable abbrev libI0 : List (Nat × FnSp Empty) := [(26, STS), (22, TGS)]
theorem libI0_ok : LibOk Try.prog noFacts (lib1 libI0) := (lib1_cons (sp3_ok fun a x y _ => ⟨_, rfl, Ste_pl a x y⟩) Try.call26 (lib1_cons (sp3_ok fun a x y hc => ⟨_, rfl, Tar_pl a x y (ca1 hc)⟩) Try.call22 (lib1_nil _ _)))
set_option maxRecDepth 100000 in
theorem slf_111  : evR (ctxOf Try.prog noFacts (fun _ => false) libI0) Try.f39 [] [true, true, true] = some (AV.w (AW.one (AC.bool (TPv { mn := -4294967296, mx := 4294967296, sp := 16777216, ac := 16777216 } (-5) 4294967295 == -1))), (pickL [(i64B 4294967295, true), (SEv { mn := 0, mx := 1000000000, sp := 16777216, ac := 16777216 } 0 50331648 == 0, true), (SNv { mn := 0, mx := 1000000000, sp := 16777216, ac := 16777216 } 0 50331648 == 4, true), (TEv { mn := -4294967296, mx := 4294967296, sp := 16777216, ac := 16777216 } (-5) 4294967295 == 0, true)] [0, 1, 1, 1, 2, 2, 2, 3, 3, 3])) := by kernel_rfl
theorem slews_pl : Pl Try.prog 39 [] (.bool true) := fun w => by
  have k0 : (SEv { mn := 0, mx := 1000000000, sp := 16777216, ac := 16777216 } 0 50331648 == 0) = true := by decide +kernel
  have k1 : (SNv { mn := 0, mx := 1000000000, sp := 16777216, ac := 16777216 } 0 50331648 == 4) = true := by decide +kernel
  have k2 : (TEv { mn := -4294967296, mx := 4294967296, sp := 16777216, ac := 16777216 } (-5) 4294967295 == 0) = true := by decide +kernel
  have k3 : i64B 4294967295 = true := by decide
  have V : (TPv { mn := -4294967296, mx := 4294967296, sp := 16777216, ac := 16777216 } (-5) 4294967295 == -1) = true := by decide +kernel
  refine evR_calls (I := noFacts) (v := .bool true) (ctxOf_ok libI0_ok (eq_none _)) (by kernel_rfl) Try.func39 rfl lps_nil slf_111 rfl (all2_R .nil) (congrArg (fun b => some (Value.bool b)) V) w (Nat.zero_le _) (pickL_ok ?_ _)
  repeat' (first | exact cd_nil | refine cd_cons ?_ ?_)
  all_goals first | with_reducible rfl | with_reducible assumption
noncomputable abbrev libI1 : List (Nat × FnSp Fct) := [(39, sp0 (aBool true)), (40, axSt), (43, belowS), (44, nextS), (24, FTS), (45, bhS)]
theorem libI1_ok (B : Nat) : LibOk Try.prog (fctI B) (lib1 libI1) := (lib1_cons (sp0_ok rfl slews_pl) Try.call39 (lib1_cons (axSt_ok B) Try.call40 (lib1_cons (belowS_ok _) Try.call43 (lib1_cons (nextS_ok B) Try.call44 (lib1_cons (sp2_ok fun a d _ => ⟨_, rfl, Fas_pl a d⟩) Try.call24 (lib1_cons (sp2_ok fun a v hc => ⟨_, rfl, brs_pl a v (ca2 hc).1 (ca2 hc).2⟩) Try.call45 (lib1_nil _ _)))))))
noncomputable abbrev libI2 : List (Nat × FnSp Fct) := [(39, sp0 (aBool true)), (40, axSt), (41, inSt), (26, STS)]
theorem libI2_ok (B : Nat) : LibOk Try.prog (fctI B) (lib1 libI2) := (lib1_cons (sp0_ok rfl slews_pl) Try.call39 (lib1_cons (axSt_ok B) Try.call40 (lib1_cons (inSt_ok B) Try.call41 (lib1_cons (sp3_ok fun a x y _ => ⟨_, rfl, Ste_pl a x y⟩) Try.call26 (lib1_nil _ _)))))
noncomputable abbrev libI3 : List (Nat × FnSp Fct) := [(39, sp0 (aBool true)), (46, moSt), (41, inSt), (28, toS), (22, TGS), (26, STS)]
theorem libI3_ok (B : Nat) : LibOk Try.prog (fctI B) (lib1 libI3) := (lib1_cons (sp0_ok rfl slews_pl) Try.call39 (lib1_cons (moSt_ok B) Try.call46 (lib1_cons (inSt_ok B) Try.call41 (lib1_cons (sp3_ok fun m u v hc => ⟨_, rfl, too_pl m u v (ca1 hc)⟩) Try.call28 (lib1_cons (sp3_ok fun a x y hc => ⟨_, rfl, Tar_pl a x y (ca1 hc)⟩) Try.call22 (lib1_cons (sp3_ok fun a x y _ => ⟨_, rfl, Ste_pl a x y⟩) Try.call26 (lib1_nil _ _)))))))
set_option maxRecDepth 100000 in
theorem lbr_011111 (B : Nat) (l : List Int) (d : Int) : evL (ctxOf Try.prog (fctI B) (fun _ => false) libI1) Try.f12 l [(.w (.one (.int .i64 d)))] [false, true, true, true, true, true] = some (AV.w (AW.one (AC.yes true)), (pickL [(!true, false), (atB (0 + 12), true), (listB l, true), (atB 0, true), (i64B d, true), (i64B 68719476736, true), (i64B 2, true), (atB (axAt l 0), true), (nextV l (axAt l 0) 2 == 0, true), (decide (IntKind.i64.wrap (3 * (axF l 0).sp) = 0), false), (decide (FTv (axF l 0) ((belowV d 68719476736).tmod (IntKind.i64.wrap (3 * (axF l 0).sp))) ≥ 0), true), (decide (FTv (axF l 0) ((belowV d 68719476736).tmod (IntKind.i64.wrap (3 * (axF l 0).sp))) ≤ (axF l 0).sp), true), (decide ((1 : Int) ≤ (axF l 0).ac) && decide ((axF l 0).ac ≤ 2147483648), true), (decide (FTv (axF l 0) ((belowV d 68719476736).tmod (IntKind.i64.wrap (3 * (axF l 0).sp))) ≤ 2147483648), true), (decide (brV (axF l 0).ac (FTv (axF l 0) ((belowV d 68719476736).tmod (IntKind.i64.wrap (3 * (axF l 0).sp)))) ≤ (belowV d 68719476736).tmod (IntKind.i64.wrap (3 * (axF l 0).sp))), true), (FTv (axF l 0) ((belowV d 68719476736).tmod (IntKind.i64.wrap (3 * (axF l 0).sp))) == (axF l 0).sp, true)] [0, 1, 2, 3, 4, 5, 6, 2, 7, 8, 9, 10, 10, 10, 10, 10, 11, 11, 11, 12, 13, 11, 11, 11, 14, 14, 14, 14, 14, 15, 15, 15, 15, 15, 15, 14, 15, 14])) := by kernel_rfl
set_option maxRecDepth 100000 in
theorem lbr_011110 (B : Nat) (l : List Int) (d : Int) : evL (ctxOf Try.prog (fctI B) (fun _ => false) libI1) Try.f12 l [(.w (.one (.int .i64 d)))] [false, true, true, true, true, false] = some (AV.w (AW.one (AC.bool (decide (brV (axF l 0).ac (IntKind.i64.wrap (FTv (axF l 0) ((belowV d 68719476736).tmod (IntKind.i64.wrap (3 * (axF l 0).sp))) + 1)) > (belowV d 68719476736).tmod (IntKind.i64.wrap (3 * (axF l 0).sp)))))), (pickL [(!true, false), (atB (0 + 12), true), (listB l, true), (atB 0, true), (i64B d, true), (i64B 68719476736, true), (i64B 2, true), (atB (axAt l 0), true), (nextV l (axAt l 0) 2 == 0, true), (decide (IntKind.i64.wrap (3 * (axF l 0).sp) = 0), false), (decide (FTv (axF l 0) ((belowV d 68719476736).tmod (IntKind.i64.wrap (3 * (axF l 0).sp))) ≥ 0), true), (decide (FTv (axF l 0) ((belowV d 68719476736).tmod (IntKind.i64.wrap (3 * (axF l 0).sp))) ≤ (axF l 0).sp), true), (decide ((1 : Int) ≤ (axF l 0).ac) && decide ((axF l 0).ac ≤ 2147483648), true), (decide (FTv (axF l 0) ((belowV d 68719476736).tmod (IntKind.i64.wrap (3 * (axF l 0).sp))) ≤ 2147483648), true), (decide (brV (axF l 0).ac (FTv (axF l 0) ((belowV d 68719476736).tmod (IntKind.i64.wrap (3 * (axF l 0).sp)))) ≤ (belowV d 68719476736).tmod (IntKind.i64.wrap (3 * (axF l 0).sp))), true), (FTv (axF l 0) ((belowV d 68719476736).tmod (IntKind.i64.wrap (3 * (axF l 0).sp))) == (axF l 0).sp, false), (decide (IntKind.i64.wrap (FTv (axF l 0) ((belowV d 68719476736).tmod (IntKind.i64.wrap (3 * (axF l 0).sp))) + 1) ≤ 2147483648), true)] [0, 1, 2, 3, 4, 5, 6, 2, 7, 8, 9, 10, 10, 10, 10, 10, 11, 11, 11, 12, 13, 11, 11, 11, 14, 14, 14, 14, 14, 15, 15, 15, 15, 12, 16, 15, 15, 14, 15, 14])) := by kernel_rfl
set_option maxRecDepth 100000 in
theorem lbr_001111 (B : Nat) (l : List Int) (d : Int) : evL (ctxOf Try.prog (fctI B) (fun _ => false) libI1) Try.f12 l [(.w (.one (.int .i64 d)))] [false, false, true, true, true, true] = some (AV.w (AW.one (AC.yes true)), (pickL [(!true, false), (atB (0 + 12), true), (listB l, true), (atB 0, true), (i64B d, true), (i64B 68719476736, true), (i64B 2, true), (atB (axAt l 0), true), (nextV l (axAt l 0) 2 == 0, false), (decide (FTv (axF l 0) (belowV d 68719476736) ≥ 0), true), (decide (FTv (axF l 0) (belowV d 68719476736) ≤ (axF l 0).sp), true), (decide ((1 : Int) ≤ (axF l 0).ac) && decide ((axF l 0).ac ≤ 2147483648), true), (decide (FTv (axF l 0) (belowV d 68719476736) ≤ 2147483648), true), (decide (brV (axF l 0).ac (FTv (axF l 0) (belowV d 68719476736)) ≤ belowV d 68719476736), true), (FTv (axF l 0) (belowV d 68719476736) == (axF l 0).sp, true)] [0, 1, 2, 3, 4, 5, 6, 2, 7, 8, 9, 9, 9, 9, 9, 10, 10, 10, 11, 12, 10, 10, 10, 13, 13, 13, 13, 13, 14, 14, 14, 14, 14, 14, 13, 14, 13])) := by kernel_rfl
set_option maxRecDepth 100000 in
theorem lbr_001110 (B : Nat) (l : List Int) (d : Int) : evL (ctxOf Try.prog (fctI B) (fun _ => false) libI1) Try.f12 l [(.w (.one (.int .i64 d)))] [false, false, true, true, true, false] = some (AV.w (AW.one (AC.bool (decide (brV (axF l 0).ac (IntKind.i64.wrap (FTv (axF l 0) (belowV d 68719476736) + 1)) > belowV d 68719476736)))), (pickL [(!true, false), (atB (0 + 12), true), (listB l, true), (atB 0, true), (i64B d, true), (i64B 68719476736, true), (i64B 2, true), (atB (axAt l 0), true), (nextV l (axAt l 0) 2 == 0, false), (decide (FTv (axF l 0) (belowV d 68719476736) ≥ 0), true), (decide (FTv (axF l 0) (belowV d 68719476736) ≤ (axF l 0).sp), true), (decide ((1 : Int) ≤ (axF l 0).ac) && decide ((axF l 0).ac ≤ 2147483648), true), (decide (FTv (axF l 0) (belowV d 68719476736) ≤ 2147483648), true), (decide (brV (axF l 0).ac (FTv (axF l 0) (belowV d 68719476736)) ≤ belowV d 68719476736), true), (FTv (axF l 0) (belowV d 68719476736) == (axF l 0).sp, false), (decide (IntKind.i64.wrap (FTv (axF l 0) (belowV d 68719476736) + 1) ≤ 2147483648), true)] [0, 1, 2, 3, 4, 5, 6, 2, 7, 8, 9, 9, 9, 9, 9, 10, 10, 10, 11, 12, 10, 10, 10, 13, 13, 13, 13, 13, 14, 14, 14, 14, 11, 15, 14, 14, 13, 14, 13])) := by kernel_rfl
theorem br_all {a : Ax} {d : Int} (h : axE a = 0) (h0 : 0 ≤ d) : decide (FTv a d ≥ 0) = true ∧ decide (FTv a d ≤ a.sp) = true ∧ decide (FTv a d ≤ 2147483648) = true ∧ decide (brV a.ac (FTv a d) ≤ d) = true ∧ (decide (1 ≤ a.ac) && decide (a.ac ≤ 2147483648)) = true ∧ decide (IntKind.i64.wrap (FTv a d + 1) ≤ 2147483648) = true ∧ ((FTv a d == a.sp) = false → decide (brV a.ac (IntKind.i64.wrap (FTv a d + 1)) > d) = true) := by
  have ha := axE_ok.1 h
  unfold okA at ha
  have e : FTv a d = fstV a.sp a.ac d := if_pos ⟨h, h0⟩
  obtain ⟨f1, f2, f3, f4⟩ := fstV_sp (S := a.sp) (A := a.ac) (d := d) (by omega) (by omega) (by omega) h0
  rw [e]
  have w : IntKind.i64.wrap (fstV a.sp a.ac d + 1) = fstV a.sp a.ac d + 1 := v64 (by omega) (by omega)
  rw [w]
  refine ⟨decide_eq_true f1, decide_eq_true f2, decide_eq_true (by omega), decide_eq_true f3, by simp; omega, decide_eq_true (by omega), fun q => decide_eq_true ?_⟩
  rcases f4 with f4 | f4
  · rw [beq_eq_false_iff_ne] at q; exact absurd f4 q
  · exact f4
set_option maxHeartbeats 4000000 in
theorem slewBrakes_walk (l : List Int) (p : Option Addr) (cap : Nat) (d : Int) (hd1 : -9223372036854775808 ≤ d) (hd2 : d ≤ 9223372036854775807) (hl : listB l = true) (W : World) (hf : fctHolds W.heap.size (.ints l) W #[.slice p l.length cap]) :
    Calls Try.prog 12 #[.slice p l.length cap, .int .i64 d] W fun e w' => e = .returned (.bool true) ∧ Below W.heap.size W w' := by
  have ax1 := (axF_ok l 0).1
  have hx := axE_ok.1 ax1
  unfold okA at hx
  have hd : i64B d = true := i64B_iff.2 ⟨hd1, hd2⟩
  have i1 : i64B 68719476736 = true := by decide
  have i2 : i64B 2 = true := by decide
  have bd := belowV_in d 68719476736 (by omega)
  have at1 := axAt_in l 0
  have w3 : decide (IntKind.i64.wrap (3 * (axF l 0).sp) = 0) = false := by rw [v64 (by omega) (by omega)]; exact decide_eq_false (by omega)
  obtain ⟨p1, p2, p3, p4, p5, p6, p7⟩ := br_all (d := belowV d 68719476736) ax1 bd.1
  obtain ⟨q1, q2, q3, q4, _, q6, q7⟩ := br_all (d := (belowV d 68719476736).tmod (IntKind.i64.wrap (3 * (axF l 0).sp))) ax1 (Int.tmod_nonneg _ bd.1)
  cases hn : (nextV l (axAt l 0) 2 == 0) with
  | true =>
    cases hq : (FTv (axF l 0) ((belowV d 68719476736).tmod (IntKind.i64.wrap (3 * (axF l 0).sp))) == (axF l 0).sp) with
    | true =>
      have L := lbr_011111 W.heap.size l d
      refine list_calls (B := W.heap.size) (v := .bool true) (ctxOf_ok (libI1_ok _) (eq_none _)) (by kernel_rfl) Try.func12 rfl L rfl (.cons rfl .nil) rfl W rfl hf (pickL_ok ?_ _)
      repeat' (first | exact cd_nil | refine cd_cons ?_ ?_)
      all_goals first | with_reducible rfl | with_reducible assumption | rfl | (with_reducible refine atB_iff.2 ?_; omega) | (with_reducible refine decide_eq_false ?_; omega) | (with_reducible refine decide_eq_true ?_; omega)

    | false =>
      have L := lbr_011110 W.heap.size l d
      refine list_calls (B := W.heap.size) (v := .bool true) (ctxOf_ok (libI1_ok _) (eq_none _)) (by kernel_rfl) Try.func12 rfl L rfl (.cons rfl .nil) (congrArg (fun b => some (Value.bool b)) (q7 hq)) W rfl hf (pickL_ok ?_ _)
      repeat' (first | exact cd_nil | refine cd_cons ?_ ?_)
      all_goals first | with_reducible rfl | with_reducible assumption | rfl | (with_reducible refine atB_iff.2 ?_; omega) | (with_reducible refine decide_eq_false ?_; omega) | (with_reducible refine decide_eq_true ?_; omega)

  | false =>
    cases hq : (FTv (axF l 0) (belowV d 68719476736) == (axF l 0).sp) with
    | true =>
      have L := lbr_001111 W.heap.size l d
      refine list_calls (B := W.heap.size) (v := .bool true) (ctxOf_ok (libI1_ok _) (eq_none _)) (by kernel_rfl) Try.func12 rfl L rfl (.cons rfl .nil) rfl W rfl hf (pickL_ok ?_ _)
      repeat' (first | exact cd_nil | refine cd_cons ?_ ?_)
      all_goals first | with_reducible rfl | with_reducible assumption | rfl | (with_reducible refine atB_iff.2 ?_; omega) | (with_reducible refine decide_eq_false ?_; omega) | (with_reducible refine decide_eq_true ?_; omega)

    | false =>
      have L := lbr_001110 W.heap.size l d
      refine list_calls (B := W.heap.size) (v := .bool true) (ctxOf_ok (libI1_ok _) (eq_none _)) (by kernel_rfl) Try.func12 rfl L rfl (.cons rfl .nil) (congrArg (fun b => some (Value.bool b)) (p7 hq)) W rfl hf (pickL_ok ?_ _)
      repeat' (first | exact cd_nil | refine cd_cons ?_ ?_)
      all_goals first | with_reducible rfl | with_reducible assumption | rfl | (with_reducible refine atB_iff.2 ?_; omega) | (with_reducible refine decide_eq_false ?_; omega) | (with_reducible refine decide_eq_true ?_; omega)

set_option maxRecDepth 100000 in
theorem lti_0000001 (B : Nat) (l : List Int) : evL (ctxOf Try.prog (fctI B) (fun _ => false) libI2) Try.f13 l [] [false, false, false, false, false, false, true] = some (AV.w (AW.one (AC.bool (SNv (axF l 0) (inV l (axAt l 0) (axF l 0)) (inV l (inAt l (axAt l 0)) (axF l 0)) == 0))), (pickL [(!true, false), (atB (0 + 12), true), (listB l, true), (atB 0, true), (decide (axE (axF l 0) = 0), true), (atB (axAt l 0 + 4), true), (atB (axAt l 0), true), (atB (inAt l (axAt l 0) + 4), true), (atB (inAt l (axAt l 0)), true), (SEv (axF l 0) (inV l (axAt l 0) (axF l 0)) (inV l (inAt l (axAt l 0)) (axF l 0)) != 0, false), (SEv (axF l 0) (inV l (inAt l (axAt l 0)) (axF l 0)) (inV l (axAt l 0) (axF l 0)) != 0, false), (SEv (axF l 0) (axF l 0).mn (IntKind.i64.wrap ((axF l 0).mn + ma (IntKind.i64.wrap (inV l (inAt l (axAt l 0)) (axF l 0) - inV l (axAt l 0) (axF l 0))) (IntKind.i64.wrap (inV l (axAt l 0) (axF l 0) - inV l (inAt l (axAt l 0)) (axF l 0))))) != 0, false), (SNv (axF l 0) (inV l (axAt l 0) (axF l 0)) (inV l (inAt l (axAt l 0)) (axF l 0)) != SNv (axF l 0) (inV l (inAt l (axAt l 0)) (axF l 0)) (inV l (axAt l 0) (axF l 0)), false), (SNv (axF l 0) (inV l (axAt l 0) (axF l 0)) (inV l (inAt l (axAt l 0)) (axF l 0)) != SNv (axF l 0) (axF l 0).mn (IntKind.i64.wrap ((axF l 0).mn + ma (IntKind.i64.wrap (inV l (inAt l (axAt l 0)) (axF l 0) - inV l (axAt l 0) (axF l 0))) (IntKind.i64.wrap (inV l (axAt l 0) (axF l 0) - inV l (inAt l (axAt l 0)) (axF l 0))))), false), ((ma (IntKind.i64.wrap (inV l (inAt l (axAt l 0)) (axF l 0) - inV l (axAt l 0) (axF l 0))) (IntKind.i64.wrap (inV l (axAt l 0) (axF l 0) - inV l (inAt l (axAt l 0)) (axF l 0)))) == 0, true)] [0, 1, 2, 3, 4, 5, 2, 6, 4, 7, 2, 8, 9, 9, 9, 10, 10, 10, 11, 11, 11, 11, 12, 12, 12, 12, 13, 14])) := by kernel_rfl
set_option maxRecDepth 100000 in
theorem lti_00000001 (B : Nat) (l : List Int) : evL (ctxOf Try.prog (fctI B) (fun _ => false) libI2) Try.f13 l [] [false, false, false, false, false, false, false, true] = some (AV.w (AW.one (AC.bool (decide (SNv (axF l 0) (inV l (axAt l 0) (axF l 0)) (inV l (inAt l (axAt l 0)) (axF l 0)) ≤ IntKind.i64.wrap (IntKind.i64.wrap (IntKind.i64.wrap ((ma (IntKind.i64.wrap (inV l (inAt l (axAt l 0)) (axF l 0) - inV l (axAt l 0) (axF l 0))) (IntKind.i64.wrap (inV l (axAt l 0) (axF l 0) - inV l (inAt l (axAt l 0)) (axF l 0)))).tdiv (axF l 0).sp) + IntKind.i64.wrap (2 * IntKind.i64.wrap ((IntKind.i64.wrap (IntKind.i64.wrap ((axF l 0).sp + (axF l 0).ac) - 1)).tdiv (axF l 0).ac))) + 3))))), (pickL [(!true, false), (atB (0 + 12), true), (listB l, true), (atB 0, true), (decide (axE (axF l 0) = 0), true), (atB (axAt l 0 + 4), true), (atB (axAt l 0), true), (atB (inAt l (axAt l 0) + 4), true), (atB (inAt l (axAt l 0)), true), (SEv (axF l 0) (inV l (axAt l 0) (axF l 0)) (inV l (inAt l (axAt l 0)) (axF l 0)) != 0, false), (SEv (axF l 0) (inV l (inAt l (axAt l 0)) (axF l 0)) (inV l (axAt l 0) (axF l 0)) != 0, false), (SEv (axF l 0) (axF l 0).mn (IntKind.i64.wrap ((axF l 0).mn + ma (IntKind.i64.wrap (inV l (inAt l (axAt l 0)) (axF l 0) - inV l (axAt l 0) (axF l 0))) (IntKind.i64.wrap (inV l (axAt l 0) (axF l 0) - inV l (inAt l (axAt l 0)) (axF l 0))))) != 0, false), (SNv (axF l 0) (inV l (axAt l 0) (axF l 0)) (inV l (inAt l (axAt l 0)) (axF l 0)) != SNv (axF l 0) (inV l (inAt l (axAt l 0)) (axF l 0)) (inV l (axAt l 0) (axF l 0)), false), (SNv (axF l 0) (inV l (axAt l 0) (axF l 0)) (inV l (inAt l (axAt l 0)) (axF l 0)) != SNv (axF l 0) (axF l 0).mn (IntKind.i64.wrap ((axF l 0).mn + ma (IntKind.i64.wrap (inV l (inAt l (axAt l 0)) (axF l 0) - inV l (axAt l 0) (axF l 0))) (IntKind.i64.wrap (inV l (axAt l 0) (axF l 0) - inV l (inAt l (axAt l 0)) (axF l 0))))), false), ((ma (IntKind.i64.wrap (inV l (inAt l (axAt l 0)) (axF l 0) - inV l (axAt l 0) (axF l 0))) (IntKind.i64.wrap (inV l (axAt l 0) (axF l 0) - inV l (inAt l (axAt l 0)) (axF l 0)))) == 0, false), (decide ((axF l 0).ac = 0), false), (decide ((axF l 0).sp = 0), false), (decide (SNv (axF l 0) (inV l (axAt l 0) (axF l 0)) (inV l (inAt l (axAt l 0)) (axF l 0)) ≥ IntKind.i64.wrap (IntKind.i64.wrap ((IntKind.i64.wrap (IntKind.i64.wrap ((ma (IntKind.i64.wrap (inV l (inAt l (axAt l 0)) (axF l 0) - inV l (axAt l 0) (axF l 0))) (IntKind.i64.wrap (inV l (axAt l 0) (axF l 0) - inV l (inAt l (axAt l 0)) (axF l 0)))) + (axF l 0).sp) - 1)).tdiv (axF l 0).sp) + 1)), true)] [0, 1, 2, 3, 4, 5, 2, 6, 4, 7, 2, 8, 9, 9, 9, 10, 10, 10, 11, 11, 11, 11, 12, 12, 12, 12, 13, 14, 15, 16, 17, 17, 17, 17, 17, 16, 17, 17, 17, 17, 17, 17])) := by kernel_rfl
theorem dst_sym (u v : Int) : dst u v = dst v u := by rw [dst_eq, dst_eq]; omega
theorem stV_0 (S A : Int) : stV S A 0 = 0 := stR_end (by omega)
set_option maxHeartbeats 1000000 in
theorem tm_all {a : Ax} {u v : Int} (h : axE a = 0) (hc : 262144 ≤ a.ac) (hu : inA a u = true) (hv : inA a v = true) : (SEv a (u) (v) != 0) = false ∧ (SEv a (v) (u) != 0) = false ∧ (SEv a a.mn (IntKind.i64.wrap (a.mn + ma (IntKind.i64.wrap (v - u)) (IntKind.i64.wrap (u - v)))) != 0) = false ∧ (SNv a (u) (v) != SNv a (v) (u)) = false ∧ (SNv a (u) (v) != SNv a a.mn (IntKind.i64.wrap (a.mn + ma (IntKind.i64.wrap (v - u)) (IntKind.i64.wrap (u - v))))) = false ∧ (((ma (IntKind.i64.wrap (v - u)) (IntKind.i64.wrap (u - v))) == 0) = true → (SNv a u v == 0) = true) ∧ (((ma (IntKind.i64.wrap (v - u)) (IntKind.i64.wrap (u - v))) == 0) = false → (decide (SNv a (u) (v) ≥ IntKind.i64.wrap (IntKind.i64.wrap ((IntKind.i64.wrap (IntKind.i64.wrap ((ma (IntKind.i64.wrap (v - u)) (IntKind.i64.wrap (u - v))) + a.sp) - 1)).tdiv a.sp) + 1))) = true ∧ (decide (SNv a (u) (v) ≤ IntKind.i64.wrap (IntKind.i64.wrap (IntKind.i64.wrap ((ma (IntKind.i64.wrap (v - u)) (IntKind.i64.wrap (u - v))).tdiv a.sp) + IntKind.i64.wrap (2 * IntKind.i64.wrap ((IntKind.i64.wrap (IntKind.i64.wrap (a.sp + a.ac) - 1)).tdiv a.ac))) + 3))) = true) := by
  have ha := axE_ok.1 h
  unfold okA at ha
  have ru := in_rg h hu
  have rv := in_rg h hv
  rw [inA_iff] at hu hv
  have w1 : IntKind.i64.wrap (u - v) = u - v := v64 (by omega) (by omega)
  have w2 : IntKind.i64.wrap (v - u) = v - u := v64 (by omega) (by omega)
  have e : ma (IntKind.i64.wrap (v - u)) (IntKind.i64.wrap (u - v)) = dst u v := by rw [w1, w2, ma_eq, dst_eq]; omega
  have d0 := dst_rg ru rv
  have w3 : IntKind.i64.wrap (a.mn + dst u v) = a.mn + dst u v := v64 (by omega) (by omega)
  have i1 : inA a u = true := inA_iff.2 hu
  have i2 : inA a v = true := inA_iff.2 hv
  have i3 : inA a a.mn = true := inA_iff.2 (by omega)
  have i4 : inA a (a.mn + dst u v) = true := by
    rw [inA_iff]; rw [dst_eq]; omega
  have s1 : SNv a u v = stV a.sp a.ac (dst u v) := if_pos ⟨h, i1, i2⟩
  have s2 : SNv a v u = stV a.sp a.ac (dst u v) := by rw [dst_sym u v]; exact if_pos ⟨h, i2, i1⟩
  have s3 : SNv a a.mn (a.mn + dst u v) = stV a.sp a.ac (dst u v) := by
    have : dst a.mn (a.mn + dst u v) = dst u v := by rw [dst_eq a.mn]; omega
    unfold SNv
    rw [if_pos ⟨h, i3, i4⟩, this]
  have t1 : SEv a u v = 0 := by unfold SEv; rw [if_pos h, if_pos ⟨i1, i2⟩]
  have t2 : SEv a v u = 0 := by unfold SEv; rw [if_pos h, if_pos ⟨i2, i1⟩]
  have t3 : SEv a a.mn (a.mn + dst u v) = 0 := by unfold SEv; rw [if_pos h, if_pos ⟨i3, i4⟩]
  rw [e, w3, s1, s2, s3, t1, t2, t3]
  refine ⟨by simp, by simp, by simp, by simp, by simp, fun q => ?_, fun q => ?_⟩
  · rw [beq_iff_eq] at q
    rw [q, stV_0]; rfl
  · rw [beq_eq_false_iff_ne] at q
    have hi := stV_hi (S := a.sp) (A := a.ac) (d := dst u v) (by omega) (by omega) (by omega) d0.1
    have lo := stR_lo (S := a.sp) (A := a.ac) (by omega) (by omega) (by omega) _ (dst u v) 0 (Nat.le_refl _) d0.1 (Int.le_refl 0) (.inl (by omega))
    have y1 : IntKind.i64.wrap (dst u v + a.sp) = dst u v + a.sp := v64 (by omega) (by omega)
    have y2 : IntKind.i64.wrap (dst u v + a.sp - 1) = dst u v + a.sp - 1 := v64 (by omega) (by omega)
    have y3 : (dst u v + a.sp - 1).tdiv a.sp = (dst u v + a.sp - 1) / a.sp := Int.tdiv_eq_ediv_of_nonneg (by omega)
    have z3 : 0 ≤ (dst u v + a.sp - 1) / a.sp ∧ (dst u v + a.sp - 1) / a.sp ≤ dst u v + a.sp - 1 := ⟨Int.ediv_nonneg (by omega) (by omega), Int.ediv_le_self _ (by omega)⟩
    have y4 : IntKind.i64.wrap ((dst u v + a.sp - 1) / a.sp) = (dst u v + a.sp - 1) / a.sp := v64 (by omega) (by omega)
    have y5 : IntKind.i64.wrap ((dst u v + a.sp - 1) / a.sp + 1) = (dst u v + a.sp - 1) / a.sp + 1 := v64 (by omega) (by omega)
    have x1 : IntKind.i64.wrap (a.sp + a.ac) = a.sp + a.ac := v64 (by omega) (by omega)
    have x2 : IntKind.i64.wrap (a.sp + a.ac - 1) = a.sp + a.ac - 1 := v64 (by omega) (by omega)
    have x3 : (a.sp + a.ac - 1).tdiv a.ac = (a.sp + a.ac - 1) / a.ac := Int.tdiv_eq_ediv_of_nonneg (by omega)
    have z4 : 0 ≤ (a.sp + a.ac - 1) / a.ac ∧ (a.sp + a.ac - 1) / a.ac ≤ a.sp + a.ac - 1 := ⟨Int.ediv_nonneg (by omega) (by omega), Int.ediv_le_self _ (by omega)⟩
    have x4 : IntKind.i64.wrap ((a.sp + a.ac - 1) / a.ac) = (a.sp + a.ac - 1) / a.ac := v64 (by omega) (by omega)
    have x5 : IntKind.i64.wrap (2 * ((a.sp + a.ac - 1) / a.ac)) = 2 * ((a.sp + a.ac - 1) / a.ac) := v64 (by omega) (by omega)
    have v1 : (dst u v).tdiv a.sp = dst u v / a.sp := Int.tdiv_eq_ediv_of_nonneg d0.1
    have z5 : 0 ≤ dst u v / a.sp ∧ dst u v / a.sp ≤ dst u v := ⟨Int.ediv_nonneg d0.1 (by omega), Int.ediv_le_self _ d0.1⟩
    have v2 : IntKind.i64.wrap (dst u v / a.sp) = dst u v / a.sp := v64 (by omega) (by omega)
    have v3 : IntKind.i64.wrap (dst u v / a.sp + 2 * ((a.sp + a.ac - 1) / a.ac)) = dst u v / a.sp + 2 * ((a.sp + a.ac - 1) / a.ac) := v64 (by omega) (by omega)
    have v4 : IntKind.i64.wrap (dst u v / a.sp + 2 * ((a.sp + a.ac - 1) / a.ac) + 3) = dst u v / a.sp + 2 * ((a.sp + a.ac - 1) / a.ac) + 3 := v64 (by omega) (by omega)
    simp only [y1, y2, y3, y4, y5, x1, x2, x3, x4, x5, v1, v2, v3, v4]
    exact ⟨decide_eq_true lo, decide_eq_true (by omega)⟩
set_option maxHeartbeats 4000000 in
theorem slewTimes_walk (l : List Int) (p : Option Addr) (cap : Nat) (hl : listB l = true) (W : World) (hf : fctHolds W.heap.size (.ints l) W #[.slice p l.length cap]) :
    Calls Try.prog 13 #[.slice p l.length cap] W fun e w' => e = .returned (.bool true) ∧ Below W.heap.size W w' := by
  obtain ⟨ax1, _, _, _, ac1⟩ := axF_ok l 0
  have hx := axE_ok.1 ax1
  unfold okA at hx
  have x0 := decide_eq_true ax1
  have at1 := axAt_in l 0
  have at2 := inAt_in l (axAt l 0)
  obtain ⟨s0, s1, s2, s3, s4, y1, y2⟩ := tm_all ax1 ac1 (inV_in l (axAt l 0) ax1) (inV_in l (inAt l (axAt l 0)) ax1)
  cases hq : ((ma (IntKind.i64.wrap (inV l (inAt l (axAt l 0)) (axF l 0) - inV l (axAt l 0) (axF l 0))) (IntKind.i64.wrap (inV l (axAt l 0) (axF l 0) - inV l (inAt l (axAt l 0)) (axF l 0)))) == 0) with
  | true =>
    have V := y1 hq
    have L := lti_0000001 W.heap.size l
    refine list_calls (B := W.heap.size) (v := .bool true) (ctxOf_ok (libI2_ok _) (eq_none _)) (by kernel_rfl) Try.func13 rfl L rfl .nil (congrArg (fun b => some (Value.bool b)) V) W rfl hf (pickL_ok ?_ _)
    repeat' (first | exact cd_nil | refine cd_cons ?_ ?_)
    all_goals first | with_reducible rfl | with_reducible assumption | rfl | (with_reducible refine atB_iff.2 ?_; omega) | (with_reducible refine decide_eq_false ?_; omega) | (with_reducible refine decide_eq_true ?_; omega)

  | false =>
    obtain ⟨g1, V⟩ := y2 hq
    have L := lti_00000001 W.heap.size l
    refine list_calls (B := W.heap.size) (v := .bool true) (ctxOf_ok (libI2_ok _) (eq_none _)) (by kernel_rfl) Try.func13 rfl L rfl .nil (congrArg (fun b => some (Value.bool b)) V) W rfl hf (pickL_ok ?_ _)
    repeat' (first | exact cd_nil | refine cd_cons ?_ ?_)
    all_goals first | with_reducible rfl | with_reducible assumption | rfl | (with_reducible refine atB_iff.2 ?_; omega) | (with_reducible refine decide_eq_false ?_; omega) | (with_reducible refine decide_eq_true ?_; omega)

set_option maxRecDepth 100000 in
theorem lto_0111 (B : Nat) (l : List Int) (x : Int) (y : Int) : evL (ctxOf Try.prog (fctI B) eqG libI3) Try.f14 l [(.w (.one (.int .i64 x))), (.w (.one (.int .i64 y)))] [false, true, true, true] = some (AV.w (AW.one (AC.bool ((toP (moF l 0) { az := inV l (moAt l 0) (moF l 0).z, al := inV l (inAt l (moAt l 0)) (moF l 0).l } { az := x, al := y }).az == 0 && ((toP (moF l 0) { az := inV l (moAt l 0) (moF l 0).z, al := inV l (inAt l (moAt l 0)) (moF l 0).l } { az := x, al := y }).al == 0 && true)))), (pickL [(!true, false), (atB (0 + 40), true), (listB l, true), (atB 0, true), (decide (axE (moF l 0).z = 0), true), (atB (moAt l 0 + 4), true), (atB (moAt l 0), true), (decide (axE (moF l 0).l = 0), true), (atB (inAt l (moAt l 0) + 4), true), (atB (inAt l (moAt l 0)), true), (i64P { az := x, al := y }, true), (i64B x, true), (i64B y, true), (TEv (moF l 0).z (inV l (moAt l 0) (moF l 0).z) x != 0, true), (true, true), (toE (moF l 0) { az := inV l (moAt l 0) (moF l 0).z, al := inV l (inAt l (moAt l 0)) (moF l 0).l } { az := x, al := y } == 4, true), (toN (moF l 0) { az := inV l (moAt l 0) (moF l 0).z, al := inV l (inAt l (moAt l 0)) (moF l 0).l } { az := x, al := y } == 0, true)] [0, 1, 2, 3, 4, 5, 2, 6, 7, 8, 2, 9, 10, 11, 12, 13, 13, 13, 14, 15, 15, 15, 16, 16, 16, 16])) := by kernel_rfl
set_option maxRecDepth 100000 in
theorem lto_00111 (B : Nat) (l : List Int) (x : Int) (y : Int) : evL (ctxOf Try.prog (fctI B) eqG libI3) Try.f14 l [(.w (.one (.int .i64 x))), (.w (.one (.int .i64 y)))] [false, false, true, true, true] = some (AV.w (AW.one (AC.bool ((toP (moF l 0) { az := inV l (moAt l 0) (moF l 0).z, al := inV l (inAt l (moAt l 0)) (moF l 0).l } { az := x, al := y }).az == 0 && ((toP (moF l 0) { az := inV l (moAt l 0) (moF l 0).z, al := inV l (inAt l (moAt l 0)) (moF l 0).l } { az := x, al := y }).al == 0 && true)))), (pickL [(!true, false), (atB (0 + 40), true), (listB l, true), (atB 0, true), (decide (axE (moF l 0).z = 0), true), (atB (moAt l 0 + 4), true), (atB (moAt l 0), true), (decide (axE (moF l 0).l = 0), true), (atB (inAt l (moAt l 0) + 4), true), (atB (inAt l (moAt l 0)), true), (i64P { az := x, al := y }, true), (i64B x, true), (i64B y, true), (TEv (moF l 0).z (inV l (moAt l 0) (moF l 0).z) x != 0, false), (TEv (moF l 0).l (inV l (inAt l (moAt l 0)) (moF l 0).l) y != 0, true), (toE (moF l 0) { az := inV l (moAt l 0) (moF l 0).z, al := inV l (inAt l (moAt l 0)) (moF l 0).l } { az := x, al := y } == 4, true), (toN (moF l 0) { az := inV l (moAt l 0) (moF l 0).z, al := inV l (inAt l (moAt l 0)) (moF l 0).l } { az := x, al := y } == 0, true)] [0, 1, 2, 3, 4, 5, 2, 6, 7, 8, 2, 9, 10, 11, 12, 13, 13, 13, 14, 15, 15, 15, 16, 16, 16, 16])) := by kernel_rfl
set_option maxRecDepth 100000 in
theorem lto_00011 (B : Nat) (l : List Int) (x : Int) (y : Int) : evL (ctxOf Try.prog (fctI B) eqG libI3) Try.f14 l [(.w (.one (.int .i64 x))), (.w (.one (.int .i64 y)))] [false, false, false, true, true] = some (AV.w (AW.one (AC.bool (toN (moF l 0) { az := inV l (moAt l 0) (moF l 0).z, al := inV l (inAt l (moAt l 0)) (moF l 0).l } { az := x, al := y } == bif true then if SNv (moF l 0).l (inV l (inAt l (moAt l 0)) (moF l 0).l) (TPv (moF l 0).l (inV l (inAt l (moAt l 0)) (moF l 0).l) y) > SNv (moF l 0).z (inV l (moAt l 0) (moF l 0).z) (TPv (moF l 0).z (inV l (moAt l 0) (moF l 0).z) x) then SNv (moF l 0).l (inV l (inAt l (moAt l 0)) (moF l 0).l) (TPv (moF l 0).l (inV l (inAt l (moAt l 0)) (moF l 0).l) y) else SNv (moF l 0).z (inV l (moAt l 0) (moF l 0).z) (TPv (moF l 0).z (inV l (moAt l 0) (moF l 0).z) x) else if SNv (moF l 0).l (inV l (inAt l (moAt l 0)) (moF l 0).l) (TPv (moF l 0).l (inV l (inAt l (moAt l 0)) (moF l 0).l) y) < SNv (moF l 0).z (inV l (moAt l 0) (moF l 0).z) (TPv (moF l 0).z (inV l (moAt l 0) (moF l 0).z) x) then SNv (moF l 0).l (inV l (inAt l (moAt l 0)) (moF l 0).l) (TPv (moF l 0).l (inV l (inAt l (moAt l 0)) (moF l 0).l) y) else SNv (moF l 0).z (inV l (moAt l 0) (moF l 0).z) (TPv (moF l 0).z (inV l (moAt l 0) (moF l 0).z) x)))), (pickL [(!true, false), (atB (0 + 40), true), (listB l, true), (atB 0, true), (decide (axE (moF l 0).z = 0), true), (atB (moAt l 0 + 4), true), (atB (moAt l 0), true), (decide (axE (moF l 0).l = 0), true), (atB (inAt l (moAt l 0) + 4), true), (atB (inAt l (moAt l 0)), true), (i64P { az := x, al := y }, true), (i64B x, true), (i64B y, true), (TEv (moF l 0).z (inV l (moAt l 0) (moF l 0).z) x != 0, false), (TEv (moF l 0).l (inV l (inAt l (moAt l 0)) (moF l 0).l) y != 0, false), (toE (moF l 0) { az := inV l (moAt l 0) (moF l 0).z, al := inV l (inAt l (moAt l 0)) (moF l 0).l } { az := x, al := y } == 0, true), ((toP (moF l 0) { az := inV l (moAt l 0) (moF l 0).z, al := inV l (inAt l (moAt l 0)) (moF l 0).l } { az := x, al := y }).az == TPv (moF l 0).z (inV l (moAt l 0) (moF l 0).z) x && ((toP (moF l 0) { az := inV l (moAt l 0) (moF l 0).z, al := inV l (inAt l (moAt l 0)) (moF l 0).l } { az := x, al := y }).al == TPv (moF l 0).l (inV l (inAt l (moAt l 0)) (moF l 0).l) y && true), true)] [0, 1, 2, 3, 4, 5, 2, 6, 7, 8, 2, 9, 10, 11, 12, 13, 13, 13, 14, 15, 15, 15, 15, 15, 15, 16, 16, 16, 16, 16, 16])) := by kernel_rfl
theorem to_all {m : Mo} {u v : Po} (hm : moE m = 0) (hu : inM m u = true) : ((TEv m.z u.az v.az != 0) = true ∨ (TEv m.l u.al v.al != 0) = true → (toE m u v == 4) = true ∧ (toN m u v == 0) = true ∧ ((toP m u v).az == 0 && ((toP m u v).al == 0 && true)) = true) ∧
    ((TEv m.z u.az v.az != 0) = false → (TEv m.l u.al v.al != 0) = false → (toE m u v == 0) = true ∧ ((toP m u v).az == TPv m.z u.az v.az && ((toP m u v).al == TPv m.l u.al v.al && true)) = true ∧ (toN m u v == bif true then if SNv m.l u.al (TPv m.l u.al v.al) > SNv m.z u.az (TPv m.z u.az v.az) then SNv m.l u.al (TPv m.l u.al v.al) else SNv m.z u.az (TPv m.z u.az v.az) else if SNv m.l u.al (TPv m.l u.al v.al) < SNv m.z u.az (TPv m.z u.az v.az) then SNv m.l u.al (TPv m.l u.al v.al) else SNv m.z u.az (TPv m.z u.az v.az)) = true) := by
  obtain ⟨a1, a2, _⟩ := mo_iff.1 hm
  obtain ⟨b1, b2⟩ := inM_iff.1 hu
  have z1 : TEv m.z u.az v.az = tgE m.z u.az v.az := by unfold TEv; rw [if_pos a1, if_pos b1]
  have z2 : TEv m.l u.al v.al = tgE m.l u.al v.al := by unfold TEv; rw [if_pos a2, if_pos b2]
  have z3 : TPv m.z u.az v.az = tgP m.z u.az v.az := if_pos ⟨a1, b1⟩
  have z4 : TPv m.l u.al v.al = tgP m.l u.al v.al := if_pos ⟨a2, b2⟩
  rw [z1, z2, z3, z4]
  constructor
  · intro h
    have e : toE m u v = 4 := by
      unfold toE tsE
      rw [if_pos hm, if_pos hu]
      rcases tgE_or m.z u.az v.az with ⟨g, _⟩ | ⟨g, _⟩ <;> rcases tgE_or m.l u.al v.al with ⟨k, _⟩ | ⟨k, _⟩ <;> simp [g, k] at h ⊢
    have e1 : toN m u v = 0 := by unfold toN; rw [if_neg (by omega)]
    have e2 : toP m u v = po0 := by unfold toP; rw [if_neg (by omega)]
    rw [e, e1, e2]
    exact ⟨rfl, rfl, rfl⟩
  · intro h k
    have h' : tgE m.z u.az v.az = 0 := by simpa using h
    have k' : tgE m.l u.al v.al = 0 := by simpa using k
    have s : tsE m u v = 0 := by unfold tsE; rw [if_pos h', k']
    have e : toE m u v = 0 := by unfold toE; rw [if_pos hm, if_pos hu, s]
    obtain ⟨t1, t2, t3⟩ := ts_in hm hu s
    have e2 : toP m u v = ⟨tgP m.z u.az v.az, tgP m.l u.al v.al⟩ := by unfold toP; rw [if_pos e, t1]
    have n1 : SNv m.z u.az (tgP m.z u.az v.az) = stV m.z.sp m.z.ac (dst u.az (tgP m.z u.az v.az)) := if_pos ⟨a1, b1, t2⟩
    have n2 : SNv m.l u.al (tgP m.l u.al v.al) = stV m.l.sp m.l.ac (dst u.al (tgP m.l u.al v.al)) := if_pos ⟨a2, b2, t3⟩
    rw [e, e2, n1, n2]
    refine ⟨rfl, by simp, ?_⟩
    unfold toN
    rw [if_pos e]
    exact beq_self_eq_true _
set_option maxHeartbeats 4000000 in
theorem slewTogether_walk (l : List Int) (p : Option Addr) (cap : Nat) (x : Int) (hx1 : -9223372036854775808 ≤ x) (hx2 : x ≤ 9223372036854775807) (y : Int) (hy1 : -9223372036854775808 ≤ y) (hy2 : y ≤ 9223372036854775807) (hl : listB l = true) (W : World) (hf : fctHolds W.heap.size (.ints l) W #[.slice p l.length cap]) :
    Calls Try.prog 14 #[.slice p l.length cap, .int .i64 x, .int .i64 y] W fun e w' => e = .returned (.bool true) ∧ Below W.heap.size W w' := by
  obtain ⟨m1, m2, m3⟩ := moF_ok l 0
  have d2 : decide (axE (moF l 0).z = 0) = true := decide_eq_true m2
  have d3 : decide (axE (moF l 0).l = 0) = true := decide_eq_true m3
  have at1 := moAt_in l 0
  have at2 := inAt_in l (moAt l 0)
  have i1 : i64B x = true := i64B_iff.2 ⟨hx1, hx2⟩
  have i2 : i64B y = true := i64B_iff.2 ⟨hy1, hy2⟩
  have i3 : i64P ⟨x, y⟩ = true := i64P_iff.2 ⟨i1, i2⟩
  obtain ⟨T1, T2⟩ := to_all (u := { az := inV l (moAt l 0) (moF l 0).z, al := inV l (inAt l (moAt l 0)) (moF l 0).l }) (v := { az := x, al := y }) m1 (inM_iff.2 ⟨inV_in l _ m2, inV_in l _ m3⟩)
  cases h1 : (TEv (moF l 0).z (inV l (moAt l 0) (moF l 0).z) x != 0) with
  | true =>
    obtain ⟨t1, t2, V⟩ := T1 (.inl h1)
    have L := lto_0111 W.heap.size l x y
    refine list_calls (B := W.heap.size) (v := .bool true) (ctxOf_ok (libI3_ok _) eqG_ok) (by kernel_rfl) Try.func14 rfl L rfl (.cons rfl (.cons rfl .nil)) (congrArg (fun b => some (Value.bool b)) V) W rfl hf (pickL_ok ?_ _)
    repeat' (first | exact cd_nil | refine cd_cons ?_ ?_)
    all_goals first | with_reducible rfl | with_reducible assumption | rfl | (with_reducible refine atB_iff.2 ?_; omega) | (with_reducible refine decide_eq_false ?_; omega) | (with_reducible refine decide_eq_true ?_; omega)

  | false =>
    cases h2 : (TEv (moF l 0).l (inV l (inAt l (moAt l 0)) (moF l 0).l) y != 0) with
    | true =>
      obtain ⟨t1, t2, V⟩ := T1 (.inr h2)
      have L := lto_00111 W.heap.size l x y
      refine list_calls (B := W.heap.size) (v := .bool true) (ctxOf_ok (libI3_ok _) eqG_ok) (by kernel_rfl) Try.func14 rfl L rfl (.cons rfl (.cons rfl .nil)) (congrArg (fun b => some (Value.bool b)) V) W rfl hf (pickL_ok ?_ _)
      repeat' (first | exact cd_nil | refine cd_cons ?_ ?_)
      all_goals first | with_reducible rfl | with_reducible assumption | rfl | (with_reducible refine atB_iff.2 ?_; omega) | (with_reducible refine decide_eq_false ?_; omega) | (with_reducible refine decide_eq_true ?_; omega)

    | false =>
      obtain ⟨t1, t2, V⟩ := T2 h1 h2
      have L := lto_00011 W.heap.size l x y
      refine list_calls (B := W.heap.size) (v := .bool true) (ctxOf_ok (libI3_ok _) eqG_ok) (by kernel_rfl) Try.func14 rfl L rfl (.cons rfl (.cons rfl .nil)) (congrArg (fun b => some (Value.bool b)) V) W rfl hf (pickL_ok ?_ _)
      repeat' (first | exact cd_nil | refine cd_cons ?_ ?_)
      all_goals first | with_reducible rfl | with_reducible assumption | rfl | (with_reducible refine atB_iff.2 ?_; omega) | (with_reducible refine decide_eq_false ?_; omega) | (with_reducible refine decide_eq_true ?_; omega)

end
end Go.Proofs.Ytiamhppdacfmmaa.AtSl

