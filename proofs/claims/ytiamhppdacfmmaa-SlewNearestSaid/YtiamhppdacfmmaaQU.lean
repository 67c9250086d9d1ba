/-
  The walk of the law SlewNearest.
  Conditions: those of each theorem.
-/
import Derived.Test.YtiamhppdacfmmaaQS
import Derived.Test.YtiamhppdacfmmaaGO
set_option linter.unusedVariables false
set_option linter.unusedSimpArgs false
namespace Go.Proofs.Ytiamhppdacfmmaa.AtSl
open Go.RowKit Ev Wd
open Go.Proofs.Ytiamhppdacfmmaa
variable {F : Type}
noncomputable section

noncomputable abbrev libV2 : List (Nat × FnSp Fct) := [(39, sp0 (aBool true)), (40, axSt), (41, inSt), (22, TGS), (20, inS)]
theorem libV2_ok (B : Nat) : LibOk Try.prog (fctI B) (lib1 libV2) := (lib1_cons (sp0_ok rfl slews_pl) Try.call39 (lib1_cons (axSt_ok B) Try.call40 (lib1_cons (inSt_ok B) Try.call41 (lib1_cons (sp3_ok fun a x y hc => ⟨_, rfl, Tar_pl a x y (ca1 hc)⟩) Try.call22 (lib1_cons (sp2_ok fun a p _ => ⟨_, rfl, inn_pl a p⟩) Try.call20 (lib1_nil _ _))))))
set_option maxRecDepth 100000 in
theorem lne_011 (B : Nat) (l : List Int) (x : Int) : evL (ctxLp Try.prog (fctI B) (fun _ => false) libV2 fnsN snLps) Try.f11 l [(.w (.one (.int .i64 x)))] [false, true, true] = some (AV.w (AW.one (AC.bool (TPv (axF l 0) (inV l (axAt l 0) (axF l 0)) x == 0))), (pickL [(!true, false), (atB (0 + 12), true), (listB l, true), (atB 0, true), (decide (axE (axF l 0) = 0), true), (atB (axAt l 0 + 4), true), (atB (axAt l 0), true), (i64B x, true), (TEv (axF l 0) (inV l (axAt l 0) (axF l 0)) x != 0, true), (decide ((4294967296 : Int) = 0), false), (nfB (axF l 0) (x.tmod 4294967296) && (decide ((-4294967296 : Int) < x.tmod 4294967296) && (decide (x.tmod 4294967296 < 4294967296) && decide ((-6 : Int) = -6))), true), (TEv (axF l 0) (inV l (axAt l 0) (axF l 0)) x == 4, true)] [0, 1, 2, 3, 4, 5, 2, 6, 7, 8, 9, 10, 11, 11, 11])) := by kernel_rfl
set_option maxRecDepth 100000 in
theorem lne_0000 (B : Nat) (l : List Int) (x : Int) : evL (ctxLp Try.prog (fctI B) (fun _ => false) libV2 fnsN snLps) Try.f11 l [(.w (.one (.int .i64 x)))] [false, false, false, false] = some (AV.w (AW.one (AC.yes true)), (pickL [(!true, false), (atB (0 + 12), true), (listB l, true), (atB 0, true), (decide (axE (axF l 0) = 0), true), (atB (axAt l 0 + 4), true), (atB (axAt l 0), true), (i64B x, true), (TEv (axF l 0) (inV l (axAt l 0) (axF l 0)) x != 0, false), (!inA (axF l 0) (TPv (axF l 0) (inV l (axAt l 0) (axF l 0)) x), false), (decide ((4294967296 : Int) = 0), false), ((IntKind.i64.wrap ((TPv (axF l 0) (inV l (axAt l 0) (axF l 0)) x).tmod 4294967296 - x.tmod 4294967296)).tmod 4294967296 != 0, false), (nrB (axF l 0) (TPv (axF l 0) (inV l (axAt l 0) (axF l 0)) x) (inV l (axAt l 0) (axF l 0)) && (rgB (TPv (axF l 0) (inV l (axAt l 0) (axF l 0)) x) && (rgB (inV l (axAt l 0) (axF l 0)) && decide ((-8 : Int) = -8))), true)] [0, 1, 2, 3, 4, 5, 2, 6, 7, 8, 9, 9, 10, 9, 9, 10, 9, 9, 10, 9, 9, 11, 12])) := by kernel_rfl
theorem fnlN (B : Nat) : ∀ f fn, Ev.look f fnsN = some fn → LpsOk Try.prog (fctI B) snLps fn.ntmps (bodyOf fn) := fun f fn h => by
  unfold fnsN at h
  rw [look_cons] at h
  split at h
  · cases h
    have : Nat.beq (Try.f42).ntmps 83 = false := by kernel_rfl
    refine lps_cons (fun e => ?_) (lps_cons (fun e => ?_) lps_nil)
    · exfalso
      rw [e] at this
      exact absurd this (by decide)
    · exfalso
      rw [e] at this
      exact absurd this (by decide)
  · cases h
theorem tm_mod (x : Int) : -4294967296 < x.tmod 4294967296 ∧ x.tmod 4294967296 < 4294967296 ∧ (x.tmod 4294967296) % 4294967296 = x % 4294967296 := by
  rw [Int.tmod_eq_emod]; split <;> omega
theorem tm_zero {y : Int} (h : y % 4294967296 = 0) : y.tmod 4294967296 = 0 := by
  rw [Int.tmod_eq_emod, if_pos (.inr (Int.dvd_of_emod_eq_zero h))]; omega
/-- What the law asks of Target. -/
theorem near_all {a : Ax} {u : Int} (x : Int) (h : axE a = 0) (hu : inA a u = true) : ((TEv a u x != 0) = true → nfB a (x.tmod 4294967296) = true ∧ (TEv a u x == 4) = true ∧ (TPv a u x == 0) = true) ∧
    ((TEv a u x != 0) = false → (!inA a (TPv a u x)) = false ∧ ((IntKind.i64.wrap ((TPv a u x).tmod 4294967296 - x.tmod 4294967296)).tmod 4294967296 != 0) = false ∧ nrB a (TPv a u x) u = true ∧ rgB (TPv a u x) = true ∧ rgB u = true) := by
  have ha := axE_ok.1 h
  unfold okA at ha
  have ru := in_rg h hu
  have e1 : TEv a u x = tgE a u x := by unfold TEv; rw [if_pos h, if_pos hu]
  have e2 : TPv a u x = tgP a u x := by unfold TPv; rw [if_pos ⟨h, hu⟩]
  obtain ⟨t1, t2⟩ := tg_sp x (inA_iff.1 hu)
  have m := tm_mod x
  rw [e1, e2]
  constructor
  · intro g
    rcases tgE_or a u x with ⟨q, _⟩ | ⟨q, w⟩
    · rw [q] at g; cases g
    · rw [q, tgP_no w]
      refine ⟨nfB_of fun k k1 k2 => ?_, rfl, rfl⟩
      cases hc : inA a (x.tmod 4294967296 + k * 4294967296) with
      | false => rfl
      | true =>
        rw [inA_iff] at hc
        exact absurd (by omega) (t2 w _ hc.1 hc.2)
  · intro g
    rcases tgE_or a u x with ⟨q, w⟩ | ⟨q, w⟩
    · obtain ⟨p1, p2, p3⟩ := t1 w
      have hi : inA a (tgP a u x) = true := inA_iff.2 p1
      have rp := in_rg h hi
      have m2 := tm_mod (tgP a u x)
      refine ⟨by rw [hi]; rfl, ?_, nrB_of fun k hk => ?_, rgB_iff.2 (by omega), rgB_iff.2 (by omega)⟩
      · rw [v64 (by omega) (by omega), tm_zero (by omega)]; rfl
      · rw [inA_iff] at hk
        have := p3 _ hk.1 hk.2 (by omega)
        omega
    · rw [q] at g; cases g
set_option maxHeartbeats 4000000 in
theorem slewNearest_walk (l : List Int) (p : Option Addr) (cap : Nat) (x : Int) (hx1 : -9223372036854775808 ≤ x) (hx2 : x ≤ 9223372036854775807) (hl : listB l = true) (W : World) (hf : fctHolds W.heap.size (.ints l) W #[.slice p l.length cap]) :
    Calls Try.prog 11 #[.slice p l.length cap, .int .i64 x] W fun e w' => e = .returned (.bool true) ∧ Below W.heap.size W w' := by
  have ax1 := (axF_ok l 0).1
  have d1 : decide (axE (axF l 0) = 0) = true := decide_eq_true ax1
  have at1 := axAt_in l 0
  have i1 : i64B x = true := i64B_iff.2 ⟨hx1, hx2⟩
  have m := tm_mod x
  obtain ⟨T1, T2⟩ := near_all x ax1 (inV_in l (axAt l 0) ax1)
  cases h1 : (TEv (axF l 0) (inV l (axAt l 0) (axF l 0)) x != 0) with
  | true =>
    obtain ⟨t1, t2, V⟩ := T1 h1
    have c1 : (nfB (axF l 0) (x.tmod 4294967296) && (decide ((-4294967296 : Int) < x.tmod 4294967296) && (decide (x.tmod 4294967296 < 4294967296) && decide ((-6 : Int) = -6)))) = true := by rw [t1, decide_eq_true m.1, decide_eq_true m.2.1]; rfl
    have L := lne_011 W.heap.size l x
    refine list_calls (B := W.heap.size) (v := .bool true) (ctxLp_ok (libV2_ok _) (eq_none _) fnsN_ok (fnlN W.heap.size)) (by kernel_rfl) Try.func11 rfl L rfl (.cons rfl .nil) (congrArg (fun b => some (Value.bool b)) V) W rfl hf (pickL_ok ?_ _) (snLps_ok _)
    repeat' (first | exact cd_nil | refine cd_cons ?_ ?_)
    all_goals first | with_reducible rfl | with_reducible assumption | rfl | (with_reducible refine atB_iff.2 ?_; omega)

  | false =>
    obtain ⟨t1, t2, t3, t4, t5⟩ := T2 h1
    have c1 : (nrB (axF l 0) (TPv (axF l 0) (inV l (axAt l 0) (axF l 0)) x) (inV l (axAt l 0) (axF l 0)) && (rgB (TPv (axF l 0) (inV l (axAt l 0) (axF l 0)) x) && (rgB (inV l (axAt l 0) (axF l 0)) && decide ((-8 : Int) = -8)))) = true := by rw [t3, t4, t5]; rfl
    have L := lne_0000 W.heap.size l x
    refine list_calls (B := W.heap.size) (v := .bool true) (ctxLp_ok (libV2_ok _) (eq_none _) fnsN_ok (fnlN W.heap.size)) (by kernel_rfl) Try.func11 rfl L rfl (.cons rfl .nil) rfl W rfl hf (pickL_ok ?_ _) (snLps_ok _)
    repeat' (first | exact cd_nil | refine cd_cons ?_ ?_)
    all_goals first | with_reducible rfl | with_reducible assumption | rfl | (with_reducible refine atB_iff.2 ?_; omega)

end
end Go.Proofs.Ytiamhppdacfmmaa.AtSl

