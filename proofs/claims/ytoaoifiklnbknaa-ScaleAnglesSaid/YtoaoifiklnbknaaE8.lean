/-
  The walk of the law ScaleAngles.
  Conditions: the numbers of the arguments are int64.
-/
import Derived.Test.YtoaoifiklnbknaaE7
import Derived.Test.YtoaoifiklnbknaaD5R
set_option linter.unusedVariables false
set_option linter.unusedSimpArgs false
namespace Go.Proofs.Ytoaoifiklnbknaa.AtRt
open Ev Go.RowKit Go.Shelf Zd Wd
open Go.Proofs.Ytoaoifiklnbknaa
noncomputable section

abbrev eqA : TypeId → Bool := fun t => Nat.beq t 93 || Nat.beq t 44
noncomputable abbrev libLA : List (Nat × FnSp Nm) := [(70, sp1 dRt (fun r => aInt .i64 (rtE r)) (fun r => [(i64B r.n, true), (i64B r.d, true)])), (74, sp1 dRt (fun r => aInt .i64 (rtE r)) (fun r => [(i64B r.n, true), (i64B r.d, true)])), (61, sp0 (aBool true)), (75, sp0 (.w (.agg [.int .i64 41072144766976, .int .i64 823974609375]))), (76, sp2 dRt dBd (fun r b => bA (sdB r b)) (fun r _ => [(i64B r.n, true), (i64B r.d, true)])), (77, sp2 dRt dBd (fun r b => bA (sdB r b)) (fun r b => [(i64B r.n, true), (i64B r.d, true), (i64B b.lo, true), (i64B b.hi, true)])), (78, sp2 dRt (dInt .i64) (fun r x => aInt .i64 (agV r x)) (fun r _ => [(i64B r.n, true), (i64B r.d, true)])), (71, factSp gTurned), (73, factSp gTwo), (17, nfn nI), (30, nfn nPlus), (72, nfn nSplit), (15, nfn nCmp)]
set_option maxRecDepth 100000 in
theorem ea_l0  : evR (ctxOf Try.prog noFacts (fun _ => false) []) Try.f75 [] [] = some (AV.w (AW.agg [AC.int IntKind.i64 41072144766976, AC.int IntKind.i64 823974609375]), []) := by kernel_rfl
set_option maxRecDepth 100000 in
theorem ea_t  : Pl Try.prog 75 [] (AV.get ((AV.w (AW.agg [AC.int IntKind.i64 41072144766976, AC.int IntKind.i64 823974609375])) : AV Empty)) :=
  (pl_leaf rfl (ctxOf_ok (lib1_nil _ _) (eq_none _)) (by kernel_rfl) Try.func75 rfl (ea_l0) rfl (all2_R .nil) rfl cd_nil)
theorem earth_pl   : Pl Try.prog 75 [] (.agg #[.int .i64 41072144766976, .int .i64 823974609375]) := by
  refine Eq.mp (congrArg (Pl _ _ _) ?_) (ea_t )
  rfl
theorem eqA_ok : EqOk Try.prog (tabOf Try.prog) eqA := eq_of fun t ht => by
  have ht : (Nat.beq t 93 || Nat.beq t 44) = true := ht
  rw [Bool.or_eq_true] at ht
  rcases ht with ht | ht
  · have := Nat.eq_of_beq_eq_true ht
    subst this
    exact ⟨by kernel_rfl, by kernel_rfl, by kernel_rfl⟩
  · have := Nat.eq_of_beq_eq_true ht
    subst this
    exact ⟨by kernel_rfl, by kernel_rfl, by kernel_rfl⟩
theorem libLA_ok : LibOk Try.prog numI (lib1 libLA) := (lib1_cons (sp1_ok fun r hc => ⟨_, rfl, rer_pl r (c2' hc).1 (c2' hc).2⟩) Try.call70 (lib1_cons (sp1_ok fun r hc => ⟨_, rfl, rte_pl r (c2' hc).1 (c2' hc).2⟩) Try.call74 (lib1_cons (sp0_ok rfl sfact_pl) Try.call61 (lib1_cons (sp0_ok rfl earth_pl) Try.call75 (lib1_cons (sp2_ok fun r b hc => ⟨_, rfl, sdf_pl r b (c2' hc).1 (c2' hc).2⟩) Try.call76 (lib1_cons (sp2_ok fun r b hc => ⟨_, rfl, so_pl r b (c4' hc).1 (c4' hc).2.1 (c4' hc).2.2.1 (c4' hc).2.2.2⟩) Try.call77 (lib1_cons (sp2_ok fun r x hc => ⟨_, rfl, agf_pl r x (c2' hc).1 (c2' hc).2⟩) Try.call78 (lib1_cons gTurned_ok Try.call71 (lib1_cons gTwo_ok Try.call73 (lib1_cons nI_ok Try.call17 (lib1_cons nPlus_ok Try.call30 (lib1_cons nSplit_ok Try.call72 (lib1_cons nCmp_ok Try.call15 (lib1_nil _ _))))))))))))))
theorem ag_in (r : Rt) (x : Int) : 0 ≤ agV r x ∧ agV r x < 4294967296 := by
  unfold agV
  split <;> omega
theorem bd_self (b : Bd) : (b.lo == b.lo && (b.hi == b.hi && (b.u == b.u && true))) = true := by
  rw [beq_self_eq_true, beq_self_eq_true, beq_self_eq_true]; rfl
set_option maxRecDepth 100000 in
theorem la_1111111 (r : Rt) (b : Bd) (x : Int) : evR (ctxOf Try.prog numI eqA libLA) Try.f12 [(rtA r), (bA b), (.w (.one (.int .i64 x)))] [true, true, true, true, true, true, true] = some (AV.w (AW.one (AC.bool (cmpI ((tnV r x false + r.a) % 4294967296) (agV r x) == 0))), (pickL [(i64B r.n, true), (i64B r.d, true), (rtE r == 0, true), (decide (x ≥ -17592186044416), true), (decide (x ≤ 17592186044416), true), (i64B x, true), (decide (x < 0) == decide (x < 0), true), (okR r, true), (i64B r.a, true), (decide (tnV r x false < 0) == decide (tnV r x false < 0), true), (decide (r.a < 0) == decide (r.a < 0), true), (szB (tnV r x false), true), (szB r.a, true), (32 == 32, true), (decide (tnV r x false + r.a < 0) == decide (tnV r x false + r.a < 0), true), (decide (4294967296 < 0) == decide (4294967296 < 0), true), (szB (tnV r x false + r.a), true), (szB 4294967296, true), (decide (4294967296 = 0), false), (true, true), (rtE r == rtE r, true), (41072144766976 == 41072144766976 && (823974609375 == 823974609375 && true), true), (i64B b.lo, true), (i64B b.hi, true), ((sdB r b).lo == (sdB r b).lo && ((sdB r b).hi == (sdB r b).hi && ((sdB r b).u == (sdB r b).u && true)), true), (i64B (agV r x), true), (decide ((tnV r x false + r.a) % 4294967296 < 0) == decide ((tnV r x false + r.a) % 4294967296 < 0), true), (decide (agV r x < 0) == decide (agV r x < 0), true), (szB ((tnV r x false + r.a) % 4294967296), true), (szB (agV r x), true)] [0, 1, 2, 2, 2, 3, 3, 3, 4, 5, 6, 7, 5, 8, 9, 10, 11, 12, 13, 14, 15, 16, 17, 18, 19, 19, 0, 1, 19, 19, 0, 1, 19, 19, 20, 20, 20, 20, 21, 21, 21, 0, 1, 21, 21, 21, 0, 1, 22, 23, 21, 21, 24, 24, 24, 24, 0, 1, 24, 25, 24, 26, 27, 28, 29, 24, 24])) := by kernel_rfl
set_option maxRecDepth 100000 in
theorem la_1101111 (r : Rt) (b : Bd) (x : Int) : evR (ctxOf Try.prog numI eqA libLA) Try.f12 [(rtA r), (bA b), (.w (.one (.int .i64 x)))] [true, true, false, true, true, true, true] = some (AV.w (AW.one (AC.bool (cmpI 0 (agV r x) == 0))), (pickL [(i64B r.n, true), (i64B r.d, true), (rtE r == 0, true), (decide (x ≥ -17592186044416), true), (decide (x ≤ 17592186044416), false), (true, true), (rtE r == rtE r, true), (41072144766976 == 41072144766976 && (823974609375 == 823974609375 && true), true), (i64B b.lo, true), (i64B b.hi, true), ((sdB r b).lo == (sdB r b).lo && ((sdB r b).hi == (sdB r b).hi && ((sdB r b).u == (sdB r b).u && true)), true), (i64B (agV r x), true), (decide (agV r x < 0) == decide (agV r x < 0), true), (szB 0, true), (szB (agV r x), true)] [0, 1, 2, 2, 2, 3, 3, 3, 4, 5, 5, 0, 1, 5, 5, 0, 1, 5, 5, 6, 6, 6, 6, 7, 7, 7, 0, 1, 7, 7, 7, 0, 1, 8, 9, 7, 7, 10, 10, 10, 10, 0, 1, 10, 11, 10, 12, 13, 14, 10, 10])) := by kernel_rfl
set_option maxRecDepth 100000 in
theorem la_101111 (r : Rt) (b : Bd) (x : Int) : evR (ctxOf Try.prog numI eqA libLA) Try.f12 [(rtA r), (bA b), (.w (.one (.int .i64 x)))] [true, false, true, true, true, true] = some (AV.w (AW.one (AC.bool (cmpI 0 (agV r x) == 0))), (pickL [(i64B r.n, true), (i64B r.d, true), (rtE r == 0, true), (decide (x ≥ -17592186044416), false), (false, false), (true, true), (rtE r == rtE r, true), (41072144766976 == 41072144766976 && (823974609375 == 823974609375 && true), true), (i64B b.lo, true), (i64B b.hi, true), ((sdB r b).lo == (sdB r b).lo && ((sdB r b).hi == (sdB r b).hi && ((sdB r b).u == (sdB r b).u && true)), true), (i64B (agV r x), true), (decide (agV r x < 0) == decide (agV r x < 0), true), (szB 0, true), (szB (agV r x), true)] [0, 1, 2, 2, 2, 3, 3, 3, 4, 5, 5, 0, 1, 5, 5, 0, 1, 5, 5, 6, 6, 6, 6, 7, 7, 7, 0, 1, 7, 7, 7, 0, 1, 8, 9, 7, 7, 10, 10, 10, 10, 0, 1, 10, 11, 10, 12, 13, 14, 10, 10])) := by kernel_rfl
set_option maxRecDepth 100000 in
theorem la_01111 (r : Rt) (b : Bd) (x : Int) : evR (ctxOf Try.prog numI eqA libLA) Try.f12 [(rtA r), (bA b), (.w (.one (.int .i64 x)))] [false, true, true, true, true] = some (AV.w (AW.one (AC.bool (cmpI 0 (agV r x) == 0))), (pickL [(i64B r.n, true), (i64B r.d, true), (rtE r == 0, false), (false, false), (true, true), (rtE r == rtE r, true), (41072144766976 == 41072144766976 && (823974609375 == 823974609375 && true), true), (i64B b.lo, true), (i64B b.hi, true), ((sdB r b).lo == (sdB r b).lo && ((sdB r b).hi == (sdB r b).hi && ((sdB r b).u == (sdB r b).u && true)), true), (i64B (agV r x), true), (decide (agV r x < 0) == decide (agV r x < 0), true), (szB 0, true), (szB (agV r x), true)] [0, 1, 2, 2, 2, 3, 3, 3, 3, 4, 4, 0, 1, 4, 4, 0, 1, 4, 4, 5, 5, 5, 5, 6, 6, 6, 0, 1, 6, 6, 6, 0, 1, 7, 8, 6, 6, 9, 9, 9, 9, 0, 1, 9, 10, 9, 11, 12, 13, 9, 9])) := by kernel_rfl
set_option maxHeartbeats 4000000 in
theorem scaleAngles_law (r : Rt) (hn : i64B r.n = true) (hd : i64B r.d = true) (b : Bd) (l1 : i64B b.lo = true) (l2 : i64B b.hi = true) (x : Int) (ix : i64B x = true) (W : World) : Calls Try.prog 12 #[rtV r, bV b, .int .i64 x] W fun e w' => e = .returned (.bool true) ∧ Below W.heap.size W w' := by
  have ga := ag_in r x
  have ia : i64B (agV r x) = true := i64B_iff.2 (by omega)
  have da := Dl.i64 ia
  have dz : Dl 4 0 := Dl.lit (by omega) (by omega)
  have dt : Dl 4 4294967296 := Dl.lit (by omega) (by omega)
  have q0 : agV r x = 0 → (cmpI 0 (agV r x) == 0) = true := fun g => by rw [g]; rfl
  by_cases h : rtE r = 0
  · have k0 : (rtE r == 0) = true := by rw [h]; rfl
    by_cases g1 : x ≥ -17592186044416
    · have c1 : decide (x ≥ -17592186044416) = true := decide_eq_true g1
      by_cases g2 : x ≤ 17592186044416
      · have c2 : decide (x ≤ 17592186044416) = true := decide_eq_true g2
        have ok := okR_in' h
        obtain ⟨it, iang, ii, d0, id'⟩ := okR_iff.1 ok
        have e1 := Dl.i64 it
        have e2 := Dl.i64 iang
        have e4 := Dl.i64 ix
        have e6 : Dl 14 (tnV r x false) := ((e4.sub' e1).mul (Dl.i64 ii)).div
        have e7 : Dl 4 ((tnV r x false + r.a) % 4294967296) := Dl.lit (by omega) (by omega)
        have ev : agV r x = (tnV r x false + r.a) % 4294967296 := by
          unfold agV
          rw [if_pos ⟨h, tmQ_iff.2 ⟨g1, g2⟩⟩]
          unfold wA tnV
          rw [cond_false, Int.add_comm]
        have L := la_1111111 r b x
        have V : (cmpI ((tnV r x false + r.a) % 4294967296) (agV r x) == 0) = true := by rw [ev, cmpI_eq rfl]; rfl
        refine evR_calls (I := numI) (v := .bool true) (ctxOf_ok libLA_ok eqA_ok) (by kernel_rfl) Try.func12 rfl lps_nil L rfl (all2_R (.cons rfl (.cons rfl (.cons rfl .nil)))) (congrArg (fun b => some (Value.bool b)) V) W (Nat.zero_le _) (pickL_ok ?_ _)
        repeat' (first | exact cd_nil | refine cd_cons ?_ ?_)
        all_goals first | rfl | with_reducible assumption | exact eqB _ | exact bd_self _ | exact beq_self_eq_true _ | (apply Dl.sz; (repeat' (first | with_reducible assumption | with_reducible apply Dl.add')); omega)
      · have c2 : decide (x ≤ 17592186044416) = false := decide_eq_false g2
        have ev : agV r x = 0 := by unfold agV; rw [if_neg (fun g => by have := tmQ_iff.1 g.2; omega)]
        have L := la_1101111 r b x
        have V : (cmpI 0 (agV r x) == 0) = true := by exact q0 ev
        refine evR_calls (I := numI) (v := .bool true) (ctxOf_ok libLA_ok eqA_ok) (by kernel_rfl) Try.func12 rfl lps_nil L rfl (all2_R (.cons rfl (.cons rfl (.cons rfl .nil)))) (congrArg (fun b => some (Value.bool b)) V) W (Nat.zero_le _) (pickL_ok ?_ _)
        repeat' (first | exact cd_nil | refine cd_cons ?_ ?_)
        all_goals first | rfl | with_reducible assumption | exact eqB _ | exact bd_self _ | exact beq_self_eq_true _ | (apply Dl.sz; (repeat' (first | with_reducible assumption | with_reducible apply Dl.add')); omega)
    · have c1 : decide (x ≥ -17592186044416) = false := decide_eq_false g1
      have ev : agV r x = 0 := by unfold agV; rw [if_neg (fun g => by have := tmQ_iff.1 g.2; omega)]
      have L := la_101111 r b x
      have V : (cmpI 0 (agV r x) == 0) = true := by exact q0 ev
      refine evR_calls (I := numI) (v := .bool true) (ctxOf_ok libLA_ok eqA_ok) (by kernel_rfl) Try.func12 rfl lps_nil L rfl (all2_R (.cons rfl (.cons rfl (.cons rfl .nil)))) (congrArg (fun b => some (Value.bool b)) V) W (Nat.zero_le _) (pickL_ok ?_ _)
      repeat' (first | exact cd_nil | refine cd_cons ?_ ?_)
      all_goals first | rfl | with_reducible assumption | exact eqB _ | exact bd_self _ | exact beq_self_eq_true _ | (apply Dl.sz; (repeat' (first | with_reducible assumption | with_reducible apply Dl.add')); omega)
  · have k0 : (rtE r == 0) = false := by simpa using h
    have ev : agV r x = 0 := by unfold agV; rw [if_neg (fun g => h g.1)]
    have L := la_01111 r b x
    have V : (cmpI 0 (agV r x) == 0) = true := by exact q0 ev
    refine evR_calls (I := numI) (v := .bool true) (ctxOf_ok libLA_ok eqA_ok) (by kernel_rfl) Try.func12 rfl lps_nil L rfl (all2_R (.cons rfl (.cons rfl (.cons rfl .nil)))) (congrArg (fun b => some (Value.bool b)) V) W (Nat.zero_le _) (pickL_ok ?_ _)
    repeat' (first | exact cd_nil | refine cd_cons ?_ ?_)
    all_goals first | rfl | with_reducible assumption | exact eqB _ | exact bd_self _ | exact beq_self_eq_true _ | (apply Dl.sz; (repeat' (first | with_reducible assumption | with_reducible apply Dl.add')); omega)
end
end Go.Proofs.Ytoaoifiklnbknaa.AtRt

