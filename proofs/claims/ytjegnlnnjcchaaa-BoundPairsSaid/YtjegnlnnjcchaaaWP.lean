/-
  The walk of the law BoundPairs.
  Conditions: the numbers of the arguments are int64.
-/
import Derived.Test.YtjegnlnnjcchaaaBR
import Derived.Test.YtjegnlnnjcchaaaZK
import Derived.Test.YtjegnlnnjcchaaaGO
set_option linter.unusedVariables false
set_option linter.unusedSimpArgs false
namespace Go.Proofs.Ytjegnlnnjcchaaa.AtBr
open Ev Go.RowKit Go.Shelf Zd Wd
open Go.Proofs.Ytjegnlnnjcchaaa
noncomputable section

def ofZ (x y : Int) (less : Bool) : Int := bif (decide (x < y) == less) then x else y
def gOf : List (AV Nm) → Option (AV Nm × List (Bool × Bool))
  | [.w (.agg [.bool s, .fv (.num x)]), .w (.agg [.bool k, .fv (.num y)]), .w (.one (.yes less))] => some (.w (nA (ofZ x y less)), [(s == decide (x < 0), true), (k == decide (y < 0), true), (szB x, true), (szB y, true)])
  | _ => none
noncomputable abbrev libOf : List (Nat × FnSp Nm) := [(13, nfn nCmp)]
theorem libOf_ok : LibOk Try.prog numI (lib1 libOf) := (lib1_cons nCmp_ok Try.call13 (lib1_nil _ _))
set_option maxRecDepth 100000 in
theorem oft_1 (s : Bool) (x : Int) (k : Bool) (y : Int) : evR (ctxOf Try.prog numI (fun _ => false) libOf) Try.f37 [(.w (.agg [.bool s, .fv (.num x)])), (.w (.agg [.bool k, .fv (.num y)])), (.w (.one (.yes true)))] [true] = some (AV.w (AW.agg [AC.bool s, AC.fv (Nm.num x)]), (pickL [(s == decide (x < 0), true), (k == decide (y < 0), true), (szB x, true), (szB y, true), (decide (cmpI x y < 0) == true, true)] [0, 1, 2, 3, 4])) := by kernel_rfl
set_option maxRecDepth 100000 in
theorem oft_0 (s : Bool) (x : Int) (k : Bool) (y : Int) : evR (ctxOf Try.prog numI (fun _ => false) libOf) Try.f37 [(.w (.agg [.bool s, .fv (.num x)])), (.w (.agg [.bool k, .fv (.num y)])), (.w (.one (.yes true)))] [false] = some (AV.w (AW.agg [AC.bool k, AC.fv (Nm.num y)]), (pickL [(s == decide (x < 0), true), (k == decide (y < 0), true), (szB x, true), (szB y, true), (decide (cmpI x y < 0) == true, false)] [0, 1, 2, 3, 4])) := by kernel_rfl
set_option maxRecDepth 100000 in
theorem off_1 (s : Bool) (x : Int) (k : Bool) (y : Int) : evR (ctxOf Try.prog numI (fun _ => false) libOf) Try.f37 [(.w (.agg [.bool s, .fv (.num x)])), (.w (.agg [.bool k, .fv (.num y)])), (.w (.one (.yes false)))] [true] = some (AV.w (AW.agg [AC.bool s, AC.fv (Nm.num x)]), (pickL [(s == decide (x < 0), true), (k == decide (y < 0), true), (szB x, true), (szB y, true), (decide (cmpI x y < 0) == false, true)] [0, 1, 2, 3, 4])) := by kernel_rfl
set_option maxRecDepth 100000 in
theorem off_0 (s : Bool) (x : Int) (k : Bool) (y : Int) : evR (ctxOf Try.prog numI (fun _ => false) libOf) Try.f37 [(.w (.agg [.bool s, .fv (.num x)])), (.w (.agg [.bool k, .fv (.num y)])), (.w (.one (.yes false)))] [false] = some (AV.w (AW.agg [AC.bool k, AC.fv (Nm.num y)]), (pickL [(s == decide (x < 0), true), (k == decide (y < 0), true), (szB x, true), (szB y, true), (decide (cmpI x y < 0) == false, false)] [0, 1, 2, 3, 4])) := by kernel_rfl
theorem num_R {E : Env Nm} {s : Bool} {x z : Int} {u : Value} (hs : s = decide (x < 0)) (hz : z = x) (h : AV.R E (.w (.agg [.bool s, .fv (.num x)])) u) : AV.R E (.w (nA z)) u := by subst hs hz; exact h
theorem gOf_ok : (factSp gOf).ok Try.prog numI 37 :=
  factR_ok (ctxOf_ok libOf_ok (eq_none _)) (by kernel_rfl) Try.func37 rfl lps_nil fun args v cd hg hc => by
    unfold gOf at hg
    split at hg
    · rename_i s x k y less
      cases hg
      have h1 : (s == decide (x < 0)) = true := hc (s == decide (x < 0), true) (by simp)
      have h2 : (k == decide (y < 0)) = true := hc (k == decide (y < 0), true) (by simp)
      have h3 : szB x = true := hc (szB x, true) (by simp)
      have h4 : szB y = true := hc (szB y, true) (by simp)
      have h5 : s = decide (x < 0) := by simpa using h1
      have h6 : k = decide (y < 0) := by simpa using h2
      have e := cmp_lt' x y
      cases less with
      | true =>
        cases d : decide (x < y) with
        | true =>
          rw [d] at e
          refine ⟨rfl, rfl, rfl, [true], _, _, oft_1 s x k y, fun E u hu => num_R h5 (by simp [ofZ, d]) hu, pickL_ok ?_ _⟩
          repeat' (first | exact cd_nil | refine cd_cons ?_ ?_)
          all_goals first | rfl | with_reducible assumption | (rw [e]; rfl)
        | false =>
          rw [d] at e
          refine ⟨rfl, rfl, rfl, [false], _, _, oft_0 s x k y, fun E u hu => num_R h6 (by simp [ofZ, d]) hu, pickL_ok ?_ _⟩
          repeat' (first | exact cd_nil | refine cd_cons ?_ ?_)
          all_goals first | rfl | with_reducible assumption | (rw [e]; rfl)
      | false =>
        cases d : decide (x < y) with
        | true =>
          rw [d] at e
          refine ⟨rfl, rfl, rfl, [false], _, _, off_0 s x k y, fun E u hu => num_R h6 (by simp [ofZ, d]) hu, pickL_ok ?_ _⟩
          repeat' (first | exact cd_nil | refine cd_cons ?_ ?_)
          all_goals first | rfl | with_reducible assumption | (rw [e]; rfl)
        | false =>
          rw [d] at e
          refine ⟨rfl, rfl, rfl, [true], _, _, off_1 s x k y, fun E u hu => num_R h5 (by simp [ofZ, d]) hu, pickL_ok ?_ _⟩
          repeat' (first | exact cd_nil | refine cd_cons ?_ ?_)
          all_goals first | rfl | with_reducible assumption | (rw [e]; rfl)
    · cases hg
abbrev eqBoundPairs : TypeId → Bool := fun t => Nat.beq t 24
noncomputable abbrev libBoundPairs : List (Nat × FnSp Nm) := [(16, sp0 (aBool true)), (41, sp2 dBd dBd (fun a b => bA (minB a b)) (fun _ _ => [])), (42, sp2 dBd dBd (fun a b => bA (maxB a b)) (fun _ _ => [])), (43, sp2 dBd dBd (fun a b => bA (hullB a b)) (fun _ _ => [])), (44, sp1 dBd (fun a => bA (absB a)) (fun _ => [])), (40, sp2 dBd dBd (fun a b => .tup [.agg [.int .i64 (meetB a b).lo, .int .i64 (meetB a b).hi, .bool (meetB a b).u], .one (.bool (meetO a b))]) (fun _ _ => [])), (15, nfn nI), (22, factSp gBd), (18, sp1 dBd (fun b => aInt .i64 (chkB b)) (fun _ => [])), (13, nfn nCmp), (38, nfn nSign), (39, nfn nAbs), (37, factSp gOf)]
noncomputable abbrev fnsBoundPairs : List (Nat × Func) := [(12, Try.f12)]
theorem eqBoundPairs_ok : EqOk Try.prog (tabOf Try.prog) eqBoundPairs := eq_of fun t ht => by
  have ht : (Nat.beq t 24) = true := ht
  have := Nat.eq_of_beq_eq_true ht
  subst this
  exact ⟨by kernel_rfl, by kernel_rfl, by kernel_rfl⟩
theorem libBoundPairs_ok : LibOk Try.prog numI (lib1 libBoundPairs) := (lib1_cons (sp0_ok rfl bounds_pl) Try.call16 (lib1_cons (sp2_ok fun a b _ => ⟨_, rfl, min_pl a b⟩) Try.call41 (lib1_cons (sp2_ok fun a b _ => ⟨_, rfl, max_pl a b⟩) Try.call42 (lib1_cons (sp2_ok fun a b _ => ⟨_, rfl, hull_pl a b⟩) Try.call43 (lib1_cons (sp1_ok fun a _ => ⟨_, rfl, abs_pl a⟩) Try.call44 (lib1_cons (sp2_ok fun a b _ => ⟨_, rfl, meet_pl a b⟩) Try.call40 (lib1_cons nI_ok Try.call15 (lib1_cons bdt_ok Try.call22 (lib1_cons (sp1_ok fun b _ => ⟨_, rfl, bte_pl b⟩) Try.call18 (lib1_cons nCmp_ok Try.call13 (lib1_cons nSign_ok Try.call38 (lib1_cons nAbs_ok Try.call39 (lib1_cons gOf_ok Try.call37 (lib1_nil _ _))))))))))))))
theorem fnsBoundPairs_ok : FnsOk Try.prog fnsBoundPairs := (fns_cons Try.func12 rfl Try.call12 (fns_nil _))
theorem kn_bad {b : Bd} (h : (chkB b != 0) = true) : knB b = false := by
  cases k : knB b with
  | false => rfl
  | true =>
    obtain ⟨h1, h2, h3, h4⟩ := knB_iff.1 k
    have : chkB b = 0 := by
      unfold chkB inB
      rw [h1, decide_eq_true (show -1152921504606846976 ≤ b.lo by omega), decide_eq_true (show b.lo ≤ 1152921504606846976 by omega), decide_eq_true (show -1152921504606846976 ≤ b.hi by omega), decide_eq_true (show b.hi ≤ 1152921504606846976 by omega), decide_eq_false (show ¬ b.lo > b.hi by omega)]
      rfl
    rw [this] at h; simp at h
theorem kn_u {b : Bd} (h : b.u = true) : knB b = false := by unfold knB; rw [h]; rfl
theorem kn_ok {b : Bd} (h : (chkB b != 0) = false) (hu : b.u = false) : knB b = true := by
  have h : chkB b = 0 := by simpa using h
  unfold chkB at h
  unfold knB
  rw [hu] at h ⊢
  simp only [Bool.false_and, cond_false, Bool.not_false, Bool.true_and] at h ⊢
  cases h1 : (inB b.lo && inB b.hi) with
  | false => rw [h1] at h; cases h
  | true =>
    rw [h1] at h
    simp only [Bool.not_true, cond_false] at h
    by_cases h2 : b.lo > b.hi
    · rw [decide_eq_true h2] at h; cases h
    · rw [decide_eq_true (show b.lo ≤ b.hi by omega)]; rfl
theorem cmp_le0 (a b : Int) : decide (cmpI a b ≤ 0) = decide (a ≤ b) := by
  have := cmp_gt a b
  by_cases h : a ≤ b
  · rw [decide_eq_false (show ¬ b < a by omega)] at this
    have := of_decide_eq_false this
    rw [decide_eq_true h, decide_eq_true (by omega)]
  · rw [decide_eq_true (show b < a by omega)] at this
    have := of_decide_eq_true this
    rw [decide_eq_false h, decide_eq_false (by omega)]
theorem cmp_ge0 (a b : Int) : decide (cmpI a b ≥ 0) = decide (b ≤ a) := by
  have := cmp_lt' a b
  by_cases h : a < b
  · rw [decide_eq_true h] at this
    have := of_decide_eq_true this
    rw [decide_eq_false (show ¬ b ≤ a by omega), decide_eq_false (by omega)]
  · rw [decide_eq_false h] at this
    have := of_decide_eq_false this
    rw [decide_eq_true (show b ≤ a by omega), decide_eq_true (by omega)]
theorem i64_kn {b : Bd} (h : knB b = true) : i64B b.lo = true ∧ i64B b.hi = true := by
  obtain ⟨_, h1, h2, h3⟩ := knB_iff.1 h
  exact ⟨i64B_iff.2 ⟨by omega, by omega⟩, i64B_iff.2 ⟨by omega, by omega⟩⟩
set_option maxRecDepth 100000 in
theorem boundPairs_0100111111 (a : Bd) (b : Bd) : evR (ctxLp Try.prog numI eqBoundPairs libBoundPairs fnsBoundPairs []) Try.f5 [(bA a), (bA b)] [false, true, false, false, true, true, true, true, true, true] = some (AV.w (AW.one (AC.bool (meetO a b == true))), (pickL [(chkB a != 0, false), (a.u, true), (chkB b != 0, false), (b.u, false), (i64B b.lo, true), (i64B b.hi, true), (false, false), (true, true), ((minB a b).lo == 0 && ((minB a b).hi == 0 && ((minB a b).u == true && true)), true), ((maxB a b).lo == 0 && ((maxB a b).hi == 0 && ((maxB a b).u == true && true)), true), ((hullB a b).lo == 0 && ((hullB a b).hi == 0 && ((hullB a b).u == true && true)), true), ((absB a).lo == 0 && ((absB a).hi == 0 && ((absB a).u == true && true)), true), ((meetB a b).lo == b.lo && ((meetB a b).hi == b.hi && ((meetB a b).u == b.u && true)), true)] [0, 0, 0, 1, 2, 2, 2, 3, 4, 5, 6, 6, 6, 6, 6, 6, 6, 6, 7, 7, 7, 7, 7, 7, 7, 8, 8, 8, 8, 8, 8, 9, 9, 9, 9, 9, 9, 10, 10, 10, 10, 10, 11, 11, 11, 11, 12, 12, 12, 12])) := by kernel_rfl
set_option maxRecDepth 100000 in
theorem boundPairs_100111111 (a : Bd) (b : Bd) : evR (ctxLp Try.prog numI eqBoundPairs libBoundPairs fnsBoundPairs []) Try.f5 [(bA a), (bA b)] [true, false, false, true, true, true, true, true, true] = some (AV.w (AW.one (AC.bool (meetO a b == true))), (pickL [(chkB a != 0, true), (true, true), (chkB b != 0, false), (b.u, false), (i64B b.lo, true), (i64B b.hi, true), (false, false), ((minB a b).lo == 0 && ((minB a b).hi == 0 && ((minB a b).u == true && true)), true), ((maxB a b).lo == 0 && ((maxB a b).hi == 0 && ((maxB a b).u == true && true)), true), ((hullB a b).lo == 0 && ((hullB a b).hi == 0 && ((hullB a b).u == true && true)), true), ((absB a).lo == 0 && ((absB a).hi == 0 && ((absB a).u == true && true)), true), ((meetB a b).lo == b.lo && ((meetB a b).hi == b.hi && ((meetB a b).u == b.u && true)), true)] [0, 0, 0, 1, 2, 2, 2, 3, 4, 5, 6, 6, 6, 6, 6, 6, 6, 6, 1, 1, 1, 1, 1, 1, 1, 7, 7, 7, 7, 7, 7, 8, 8, 8, 8, 8, 8, 9, 9, 9, 9, 9, 10, 10, 10, 10, 11, 11, 11, 11])) := by kernel_rfl
set_option maxRecDepth 100000 in
theorem boundPairs_000010111111 (a : Bd) (b : Bd) : evR (ctxLp Try.prog numI eqBoundPairs libBoundPairs fnsBoundPairs []) Try.f5 [(bA a), (bA b)] [false, false, false, false, true, false, true, true, true, true, true, true] = some (AV.w (AW.one (AC.bool (meetO a b == true))), (pickL [(chkB a != 0, false), (a.u, false), (i64B a.lo, true), (i64B a.hi, true), (chkB b != 0, false), (b.u, false), (i64B b.lo, true), (i64B b.hi, true), (true, true), (decide (a.lo < 0) == decide (a.lo < 0), true), (decide (b.lo < 0) == decide (b.lo < 0), true), (szB a.lo, true), (szB b.lo, true), (decide (a.hi < 0) == decide (a.hi < 0), true), (decide (b.hi < 0) == decide (b.hi < 0), true), (szB a.hi, true), (szB b.hi, true), (decide (ofZ a.lo b.lo true < 0) == decide (ofZ a.lo b.lo true < 0), true), (decide (ofZ a.hi b.hi true < 0) == decide (ofZ a.hi b.hi true < 0), true), (szB (ofZ a.lo b.lo true), true), (szB (ofZ a.hi b.hi true), true), (decide (ofZ a.lo b.lo false < 0) == decide (ofZ a.lo b.lo false < 0), true), (decide (ofZ a.hi b.hi false < 0) == decide (ofZ a.hi b.hi false < 0), true), (szB (ofZ a.lo b.lo false), true), (szB (ofZ a.hi b.hi false), true), (cmpI a.lo 0 == cmpI a.hi 0, true), (decide (absI a.lo < 0) == decide (absI a.lo < 0), true), (decide (absI a.hi < 0) == decide (absI a.hi < 0), true), (szB (absI a.lo), true), (szB (absI a.hi), true), (decide (ofZ (absI a.lo) (absI a.hi) true < 0) == decide (ofZ (absI a.lo) (absI a.hi) true < 0), true), (decide (ofZ (absI a.lo) (absI a.hi) false < 0) == decide (ofZ (absI a.lo) (absI a.hi) false < 0), true), (szB (ofZ (absI a.lo) (absI a.hi) true), true), (szB (ofZ (absI a.lo) (absI a.hi) false), true), ((ofB (ofZ a.lo b.lo false) (ofZ a.hi b.hi true)).u, false), ((minB a b).lo == (ofB (ofZ a.lo b.lo true) (ofZ a.hi b.hi true)).lo && ((minB a b).hi == (ofB (ofZ a.lo b.lo true) (ofZ a.hi b.hi true)).hi && ((minB a b).u == (ofB (ofZ a.lo b.lo true) (ofZ a.hi b.hi true)).u && true)), true), ((maxB a b).lo == (ofB (ofZ a.lo b.lo false) (ofZ a.hi b.hi false)).lo && ((maxB a b).hi == (ofB (ofZ a.lo b.lo false) (ofZ a.hi b.hi false)).hi && ((maxB a b).u == (ofB (ofZ a.lo b.lo false) (ofZ a.hi b.hi false)).u && true)), true), ((hullB a b).lo == (ofB (ofZ a.lo b.lo true) (ofZ a.hi b.hi false)).lo && ((hullB a b).hi == (ofB (ofZ a.lo b.lo true) (ofZ a.hi b.hi false)).hi && ((hullB a b).u == (ofB (ofZ a.lo b.lo true) (ofZ a.hi b.hi false)).u && true)), true), ((absB a).lo == (ofB (ofZ (absI a.lo) (absI a.hi) true) (ofZ (absI a.lo) (absI a.hi) false)).lo && ((absB a).hi == (ofB (ofZ (absI a.lo) (absI a.hi) true) (ofZ (absI a.lo) (absI a.hi) false)).hi && ((absB a).u == (ofB (ofZ (absI a.lo) (absI a.hi) true) (ofZ (absI a.lo) (absI a.hi) false)).u && true)), true), ((meetB a b).lo == (ofB (ofZ a.lo b.lo false) (ofZ a.hi b.hi true)).lo && ((meetB a b).hi == (ofB (ofZ a.lo b.lo false) (ofZ a.hi b.hi true)).hi && ((meetB a b).u == (ofB (ofZ a.lo b.lo false) (ofZ a.hi b.hi true)).u && true)), true)] [0, 0, 0, 1, 2, 3, 4, 4, 4, 5, 6, 7, 8, 8, 8, 9, 10, 11, 12, 13, 14, 15, 16, 17, 18, 19, 20, 9, 10, 11, 12, 13, 14, 15, 16, 21, 22, 23, 24, 9, 10, 11, 12, 13, 14, 15, 16, 17, 22, 19, 24, 8, 9, 13, 25, 9, 13, 26, 27, 28, 29, 9, 13, 26, 27, 28, 29, 30, 31, 32, 33, 8, 8, 8, 9, 10, 11, 12, 13, 14, 15, 16, 21, 18, 23, 20, 34, 8, 8, 8, 8, 8, 8, 35, 35, 35, 35, 35, 35, 36, 36, 36, 36, 36, 36, 37, 37, 37, 37, 37, 38, 38, 38, 38, 39, 39, 39, 39])) := by kernel_rfl
set_option maxRecDepth 100000 in
theorem boundPairs_000011111111 (a : Bd) (b : Bd) : evR (ctxLp Try.prog numI eqBoundPairs libBoundPairs fnsBoundPairs []) Try.f5 [(bA a), (bA b)] [false, false, false, false, true, true, true, true, true, true, true, true] = some (AV.w (AW.one (AC.bool (meetO a b == false))), (pickL [(chkB a != 0, false), (a.u, false), (i64B a.lo, true), (i64B a.hi, true), (chkB b != 0, false), (b.u, false), (i64B b.lo, true), (i64B b.hi, true), (true, true), (decide (a.lo < 0) == decide (a.lo < 0), true), (decide (b.lo < 0) == decide (b.lo < 0), true), (szB a.lo, true), (szB b.lo, true), (decide (a.hi < 0) == decide (a.hi < 0), true), (decide (b.hi < 0) == decide (b.hi < 0), true), (szB a.hi, true), (szB b.hi, true), (decide (ofZ a.lo b.lo true < 0) == decide (ofZ a.lo b.lo true < 0), true), (decide (ofZ a.hi b.hi true < 0) == decide (ofZ a.hi b.hi true < 0), true), (szB (ofZ a.lo b.lo true), true), (szB (ofZ a.hi b.hi true), true), (decide (ofZ a.lo b.lo false < 0) == decide (ofZ a.lo b.lo false < 0), true), (decide (ofZ a.hi b.hi false < 0) == decide (ofZ a.hi b.hi false < 0), true), (szB (ofZ a.lo b.lo false), true), (szB (ofZ a.hi b.hi false), true), (cmpI a.lo 0 == cmpI a.hi 0, true), (decide (absI a.lo < 0) == decide (absI a.lo < 0), true), (decide (absI a.hi < 0) == decide (absI a.hi < 0), true), (szB (absI a.lo), true), (szB (absI a.hi), true), (decide (ofZ (absI a.lo) (absI a.hi) true < 0) == decide (ofZ (absI a.lo) (absI a.hi) true < 0), true), (decide (ofZ (absI a.lo) (absI a.hi) false < 0) == decide (ofZ (absI a.lo) (absI a.hi) false < 0), true), (szB (ofZ (absI a.lo) (absI a.hi) true), true), (szB (ofZ (absI a.lo) (absI a.hi) false), true), ((ofB (ofZ a.lo b.lo false) (ofZ a.hi b.hi true)).u, true), ((minB a b).lo == (ofB (ofZ a.lo b.lo true) (ofZ a.hi b.hi true)).lo && ((minB a b).hi == (ofB (ofZ a.lo b.lo true) (ofZ a.hi b.hi true)).hi && ((minB a b).u == (ofB (ofZ a.lo b.lo true) (ofZ a.hi b.hi true)).u && true)), true), ((maxB a b).lo == (ofB (ofZ a.lo b.lo false) (ofZ a.hi b.hi false)).lo && ((maxB a b).hi == (ofB (ofZ a.lo b.lo false) (ofZ a.hi b.hi false)).hi && ((maxB a b).u == (ofB (ofZ a.lo b.lo false) (ofZ a.hi b.hi false)).u && true)), true), ((hullB a b).lo == (ofB (ofZ a.lo b.lo true) (ofZ a.hi b.hi false)).lo && ((hullB a b).hi == (ofB (ofZ a.lo b.lo true) (ofZ a.hi b.hi false)).hi && ((hullB a b).u == (ofB (ofZ a.lo b.lo true) (ofZ a.hi b.hi false)).u && true)), true), ((absB a).lo == (ofB (ofZ (absI a.lo) (absI a.hi) true) (ofZ (absI a.lo) (absI a.hi) false)).lo && ((absB a).hi == (ofB (ofZ (absI a.lo) (absI a.hi) true) (ofZ (absI a.lo) (absI a.hi) false)).hi && ((absB a).u == (ofB (ofZ (absI a.lo) (absI a.hi) true) (ofZ (absI a.lo) (absI a.hi) false)).u && true)), true), ((meetB a b).lo == 0 && ((meetB a b).hi == 0 && ((meetB a b).u == false && true)), true)] [0, 0, 0, 1, 2, 3, 4, 4, 4, 5, 6, 7, 8, 8, 8, 9, 10, 11, 12, 13, 14, 15, 16, 17, 18, 19, 20, 9, 10, 11, 12, 13, 14, 15, 16, 21, 22, 23, 24, 9, 10, 11, 12, 13, 14, 15, 16, 17, 22, 19, 24, 8, 9, 13, 25, 9, 13, 26, 27, 28, 29, 9, 13, 26, 27, 28, 29, 30, 31, 32, 33, 8, 8, 8, 9, 10, 11, 12, 13, 14, 15, 16, 21, 18, 23, 20, 34, 8, 8, 8, 8, 8, 8, 35, 35, 35, 35, 35, 35, 36, 36, 36, 36, 36, 36, 37, 37, 37, 37, 37, 38, 38, 38, 38, 39, 39, 39, 39])) := by kernel_rfl
set_option maxRecDepth 100000 in
theorem boundPairs_000000111111 (a : Bd) (b : Bd) : evR (ctxLp Try.prog numI eqBoundPairs libBoundPairs fnsBoundPairs []) Try.f5 [(bA a), (bA b)] [false, false, false, false, false, false, true, true, true, true, true, true] = some (AV.w (AW.one (AC.bool (meetO a b == true))), (pickL [(chkB a != 0, false), (a.u, false), (i64B a.lo, true), (i64B a.hi, true), (chkB b != 0, false), (b.u, false), (i64B b.lo, true), (i64B b.hi, true), (true, true), (decide (a.lo < 0) == decide (a.lo < 0), true), (decide (b.lo < 0) == decide (b.lo < 0), true), (szB a.lo, true), (szB b.lo, true), (decide (a.hi < 0) == decide (a.hi < 0), true), (decide (b.hi < 0) == decide (b.hi < 0), true), (szB a.hi, true), (szB b.hi, true), (decide (ofZ a.lo b.lo true < 0) == decide (ofZ a.lo b.lo true < 0), true), (decide (ofZ a.hi b.hi true < 0) == decide (ofZ a.hi b.hi true < 0), true), (szB (ofZ a.lo b.lo true), true), (szB (ofZ a.hi b.hi true), true), (decide (ofZ a.lo b.lo false < 0) == decide (ofZ a.lo b.lo false < 0), true), (decide (ofZ a.hi b.hi false < 0) == decide (ofZ a.hi b.hi false < 0), true), (szB (ofZ a.lo b.lo false), true), (szB (ofZ a.hi b.hi false), true), (cmpI a.lo 0 == cmpI a.hi 0, false), (decide (absI a.lo < 0) == decide (absI a.lo < 0), true), (decide (absI a.hi < 0) == decide (absI a.hi < 0), true), (szB (absI a.lo), true), (szB (absI a.hi), true), (decide (ofZ (absI a.lo) (absI a.hi) false < 0) == decide (ofZ (absI a.lo) (absI a.hi) false < 0), true), (szB (ofZ (absI a.lo) (absI a.hi) false), true), ((ofB (ofZ a.lo b.lo false) (ofZ a.hi b.hi true)).u, false), ((minB a b).lo == (ofB (ofZ a.lo b.lo true) (ofZ a.hi b.hi true)).lo && ((minB a b).hi == (ofB (ofZ a.lo b.lo true) (ofZ a.hi b.hi true)).hi && ((minB a b).u == (ofB (ofZ a.lo b.lo true) (ofZ a.hi b.hi true)).u && true)), true), ((maxB a b).lo == (ofB (ofZ a.lo b.lo false) (ofZ a.hi b.hi false)).lo && ((maxB a b).hi == (ofB (ofZ a.lo b.lo false) (ofZ a.hi b.hi false)).hi && ((maxB a b).u == (ofB (ofZ a.lo b.lo false) (ofZ a.hi b.hi false)).u && true)), true), ((hullB a b).lo == (ofB (ofZ a.lo b.lo true) (ofZ a.hi b.hi false)).lo && ((hullB a b).hi == (ofB (ofZ a.lo b.lo true) (ofZ a.hi b.hi false)).hi && ((hullB a b).u == (ofB (ofZ a.lo b.lo true) (ofZ a.hi b.hi false)).u && true)), true), ((absB a).lo == (ofB 0 (ofZ (absI a.lo) (absI a.hi) false)).lo && ((absB a).hi == (ofB 0 (ofZ (absI a.lo) (absI a.hi) false)).hi && ((absB a).u == (ofB 0 (ofZ (absI a.lo) (absI a.hi) false)).u && true)), true), ((meetB a b).lo == (ofB (ofZ a.lo b.lo false) (ofZ a.hi b.hi true)).lo && ((meetB a b).hi == (ofB (ofZ a.lo b.lo false) (ofZ a.hi b.hi true)).hi && ((meetB a b).u == (ofB (ofZ a.lo b.lo false) (ofZ a.hi b.hi true)).u && true)), true)] [0, 0, 0, 1, 2, 3, 4, 4, 4, 5, 6, 7, 8, 8, 8, 9, 10, 11, 12, 13, 14, 15, 16, 17, 18, 19, 20, 9, 10, 11, 12, 13, 14, 15, 16, 21, 22, 23, 24, 9, 10, 11, 12, 13, 14, 15, 16, 17, 22, 19, 24, 8, 9, 13, 25, 9, 13, 26, 27, 28, 29, 30, 31, 8, 8, 8, 9, 10, 11, 12, 13, 14, 15, 16, 21, 18, 23, 20, 32, 8, 8, 8, 8, 8, 8, 33, 33, 33, 33, 33, 33, 34, 34, 34, 34, 34, 34, 35, 35, 35, 35, 35, 36, 36, 36, 36, 37, 37, 37, 37])) := by kernel_rfl
set_option maxRecDepth 100000 in
theorem boundPairs_000001111111 (a : Bd) (b : Bd) : evR (ctxLp Try.prog numI eqBoundPairs libBoundPairs fnsBoundPairs []) Try.f5 [(bA a), (bA b)] [false, false, false, false, false, true, true, true, true, true, true, true] = some (AV.w (AW.one (AC.bool (meetO a b == false))), (pickL [(chkB a != 0, false), (a.u, false), (i64B a.lo, true), (i64B a.hi, true), (chkB b != 0, false), (b.u, false), (i64B b.lo, true), (i64B b.hi, true), (true, true), (decide (a.lo < 0) == decide (a.lo < 0), true), (decide (b.lo < 0) == decide (b.lo < 0), true), (szB a.lo, true), (szB b.lo, true), (decide (a.hi < 0) == decide (a.hi < 0), true), (decide (b.hi < 0) == decide (b.hi < 0), true), (szB a.hi, true), (szB b.hi, true), (decide (ofZ a.lo b.lo true < 0) == decide (ofZ a.lo b.lo true < 0), true), (decide (ofZ a.hi b.hi true < 0) == decide (ofZ a.hi b.hi true < 0), true), (szB (ofZ a.lo b.lo true), true), (szB (ofZ a.hi b.hi true), true), (decide (ofZ a.lo b.lo false < 0) == decide (ofZ a.lo b.lo false < 0), true), (decide (ofZ a.hi b.hi false < 0) == decide (ofZ a.hi b.hi false < 0), true), (szB (ofZ a.lo b.lo false), true), (szB (ofZ a.hi b.hi false), true), (cmpI a.lo 0 == cmpI a.hi 0, false), (decide (absI a.lo < 0) == decide (absI a.lo < 0), true), (decide (absI a.hi < 0) == decide (absI a.hi < 0), true), (szB (absI a.lo), true), (szB (absI a.hi), true), (decide (ofZ (absI a.lo) (absI a.hi) false < 0) == decide (ofZ (absI a.lo) (absI a.hi) false < 0), true), (szB (ofZ (absI a.lo) (absI a.hi) false), true), ((ofB (ofZ a.lo b.lo false) (ofZ a.hi b.hi true)).u, true), ((minB a b).lo == (ofB (ofZ a.lo b.lo true) (ofZ a.hi b.hi true)).lo && ((minB a b).hi == (ofB (ofZ a.lo b.lo true) (ofZ a.hi b.hi true)).hi && ((minB a b).u == (ofB (ofZ a.lo b.lo true) (ofZ a.hi b.hi true)).u && true)), true), ((maxB a b).lo == (ofB (ofZ a.lo b.lo false) (ofZ a.hi b.hi false)).lo && ((maxB a b).hi == (ofB (ofZ a.lo b.lo false) (ofZ a.hi b.hi false)).hi && ((maxB a b).u == (ofB (ofZ a.lo b.lo false) (ofZ a.hi b.hi false)).u && true)), true), ((hullB a b).lo == (ofB (ofZ a.lo b.lo true) (ofZ a.hi b.hi false)).lo && ((hullB a b).hi == (ofB (ofZ a.lo b.lo true) (ofZ a.hi b.hi false)).hi && ((hullB a b).u == (ofB (ofZ a.lo b.lo true) (ofZ a.hi b.hi false)).u && true)), true), ((absB a).lo == (ofB 0 (ofZ (absI a.lo) (absI a.hi) false)).lo && ((absB a).hi == (ofB 0 (ofZ (absI a.lo) (absI a.hi) false)).hi && ((absB a).u == (ofB 0 (ofZ (absI a.lo) (absI a.hi) false)).u && true)), true), ((meetB a b).lo == 0 && ((meetB a b).hi == 0 && ((meetB a b).u == false && true)), true)] [0, 0, 0, 1, 2, 3, 4, 4, 4, 5, 6, 7, 8, 8, 8, 9, 10, 11, 12, 13, 14, 15, 16, 17, 18, 19, 20, 9, 10, 11, 12, 13, 14, 15, 16, 21, 22, 23, 24, 9, 10, 11, 12, 13, 14, 15, 16, 17, 22, 19, 24, 8, 9, 13, 25, 9, 13, 26, 27, 28, 29, 30, 31, 8, 8, 8, 9, 10, 11, 12, 13, 14, 15, 16, 21, 18, 23, 20, 32, 8, 8, 8, 8, 8, 8, 33, 33, 33, 33, 33, 33, 34, 34, 34, 34, 34, 34, 35, 35, 35, 35, 35, 36, 36, 36, 36, 37, 37, 37, 37])) := by kernel_rfl
set_option maxRecDepth 100000 in
theorem boundPairs_00011111111 (a : Bd) (b : Bd) : evR (ctxLp Try.prog numI eqBoundPairs libBoundPairs fnsBoundPairs []) Try.f5 [(bA a), (bA b)] [false, false, false, true, true, true, true, true, true, true, true] = some (AV.w (AW.one (AC.bool (meetO a b == true))), (pickL [(chkB a != 0, false), (a.u, false), (i64B a.lo, true), (i64B a.hi, true), (chkB b != 0, false), (b.u, true), (true, true), (false, false), (decide (a.lo < 0) == decide (a.lo < 0), true), (decide (a.hi < 0) == decide (a.hi < 0), true), (cmpI a.lo 0 == cmpI a.hi 0, true), (decide (absI a.lo < 0) == decide (absI a.lo < 0), true), (decide (absI a.hi < 0) == decide (absI a.hi < 0), true), (szB (absI a.lo), true), (szB (absI a.hi), true), (decide (ofZ (absI a.lo) (absI a.hi) true < 0) == decide (ofZ (absI a.lo) (absI a.hi) true < 0), true), (decide (ofZ (absI a.lo) (absI a.hi) false < 0) == decide (ofZ (absI a.lo) (absI a.hi) false < 0), true), (szB (ofZ (absI a.lo) (absI a.hi) true), true), (szB (ofZ (absI a.lo) (absI a.hi) false), true), ((minB a b).lo == 0 && ((minB a b).hi == 0 && ((minB a b).u == true && true)), true), ((maxB a b).lo == 0 && ((maxB a b).hi == 0 && ((maxB a b).u == true && true)), true), ((hullB a b).lo == 0 && ((hullB a b).hi == 0 && ((hullB a b).u == true && true)), true), ((absB a).lo == (ofB (ofZ (absI a.lo) (absI a.hi) true) (ofZ (absI a.lo) (absI a.hi) false)).lo && ((absB a).hi == (ofB (ofZ (absI a.lo) (absI a.hi) true) (ofZ (absI a.lo) (absI a.hi) false)).hi && ((absB a).u == (ofB (ofZ (absI a.lo) (absI a.hi) true) (ofZ (absI a.lo) (absI a.hi) false)).u && true)), true), ((meetB a b).lo == a.lo && ((meetB a b).hi == a.hi && ((meetB a b).u == a.u && true)), true)] [0, 0, 0, 1, 2, 3, 4, 4, 4, 5, 6, 6, 7, 6, 8, 9, 10, 8, 9, 11, 12, 13, 14, 8, 9, 11, 12, 13, 14, 15, 16, 17, 18, 6, 6, 7, 6, 6, 6, 6, 6, 6, 6, 19, 19, 19, 19, 19, 19, 20, 20, 20, 20, 20, 20, 21, 21, 21, 21, 21, 22, 22, 22, 22, 23, 23, 23, 23])) := by kernel_rfl
set_option maxRecDepth 100000 in
theorem boundPairs_0011111111 (a : Bd) (b : Bd) : evR (ctxLp Try.prog numI eqBoundPairs libBoundPairs fnsBoundPairs []) Try.f5 [(bA a), (bA b)] [false, false, true, true, true, true, true, true, true, true] = some (AV.w (AW.one (AC.bool (meetO a b == true))), (pickL [(chkB a != 0, false), (a.u, false), (i64B a.lo, true), (i64B a.hi, true), (chkB b != 0, true), (true, true), (false, false), (decide (a.lo < 0) == decide (a.lo < 0), true), (decide (a.hi < 0) == decide (a.hi < 0), true), (cmpI a.lo 0 == cmpI a.hi 0, true), (decide (absI a.lo < 0) == decide (absI a.lo < 0), true), (decide (absI a.hi < 0) == decide (absI a.hi < 0), true), (szB (absI a.lo), true), (szB (absI a.hi), true), (decide (ofZ (absI a.lo) (absI a.hi) true < 0) == decide (ofZ (absI a.lo) (absI a.hi) true < 0), true), (decide (ofZ (absI a.lo) (absI a.hi) false < 0) == decide (ofZ (absI a.lo) (absI a.hi) false < 0), true), (szB (ofZ (absI a.lo) (absI a.hi) true), true), (szB (ofZ (absI a.lo) (absI a.hi) false), true), ((minB a b).lo == 0 && ((minB a b).hi == 0 && ((minB a b).u == true && true)), true), ((maxB a b).lo == 0 && ((maxB a b).hi == 0 && ((maxB a b).u == true && true)), true), ((hullB a b).lo == 0 && ((hullB a b).hi == 0 && ((hullB a b).u == true && true)), true), ((absB a).lo == (ofB (ofZ (absI a.lo) (absI a.hi) true) (ofZ (absI a.lo) (absI a.hi) false)).lo && ((absB a).hi == (ofB (ofZ (absI a.lo) (absI a.hi) true) (ofZ (absI a.lo) (absI a.hi) false)).hi && ((absB a).u == (ofB (ofZ (absI a.lo) (absI a.hi) true) (ofZ (absI a.lo) (absI a.hi) false)).u && true)), true), ((meetB a b).lo == a.lo && ((meetB a b).hi == a.hi && ((meetB a b).u == a.u && true)), true)] [0, 0, 0, 1, 2, 3, 4, 4, 4, 5, 5, 5, 6, 5, 7, 8, 9, 7, 8, 10, 11, 12, 13, 7, 8, 10, 11, 12, 13, 14, 15, 16, 17, 5, 5, 6, 5, 5, 5, 5, 5, 5, 5, 18, 18, 18, 18, 18, 18, 19, 19, 19, 19, 19, 19, 20, 20, 20, 20, 20, 21, 21, 21, 21, 22, 22, 22, 22])) := by kernel_rfl
set_option maxRecDepth 100000 in
theorem boundPairs_0101111111 (a : Bd) (b : Bd) : evR (ctxLp Try.prog numI eqBoundPairs libBoundPairs fnsBoundPairs []) Try.f5 [(bA a), (bA b)] [false, true, false, true, true, true, true, true, true, true] = some (AV.w (AW.one (AC.bool (meetO a b == true))), (pickL [(chkB a != 0, false), (a.u, true), (chkB b != 0, false), (b.u, true), (false, false), (true, true), ((minB a b).lo == 0 && ((minB a b).hi == 0 && ((minB a b).u == true && true)), true), ((maxB a b).lo == 0 && ((maxB a b).hi == 0 && ((maxB a b).u == true && true)), true), ((hullB a b).lo == 0 && ((hullB a b).hi == 0 && ((hullB a b).u == true && true)), true), ((absB a).lo == 0 && ((absB a).hi == 0 && ((absB a).u == true && true)), true), ((meetB a b).lo == 0 && ((meetB a b).hi == 0 && ((meetB a b).u == true && true)), true)] [0, 0, 0, 1, 2, 2, 2, 3, 4, 4, 4, 4, 4, 4, 4, 4, 4, 5, 5, 5, 5, 5, 5, 6, 6, 6, 6, 6, 6, 7, 7, 7, 7, 7, 7, 8, 8, 8, 8, 8, 9, 9, 9, 9, 10, 10, 10, 10])) := by kernel_rfl
set_option maxRecDepth 100000 in
theorem boundPairs_011111111 (a : Bd) (b : Bd) : evR (ctxLp Try.prog numI eqBoundPairs libBoundPairs fnsBoundPairs []) Try.f5 [(bA a), (bA b)] [false, true, true, true, true, true, true, true, true] = some (AV.w (AW.one (AC.bool (meetO a b == true))), (pickL [(chkB a != 0, false), (a.u, true), (chkB b != 0, true), (true, true), (false, false), ((minB a b).lo == 0 && ((minB a b).hi == 0 && ((minB a b).u == true && true)), true), ((maxB a b).lo == 0 && ((maxB a b).hi == 0 && ((maxB a b).u == true && true)), true), ((hullB a b).lo == 0 && ((hullB a b).hi == 0 && ((hullB a b).u == true && true)), true), ((absB a).lo == 0 && ((absB a).hi == 0 && ((absB a).u == true && true)), true), ((meetB a b).lo == 0 && ((meetB a b).hi == 0 && ((meetB a b).u == true && true)), true)] [0, 0, 0, 1, 2, 2, 2, 3, 4, 4, 4, 4, 4, 4, 4, 4, 4, 3, 3, 3, 3, 3, 3, 5, 5, 5, 5, 5, 5, 6, 6, 6, 6, 6, 6, 7, 7, 7, 7, 7, 8, 8, 8, 8, 9, 9, 9, 9])) := by kernel_rfl
set_option maxRecDepth 100000 in
theorem boundPairs_101111111 (a : Bd) (b : Bd) : evR (ctxLp Try.prog numI eqBoundPairs libBoundPairs fnsBoundPairs []) Try.f5 [(bA a), (bA b)] [true, false, true, true, true, true, true, true, true] = some (AV.w (AW.one (AC.bool (meetO a b == true))), (pickL [(chkB a != 0, true), (true, true), (chkB b != 0, false), (b.u, true), (false, false), ((minB a b).lo == 0 && ((minB a b).hi == 0 && ((minB a b).u == true && true)), true), ((maxB a b).lo == 0 && ((maxB a b).hi == 0 && ((maxB a b).u == true && true)), true), ((hullB a b).lo == 0 && ((hullB a b).hi == 0 && ((hullB a b).u == true && true)), true), ((absB a).lo == 0 && ((absB a).hi == 0 && ((absB a).u == true && true)), true), ((meetB a b).lo == 0 && ((meetB a b).hi == 0 && ((meetB a b).u == true && true)), true)] [0, 0, 0, 1, 2, 2, 2, 3, 4, 4, 4, 4, 4, 4, 4, 4, 4, 1, 1, 1, 1, 1, 1, 5, 5, 5, 5, 5, 5, 6, 6, 6, 6, 6, 6, 7, 7, 7, 7, 7, 8, 8, 8, 8, 9, 9, 9, 9])) := by kernel_rfl
set_option maxRecDepth 100000 in
theorem boundPairs_11111111 (a : Bd) (b : Bd) : evR (ctxLp Try.prog numI eqBoundPairs libBoundPairs fnsBoundPairs []) Try.f5 [(bA a), (bA b)] [true, true, true, true, true, true, true, true] = some (AV.w (AW.one (AC.bool (meetO a b == true))), (pickL [(chkB a != 0, true), (true, true), (chkB b != 0, true), (false, false), ((minB a b).lo == 0 && ((minB a b).hi == 0 && ((minB a b).u == true && true)), true), ((maxB a b).lo == 0 && ((maxB a b).hi == 0 && ((maxB a b).u == true && true)), true), ((hullB a b).lo == 0 && ((hullB a b).hi == 0 && ((hullB a b).u == true && true)), true), ((absB a).lo == 0 && ((absB a).hi == 0 && ((absB a).u == true && true)), true), ((meetB a b).lo == 0 && ((meetB a b).hi == 0 && ((meetB a b).u == true && true)), true)] [0, 0, 0, 1, 2, 2, 2, 1, 3, 3, 3, 3, 3, 3, 3, 3, 3, 1, 1, 1, 1, 1, 1, 4, 4, 4, 4, 4, 4, 5, 5, 5, 5, 5, 5, 6, 6, 6, 6, 6, 7, 7, 7, 7, 8, 8, 8, 8])) := by kernel_rfl
set_option maxRecDepth 100000 in
theorem boundPairs_00010111111 (a : Bd) (b : Bd) : evR (ctxLp Try.prog numI eqBoundPairs libBoundPairs fnsBoundPairs []) Try.f5 [(bA a), (bA b)] [false, false, false, true, false, true, true, true, true, true, true] = some (AV.w (AW.one (AC.bool (meetO a b == true))), (pickL [(chkB a != 0, false), (a.u, false), (i64B a.lo, true), (i64B a.hi, true), (chkB b != 0, false), (b.u, true), (true, true), (false, false), (decide (a.lo < 0) == decide (a.lo < 0), true), (decide (a.hi < 0) == decide (a.hi < 0), true), (cmpI a.lo 0 == cmpI a.hi 0, false), (decide (absI a.lo < 0) == decide (absI a.lo < 0), true), (decide (absI a.hi < 0) == decide (absI a.hi < 0), true), (szB (absI a.lo), true), (szB (absI a.hi), true), (decide (ofZ (absI a.lo) (absI a.hi) false < 0) == decide (ofZ (absI a.lo) (absI a.hi) false < 0), true), (szB (ofZ (absI a.lo) (absI a.hi) false), true), ((minB a b).lo == 0 && ((minB a b).hi == 0 && ((minB a b).u == true && true)), true), ((maxB a b).lo == 0 && ((maxB a b).hi == 0 && ((maxB a b).u == true && true)), true), ((hullB a b).lo == 0 && ((hullB a b).hi == 0 && ((hullB a b).u == true && true)), true), ((absB a).lo == (ofB 0 (ofZ (absI a.lo) (absI a.hi) false)).lo && ((absB a).hi == (ofB 0 (ofZ (absI a.lo) (absI a.hi) false)).hi && ((absB a).u == (ofB 0 (ofZ (absI a.lo) (absI a.hi) false)).u && true)), true), ((meetB a b).lo == a.lo && ((meetB a b).hi == a.hi && ((meetB a b).u == a.u && true)), true)] [0, 0, 0, 1, 2, 3, 4, 4, 4, 5, 6, 6, 7, 6, 8, 9, 10, 8, 9, 11, 12, 13, 14, 15, 16, 6, 6, 7, 6, 6, 6, 6, 6, 6, 6, 17, 17, 17, 17, 17, 17, 18, 18, 18, 18, 18, 18, 19, 19, 19, 19, 19, 20, 20, 20, 20, 21, 21, 21, 21])) := by kernel_rfl
set_option maxRecDepth 100000 in
theorem boundPairs_0010111111 (a : Bd) (b : Bd) : evR (ctxLp Try.prog numI eqBoundPairs libBoundPairs fnsBoundPairs []) Try.f5 [(bA a), (bA b)] [false, false, true, false, true, true, true, true, true, true] = some (AV.w (AW.one (AC.bool (meetO a b == true))), (pickL [(chkB a != 0, false), (a.u, false), (i64B a.lo, true), (i64B a.hi, true), (chkB b != 0, true), (true, true), (false, false), (decide (a.lo < 0) == decide (a.lo < 0), true), (decide (a.hi < 0) == decide (a.hi < 0), true), (cmpI a.lo 0 == cmpI a.hi 0, false), (decide (absI a.lo < 0) == decide (absI a.lo < 0), true), (decide (absI a.hi < 0) == decide (absI a.hi < 0), true), (szB (absI a.lo), true), (szB (absI a.hi), true), (decide (ofZ (absI a.lo) (absI a.hi) false < 0) == decide (ofZ (absI a.lo) (absI a.hi) false < 0), true), (szB (ofZ (absI a.lo) (absI a.hi) false), true), ((minB a b).lo == 0 && ((minB a b).hi == 0 && ((minB a b).u == true && true)), true), ((maxB a b).lo == 0 && ((maxB a b).hi == 0 && ((maxB a b).u == true && true)), true), ((hullB a b).lo == 0 && ((hullB a b).hi == 0 && ((hullB a b).u == true && true)), true), ((absB a).lo == (ofB 0 (ofZ (absI a.lo) (absI a.hi) false)).lo && ((absB a).hi == (ofB 0 (ofZ (absI a.lo) (absI a.hi) false)).hi && ((absB a).u == (ofB 0 (ofZ (absI a.lo) (absI a.hi) false)).u && true)), true), ((meetB a b).lo == a.lo && ((meetB a b).hi == a.hi && ((meetB a b).u == a.u && true)), true)] [0, 0, 0, 1, 2, 3, 4, 4, 4, 5, 5, 5, 6, 5, 7, 8, 9, 7, 8, 10, 11, 12, 13, 14, 15, 5, 5, 6, 5, 5, 5, 5, 5, 5, 5, 16, 16, 16, 16, 16, 16, 17, 17, 17, 17, 17, 17, 18, 18, 18, 18, 18, 19, 19, 19, 19, 20, 20, 20, 20])) := by kernel_rfl
theorem of_dl {x y : Int} {b : Bool} (hx : Dl 4 x) (hy : Dl 4 y) : Dl 4 (ofZ x y b) := by
  unfold ofZ
  cases (decide (x < y) == b) <;> assumption
theorem ofZ_t (x y : Int) : ofZ x y true = minI x y := by
  unfold ofZ minI
  by_cases h : x < y
  · rw [decide_eq_true h, if_neg (show ¬ y < x by omega)]; rfl
  · rw [decide_eq_false h]
    by_cases g : y < x
    · rw [if_pos g]; rfl
    · rw [if_neg g, show x = y by omega]; rfl
theorem ofZ_f (x y : Int) : ofZ x y false = maxI x y := by
  unfold ofZ maxI
  by_cases h : x < y
  · rw [decide_eq_true h, if_pos (show y > x by omega)]; rfl
  · rw [decide_eq_false h, if_neg (show ¬ y > x by omega)]; rfl
theorem sgn_same {x y : Int} (h : x ≤ y) (hs : (cmpI x 0 == cmpI y 0) = true) : maxI (maxI 0 x) (-y) = minI (absI x) (absI y) := by
  have hs : cmpI x 0 = cmpI y 0 := by simpa using hs
  unfold cmpI at hs
  unfold maxI minI absI
  repeat' split at hs
  all_goals (repeat' split) <;> omega
theorem sgn_diff {x y : Int} (h : x ≤ y) (hs : (cmpI x 0 == cmpI y 0) = false) : maxI (maxI 0 x) (-y) = 0 := by
  have hs : cmpI x 0 ≠ cmpI y 0 := by simpa using hs
  unfold cmpI at hs
  unfold maxI
  repeat' split at hs
  all_goals (repeat' split) <;> omega
theorem abs_top {x y : Int} (h : x ≤ y) : maxI (-x) y = maxI (absI x) (absI y) := by
  unfold maxI absI
  (repeat' split) <;> omega
theorem meet_u {a b : Bd} (ha : knB a = true) (hb : knB b = true) : (ofB (maxI a.lo b.lo) (minI a.hi b.hi)).u = !(cmpB a b == 0) := by
  obtain ⟨_, a1, a2, a3⟩ := knB_iff.1 ha
  obtain ⟨_, b1, b2, b3⟩ := knB_iff.1 hb
  unfold cmpB
  rw [ha, hb]
  simp only [Bool.and_self, Bool.not_true, cond_false]
  by_cases h1 : a.hi < b.lo
  · rw [decide_eq_true h1, ofB_out (by unfold maxI minI; (repeat' split) <;> omega)]; rfl
  · rw [decide_eq_false h1]
    by_cases h2 : a.lo > b.hi
    · rw [decide_eq_true h2, ofB_out (by unfold maxI minI; (repeat' split) <;> omega)]; rfl
    · rw [decide_eq_false h2, ofB_in (by unfold maxI; split <;> omega) (by unfold maxI minI; (repeat' split) <;> omega) (by unfold minI; split <;> omega)]; rfl
set_option maxRecDepth 100000 in
theorem boundPairs_w0 (a : Bd) (b : Bd) (W : World)  (k0 : (chkB a != 0) = true) (k1 : (chkB b != 0) = true) : Calls Try.prog 5 #[bV a, bV b] W fun e w' => e = .returned (.bool true) ∧ Below W.heap.size W w' := by
  have L := boundPairs_11111111 a b
  have ka : knB a = false := kn_bad k0
  have kb : knB b = false := kn_bad k1
  have V : (meetO a b == true) = true := by
    simp [hasB, insB, widV, normB, meetO, noneB, cmp_lt', cmp_gt, cmp_le0, cmp_ge0, ka, kb]
    all_goals omega
  have p1 : (true) = true := by
    rfl
  have p3 : (false) = false := by
    rfl
  have p4 : ((minB a b).lo == 0 && ((minB a b).hi == 0 && ((minB a b).u == true && true))) = true := by
    have e : (minB a b) = (⟨0, 0, true⟩ : Bd) := by
      simp only [minB, maxB, hullB, absB, meetB, normB, rootB, noneB, ka, kb, Bool.and_true, Bool.true_and, Bool.false_and, Bool.and_false, Bool.not_true, Bool.not_false, cond_true, cond_false, ofZ_t, ofZ_f]
    rw [e]; simp
  have p5 : ((maxB a b).lo == 0 && ((maxB a b).hi == 0 && ((maxB a b).u == true && true))) = true := by
    have e : (maxB a b) = (⟨0, 0, true⟩ : Bd) := by
      simp only [minB, maxB, hullB, absB, meetB, normB, rootB, noneB, ka, kb, Bool.and_true, Bool.true_and, Bool.false_and, Bool.and_false, Bool.not_true, Bool.not_false, cond_true, cond_false, ofZ_t, ofZ_f]
    rw [e]; simp
  have p6 : ((hullB a b).lo == 0 && ((hullB a b).hi == 0 && ((hullB a b).u == true && true))) = true := by
    have e : (hullB a b) = (⟨0, 0, true⟩ : Bd) := by
      simp only [minB, maxB, hullB, absB, meetB, normB, rootB, noneB, ka, kb, Bool.and_true, Bool.true_and, Bool.false_and, Bool.and_false, Bool.not_true, Bool.not_false, cond_true, cond_false, ofZ_t, ofZ_f]
    rw [e]; simp
  have p7 : ((absB a).lo == 0 && ((absB a).hi == 0 && ((absB a).u == true && true))) = true := by
    have e : (absB a) = (⟨0, 0, true⟩ : Bd) := by
      simp only [minB, maxB, hullB, absB, meetB, normB, rootB, noneB, ka, kb, Bool.and_true, Bool.true_and, Bool.false_and, Bool.and_false, Bool.not_true, Bool.not_false, cond_true, cond_false, ofZ_t, ofZ_f]
    rw [e]; simp
  have p8 : ((meetB a b).lo == 0 && ((meetB a b).hi == 0 && ((meetB a b).u == true && true))) = true := by
    have e : (meetB a b) = (⟨0, 0, true⟩ : Bd) := by
      simp only [minB, maxB, hullB, absB, meetB, normB, rootB, noneB, ka, kb, Bool.and_true, Bool.true_and, Bool.false_and, Bool.and_false, Bool.not_true, Bool.not_false, cond_true, cond_false, ofZ_t, ofZ_f]
    rw [e]; simp
  exact evR_calls (I := numI) (v := .bool true) (ctxLp_ok libBoundPairs_ok eqBoundPairs_ok fnsBoundPairs_ok (fun _ _ _ => lps_nil)) (by kernel_rfl) Try.func5 rfl lps_nil L rfl (all2_R (.cons rfl (.cons rfl .nil))) (congrArg (fun b => some (Value.bool b)) V) _ (Nat.zero_le _) (pickL_ok (cd_cons k0 (cd_cons p1 (cd_cons k1 (cd_cons p3 (cd_cons p4 (cd_cons p5 (cd_cons p6 (cd_cons p7 (cd_cons p8 cd_nil))))))))) _)
set_option maxRecDepth 100000 in
theorem boundPairs_w1 (a : Bd) (b : Bd) (W : World)  (k0 : (chkB a != 0) = true) (k1 : (chkB b != 0) = false) (k2 : (b.u) = true) : Calls Try.prog 5 #[bV a, bV b] W fun e w' => e = .returned (.bool true) ∧ Below W.heap.size W w' := by
  have L := boundPairs_101111111 a b
  have ka : knB a = false := kn_bad k0
  have kb : knB b = false := kn_u k2
  have V : (meetO a b == true) = true := by
    simp [hasB, insB, widV, normB, meetO, noneB, cmp_lt', cmp_gt, cmp_le0, cmp_ge0, ka, kb]
    all_goals omega
  have p1 : (true) = true := by
    rfl
  have p4 : (false) = false := by
    rfl
  have p5 : ((minB a b).lo == 0 && ((minB a b).hi == 0 && ((minB a b).u == true && true))) = true := by
    have e : (minB a b) = (⟨0, 0, true⟩ : Bd) := by
      simp only [minB, maxB, hullB, absB, meetB, normB, rootB, noneB, ka, kb, Bool.and_true, Bool.true_and, Bool.false_and, Bool.and_false, Bool.not_true, Bool.not_false, cond_true, cond_false, ofZ_t, ofZ_f]
    rw [e]; simp
  have p6 : ((maxB a b).lo == 0 && ((maxB a b).hi == 0 && ((maxB a b).u == true && true))) = true := by
    have e : (maxB a b) = (⟨0, 0, true⟩ : Bd) := by
      simp only [minB, maxB, hullB, absB, meetB, normB, rootB, noneB, ka, kb, Bool.and_true, Bool.true_and, Bool.false_and, Bool.and_false, Bool.not_true, Bool.not_false, cond_true, cond_false, ofZ_t, ofZ_f]
    rw [e]; simp
  have p7 : ((hullB a b).lo == 0 && ((hullB a b).hi == 0 && ((hullB a b).u == true && true))) = true := by
    have e : (hullB a b) = (⟨0, 0, true⟩ : Bd) := by
      simp only [minB, maxB, hullB, absB, meetB, normB, rootB, noneB, ka, kb, Bool.and_true, Bool.true_and, Bool.false_and, Bool.and_false, Bool.not_true, Bool.not_false, cond_true, cond_false, ofZ_t, ofZ_f]
    rw [e]; simp
  have p8 : ((absB a).lo == 0 && ((absB a).hi == 0 && ((absB a).u == true && true))) = true := by
    have e : (absB a) = (⟨0, 0, true⟩ : Bd) := by
      simp only [minB, maxB, hullB, absB, meetB, normB, rootB, noneB, ka, kb, Bool.and_true, Bool.true_and, Bool.false_and, Bool.and_false, Bool.not_true, Bool.not_false, cond_true, cond_false, ofZ_t, ofZ_f]
    rw [e]; simp
  have p9 : ((meetB a b).lo == 0 && ((meetB a b).hi == 0 && ((meetB a b).u == true && true))) = true := by
    have e : (meetB a b) = (⟨0, 0, true⟩ : Bd) := by
      simp only [minB, maxB, hullB, absB, meetB, normB, rootB, noneB, ka, kb, Bool.and_true, Bool.true_and, Bool.false_and, Bool.and_false, Bool.not_true, Bool.not_false, cond_true, cond_false, ofZ_t, ofZ_f]
    rw [e]; simp
  exact evR_calls (I := numI) (v := .bool true) (ctxLp_ok libBoundPairs_ok eqBoundPairs_ok fnsBoundPairs_ok (fun _ _ _ => lps_nil)) (by kernel_rfl) Try.func5 rfl lps_nil L rfl (all2_R (.cons rfl (.cons rfl .nil))) (congrArg (fun b => some (Value.bool b)) V) _ (Nat.zero_le _) (pickL_ok (cd_cons k0 (cd_cons p1 (cd_cons k1 (cd_cons k2 (cd_cons p4 (cd_cons p5 (cd_cons p6 (cd_cons p7 (cd_cons p8 (cd_cons p9 cd_nil)))))))))) _)
set_option maxRecDepth 100000 in
theorem boundPairs_w2 (a : Bd) (b : Bd) (W : World)  (k0 : (chkB a != 0) = true) (k1 : (chkB b != 0) = false) (k2 : (b.u) = false) : Calls Try.prog 5 #[bV a, bV b] W fun e w' => e = .returned (.bool true) ∧ Below W.heap.size W w' := by
  have L := boundPairs_100111111 a b
  have ka : knB a = false := kn_bad k0
  have kb : knB b = true := kn_ok k1 k2
  obtain ⟨bu, b1, b2, b3⟩ := knB_iff.1 kb
  obtain ⟨b4, b5⟩ := i64_kn kb
  have b6 := Dl.i64 b4
  have b7 := Dl.i64 b5
  have V : (meetO a b == true) = true := by
    simp [hasB, insB, widV, normB, meetO, noneB, cmp_lt', cmp_gt, cmp_le0, cmp_ge0, ka, kb]
    all_goals omega
  have p1 : (true) = true := by
    rfl
  have p4 : (i64B b.lo) = true := by
    first | with_reducible assumption | decide
  have p5 : (i64B b.hi) = true := by
    first | with_reducible assumption | decide
  have p6 : (false) = false := by
    rfl
  have p7 : ((minB a b).lo == 0 && ((minB a b).hi == 0 && ((minB a b).u == true && true))) = true := by
    have e : (minB a b) = (⟨0, 0, true⟩ : Bd) := by
      simp only [minB, maxB, hullB, absB, meetB, normB, rootB, noneB, ka, kb, Bool.and_true, Bool.true_and, Bool.false_and, Bool.and_false, Bool.not_true, Bool.not_false, cond_true, cond_false, ofZ_t, ofZ_f]
    rw [e]; simp
  have p8 : ((maxB a b).lo == 0 && ((maxB a b).hi == 0 && ((maxB a b).u == true && true))) = true := by
    have e : (maxB a b) = (⟨0, 0, true⟩ : Bd) := by
      simp only [minB, maxB, hullB, absB, meetB, normB, rootB, noneB, ka, kb, Bool.and_true, Bool.true_and, Bool.false_and, Bool.and_false, Bool.not_true, Bool.not_false, cond_true, cond_false, ofZ_t, ofZ_f]
    rw [e]; simp
  have p9 : ((hullB a b).lo == 0 && ((hullB a b).hi == 0 && ((hullB a b).u == true && true))) = true := by
    have e : (hullB a b) = (⟨0, 0, true⟩ : Bd) := by
      simp only [minB, maxB, hullB, absB, meetB, normB, rootB, noneB, ka, kb, Bool.and_true, Bool.true_and, Bool.false_and, Bool.and_false, Bool.not_true, Bool.not_false, cond_true, cond_false, ofZ_t, ofZ_f]
    rw [e]; simp
  have p10 : ((absB a).lo == 0 && ((absB a).hi == 0 && ((absB a).u == true && true))) = true := by
    have e : (absB a) = (⟨0, 0, true⟩ : Bd) := by
      simp only [minB, maxB, hullB, absB, meetB, normB, rootB, noneB, ka, kb, Bool.and_true, Bool.true_and, Bool.false_and, Bool.and_false, Bool.not_true, Bool.not_false, cond_true, cond_false, ofZ_t, ofZ_f]
    rw [e]; simp
  have p11 : ((meetB a b).lo == b.lo && ((meetB a b).hi == b.hi && ((meetB a b).u == b.u && true))) = true := by
    have e : (meetB a b) = (b : Bd) := by
      simp only [minB, maxB, hullB, absB, meetB, normB, rootB, noneB, ka, kb, Bool.and_true, Bool.true_and, Bool.false_and, Bool.and_false, Bool.not_true, Bool.not_false, cond_true, cond_false, ofZ_t, ofZ_f]
    rw [e]; simp
  exact evR_calls (I := numI) (v := .bool true) (ctxLp_ok libBoundPairs_ok eqBoundPairs_ok fnsBoundPairs_ok (fun _ _ _ => lps_nil)) (by kernel_rfl) Try.func5 rfl lps_nil L rfl (all2_R (.cons rfl (.cons rfl .nil))) (congrArg (fun b => some (Value.bool b)) V) _ (Nat.zero_le _) (pickL_ok (cd_cons k0 (cd_cons p1 (cd_cons k1 (cd_cons k2 (cd_cons p4 (cd_cons p5 (cd_cons p6 (cd_cons p7 (cd_cons p8 (cd_cons p9 (cd_cons p10 (cd_cons p11 cd_nil)))))))))))) _)
set_option maxRecDepth 100000 in
theorem boundPairs_w3 (a : Bd) (b : Bd) (W : World)  (k0 : (chkB a != 0) = false) (k3 : (a.u) = true) (k4 : (chkB b != 0) = true) : Calls Try.prog 5 #[bV a, bV b] W fun e w' => e = .returned (.bool true) ∧ Below W.heap.size W w' := by
  have L := boundPairs_011111111 a b
  have ka : knB a = false := kn_u k3
  have kb : knB b = false := kn_bad k4
  have V : (meetO a b == true) = true := by
    simp [hasB, insB, widV, normB, meetO, noneB, cmp_lt', cmp_gt, cmp_le0, cmp_ge0, ka, kb]
    all_goals omega
  have p3 : (true) = true := by
    rfl
  have p4 : (false) = false := by
    rfl
  have p5 : ((minB a b).lo == 0 && ((minB a b).hi == 0 && ((minB a b).u == true && true))) = true := by
    have e : (minB a b) = (⟨0, 0, true⟩ : Bd) := by
      simp only [minB, maxB, hullB, absB, meetB, normB, rootB, noneB, ka, kb, Bool.and_true, Bool.true_and, Bool.false_and, Bool.and_false, Bool.not_true, Bool.not_false, cond_true, cond_false, ofZ_t, ofZ_f]
    rw [e]; simp
  have p6 : ((maxB a b).lo == 0 && ((maxB a b).hi == 0 && ((maxB a b).u == true && true))) = true := by
    have e : (maxB a b) = (⟨0, 0, true⟩ : Bd) := by
      simp only [minB, maxB, hullB, absB, meetB, normB, rootB, noneB, ka, kb, Bool.and_true, Bool.true_and, Bool.false_and, Bool.and_false, Bool.not_true, Bool.not_false, cond_true, cond_false, ofZ_t, ofZ_f]
    rw [e]; simp
  have p7 : ((hullB a b).lo == 0 && ((hullB a b).hi == 0 && ((hullB a b).u == true && true))) = true := by
    have e : (hullB a b) = (⟨0, 0, true⟩ : Bd) := by
      simp only [minB, maxB, hullB, absB, meetB, normB, rootB, noneB, ka, kb, Bool.and_true, Bool.true_and, Bool.false_and, Bool.and_false, Bool.not_true, Bool.not_false, cond_true, cond_false, ofZ_t, ofZ_f]
    rw [e]; simp
  have p8 : ((absB a).lo == 0 && ((absB a).hi == 0 && ((absB a).u == true && true))) = true := by
    have e : (absB a) = (⟨0, 0, true⟩ : Bd) := by
      simp only [minB, maxB, hullB, absB, meetB, normB, rootB, noneB, ka, kb, Bool.and_true, Bool.true_and, Bool.false_and, Bool.and_false, Bool.not_true, Bool.not_false, cond_true, cond_false, ofZ_t, ofZ_f]
    rw [e]; simp
  have p9 : ((meetB a b).lo == 0 && ((meetB a b).hi == 0 && ((meetB a b).u == true && true))) = true := by
    have e : (meetB a b) = (⟨0, 0, true⟩ : Bd) := by
      simp only [minB, maxB, hullB, absB, meetB, normB, rootB, noneB, ka, kb, Bool.and_true, Bool.true_and, Bool.false_and, Bool.and_false, Bool.not_true, Bool.not_false, cond_true, cond_false, ofZ_t, ofZ_f]
    rw [e]; simp
  exact evR_calls (I := numI) (v := .bool true) (ctxLp_ok libBoundPairs_ok eqBoundPairs_ok fnsBoundPairs_ok (fun _ _ _ => lps_nil)) (by kernel_rfl) Try.func5 rfl lps_nil L rfl (all2_R (.cons rfl (.cons rfl .nil))) (congrArg (fun b => some (Value.bool b)) V) _ (Nat.zero_le _) (pickL_ok (cd_cons k0 (cd_cons k3 (cd_cons k4 (cd_cons p3 (cd_cons p4 (cd_cons p5 (cd_cons p6 (cd_cons p7 (cd_cons p8 (cd_cons p9 cd_nil)))))))))) _)
set_option maxRecDepth 100000 in
theorem boundPairs_w4 (a : Bd) (b : Bd) (W : World)  (k0 : (chkB a != 0) = false) (k3 : (a.u) = true) (k4 : (chkB b != 0) = false) (k5 : (b.u) = true) : Calls Try.prog 5 #[bV a, bV b] W fun e w' => e = .returned (.bool true) ∧ Below W.heap.size W w' := by
  have L := boundPairs_0101111111 a b
  have ka : knB a = false := kn_u k3
  have kb : knB b = false := kn_u k5
  have V : (meetO a b == true) = true := by
    simp [hasB, insB, widV, normB, meetO, noneB, cmp_lt', cmp_gt, cmp_le0, cmp_ge0, ka, kb]
    all_goals omega
  have p4 : (false) = false := by
    rfl
  have p5 : (true) = true := by
    rfl
  have p6 : ((minB a b).lo == 0 && ((minB a b).hi == 0 && ((minB a b).u == true && true))) = true := by
    have e : (minB a b) = (⟨0, 0, true⟩ : Bd) := by
      simp only [minB, maxB, hullB, absB, meetB, normB, rootB, noneB, ka, kb, Bool.and_true, Bool.true_and, Bool.false_and, Bool.and_false, Bool.not_true, Bool.not_false, cond_true, cond_false, ofZ_t, ofZ_f]
    rw [e]; simp
  have p7 : ((maxB a b).lo == 0 && ((maxB a b).hi == 0 && ((maxB a b).u == true && true))) = true := by
    have e : (maxB a b) = (⟨0, 0, true⟩ : Bd) := by
      simp only [minB, maxB, hullB, absB, meetB, normB, rootB, noneB, ka, kb, Bool.and_true, Bool.true_and, Bool.false_and, Bool.and_false, Bool.not_true, Bool.not_false, cond_true, cond_false, ofZ_t, ofZ_f]
    rw [e]; simp
  have p8 : ((hullB a b).lo == 0 && ((hullB a b).hi == 0 && ((hullB a b).u == true && true))) = true := by
    have e : (hullB a b) = (⟨0, 0, true⟩ : Bd) := by
      simp only [minB, maxB, hullB, absB, meetB, normB, rootB, noneB, ka, kb, Bool.and_true, Bool.true_and, Bool.false_and, Bool.and_false, Bool.not_true, Bool.not_false, cond_true, cond_false, ofZ_t, ofZ_f]
    rw [e]; simp
  have p9 : ((absB a).lo == 0 && ((absB a).hi == 0 && ((absB a).u == true && true))) = true := by
    have e : (absB a) = (⟨0, 0, true⟩ : Bd) := by
      simp only [minB, maxB, hullB, absB, meetB, normB, rootB, noneB, ka, kb, Bool.and_true, Bool.true_and, Bool.false_and, Bool.and_false, Bool.not_true, Bool.not_false, cond_true, cond_false, ofZ_t, ofZ_f]
    rw [e]; simp
  have p10 : ((meetB a b).lo == 0 && ((meetB a b).hi == 0 && ((meetB a b).u == true && true))) = true := by
    have e : (meetB a b) = (⟨0, 0, true⟩ : Bd) := by
      simp only [minB, maxB, hullB, absB, meetB, normB, rootB, noneB, ka, kb, Bool.and_true, Bool.true_and, Bool.false_and, Bool.and_false, Bool.not_true, Bool.not_false, cond_true, cond_false, ofZ_t, ofZ_f]
    rw [e]; simp
  exact evR_calls (I := numI) (v := .bool true) (ctxLp_ok libBoundPairs_ok eqBoundPairs_ok fnsBoundPairs_ok (fun _ _ _ => lps_nil)) (by kernel_rfl) Try.func5 rfl lps_nil L rfl (all2_R (.cons rfl (.cons rfl .nil))) (congrArg (fun b => some (Value.bool b)) V) _ (Nat.zero_le _) (pickL_ok (cd_cons k0 (cd_cons k3 (cd_cons k4 (cd_cons k5 (cd_cons p4 (cd_cons p5 (cd_cons p6 (cd_cons p7 (cd_cons p8 (cd_cons p9 (cd_cons p10 cd_nil))))))))))) _)
set_option maxRecDepth 100000 in
theorem boundPairs_w5 (a : Bd) (b : Bd) (W : World)  (k0 : (chkB a != 0) = false) (k3 : (a.u) = true) (k4 : (chkB b != 0) = false) (k5 : (b.u) = false) : Calls Try.prog 5 #[bV a, bV b] W fun e w' => e = .returned (.bool true) ∧ Below W.heap.size W w' := by
  have L := boundPairs_0100111111 a b
  have ka : knB a = false := kn_u k3
  have kb : knB b = true := kn_ok k4 k5
  obtain ⟨bu, b1, b2, b3⟩ := knB_iff.1 kb
  obtain ⟨b4, b5⟩ := i64_kn kb
  have b6 := Dl.i64 b4
  have b7 := Dl.i64 b5
  have V : (meetO a b == true) = true := by
    simp [hasB, insB, widV, normB, meetO, noneB, cmp_lt', cmp_gt, cmp_le0, cmp_ge0, ka, kb]
    all_goals omega
  have p4 : (i64B b.lo) = true := by
    first | with_reducible assumption | decide
  have p5 : (i64B b.hi) = true := by
    first | with_reducible assumption | decide
  have p6 : (false) = false := by
    rfl
  have p7 : (true) = true := by
    rfl
  have p8 : ((minB a b).lo == 0 && ((minB a b).hi == 0 && ((minB a b).u == true && true))) = true := by
    have e : (minB a b) = (⟨0, 0, true⟩ : Bd) := by
      simp only [minB, maxB, hullB, absB, meetB, normB, rootB, noneB, ka, kb, Bool.and_true, Bool.true_and, Bool.false_and, Bool.and_false, Bool.not_true, Bool.not_false, cond_true, cond_false, ofZ_t, ofZ_f]
    rw [e]; simp
  have p9 : ((maxB a b).lo == 0 && ((maxB a b).hi == 0 && ((maxB a b).u == true && true))) = true := by
    have e : (maxB a b) = (⟨0, 0, true⟩ : Bd) := by
      simp only [minB, maxB, hullB, absB, meetB, normB, rootB, noneB, ka, kb, Bool.and_true, Bool.true_and, Bool.false_and, Bool.and_false, Bool.not_true, Bool.not_false, cond_true, cond_false, ofZ_t, ofZ_f]
    rw [e]; simp
  have p10 : ((hullB a b).lo == 0 && ((hullB a b).hi == 0 && ((hullB a b).u == true && true))) = true := by
    have e : (hullB a b) = (⟨0, 0, true⟩ : Bd) := by
      simp only [minB, maxB, hullB, absB, meetB, normB, rootB, noneB, ka, kb, Bool.and_true, Bool.true_and, Bool.false_and, Bool.and_false, Bool.not_true, Bool.not_false, cond_true, cond_false, ofZ_t, ofZ_f]
    rw [e]; simp
  have p11 : ((absB a).lo == 0 && ((absB a).hi == 0 && ((absB a).u == true && true))) = true := by
    have e : (absB a) = (⟨0, 0, true⟩ : Bd) := by
      simp only [minB, maxB, hullB, absB, meetB, normB, rootB, noneB, ka, kb, Bool.and_true, Bool.true_and, Bool.false_and, Bool.and_false, Bool.not_true, Bool.not_false, cond_true, cond_false, ofZ_t, ofZ_f]
    rw [e]; simp
  have p12 : ((meetB a b).lo == b.lo && ((meetB a b).hi == b.hi && ((meetB a b).u == b.u && true))) = true := by
    have e : (meetB a b) = (b : Bd) := by
      simp only [minB, maxB, hullB, absB, meetB, normB, rootB, noneB, ka, kb, Bool.and_true, Bool.true_and, Bool.false_and, Bool.and_false, Bool.not_true, Bool.not_false, cond_true, cond_false, ofZ_t, ofZ_f]
    rw [e]; simp
  exact evR_calls (I := numI) (v := .bool true) (ctxLp_ok libBoundPairs_ok eqBoundPairs_ok fnsBoundPairs_ok (fun _ _ _ => lps_nil)) (by kernel_rfl) Try.func5 rfl lps_nil L rfl (all2_R (.cons rfl (.cons rfl .nil))) (congrArg (fun b => some (Value.bool b)) V) _ (Nat.zero_le _) (pickL_ok (cd_cons k0 (cd_cons k3 (cd_cons k4 (cd_cons k5 (cd_cons p4 (cd_cons p5 (cd_cons p6 (cd_cons p7 (cd_cons p8 (cd_cons p9 (cd_cons p10 (cd_cons p11 (cd_cons p12 cd_nil))))))))))))) _)
set_option maxRecDepth 100000 in
theorem boundPairs_w6 (a : Bd) (b : Bd) (W : World)  (k0 : (chkB a != 0) = false) (k3 : (a.u) = false) (k6 : (chkB b != 0) = true) (k7 : (cmpI a.lo 0 == cmpI a.hi 0) = true) : Calls Try.prog 5 #[bV a, bV b] W fun e w' => e = .returned (.bool true) ∧ Below W.heap.size W w' := by
  have L := boundPairs_0011111111 a b
  have ka : knB a = true := kn_ok k0 k3
  obtain ⟨au, a1, a2, a3⟩ := knB_iff.1 ka
  obtain ⟨a4, a5⟩ := i64_kn ka
  have a6 := Dl.i64 a4
  have a7 := Dl.i64 a5
  have kb : knB b = false := kn_bad k6
  have sg := sgn_same a2 k7
  have tp := abs_top a2
  have V : (meetO a b == true) = true := by
    simp [hasB, insB, widV, normB, meetO, noneB, cmp_lt', cmp_gt, cmp_le0, cmp_ge0, ka, kb]
    all_goals omega
  have p2 : (i64B a.lo) = true := by
    first | with_reducible assumption | decide
  have p3 : (i64B a.hi) = true := by
    first | with_reducible assumption | decide
  have p5 : (true) = true := by
    rfl
  have p6 : (false) = false := by
    rfl
  have p7 : (decide (a.lo < 0) == decide (a.lo < 0)) = true := by
    first | exact eqB _ | exact beq_self_eq_true _
  have p8 : (decide (a.hi < 0) == decide (a.hi < 0)) = true := by
    first | exact eqB _ | exact beq_self_eq_true _
  have p10 : (decide (absI a.lo < 0) == decide (absI a.lo < 0)) = true := by
    first | exact eqB _ | exact beq_self_eq_true _
  have p11 : (decide (absI a.hi < 0) == decide (absI a.hi < 0)) = true := by
    first | exact eqB _ | exact beq_self_eq_true _
  have p12 : (szB (absI a.lo)) = true := by
    exact Dl.sz (k := 60) (by first | exact Dl.le (by with_reducible assumption) (by omega) | (refine Dl.le (of_dl (by with_reducible assumption) (by with_reducible assumption)) (by omega)) | (refine Dl.le (of_dl (Dl.abs (by with_reducible assumption)) (Dl.abs (by with_reducible assumption))) (by omega)) | (refine Dl.le (Dl.abs (by with_reducible assumption)) (by omega)) | (refine Dl.le (Dl.mul (by with_reducible assumption) (by with_reducible assumption)) (by omega))) (by omega)
  have p13 : (szB (absI a.hi)) = true := by
    exact Dl.sz (k := 60) (by first | exact Dl.le (by with_reducible assumption) (by omega) | (refine Dl.le (of_dl (by with_reducible assumption) (by with_reducible assumption)) (by omega)) | (refine Dl.le (of_dl (Dl.abs (by with_reducible assumption)) (Dl.abs (by with_reducible assumption))) (by omega)) | (refine Dl.le (Dl.abs (by with_reducible assumption)) (by omega)) | (refine Dl.le (Dl.mul (by with_reducible assumption) (by with_reducible assumption)) (by omega))) (by omega)
  have p14 : (decide (ofZ (absI a.lo) (absI a.hi) true < 0) == decide (ofZ (absI a.lo) (absI a.hi) true < 0)) = true := by
    first | exact eqB _ | exact beq_self_eq_true _
  have p15 : (decide (ofZ (absI a.lo) (absI a.hi) false < 0) == decide (ofZ (absI a.lo) (absI a.hi) false < 0)) = true := by
    first | exact eqB _ | exact beq_self_eq_true _
  have p16 : (szB (ofZ (absI a.lo) (absI a.hi) true)) = true := by
    exact Dl.sz (k := 60) (by first | exact Dl.le (by with_reducible assumption) (by omega) | (refine Dl.le (of_dl (by with_reducible assumption) (by with_reducible assumption)) (by omega)) | (refine Dl.le (of_dl (Dl.abs (by with_reducible assumption)) (Dl.abs (by with_reducible assumption))) (by omega)) | (refine Dl.le (Dl.abs (by with_reducible assumption)) (by omega)) | (refine Dl.le (Dl.mul (by with_reducible assumption) (by with_reducible assumption)) (by omega))) (by omega)
  have p17 : (szB (ofZ (absI a.lo) (absI a.hi) false)) = true := by
    exact Dl.sz (k := 60) (by first | exact Dl.le (by with_reducible assumption) (by omega) | (refine Dl.le (of_dl (by with_reducible assumption) (by with_reducible assumption)) (by omega)) | (refine Dl.le (of_dl (Dl.abs (by with_reducible assumption)) (Dl.abs (by with_reducible assumption))) (by omega)) | (refine Dl.le (Dl.abs (by with_reducible assumption)) (by omega)) | (refine Dl.le (Dl.mul (by with_reducible assumption) (by with_reducible assumption)) (by omega))) (by omega)
  have p18 : ((minB a b).lo == 0 && ((minB a b).hi == 0 && ((minB a b).u == true && true))) = true := by
    have e : (minB a b) = (⟨0, 0, true⟩ : Bd) := by
      simp only [minB, maxB, hullB, absB, meetB, normB, rootB, noneB, ka, kb, Bool.and_true, Bool.true_and, Bool.false_and, Bool.and_false, Bool.not_true, Bool.not_false, cond_true, cond_false, ofZ_t, ofZ_f, sg, tp]
    rw [e]; simp
  have p19 : ((maxB a b).lo == 0 && ((maxB a b).hi == 0 && ((maxB a b).u == true && true))) = true := by
    have e : (maxB a b) = (⟨0, 0, true⟩ : Bd) := by
      simp only [minB, maxB, hullB, absB, meetB, normB, rootB, noneB, ka, kb, Bool.and_true, Bool.true_and, Bool.false_and, Bool.and_false, Bool.not_true, Bool.not_false, cond_true, cond_false, ofZ_t, ofZ_f, sg, tp]
    rw [e]; simp
  have p20 : ((hullB a b).lo == 0 && ((hullB a b).hi == 0 && ((hullB a b).u == true && true))) = true := by
    have e : (hullB a b) = (⟨0, 0, true⟩ : Bd) := by
      simp only [minB, maxB, hullB, absB, meetB, normB, rootB, noneB, ka, kb, Bool.and_true, Bool.true_and, Bool.false_and, Bool.and_false, Bool.not_true, Bool.not_false, cond_true, cond_false, ofZ_t, ofZ_f, sg, tp]
    rw [e]; simp
  have p21 : ((absB a).lo == (ofB (ofZ (absI a.lo) (absI a.hi) true) (ofZ (absI a.lo) (absI a.hi) false)).lo && ((absB a).hi == (ofB (ofZ (absI a.lo) (absI a.hi) true) (ofZ (absI a.lo) (absI a.hi) false)).hi && ((absB a).u == (ofB (ofZ (absI a.lo) (absI a.hi) true) (ofZ (absI a.lo) (absI a.hi) false)).u && true))) = true := by
    have e : (absB a) = ((ofB (ofZ (absI a.lo) (absI a.hi) true) (ofZ (absI a.lo) (absI a.hi) false)) : Bd) := by
      simp only [minB, maxB, hullB, absB, meetB, normB, rootB, noneB, ka, kb, Bool.and_true, Bool.true_and, Bool.false_and, Bool.and_false, Bool.not_true, Bool.not_false, cond_true, cond_false, ofZ_t, ofZ_f, sg, tp]
    rw [e]; simp
  have p22 : ((meetB a b).lo == a.lo && ((meetB a b).hi == a.hi && ((meetB a b).u == a.u && true))) = true := by
    have e : (meetB a b) = (a : Bd) := by
      simp only [minB, maxB, hullB, absB, meetB, normB, rootB, noneB, ka, kb, Bool.and_true, Bool.true_and, Bool.false_and, Bool.and_false, Bool.not_true, Bool.not_false, cond_true, cond_false, ofZ_t, ofZ_f, sg, tp]
    rw [e]; simp
  exact evR_calls (I := numI) (v := .bool true) (ctxLp_ok libBoundPairs_ok eqBoundPairs_ok fnsBoundPairs_ok (fun _ _ _ => lps_nil)) (by kernel_rfl) Try.func5 rfl lps_nil L rfl (all2_R (.cons rfl (.cons rfl .nil))) (congrArg (fun b => some (Value.bool b)) V) _ (Nat.zero_le _) (pickL_ok (cd_cons k0 (cd_cons k3 (cd_cons p2 (cd_cons p3 (cd_cons k6 (cd_cons p5 (cd_cons p6 (cd_cons p7 (cd_cons p8 (cd_cons k7 (cd_cons p10 (cd_cons p11 (cd_cons p12 (cd_cons p13 (cd_cons p14 (cd_cons p15 (cd_cons p16 (cd_cons p17 (cd_cons p18 (cd_cons p19 (cd_cons p20 (cd_cons p21 (cd_cons p22 cd_nil))))))))))))))))))))))) _)
set_option maxRecDepth 100000 in
theorem boundPairs_w7 (a : Bd) (b : Bd) (W : World)  (k0 : (chkB a != 0) = false) (k3 : (a.u) = false) (k6 : (chkB b != 0) = true) (k7 : (cmpI a.lo 0 == cmpI a.hi 0) = false) : Calls Try.prog 5 #[bV a, bV b] W fun e w' => e = .returned (.bool true) ∧ Below W.heap.size W w' := by
  have L := boundPairs_0010111111 a b
  have ka : knB a = true := kn_ok k0 k3
  obtain ⟨au, a1, a2, a3⟩ := knB_iff.1 ka
  obtain ⟨a4, a5⟩ := i64_kn ka
  have a6 := Dl.i64 a4
  have a7 := Dl.i64 a5
  have kb : knB b = false := kn_bad k6
  have sg := sgn_diff a2 k7
  have tp := abs_top a2
  have V : (meetO a b == true) = true := by
    simp [hasB, insB, widV, normB, meetO, noneB, cmp_lt', cmp_gt, cmp_le0, cmp_ge0, ka, kb]
    all_goals omega
  have p2 : (i64B a.lo) = true := by
    first | with_reducible assumption | decide
  have p3 : (i64B a.hi) = true := by
    first | with_reducible assumption | decide
  have p5 : (true) = true := by
    rfl
  have p6 : (false) = false := by
    rfl
  have p7 : (decide (a.lo < 0) == decide (a.lo < 0)) = true := by
    first | exact eqB _ | exact beq_self_eq_true _
  have p8 : (decide (a.hi < 0) == decide (a.hi < 0)) = true := by
    first | exact eqB _ | exact beq_self_eq_true _
  have p10 : (decide (absI a.lo < 0) == decide (absI a.lo < 0)) = true := by
    first | exact eqB _ | exact beq_self_eq_true _
  have p11 : (decide (absI a.hi < 0) == decide (absI a.hi < 0)) = true := by
    first | exact eqB _ | exact beq_self_eq_true _
  have p12 : (szB (absI a.lo)) = true := by
    exact Dl.sz (k := 60) (by first | exact Dl.le (by with_reducible assumption) (by omega) | (refine Dl.le (of_dl (by with_reducible assumption) (by with_reducible assumption)) (by omega)) | (refine Dl.le (of_dl (Dl.abs (by with_reducible assumption)) (Dl.abs (by with_reducible assumption))) (by omega)) | (refine Dl.le (Dl.abs (by with_reducible assumption)) (by omega)) | (refine Dl.le (Dl.mul (by with_reducible assumption) (by with_reducible assumption)) (by omega))) (by omega)
  have p13 : (szB (absI a.hi)) = true := by
    exact Dl.sz (k := 60) (by first | exact Dl.le (by with_reducible assumption) (by omega) | (refine Dl.le (of_dl (by with_reducible assumption) (by with_reducible assumption)) (by omega)) | (refine Dl.le (of_dl (Dl.abs (by with_reducible assumption)) (Dl.abs (by with_reducible assumption))) (by omega)) | (refine Dl.le (Dl.abs (by with_reducible assumption)) (by omega)) | (refine Dl.le (Dl.mul (by with_reducible assumption) (by with_reducible assumption)) (by omega))) (by omega)
  have p14 : (decide (ofZ (absI a.lo) (absI a.hi) false < 0) == decide (ofZ (absI a.lo) (absI a.hi) false < 0)) = true := by
    first | exact eqB _ | exact beq_self_eq_true _
  have p15 : (szB (ofZ (absI a.lo) (absI a.hi) false)) = true := by
    exact Dl.sz (k := 60) (by first | exact Dl.le (by with_reducible assumption) (by omega) | (refine Dl.le (of_dl (by with_reducible assumption) (by with_reducible assumption)) (by omega)) | (refine Dl.le (of_dl (Dl.abs (by with_reducible assumption)) (Dl.abs (by with_reducible assumption))) (by omega)) | (refine Dl.le (Dl.abs (by with_reducible assumption)) (by omega)) | (refine Dl.le (Dl.mul (by with_reducible assumption) (by with_reducible assumption)) (by omega))) (by omega)
  have p16 : ((minB a b).lo == 0 && ((minB a b).hi == 0 && ((minB a b).u == true && true))) = true := by
    have e : (minB a b) = (⟨0, 0, true⟩ : Bd) := by
      simp only [minB, maxB, hullB, absB, meetB, normB, rootB, noneB, ka, kb, Bool.and_true, Bool.true_and, Bool.false_and, Bool.and_false, Bool.not_true, Bool.not_false, cond_true, cond_false, ofZ_t, ofZ_f, sg, tp]
    rw [e]; simp
  have p17 : ((maxB a b).lo == 0 && ((maxB a b).hi == 0 && ((maxB a b).u == true && true))) = true := by
    have e : (maxB a b) = (⟨0, 0, true⟩ : Bd) := by
      simp only [minB, maxB, hullB, absB, meetB, normB, rootB, noneB, ka, kb, Bool.and_true, Bool.true_and, Bool.false_and, Bool.and_false, Bool.not_true, Bool.not_false, cond_true, cond_false, ofZ_t, ofZ_f, sg, tp]
    rw [e]; simp
  have p18 : ((hullB a b).lo == 0 && ((hullB a b).hi == 0 && ((hullB a b).u == true && true))) = true := by
    have e : (hullB a b) = (⟨0, 0, true⟩ : Bd) := by
      simp only [minB, maxB, hullB, absB, meetB, normB, rootB, noneB, ka, kb, Bool.and_true, Bool.true_and, Bool.false_and, Bool.and_false, Bool.not_true, Bool.not_false, cond_true, cond_false, ofZ_t, ofZ_f, sg, tp]
    rw [e]; simp
  have p19 : ((absB a).lo == (ofB 0 (ofZ (absI a.lo) (absI a.hi) false)).lo && ((absB a).hi == (ofB 0 (ofZ (absI a.lo) (absI a.hi) false)).hi && ((absB a).u == (ofB 0 (ofZ (absI a.lo) (absI a.hi) false)).u && true))) = true := by
    have e : (absB a) = ((ofB 0 (ofZ (absI a.lo) (absI a.hi) false)) : Bd) := by
      simp only [minB, maxB, hullB, absB, meetB, normB, rootB, noneB, ka, kb, Bool.and_true, Bool.true_and, Bool.false_and, Bool.and_false, Bool.not_true, Bool.not_false, cond_true, cond_false, ofZ_t, ofZ_f, sg, tp]
    rw [e]; simp
  have p20 : ((meetB a b).lo == a.lo && ((meetB a b).hi == a.hi && ((meetB a b).u == a.u && true))) = true := by
    have e : (meetB a b) = (a : Bd) := by
      simp only [minB, maxB, hullB, absB, meetB, normB, rootB, noneB, ka, kb, Bool.and_true, Bool.true_and, Bool.false_and, Bool.and_false, Bool.not_true, Bool.not_false, cond_true, cond_false, ofZ_t, ofZ_f, sg, tp]
    rw [e]; simp
  exact evR_calls (I := numI) (v := .bool true) (ctxLp_ok libBoundPairs_ok eqBoundPairs_ok fnsBoundPairs_ok (fun _ _ _ => lps_nil)) (by kernel_rfl) Try.func5 rfl lps_nil L rfl (all2_R (.cons rfl (.cons rfl .nil))) (congrArg (fun b => some (Value.bool b)) V) _ (Nat.zero_le _) (pickL_ok (cd_cons k0 (cd_cons k3 (cd_cons p2 (cd_cons p3 (cd_cons k6 (cd_cons p5 (cd_cons p6 (cd_cons p7 (cd_cons p8 (cd_cons k7 (cd_cons p10 (cd_cons p11 (cd_cons p12 (cd_cons p13 (cd_cons p14 (cd_cons p15 (cd_cons p16 (cd_cons p17 (cd_cons p18 (cd_cons p19 (cd_cons p20 cd_nil))))))))))))))))))))) _)
set_option maxRecDepth 100000 in
theorem boundPairs_w8 (a : Bd) (b : Bd) (W : World)  (k0 : (chkB a != 0) = false) (k3 : (a.u) = false) (k6 : (chkB b != 0) = false) (k8 : (b.u) = true) (k9 : (cmpI a.lo 0 == cmpI a.hi 0) = true) : Calls Try.prog 5 #[bV a, bV b] W fun e w' => e = .returned (.bool true) ∧ Below W.heap.size W w' := by
  have L := boundPairs_00011111111 a b
  have ka : knB a = true := kn_ok k0 k3
  obtain ⟨au, a1, a2, a3⟩ := knB_iff.1 ka
  obtain ⟨a4, a5⟩ := i64_kn ka
  have a6 := Dl.i64 a4
  have a7 := Dl.i64 a5
  have kb : knB b = false := kn_u k8
  have sg := sgn_same a2 k9
  have tp := abs_top a2
  have V : (meetO a b == true) = true := by
    simp [hasB, insB, widV, normB, meetO, noneB, cmp_lt', cmp_gt, cmp_le0, cmp_ge0, ka, kb]
    all_goals omega
  have p2 : (i64B a.lo) = true := by
    first | with_reducible assumption | decide
  have p3 : (i64B a.hi) = true := by
    first | with_reducible assumption | decide
  have p6 : (true) = true := by
    rfl
  have p7 : (false) = false := by
    rfl
  have p8 : (decide (a.lo < 0) == decide (a.lo < 0)) = true := by
    first | exact eqB _ | exact beq_self_eq_true _
  have p9 : (decide (a.hi < 0) == decide (a.hi < 0)) = true := by
    first | exact eqB _ | exact beq_self_eq_true _
  have p11 : (decide (absI a.lo < 0) == decide (absI a.lo < 0)) = true := by
    first | exact eqB _ | exact beq_self_eq_true _
  have p12 : (decide (absI a.hi < 0) == decide (absI a.hi < 0)) = true := by
    first | exact eqB _ | exact beq_self_eq_true _
  have p13 : (szB (absI a.lo)) = true := by
    exact Dl.sz (k := 60) (by first | exact Dl.le (by with_reducible assumption) (by omega) | (refine Dl.le (of_dl (by with_reducible assumption) (by with_reducible assumption)) (by omega)) | (refine Dl.le (of_dl (Dl.abs (by with_reducible assumption)) (Dl.abs (by with_reducible assumption))) (by omega)) | (refine Dl.le (Dl.abs (by with_reducible assumption)) (by omega)) | (refine Dl.le (Dl.mul (by with_reducible assumption) (by with_reducible assumption)) (by omega))) (by omega)
  have p14 : (szB (absI a.hi)) = true := by
    exact Dl.sz (k := 60) (by first | exact Dl.le (by with_reducible assumption) (by omega) | (refine Dl.le (of_dl (by with_reducible assumption) (by with_reducible assumption)) (by omega)) | (refine Dl.le (of_dl (Dl.abs (by with_reducible assumption)) (Dl.abs (by with_reducible assumption))) (by omega)) | (refine Dl.le (Dl.abs (by with_reducible assumption)) (by omega)) | (refine Dl.le (Dl.mul (by with_reducible assumption) (by with_reducible assumption)) (by omega))) (by omega)
  have p15 : (decide (ofZ (absI a.lo) (absI a.hi) true < 0) == decide (ofZ (absI a.lo) (absI a.hi) true < 0)) = true := by
    first | exact eqB _ | exact beq_self_eq_true _
  have p16 : (decide (ofZ (absI a.lo) (absI a.hi) false < 0) == decide (ofZ (absI a.lo) (absI a.hi) false < 0)) = true := by
    first | exact eqB _ | exact beq_self_eq_true _
  have p17 : (szB (ofZ (absI a.lo) (absI a.hi) true)) = true := by
    exact Dl.sz (k := 60) (by first | exact Dl.le (by with_reducible assumption) (by omega) | (refine Dl.le (of_dl (by with_reducible assumption) (by with_reducible assumption)) (by omega)) | (refine Dl.le (of_dl (Dl.abs (by with_reducible assumption)) (Dl.abs (by with_reducible assumption))) (by omega)) | (refine Dl.le (Dl.abs (by with_reducible assumption)) (by omega)) | (refine Dl.le (Dl.mul (by with_reducible assumption) (by with_reducible assumption)) (by omega))) (by omega)
  have p18 : (szB (ofZ (absI a.lo) (absI a.hi) false)) = true := by
    exact Dl.sz (k := 60) (by first | exact Dl.le (by with_reducible assumption) (by omega) | (refine Dl.le (of_dl (by with_reducible assumption) (by with_reducible assumption)) (by omega)) | (refine Dl.le (of_dl (Dl.abs (by with_reducible assumption)) (Dl.abs (by with_reducible assumption))) (by omega)) | (refine Dl.le (Dl.abs (by with_reducible assumption)) (by omega)) | (refine Dl.le (Dl.mul (by with_reducible assumption) (by with_reducible assumption)) (by omega))) (by omega)
  have p19 : ((minB a b).lo == 0 && ((minB a b).hi == 0 && ((minB a b).u == true && true))) = true := by
    have e : (minB a b) = (⟨0, 0, true⟩ : Bd) := by
      simp only [minB, maxB, hullB, absB, meetB, normB, rootB, noneB, ka, kb, Bool.and_true, Bool.true_and, Bool.false_and, Bool.and_false, Bool.not_true, Bool.not_false, cond_true, cond_false, ofZ_t, ofZ_f, sg, tp]
    rw [e]; simp
  have p20 : ((maxB a b).lo == 0 && ((maxB a b).hi == 0 && ((maxB a b).u == true && true))) = true := by
    have e : (maxB a b) = (⟨0, 0, true⟩ : Bd) := by
      simp only [minB, maxB, hullB, absB, meetB, normB, rootB, noneB, ka, kb, Bool.and_true, Bool.true_and, Bool.false_and, Bool.and_false, Bool.not_true, Bool.not_false, cond_true, cond_false, ofZ_t, ofZ_f, sg, tp]
    rw [e]; simp
  have p21 : ((hullB a b).lo == 0 && ((hullB a b).hi == 0 && ((hullB a b).u == true && true))) = true := by
    have e : (hullB a b) = (⟨0, 0, true⟩ : Bd) := by
      simp only [minB, maxB, hullB, absB, meetB, normB, rootB, noneB, ka, kb, Bool.and_true, Bool.true_and, Bool.false_and, Bool.and_false, Bool.not_true, Bool.not_false, cond_true, cond_false, ofZ_t, ofZ_f, sg, tp]
    rw [e]; simp
  have p22 : ((absB a).lo == (ofB (ofZ (absI a.lo) (absI a.hi) true) (ofZ (absI a.lo) (absI a.hi) false)).lo && ((absB a).hi == (ofB (ofZ (absI a.lo) (absI a.hi) true) (ofZ (absI a.lo) (absI a.hi) false)).hi && ((absB a).u == (ofB (ofZ (absI a.lo) (absI a.hi) true) (ofZ (absI a.lo) (absI a.hi) false)).u && true))) = true := by
    have e : (absB a) = ((ofB (ofZ (absI a.lo) (absI a.hi) true) (ofZ (absI a.lo) (absI a.hi) false)) : Bd) := by
      simp only [minB, maxB, hullB, absB, meetB, normB, rootB, noneB, ka, kb, Bool.and_true, Bool.true_and, Bool.false_and, Bool.and_false, Bool.not_true, Bool.not_false, cond_true, cond_false, ofZ_t, ofZ_f, sg, tp]
    rw [e]; simp
  have p23 : ((meetB a b).lo == a.lo && ((meetB a b).hi == a.hi && ((meetB a b).u == a.u && true))) = true := by
    have e : (meetB a b) = (a : Bd) := by
      simp only [minB, maxB, hullB, absB, meetB, normB, rootB, noneB, ka, kb, Bool.and_true, Bool.true_and, Bool.false_and, Bool.and_false, Bool.not_true, Bool.not_false, cond_true, cond_false, ofZ_t, ofZ_f, sg, tp]
    rw [e]; simp
  exact evR_calls (I := numI) (v := .bool true) (ctxLp_ok libBoundPairs_ok eqBoundPairs_ok fnsBoundPairs_ok (fun _ _ _ => lps_nil)) (by kernel_rfl) Try.func5 rfl lps_nil L rfl (all2_R (.cons rfl (.cons rfl .nil))) (congrArg (fun b => some (Value.bool b)) V) _ (Nat.zero_le _) (pickL_ok (cd_cons k0 (cd_cons k3 (cd_cons p2 (cd_cons p3 (cd_cons k6 (cd_cons k8 (cd_cons p6 (cd_cons p7 (cd_cons p8 (cd_cons p9 (cd_cons k9 (cd_cons p11 (cd_cons p12 (cd_cons p13 (cd_cons p14 (cd_cons p15 (cd_cons p16 (cd_cons p17 (cd_cons p18 (cd_cons p19 (cd_cons p20 (cd_cons p21 (cd_cons p22 (cd_cons p23 cd_nil)))))))))))))))))))))))) _)
set_option maxRecDepth 100000 in
theorem boundPairs_w9 (a : Bd) (b : Bd) (W : World)  (k0 : (chkB a != 0) = false) (k3 : (a.u) = false) (k6 : (chkB b != 0) = false) (k8 : (b.u) = true) (k9 : (cmpI a.lo 0 == cmpI a.hi 0) = false) : Calls Try.prog 5 #[bV a, bV b] W fun e w' => e = .returned (.bool true) ∧ Below W.heap.size W w' := by
  have L := boundPairs_00010111111 a b
  have ka : knB a = true := kn_ok k0 k3
  obtain ⟨au, a1, a2, a3⟩ := knB_iff.1 ka
  obtain ⟨a4, a5⟩ := i64_kn ka
  have a6 := Dl.i64 a4
  have a7 := Dl.i64 a5
  have kb : knB b = false := kn_u k8
  have sg := sgn_diff a2 k9
  have tp := abs_top a2
  have V : (meetO a b == true) = true := by
    simp [hasB, insB, widV, normB, meetO, noneB, cmp_lt', cmp_gt, cmp_le0, cmp_ge0, ka, kb]
    all_goals omega
  have p2 : (i64B a.lo) = true := by
    first | with_reducible assumption | decide
  have p3 : (i64B a.hi) = true := by
    first | with_reducible assumption | decide
  have p6 : (true) = true := by
    rfl
  have p7 : (false) = false := by
    rfl
  have p8 : (decide (a.lo < 0) == decide (a.lo < 0)) = true := by
    first | exact eqB _ | exact beq_self_eq_true _
  have p9 : (decide (a.hi < 0) == decide (a.hi < 0)) = true := by
    first | exact eqB _ | exact beq_self_eq_true _
  have p11 : (decide (absI a.lo < 0) == decide (absI a.lo < 0)) = true := by
    first | exact eqB _ | exact beq_self_eq_true _
  have p12 : (decide (absI a.hi < 0) == decide (absI a.hi < 0)) = true := by
    first | exact eqB _ | exact beq_self_eq_true _
  have p13 : (szB (absI a.lo)) = true := by
    exact Dl.sz (k := 60) (by first | exact Dl.le (by with_reducible assumption) (by omega) | (refine Dl.le (of_dl (by with_reducible assumption) (by with_reducible assumption)) (by omega)) | (refine Dl.le (of_dl (Dl.abs (by with_reducible assumption)) (Dl.abs (by with_reducible assumption))) (by omega)) | (refine Dl.le (Dl.abs (by with_reducible assumption)) (by omega)) | (refine Dl.le (Dl.mul (by with_reducible assumption) (by with_reducible assumption)) (by omega))) (by omega)
  have p14 : (szB (absI a.hi)) = true := by
    exact Dl.sz (k := 60) (by first | exact Dl.le (by with_reducible assumption) (by omega) | (refine Dl.le (of_dl (by with_reducible assumption) (by with_reducible assumption)) (by omega)) | (refine Dl.le (of_dl (Dl.abs (by with_reducible assumption)) (Dl.abs (by with_reducible assumption))) (by omega)) | (refine Dl.le (Dl.abs (by with_reducible assumption)) (by omega)) | (refine Dl.le (Dl.mul (by with_reducible assumption) (by with_reducible assumption)) (by omega))) (by omega)
  have p15 : (decide (ofZ (absI a.lo) (absI a.hi) false < 0) == decide (ofZ (absI a.lo) (absI a.hi) false < 0)) = true := by
    first | exact eqB _ | exact beq_self_eq_true _
  have p16 : (szB (ofZ (absI a.lo) (absI a.hi) false)) = true := by
    exact Dl.sz (k := 60) (by first | exact Dl.le (by with_reducible assumption) (by omega) | (refine Dl.le (of_dl (by with_reducible assumption) (by with_reducible assumption)) (by omega)) | (refine Dl.le (of_dl (Dl.abs (by with_reducible assumption)) (Dl.abs (by with_reducible assumption))) (by omega)) | (refine Dl.le (Dl.abs (by with_reducible assumption)) (by omega)) | (refine Dl.le (Dl.mul (by with_reducible assumption) (by with_reducible assumption)) (by omega))) (by omega)
  have p17 : ((minB a b).lo == 0 && ((minB a b).hi == 0 && ((minB a b).u == true && true))) = true := by
    have e : (minB a b) = (⟨0, 0, true⟩ : Bd) := by
      simp only [minB, maxB, hullB, absB, meetB, normB, rootB, noneB, ka, kb, Bool.and_true, Bool.true_and, Bool.false_and, Bool.and_false, Bool.not_true, Bool.not_false, cond_true, cond_false, ofZ_t, ofZ_f, sg, tp]
    rw [e]; simp
  have p18 : ((maxB a b).lo == 0 && ((maxB a b).hi == 0 && ((maxB a b).u == true && true))) = true := by
    have e : (maxB a b) = (⟨0, 0, true⟩ : Bd) := by
      simp only [minB, maxB, hullB, absB, meetB, normB, rootB, noneB, ka, kb, Bool.and_true, Bool.true_and, Bool.false_and, Bool.and_false, Bool.not_true, Bool.not_false, cond_true, cond_false, ofZ_t, ofZ_f, sg, tp]
    rw [e]; simp
  have p19 : ((hullB a b).lo == 0 && ((hullB a b).hi == 0 && ((hullB a b).u == true && true))) = true := by
    have e : (hullB a b) = (⟨0, 0, true⟩ : Bd) := by
      simp only [minB, maxB, hullB, absB, meetB, normB, rootB, noneB, ka, kb, Bool.and_true, Bool.true_and, Bool.false_and, Bool.and_false, Bool.not_true, Bool.not_false, cond_true, cond_false, ofZ_t, ofZ_f, sg, tp]
    rw [e]; simp
  have p20 : ((absB a).lo == (ofB 0 (ofZ (absI a.lo) (absI a.hi) false)).lo && ((absB a).hi == (ofB 0 (ofZ (absI a.lo) (absI a.hi) false)).hi && ((absB a).u == (ofB 0 (ofZ (absI a.lo) (absI a.hi) false)).u && true))) = true := by
    have e : (absB a) = ((ofB 0 (ofZ (absI a.lo) (absI a.hi) false)) : Bd) := by
      simp only [minB, maxB, hullB, absB, meetB, normB, rootB, noneB, ka, kb, Bool.and_true, Bool.true_and, Bool.false_and, Bool.and_false, Bool.not_true, Bool.not_false, cond_true, cond_false, ofZ_t, ofZ_f, sg, tp]
    rw [e]; simp
  have p21 : ((meetB a b).lo == a.lo && ((meetB a b).hi == a.hi && ((meetB a b).u == a.u && true))) = true := by
    have e : (meetB a b) = (a : Bd) := by
      simp only [minB, maxB, hullB, absB, meetB, normB, rootB, noneB, ka, kb, Bool.and_true, Bool.true_and, Bool.false_and, Bool.and_false, Bool.not_true, Bool.not_false, cond_true, cond_false, ofZ_t, ofZ_f, sg, tp]
    rw [e]; simp
  exact evR_calls (I := numI) (v := .bool true) (ctxLp_ok libBoundPairs_ok eqBoundPairs_ok fnsBoundPairs_ok (fun _ _ _ => lps_nil)) (by kernel_rfl) Try.func5 rfl lps_nil L rfl (all2_R (.cons rfl (.cons rfl .nil))) (congrArg (fun b => some (Value.bool b)) V) _ (Nat.zero_le _) (pickL_ok (cd_cons k0 (cd_cons k3 (cd_cons p2 (cd_cons p3 (cd_cons k6 (cd_cons k8 (cd_cons p6 (cd_cons p7 (cd_cons p8 (cd_cons p9 (cd_cons k9 (cd_cons p11 (cd_cons p12 (cd_cons p13 (cd_cons p14 (cd_cons p15 (cd_cons p16 (cd_cons p17 (cd_cons p18 (cd_cons p19 (cd_cons p20 (cd_cons p21 cd_nil)))))))))))))))))))))) _)
set_option maxRecDepth 100000 in
theorem boundPairs_w10 (a : Bd) (b : Bd) (W : World)  (k0 : (chkB a != 0) = false) (k3 : (a.u) = false) (k6 : (chkB b != 0) = false) (k8 : (b.u) = false) (k10 : (cmpI a.lo 0 == cmpI a.hi 0) = true) (k11 : ((ofB (ofZ a.lo b.lo false) (ofZ a.hi b.hi true)).u) = true) : Calls Try.prog 5 #[bV a, bV b] W fun e w' => e = .returned (.bool true) ∧ Below W.heap.size W w' := by
  have L := boundPairs_000011111111 a b
  have ka : knB a = true := kn_ok k0 k3
  obtain ⟨au, a1, a2, a3⟩ := knB_iff.1 ka
  obtain ⟨a4, a5⟩ := i64_kn ka
  have a6 := Dl.i64 a4
  have a7 := Dl.i64 a5
  have kb : knB b = true := kn_ok k6 k8
  obtain ⟨bu, b1, b2, b3⟩ := knB_iff.1 kb
  obtain ⟨b4, b5⟩ := i64_kn kb
  have b6 := Dl.i64 b4
  have b7 := Dl.i64 b5
  have sg := sgn_same a2 k10
  have tp := abs_top a2
  have mu := meet_u ka kb
  rw [← ofZ_f a.lo b.lo, ← ofZ_t a.hi b.hi, k11] at mu
  have mc : (cmpB a b == 0) = false := by simpa using mu.symm
  have V : (meetO a b == false) = true := by
    simp [hasB, insB, widV, normB, meetO, noneB, cmp_lt', cmp_gt, cmp_le0, cmp_ge0, mc, ka, kb]
    all_goals omega
  have p2 : (i64B a.lo) = true := by
    first | with_reducible assumption | decide
  have p3 : (i64B a.hi) = true := by
    first | with_reducible assumption | decide
  have p6 : (i64B b.lo) = true := by
    first | with_reducible assumption | decide
  have p7 : (i64B b.hi) = true := by
    first | with_reducible assumption | decide
  have p8 : (true) = true := by
    rfl
  have p9 : (decide (a.lo < 0) == decide (a.lo < 0)) = true := by
    first | exact eqB _ | exact beq_self_eq_true _
  have p10 : (decide (b.lo < 0) == decide (b.lo < 0)) = true := by
    first | exact eqB _ | exact beq_self_eq_true _
  have p11 : (szB a.lo) = true := by
    exact Dl.sz (k := 60) (by first | exact Dl.le (by with_reducible assumption) (by omega) | (refine Dl.le (of_dl (by with_reducible assumption) (by with_reducible assumption)) (by omega)) | (refine Dl.le (of_dl (Dl.abs (by with_reducible assumption)) (Dl.abs (by with_reducible assumption))) (by omega)) | (refine Dl.le (Dl.abs (by with_reducible assumption)) (by omega)) | (refine Dl.le (Dl.mul (by with_reducible assumption) (by with_reducible assumption)) (by omega))) (by omega)
  have p12 : (szB b.lo) = true := by
    exact Dl.sz (k := 60) (by first | exact Dl.le (by with_reducible assumption) (by omega) | (refine Dl.le (of_dl (by with_reducible assumption) (by with_reducible assumption)) (by omega)) | (refine Dl.le (of_dl (Dl.abs (by with_reducible assumption)) (Dl.abs (by with_reducible assumption))) (by omega)) | (refine Dl.le (Dl.abs (by with_reducible assumption)) (by omega)) | (refine Dl.le (Dl.mul (by with_reducible assumption) (by with_reducible assumption)) (by omega))) (by omega)
  have p13 : (decide (a.hi < 0) == decide (a.hi < 0)) = true := by
    first | exact eqB _ | exact beq_self_eq_true _
  have p14 : (decide (b.hi < 0) == decide (b.hi < 0)) = true := by
    first | exact eqB _ | exact beq_self_eq_true _
  have p15 : (szB a.hi) = true := by
    exact Dl.sz (k := 60) (by first | exact Dl.le (by with_reducible assumption) (by omega) | (refine Dl.le (of_dl (by with_reducible assumption) (by with_reducible assumption)) (by omega)) | (refine Dl.le (of_dl (Dl.abs (by with_reducible assumption)) (Dl.abs (by with_reducible assumption))) (by omega)) | (refine Dl.le (Dl.abs (by with_reducible assumption)) (by omega)) | (refine Dl.le (Dl.mul (by with_reducible assumption) (by with_reducible assumption)) (by omega))) (by omega)
  have p16 : (szB b.hi) = true := by
    exact Dl.sz (k := 60) (by first | exact Dl.le (by with_reducible assumption) (by omega) | (refine Dl.le (of_dl (by with_reducible assumption) (by with_reducible assumption)) (by omega)) | (refine Dl.le (of_dl (Dl.abs (by with_reducible assumption)) (Dl.abs (by with_reducible assumption))) (by omega)) | (refine Dl.le (Dl.abs (by with_reducible assumption)) (by omega)) | (refine Dl.le (Dl.mul (by with_reducible assumption) (by with_reducible assumption)) (by omega))) (by omega)
  have p17 : (decide (ofZ a.lo b.lo true < 0) == decide (ofZ a.lo b.lo true < 0)) = true := by
    first | exact eqB _ | exact beq_self_eq_true _
  have p18 : (decide (ofZ a.hi b.hi true < 0) == decide (ofZ a.hi b.hi true < 0)) = true := by
    first | exact eqB _ | exact beq_self_eq_true _
  have p19 : (szB (ofZ a.lo b.lo true)) = true := by
    exact Dl.sz (k := 60) (by first | exact Dl.le (by with_reducible assumption) (by omega) | (refine Dl.le (of_dl (by with_reducible assumption) (by with_reducible assumption)) (by omega)) | (refine Dl.le (of_dl (Dl.abs (by with_reducible assumption)) (Dl.abs (by with_reducible assumption))) (by omega)) | (refine Dl.le (Dl.abs (by with_reducible assumption)) (by omega)) | (refine Dl.le (Dl.mul (by with_reducible assumption) (by with_reducible assumption)) (by omega))) (by omega)
  have p20 : (szB (ofZ a.hi b.hi true)) = true := by
    exact Dl.sz (k := 60) (by first | exact Dl.le (by with_reducible assumption) (by omega) | (refine Dl.le (of_dl (by with_reducible assumption) (by with_reducible assumption)) (by omega)) | (refine Dl.le (of_dl (Dl.abs (by with_reducible assumption)) (Dl.abs (by with_reducible assumption))) (by omega)) | (refine Dl.le (Dl.abs (by with_reducible assumption)) (by omega)) | (refine Dl.le (Dl.mul (by with_reducible assumption) (by with_reducible assumption)) (by omega))) (by omega)
  have p21 : (decide (ofZ a.lo b.lo false < 0) == decide (ofZ a.lo b.lo false < 0)) = true := by
    first | exact eqB _ | exact beq_self_eq_true _
  have p22 : (decide (ofZ a.hi b.hi false < 0) == decide (ofZ a.hi b.hi false < 0)) = true := by
    first | exact eqB _ | exact beq_self_eq_true _
  have p23 : (szB (ofZ a.lo b.lo false)) = true := by
    exact Dl.sz (k := 60) (by first | exact Dl.le (by with_reducible assumption) (by omega) | (refine Dl.le (of_dl (by with_reducible assumption) (by with_reducible assumption)) (by omega)) | (refine Dl.le (of_dl (Dl.abs (by with_reducible assumption)) (Dl.abs (by with_reducible assumption))) (by omega)) | (refine Dl.le (Dl.abs (by with_reducible assumption)) (by omega)) | (refine Dl.le (Dl.mul (by with_reducible assumption) (by with_reducible assumption)) (by omega))) (by omega)
  have p24 : (szB (ofZ a.hi b.hi false)) = true := by
    exact Dl.sz (k := 60) (by first | exact Dl.le (by with_reducible assumption) (by omega) | (refine Dl.le (of_dl (by with_reducible assumption) (by with_reducible assumption)) (by omega)) | (refine Dl.le (of_dl (Dl.abs (by with_reducible assumption)) (Dl.abs (by with_reducible assumption))) (by omega)) | (refine Dl.le (Dl.abs (by with_reducible assumption)) (by omega)) | (refine Dl.le (Dl.mul (by with_reducible assumption) (by with_reducible assumption)) (by omega))) (by omega)
  have p26 : (decide (absI a.lo < 0) == decide (absI a.lo < 0)) = true := by
    first | exact eqB _ | exact beq_self_eq_true _
  have p27 : (decide (absI a.hi < 0) == decide (absI a.hi < 0)) = true := by
    first | exact eqB _ | exact beq_self_eq_true _
  have p28 : (szB (absI a.lo)) = true := by
    exact Dl.sz (k := 60) (by first | exact Dl.le (by with_reducible assumption) (by omega) | (refine Dl.le (of_dl (by with_reducible assumption) (by with_reducible assumption)) (by omega)) | (refine Dl.le (of_dl (Dl.abs (by with_reducible assumption)) (Dl.abs (by with_reducible assumption))) (by omega)) | (refine Dl.le (Dl.abs (by with_reducible assumption)) (by omega)) | (refine Dl.le (Dl.mul (by with_reducible assumption) (by with_reducible assumption)) (by omega))) (by omega)
  have p29 : (szB (absI a.hi)) = true := by
    exact Dl.sz (k := 60) (by first | exact Dl.le (by with_reducible assumption) (by omega) | (refine Dl.le (of_dl (by with_reducible assumption) (by with_reducible assumption)) (by omega)) | (refine Dl.le (of_dl (Dl.abs (by with_reducible assumption)) (Dl.abs (by with_reducible assumption))) (by omega)) | (refine Dl.le (Dl.abs (by with_reducible assumption)) (by omega)) | (refine Dl.le (Dl.mul (by with_reducible assumption) (by with_reducible assumption)) (by omega))) (by omega)
  have p30 : (decide (ofZ (absI a.lo) (absI a.hi) true < 0) == decide (ofZ (absI a.lo) (absI a.hi) true < 0)) = true := by
    first | exact eqB _ | exact beq_self_eq_true _
  have p31 : (decide (ofZ (absI a.lo) (absI a.hi) false < 0) == decide (ofZ (absI a.lo) (absI a.hi) false < 0)) = true := by
    first | exact eqB _ | exact beq_self_eq_true _
  have p32 : (szB (ofZ (absI a.lo) (absI a.hi) true)) = true := by
    exact Dl.sz (k := 60) (by first | exact Dl.le (by with_reducible assumption) (by omega) | (refine Dl.le (of_dl (by with_reducible assumption) (by with_reducible assumption)) (by omega)) | (refine Dl.le (of_dl (Dl.abs (by with_reducible assumption)) (Dl.abs (by with_reducible assumption))) (by omega)) | (refine Dl.le (Dl.abs (by with_reducible assumption)) (by omega)) | (refine Dl.le (Dl.mul (by with_reducible assumption) (by with_reducible assumption)) (by omega))) (by omega)
  have p33 : (szB (ofZ (absI a.lo) (absI a.hi) false)) = true := by
    exact Dl.sz (k := 60) (by first | exact Dl.le (by with_reducible assumption) (by omega) | (refine Dl.le (of_dl (by with_reducible assumption) (by with_reducible assumption)) (by omega)) | (refine Dl.le (of_dl (Dl.abs (by with_reducible assumption)) (Dl.abs (by with_reducible assumption))) (by omega)) | (refine Dl.le (Dl.abs (by with_reducible assumption)) (by omega)) | (refine Dl.le (Dl.mul (by with_reducible assumption) (by with_reducible assumption)) (by omega))) (by omega)
  have p35 : ((minB a b).lo == (ofB (ofZ a.lo b.lo true) (ofZ a.hi b.hi true)).lo && ((minB a b).hi == (ofB (ofZ a.lo b.lo true) (ofZ a.hi b.hi true)).hi && ((minB a b).u == (ofB (ofZ a.lo b.lo true) (ofZ a.hi b.hi true)).u && true))) = true := by
    have e : (minB a b) = ((ofB (ofZ a.lo b.lo true) (ofZ a.hi b.hi true)) : Bd) := by
      simp only [minB, maxB, hullB, absB, meetB, normB, rootB, noneB, ka, kb, Bool.and_true, Bool.true_and, Bool.false_and, Bool.and_false, Bool.not_true, Bool.not_false, cond_true, cond_false, ofZ_t, ofZ_f, sg, tp, mc]
    rw [e]; simp
  have p36 : ((maxB a b).lo == (ofB (ofZ a.lo b.lo false) (ofZ a.hi b.hi false)).lo && ((maxB a b).hi == (ofB (ofZ a.lo b.lo false) (ofZ a.hi b.hi false)).hi && ((maxB a b).u == (ofB (ofZ a.lo b.lo false) (ofZ a.hi b.hi false)).u && true))) = true := by
    have e : (maxB a b) = ((ofB (ofZ a.lo b.lo false) (ofZ a.hi b.hi false)) : Bd) := by
      simp only [minB, maxB, hullB, absB, meetB, normB, rootB, noneB, ka, kb, Bool.and_true, Bool.true_and, Bool.false_and, Bool.and_false, Bool.not_true, Bool.not_false, cond_true, cond_false, ofZ_t, ofZ_f, sg, tp, mc]
    rw [e]; simp
  have p37 : ((hullB a b).lo == (ofB (ofZ a.lo b.lo true) (ofZ a.hi b.hi false)).lo && ((hullB a b).hi == (ofB (ofZ a.lo b.lo true) (ofZ a.hi b.hi false)).hi && ((hullB a b).u == (ofB (ofZ a.lo b.lo true) (ofZ a.hi b.hi false)).u && true))) = true := by
    have e : (hullB a b) = ((ofB (ofZ a.lo b.lo true) (ofZ a.hi b.hi false)) : Bd) := by
      simp only [minB, maxB, hullB, absB, meetB, normB, rootB, noneB, ka, kb, Bool.and_true, Bool.true_and, Bool.false_and, Bool.and_false, Bool.not_true, Bool.not_false, cond_true, cond_false, ofZ_t, ofZ_f, sg, tp, mc]
    rw [e]; simp
  have p38 : ((absB a).lo == (ofB (ofZ (absI a.lo) (absI a.hi) true) (ofZ (absI a.lo) (absI a.hi) false)).lo && ((absB a).hi == (ofB (ofZ (absI a.lo) (absI a.hi) true) (ofZ (absI a.lo) (absI a.hi) false)).hi && ((absB a).u == (ofB (ofZ (absI a.lo) (absI a.hi) true) (ofZ (absI a.lo) (absI a.hi) false)).u && true))) = true := by
    have e : (absB a) = ((ofB (ofZ (absI a.lo) (absI a.hi) true) (ofZ (absI a.lo) (absI a.hi) false)) : Bd) := by
      simp only [minB, maxB, hullB, absB, meetB, normB, rootB, noneB, ka, kb, Bool.and_true, Bool.true_and, Bool.false_and, Bool.and_false, Bool.not_true, Bool.not_false, cond_true, cond_false, ofZ_t, ofZ_f, sg, tp, mc]
    rw [e]; simp
  have p39 : ((meetB a b).lo == 0 && ((meetB a b).hi == 0 && ((meetB a b).u == false && true))) = true := by
    have e : (meetB a b) = (⟨0, 0, false⟩ : Bd) := by
      simp only [minB, maxB, hullB, absB, meetB, normB, rootB, noneB, ka, kb, Bool.and_true, Bool.true_and, Bool.false_and, Bool.and_false, Bool.not_true, Bool.not_false, cond_true, cond_false, ofZ_t, ofZ_f, sg, tp, mc]
    rw [e]; simp
  exact evR_calls (I := numI) (v := .bool true) (ctxLp_ok libBoundPairs_ok eqBoundPairs_ok fnsBoundPairs_ok (fun _ _ _ => lps_nil)) (by kernel_rfl) Try.func5 rfl lps_nil L rfl (all2_R (.cons rfl (.cons rfl .nil))) (congrArg (fun b => some (Value.bool b)) V) _ (Nat.zero_le _) (pickL_ok (cd_cons k0 (cd_cons k3 (cd_cons p2 (cd_cons p3 (cd_cons k6 (cd_cons k8 (cd_cons p6 (cd_cons p7 (cd_cons p8 (cd_cons p9 (cd_cons p10 (cd_cons p11 (cd_cons p12 (cd_cons p13 (cd_cons p14 (cd_cons p15 (cd_cons p16 (cd_cons p17 (cd_cons p18 (cd_cons p19 (cd_cons p20 (cd_cons p21 (cd_cons p22 (cd_cons p23 (cd_cons p24 (cd_cons k10 (cd_cons p26 (cd_cons p27 (cd_cons p28 (cd_cons p29 (cd_cons p30 (cd_cons p31 (cd_cons p32 (cd_cons p33 (cd_cons k11 (cd_cons p35 (cd_cons p36 (cd_cons p37 (cd_cons p38 (cd_cons p39 cd_nil)))))))))))))))))))))))))))))))))))))))) _)
set_option maxRecDepth 100000 in
theorem boundPairs_w11 (a : Bd) (b : Bd) (W : World)  (k0 : (chkB a != 0) = false) (k3 : (a.u) = false) (k6 : (chkB b != 0) = false) (k8 : (b.u) = false) (k10 : (cmpI a.lo 0 == cmpI a.hi 0) = true) (k11 : ((ofB (ofZ a.lo b.lo false) (ofZ a.hi b.hi true)).u) = false) : Calls Try.prog 5 #[bV a, bV b] W fun e w' => e = .returned (.bool true) ∧ Below W.heap.size W w' := by
  have L := boundPairs_000010111111 a b
  have ka : knB a = true := kn_ok k0 k3
  obtain ⟨au, a1, a2, a3⟩ := knB_iff.1 ka
  obtain ⟨a4, a5⟩ := i64_kn ka
  have a6 := Dl.i64 a4
  have a7 := Dl.i64 a5
  have kb : knB b = true := kn_ok k6 k8
  obtain ⟨bu, b1, b2, b3⟩ := knB_iff.1 kb
  obtain ⟨b4, b5⟩ := i64_kn kb
  have b6 := Dl.i64 b4
  have b7 := Dl.i64 b5
  have sg := sgn_same a2 k10
  have tp := abs_top a2
  have mu := meet_u ka kb
  rw [← ofZ_f a.lo b.lo, ← ofZ_t a.hi b.hi, k11] at mu
  have mc : (cmpB a b == 0) = true := by simpa using mu.symm
  have V : (meetO a b == true) = true := by
    simp [hasB, insB, widV, normB, meetO, noneB, cmp_lt', cmp_gt, cmp_le0, cmp_ge0, mc, ka, kb]
    all_goals omega
  have p2 : (i64B a.lo) = true := by
    first | with_reducible assumption | decide
  have p3 : (i64B a.hi) = true := by
    first | with_reducible assumption | decide
  have p6 : (i64B b.lo) = true := by
    first | with_reducible assumption | decide
  have p7 : (i64B b.hi) = true := by
    first | with_reducible assumption | decide
  have p8 : (true) = true := by
    rfl
  have p9 : (decide (a.lo < 0) == decide (a.lo < 0)) = true := by
    first | exact eqB _ | exact beq_self_eq_true _
  have p10 : (decide (b.lo < 0) == decide (b.lo < 0)) = true := by
    first | exact eqB _ | exact beq_self_eq_true _
  have p11 : (szB a.lo) = true := by
    exact Dl.sz (k := 60) (by first | exact Dl.le (by with_reducible assumption) (by omega) | (refine Dl.le (of_dl (by with_reducible assumption) (by with_reducible assumption)) (by omega)) | (refine Dl.le (of_dl (Dl.abs (by with_reducible assumption)) (Dl.abs (by with_reducible assumption))) (by omega)) | (refine Dl.le (Dl.abs (by with_reducible assumption)) (by omega)) | (refine Dl.le (Dl.mul (by with_reducible assumption) (by with_reducible assumption)) (by omega))) (by omega)
  have p12 : (szB b.lo) = true := by
    exact Dl.sz (k := 60) (by first | exact Dl.le (by with_reducible assumption) (by omega) | (refine Dl.le (of_dl (by with_reducible assumption) (by with_reducible assumption)) (by omega)) | (refine Dl.le (of_dl (Dl.abs (by with_reducible assumption)) (Dl.abs (by with_reducible assumption))) (by omega)) | (refine Dl.le (Dl.abs (by with_reducible assumption)) (by omega)) | (refine Dl.le (Dl.mul (by with_reducible assumption) (by with_reducible assumption)) (by omega))) (by omega)
  have p13 : (decide (a.hi < 0) == decide (a.hi < 0)) = true := by
    first | exact eqB _ | exact beq_self_eq_true _
  have p14 : (decide (b.hi < 0) == decide (b.hi < 0)) = true := by
    first | exact eqB _ | exact beq_self_eq_true _
  have p15 : (szB a.hi) = true := by
    exact Dl.sz (k := 60) (by first | exact Dl.le (by with_reducible assumption) (by omega) | (refine Dl.le (of_dl (by with_reducible assumption) (by with_reducible assumption)) (by omega)) | (refine Dl.le (of_dl (Dl.abs (by with_reducible assumption)) (Dl.abs (by with_reducible assumption))) (by omega)) | (refine Dl.le (Dl.abs (by with_reducible assumption)) (by omega)) | (refine Dl.le (Dl.mul (by with_reducible assumption) (by with_reducible assumption)) (by omega))) (by omega)
  have p16 : (szB b.hi) = true := by
    exact Dl.sz (k := 60) (by first | exact Dl.le (by with_reducible assumption) (by omega) | (refine Dl.le (of_dl (by with_reducible assumption) (by with_reducible assumption)) (by omega)) | (refine Dl.le (of_dl (Dl.abs (by with_reducible assumption)) (Dl.abs (by with_reducible assumption))) (by omega)) | (refine Dl.le (Dl.abs (by with_reducible assumption)) (by omega)) | (refine Dl.le (Dl.mul (by with_reducible assumption) (by with_reducible assumption)) (by omega))) (by omega)
  have p17 : (decide (ofZ a.lo b.lo true < 0) == decide (ofZ a.lo b.lo true < 0)) = true := by
    first | exact eqB _ | exact beq_self_eq_true _
  have p18 : (decide (ofZ a.hi b.hi true < 0) == decide (ofZ a.hi b.hi true < 0)) = true := by
    first | exact eqB _ | exact beq_self_eq_true _
  have p19 : (szB (ofZ a.lo b.lo true)) = true := by
    exact Dl.sz (k := 60) (by first | exact Dl.le (by with_reducible assumption) (by omega) | (refine Dl.le (of_dl (by with_reducible assumption) (by with_reducible assumption)) (by omega)) | (refine Dl.le (of_dl (Dl.abs (by with_reducible assumption)) (Dl.abs (by with_reducible assumption))) (by omega)) | (refine Dl.le (Dl.abs (by with_reducible assumption)) (by omega)) | (refine Dl.le (Dl.mul (by with_reducible assumption) (by with_reducible assumption)) (by omega))) (by omega)
  have p20 : (szB (ofZ a.hi b.hi true)) = true := by
    exact Dl.sz (k := 60) (by first | exact Dl.le (by with_reducible assumption) (by omega) | (refine Dl.le (of_dl (by with_reducible assumption) (by with_reducible assumption)) (by omega)) | (refine Dl.le (of_dl (Dl.abs (by with_reducible assumption)) (Dl.abs (by with_reducible assumption))) (by omega)) | (refine Dl.le (Dl.abs (by with_reducible assumption)) (by omega)) | (refine Dl.le (Dl.mul (by with_reducible assumption) (by with_reducible assumption)) (by omega))) (by omega)
  have p21 : (decide (ofZ a.lo b.lo false < 0) == decide (ofZ a.lo b.lo false < 0)) = true := by
    first | exact eqB _ | exact beq_self_eq_true _
  have p22 : (decide (ofZ a.hi b.hi false < 0) == decide (ofZ a.hi b.hi false < 0)) = true := by
    first | exact eqB _ | exact beq_self_eq_true _
  have p23 : (szB (ofZ a.lo b.lo false)) = true := by
    exact Dl.sz (k := 60) (by first | exact Dl.le (by with_reducible assumption) (by omega) | (refine Dl.le (of_dl (by with_reducible assumption) (by with_reducible assumption)) (by omega)) | (refine Dl.le (of_dl (Dl.abs (by with_reducible assumption)) (Dl.abs (by with_reducible assumption))) (by omega)) | (refine Dl.le (Dl.abs (by with_reducible assumption)) (by omega)) | (refine Dl.le (Dl.mul (by with_reducible assumption) (by with_reducible assumption)) (by omega))) (by omega)
  have p24 : (szB (ofZ a.hi b.hi false)) = true := by
    exact Dl.sz (k := 60) (by first | exact Dl.le (by with_reducible assumption) (by omega) | (refine Dl.le (of_dl (by with_reducible assumption) (by with_reducible assumption)) (by omega)) | (refine Dl.le (of_dl (Dl.abs (by with_reducible assumption)) (Dl.abs (by with_reducible assumption))) (by omega)) | (refine Dl.le (Dl.abs (by with_reducible assumption)) (by omega)) | (refine Dl.le (Dl.mul (by with_reducible assumption) (by with_reducible assumption)) (by omega))) (by omega)
  have p26 : (decide (absI a.lo < 0) == decide (absI a.lo < 0)) = true := by
    first | exact eqB _ | exact beq_self_eq_true _
  have p27 : (decide (absI a.hi < 0) == decide (absI a.hi < 0)) = true := by
    first | exact eqB _ | exact beq_self_eq_true _
  have p28 : (szB (absI a.lo)) = true := by
    exact Dl.sz (k := 60) (by first | exact Dl.le (by with_reducible assumption) (by omega) | (refine Dl.le (of_dl (by with_reducible assumption) (by with_reducible assumption)) (by omega)) | (refine Dl.le (of_dl (Dl.abs (by with_reducible assumption)) (Dl.abs (by with_reducible assumption))) (by omega)) | (refine Dl.le (Dl.abs (by with_reducible assumption)) (by omega)) | (refine Dl.le (Dl.mul (by with_reducible assumption) (by with_reducible assumption)) (by omega))) (by omega)
  have p29 : (szB (absI a.hi)) = true := by
    exact Dl.sz (k := 60) (by first | exact Dl.le (by with_reducible assumption) (by omega) | (refine Dl.le (of_dl (by with_reducible assumption) (by with_reducible assumption)) (by omega)) | (refine Dl.le (of_dl (Dl.abs (by with_reducible assumption)) (Dl.abs (by with_reducible assumption))) (by omega)) | (refine Dl.le (Dl.abs (by with_reducible assumption)) (by omega)) | (refine Dl.le (Dl.mul (by with_reducible assumption) (by with_reducible assumption)) (by omega))) (by omega)
  have p30 : (decide (ofZ (absI a.lo) (absI a.hi) true < 0) == decide (ofZ (absI a.lo) (absI a.hi) true < 0)) = true := by
    first | exact eqB _ | exact beq_self_eq_true _
  have p31 : (decide (ofZ (absI a.lo) (absI a.hi) false < 0) == decide (ofZ (absI a.lo) (absI a.hi) false < 0)) = true := by
    first | exact eqB _ | exact beq_self_eq_true _
  have p32 : (szB (ofZ (absI a.lo) (absI a.hi) true)) = true := by
    exact Dl.sz (k := 60) (by first | exact Dl.le (by with_reducible assumption) (by omega) | (refine Dl.le (of_dl (by with_reducible assumption) (by with_reducible assumption)) (by omega)) | (refine Dl.le (of_dl (Dl.abs (by with_reducible assumption)) (Dl.abs (by with_reducible assumption))) (by omega)) | (refine Dl.le (Dl.abs (by with_reducible assumption)) (by omega)) | (refine Dl.le (Dl.mul (by with_reducible assumption) (by with_reducible assumption)) (by omega))) (by omega)
  have p33 : (szB (ofZ (absI a.lo) (absI a.hi) false)) = true := by
    exact Dl.sz (k := 60) (by first | exact Dl.le (by with_reducible assumption) (by omega) | (refine Dl.le (of_dl (by with_reducible assumption) (by with_reducible assumption)) (by omega)) | (refine Dl.le (of_dl (Dl.abs (by with_reducible assumption)) (Dl.abs (by with_reducible assumption))) (by omega)) | (refine Dl.le (Dl.abs (by with_reducible assumption)) (by omega)) | (refine Dl.le (Dl.mul (by with_reducible assumption) (by with_reducible assumption)) (by omega))) (by omega)
  have p35 : ((minB a b).lo == (ofB (ofZ a.lo b.lo true) (ofZ a.hi b.hi true)).lo && ((minB a b).hi == (ofB (ofZ a.lo b.lo true) (ofZ a.hi b.hi true)).hi && ((minB a b).u == (ofB (ofZ a.lo b.lo true) (ofZ a.hi b.hi true)).u && true))) = true := by
    have e : (minB a b) = ((ofB (ofZ a.lo b.lo true) (ofZ a.hi b.hi true)) : Bd) := by
      simp only [minB, maxB, hullB, absB, meetB, normB, rootB, noneB, ka, kb, Bool.and_true, Bool.true_and, Bool.false_and, Bool.and_false, Bool.not_true, Bool.not_false, cond_true, cond_false, ofZ_t, ofZ_f, sg, tp, mc]
    rw [e]; simp
  have p36 : ((maxB a b).lo == (ofB (ofZ a.lo b.lo false) (ofZ a.hi b.hi false)).lo && ((maxB a b).hi == (ofB (ofZ a.lo b.lo false) (ofZ a.hi b.hi false)).hi && ((maxB a b).u == (ofB (ofZ a.lo b.lo false) (ofZ a.hi b.hi false)).u && true))) = true := by
    have e : (maxB a b) = ((ofB (ofZ a.lo b.lo false) (ofZ a.hi b.hi false)) : Bd) := by
      simp only [minB, maxB, hullB, absB, meetB, normB, rootB, noneB, ka, kb, Bool.and_true, Bool.true_and, Bool.false_and, Bool.and_false, Bool.not_true, Bool.not_false, cond_true, cond_false, ofZ_t, ofZ_f, sg, tp, mc]
    rw [e]; simp
  have p37 : ((hullB a b).lo == (ofB (ofZ a.lo b.lo true) (ofZ a.hi b.hi false)).lo && ((hullB a b).hi == (ofB (ofZ a.lo b.lo true) (ofZ a.hi b.hi false)).hi && ((hullB a b).u == (ofB (ofZ a.lo b.lo true) (ofZ a.hi b.hi false)).u && true))) = true := by
    have e : (hullB a b) = ((ofB (ofZ a.lo b.lo true) (ofZ a.hi b.hi false)) : Bd) := by
      simp only [minB, maxB, hullB, absB, meetB, normB, rootB, noneB, ka, kb, Bool.and_true, Bool.true_and, Bool.false_and, Bool.and_false, Bool.not_true, Bool.not_false, cond_true, cond_false, ofZ_t, ofZ_f, sg, tp, mc]
    rw [e]; simp
  have p38 : ((absB a).lo == (ofB (ofZ (absI a.lo) (absI a.hi) true) (ofZ (absI a.lo) (absI a.hi) false)).lo && ((absB a).hi == (ofB (ofZ (absI a.lo) (absI a.hi) true) (ofZ (absI a.lo) (absI a.hi) false)).hi && ((absB a).u == (ofB (ofZ (absI a.lo) (absI a.hi) true) (ofZ (absI a.lo) (absI a.hi) false)).u && true))) = true := by
    have e : (absB a) = ((ofB (ofZ (absI a.lo) (absI a.hi) true) (ofZ (absI a.lo) (absI a.hi) false)) : Bd) := by
      simp only [minB, maxB, hullB, absB, meetB, normB, rootB, noneB, ka, kb, Bool.and_true, Bool.true_and, Bool.false_and, Bool.and_false, Bool.not_true, Bool.not_false, cond_true, cond_false, ofZ_t, ofZ_f, sg, tp, mc]
    rw [e]; simp
  have p39 : ((meetB a b).lo == (ofB (ofZ a.lo b.lo false) (ofZ a.hi b.hi true)).lo && ((meetB a b).hi == (ofB (ofZ a.lo b.lo false) (ofZ a.hi b.hi true)).hi && ((meetB a b).u == (ofB (ofZ a.lo b.lo false) (ofZ a.hi b.hi true)).u && true))) = true := by
    have e : (meetB a b) = ((ofB (ofZ a.lo b.lo false) (ofZ a.hi b.hi true)) : Bd) := by
      simp only [minB, maxB, hullB, absB, meetB, normB, rootB, noneB, ka, kb, Bool.and_true, Bool.true_and, Bool.false_and, Bool.and_false, Bool.not_true, Bool.not_false, cond_true, cond_false, ofZ_t, ofZ_f, sg, tp, mc]
    rw [e]; simp
  exact evR_calls (I := numI) (v := .bool true) (ctxLp_ok libBoundPairs_ok eqBoundPairs_ok fnsBoundPairs_ok (fun _ _ _ => lps_nil)) (by kernel_rfl) Try.func5 rfl lps_nil L rfl (all2_R (.cons rfl (.cons rfl .nil))) (congrArg (fun b => some (Value.bool b)) V) _ (Nat.zero_le _) (pickL_ok (cd_cons k0 (cd_cons k3 (cd_cons p2 (cd_cons p3 (cd_cons k6 (cd_cons k8 (cd_cons p6 (cd_cons p7 (cd_cons p8 (cd_cons p9 (cd_cons p10 (cd_cons p11 (cd_cons p12 (cd_cons p13 (cd_cons p14 (cd_cons p15 (cd_cons p16 (cd_cons p17 (cd_cons p18 (cd_cons p19 (cd_cons p20 (cd_cons p21 (cd_cons p22 (cd_cons p23 (cd_cons p24 (cd_cons k10 (cd_cons p26 (cd_cons p27 (cd_cons p28 (cd_cons p29 (cd_cons p30 (cd_cons p31 (cd_cons p32 (cd_cons p33 (cd_cons k11 (cd_cons p35 (cd_cons p36 (cd_cons p37 (cd_cons p38 (cd_cons p39 cd_nil)))))))))))))))))))))))))))))))))))))))) _)
set_option maxRecDepth 100000 in
theorem boundPairs_w12 (a : Bd) (b : Bd) (W : World)  (k0 : (chkB a != 0) = false) (k3 : (a.u) = false) (k6 : (chkB b != 0) = false) (k8 : (b.u) = false) (k10 : (cmpI a.lo 0 == cmpI a.hi 0) = false) (k12 : ((ofB (ofZ a.lo b.lo false) (ofZ a.hi b.hi true)).u) = true) : Calls Try.prog 5 #[bV a, bV b] W fun e w' => e = .returned (.bool true) ∧ Below W.heap.size W w' := by
  have L := boundPairs_000001111111 a b
  have ka : knB a = true := kn_ok k0 k3
  obtain ⟨au, a1, a2, a3⟩ := knB_iff.1 ka
  obtain ⟨a4, a5⟩ := i64_kn ka
  have a6 := Dl.i64 a4
  have a7 := Dl.i64 a5
  have kb : knB b = true := kn_ok k6 k8
  obtain ⟨bu, b1, b2, b3⟩ := knB_iff.1 kb
  obtain ⟨b4, b5⟩ := i64_kn kb
  have b6 := Dl.i64 b4
  have b7 := Dl.i64 b5
  have sg := sgn_diff a2 k10
  have tp := abs_top a2
  have mu := meet_u ka kb
  rw [← ofZ_f a.lo b.lo, ← ofZ_t a.hi b.hi, k12] at mu
  have mc : (cmpB a b == 0) = false := by simpa using mu.symm
  have V : (meetO a b == false) = true := by
    simp [hasB, insB, widV, normB, meetO, noneB, cmp_lt', cmp_gt, cmp_le0, cmp_ge0, mc, ka, kb]
    all_goals omega
  have p2 : (i64B a.lo) = true := by
    first | with_reducible assumption | decide
  have p3 : (i64B a.hi) = true := by
    first | with_reducible assumption | decide
  have p6 : (i64B b.lo) = true := by
    first | with_reducible assumption | decide
  have p7 : (i64B b.hi) = true := by
    first | with_reducible assumption | decide
  have p8 : (true) = true := by
    rfl
  have p9 : (decide (a.lo < 0) == decide (a.lo < 0)) = true := by
    first | exact eqB _ | exact beq_self_eq_true _
  have p10 : (decide (b.lo < 0) == decide (b.lo < 0)) = true := by
    first | exact eqB _ | exact beq_self_eq_true _
  have p11 : (szB a.lo) = true := by
    exact Dl.sz (k := 60) (by first | exact Dl.le (by with_reducible assumption) (by omega) | (refine Dl.le (of_dl (by with_reducible assumption) (by with_reducible assumption)) (by omega)) | (refine Dl.le (of_dl (Dl.abs (by with_reducible assumption)) (Dl.abs (by with_reducible assumption))) (by omega)) | (refine Dl.le (Dl.abs (by with_reducible assumption)) (by omega)) | (refine Dl.le (Dl.mul (by with_reducible assumption) (by with_reducible assumption)) (by omega))) (by omega)
  have p12 : (szB b.lo) = true := by
    exact Dl.sz (k := 60) (by first | exact Dl.le (by with_reducible assumption) (by omega) | (refine Dl.le (of_dl (by with_reducible assumption) (by with_reducible assumption)) (by omega)) | (refine Dl.le (of_dl (Dl.abs (by with_reducible assumption)) (Dl.abs (by with_reducible assumption))) (by omega)) | (refine Dl.le (Dl.abs (by with_reducible assumption)) (by omega)) | (refine Dl.le (Dl.mul (by with_reducible assumption) (by with_reducible assumption)) (by omega))) (by omega)
  have p13 : (decide (a.hi < 0) == decide (a.hi < 0)) = true := by
    first | exact eqB _ | exact beq_self_eq_true _
  have p14 : (decide (b.hi < 0) == decide (b.hi < 0)) = true := by
    first | exact eqB _ | exact beq_self_eq_true _
  have p15 : (szB a.hi) = true := by
    exact Dl.sz (k := 60) (by first | exact Dl.le (by with_reducible assumption) (by omega) | (refine Dl.le (of_dl (by with_reducible assumption) (by with_reducible assumption)) (by omega)) | (refine Dl.le (of_dl (Dl.abs (by with_reducible assumption)) (Dl.abs (by with_reducible assumption))) (by omega)) | (refine Dl.le (Dl.abs (by with_reducible assumption)) (by omega)) | (refine Dl.le (Dl.mul (by with_reducible assumption) (by with_reducible assumption)) (by omega))) (by omega)
  have p16 : (szB b.hi) = true := by
    exact Dl.sz (k := 60) (by first | exact Dl.le (by with_reducible assumption) (by omega) | (refine Dl.le (of_dl (by with_reducible assumption) (by with_reducible assumption)) (by omega)) | (refine Dl.le (of_dl (Dl.abs (by with_reducible assumption)) (Dl.abs (by with_reducible assumption))) (by omega)) | (refine Dl.le (Dl.abs (by with_reducible assumption)) (by omega)) | (refine Dl.le (Dl.mul (by with_reducible assumption) (by with_reducible assumption)) (by omega))) (by omega)
  have p17 : (decide (ofZ a.lo b.lo true < 0) == decide (ofZ a.lo b.lo true < 0)) = true := by
    first | exact eqB _ | exact beq_self_eq_true _
  have p18 : (decide (ofZ a.hi b.hi true < 0) == decide (ofZ a.hi b.hi true < 0)) = true := by
    first | exact eqB _ | exact beq_self_eq_true _
  have p19 : (szB (ofZ a.lo b.lo true)) = true := by
    exact Dl.sz (k := 60) (by first | exact Dl.le (by with_reducible assumption) (by omega) | (refine Dl.le (of_dl (by with_reducible assumption) (by with_reducible assumption)) (by omega)) | (refine Dl.le (of_dl (Dl.abs (by with_reducible assumption)) (Dl.abs (by with_reducible assumption))) (by omega)) | (refine Dl.le (Dl.abs (by with_reducible assumption)) (by omega)) | (refine Dl.le (Dl.mul (by with_reducible assumption) (by with_reducible assumption)) (by omega))) (by omega)
  have p20 : (szB (ofZ a.hi b.hi true)) = true := by
    exact Dl.sz (k := 60) (by first | exact Dl.le (by with_reducible assumption) (by omega) | (refine Dl.le (of_dl (by with_reducible assumption) (by with_reducible assumption)) (by omega)) | (refine Dl.le (of_dl (Dl.abs (by with_reducible assumption)) (Dl.abs (by with_reducible assumption))) (by omega)) | (refine Dl.le (Dl.abs (by with_reducible assumption)) (by omega)) | (refine Dl.le (Dl.mul (by with_reducible assumption) (by with_reducible assumption)) (by omega))) (by omega)
  have p21 : (decide (ofZ a.lo b.lo false < 0) == decide (ofZ a.lo b.lo false < 0)) = true := by
    first | exact eqB _ | exact beq_self_eq_true _
  have p22 : (decide (ofZ a.hi b.hi false < 0) == decide (ofZ a.hi b.hi false < 0)) = true := by
    first | exact eqB _ | exact beq_self_eq_true _
  have p23 : (szB (ofZ a.lo b.lo false)) = true := by
    exact Dl.sz (k := 60) (by first | exact Dl.le (by with_reducible assumption) (by omega) | (refine Dl.le (of_dl (by with_reducible assumption) (by with_reducible assumption)) (by omega)) | (refine Dl.le (of_dl (Dl.abs (by with_reducible assumption)) (Dl.abs (by with_reducible assumption))) (by omega)) | (refine Dl.le (Dl.abs (by with_reducible assumption)) (by omega)) | (refine Dl.le (Dl.mul (by with_reducible assumption) (by with_reducible assumption)) (by omega))) (by omega)
  have p24 : (szB (ofZ a.hi b.hi false)) = true := by
    exact Dl.sz (k := 60) (by first | exact Dl.le (by with_reducible assumption) (by omega) | (refine Dl.le (of_dl (by with_reducible assumption) (by with_reducible assumption)) (by omega)) | (refine Dl.le (of_dl (Dl.abs (by with_reducible assumption)) (Dl.abs (by with_reducible assumption))) (by omega)) | (refine Dl.le (Dl.abs (by with_reducible assumption)) (by omega)) | (refine Dl.le (Dl.mul (by with_reducible assumption) (by with_reducible assumption)) (by omega))) (by omega)
  have p26 : (decide (absI a.lo < 0) == decide (absI a.lo < 0)) = true := by
    first | exact eqB _ | exact beq_self_eq_true _
  have p27 : (decide (absI a.hi < 0) == decide (absI a.hi < 0)) = true := by
    first | exact eqB _ | exact beq_self_eq_true _
  have p28 : (szB (absI a.lo)) = true := by
    exact Dl.sz (k := 60) (by first | exact Dl.le (by with_reducible assumption) (by omega) | (refine Dl.le (of_dl (by with_reducible assumption) (by with_reducible assumption)) (by omega)) | (refine Dl.le (of_dl (Dl.abs (by with_reducible assumption)) (Dl.abs (by with_reducible assumption))) (by omega)) | (refine Dl.le (Dl.abs (by with_reducible assumption)) (by omega)) | (refine Dl.le (Dl.mul (by with_reducible assumption) (by with_reducible assumption)) (by omega))) (by omega)
  have p29 : (szB (absI a.hi)) = true := by
    exact Dl.sz (k := 60) (by first | exact Dl.le (by with_reducible assumption) (by omega) | (refine Dl.le (of_dl (by with_reducible assumption) (by with_reducible assumption)) (by omega)) | (refine Dl.le (of_dl (Dl.abs (by with_reducible assumption)) (Dl.abs (by with_reducible assumption))) (by omega)) | (refine Dl.le (Dl.abs (by with_reducible assumption)) (by omega)) | (refine Dl.le (Dl.mul (by with_reducible assumption) (by with_reducible assumption)) (by omega))) (by omega)
  have p30 : (decide (ofZ (absI a.lo) (absI a.hi) false < 0) == decide (ofZ (absI a.lo) (absI a.hi) false < 0)) = true := by
    first | exact eqB _ | exact beq_self_eq_true _
  have p31 : (szB (ofZ (absI a.lo) (absI a.hi) false)) = true := by
    exact Dl.sz (k := 60) (by first | exact Dl.le (by with_reducible assumption) (by omega) | (refine Dl.le (of_dl (by with_reducible assumption) (by with_reducible assumption)) (by omega)) | (refine Dl.le (of_dl (Dl.abs (by with_reducible assumption)) (Dl.abs (by with_reducible assumption))) (by omega)) | (refine Dl.le (Dl.abs (by with_reducible assumption)) (by omega)) | (refine Dl.le (Dl.mul (by with_reducible assumption) (by with_reducible assumption)) (by omega))) (by omega)
  have p33 : ((minB a b).lo == (ofB (ofZ a.lo b.lo true) (ofZ a.hi b.hi true)).lo && ((minB a b).hi == (ofB (ofZ a.lo b.lo true) (ofZ a.hi b.hi true)).hi && ((minB a b).u == (ofB (ofZ a.lo b.lo true) (ofZ a.hi b.hi true)).u && true))) = true := by
    have e : (minB a b) = ((ofB (ofZ a.lo b.lo true) (ofZ a.hi b.hi true)) : Bd) := by
      simp only [minB, maxB, hullB, absB, meetB, normB, rootB, noneB, ka, kb, Bool.and_true, Bool.true_and, Bool.false_and, Bool.and_false, Bool.not_true, Bool.not_false, cond_true, cond_false, ofZ_t, ofZ_f, sg, tp, mc]
    rw [e]; simp
  have p34 : ((maxB a b).lo == (ofB (ofZ a.lo b.lo false) (ofZ a.hi b.hi false)).lo && ((maxB a b).hi == (ofB (ofZ a.lo b.lo false) (ofZ a.hi b.hi false)).hi && ((maxB a b).u == (ofB (ofZ a.lo b.lo false) (ofZ a.hi b.hi false)).u && true))) = true := by
    have e : (maxB a b) = ((ofB (ofZ a.lo b.lo false) (ofZ a.hi b.hi false)) : Bd) := by
      simp only [minB, maxB, hullB, absB, meetB, normB, rootB, noneB, ka, kb, Bool.and_true, Bool.true_and, Bool.false_and, Bool.and_false, Bool.not_true, Bool.not_false, cond_true, cond_false, ofZ_t, ofZ_f, sg, tp, mc]
    rw [e]; simp
  have p35 : ((hullB a b).lo == (ofB (ofZ a.lo b.lo true) (ofZ a.hi b.hi false)).lo && ((hullB a b).hi == (ofB (ofZ a.lo b.lo true) (ofZ a.hi b.hi false)).hi && ((hullB a b).u == (ofB (ofZ a.lo b.lo true) (ofZ a.hi b.hi false)).u && true))) = true := by
    have e : (hullB a b) = ((ofB (ofZ a.lo b.lo true) (ofZ a.hi b.hi false)) : Bd) := by
      simp only [minB, maxB, hullB, absB, meetB, normB, rootB, noneB, ka, kb, Bool.and_true, Bool.true_and, Bool.false_and, Bool.and_false, Bool.not_true, Bool.not_false, cond_true, cond_false, ofZ_t, ofZ_f, sg, tp, mc]
    rw [e]; simp
  have p36 : ((absB a).lo == (ofB 0 (ofZ (absI a.lo) (absI a.hi) false)).lo && ((absB a).hi == (ofB 0 (ofZ (absI a.lo) (absI a.hi) false)).hi && ((absB a).u == (ofB 0 (ofZ (absI a.lo) (absI a.hi) false)).u && true))) = true := by
    have e : (absB a) = ((ofB 0 (ofZ (absI a.lo) (absI a.hi) false)) : Bd) := by
      simp only [minB, maxB, hullB, absB, meetB, normB, rootB, noneB, ka, kb, Bool.and_true, Bool.true_and, Bool.false_and, Bool.and_false, Bool.not_true, Bool.not_false, cond_true, cond_false, ofZ_t, ofZ_f, sg, tp, mc]
    rw [e]; simp
  have p37 : ((meetB a b).lo == 0 && ((meetB a b).hi == 0 && ((meetB a b).u == false && true))) = true := by
    have e : (meetB a b) = (⟨0, 0, false⟩ : Bd) := by
      simp only [minB, maxB, hullB, absB, meetB, normB, rootB, noneB, ka, kb, Bool.and_true, Bool.true_and, Bool.false_and, Bool.and_false, Bool.not_true, Bool.not_false, cond_true, cond_false, ofZ_t, ofZ_f, sg, tp, mc]
    rw [e]; simp
  exact evR_calls (I := numI) (v := .bool true) (ctxLp_ok libBoundPairs_ok eqBoundPairs_ok fnsBoundPairs_ok (fun _ _ _ => lps_nil)) (by kernel_rfl) Try.func5 rfl lps_nil L rfl (all2_R (.cons rfl (.cons rfl .nil))) (congrArg (fun b => some (Value.bool b)) V) _ (Nat.zero_le _) (pickL_ok (cd_cons k0 (cd_cons k3 (cd_cons p2 (cd_cons p3 (cd_cons k6 (cd_cons k8 (cd_cons p6 (cd_cons p7 (cd_cons p8 (cd_cons p9 (cd_cons p10 (cd_cons p11 (cd_cons p12 (cd_cons p13 (cd_cons p14 (cd_cons p15 (cd_cons p16 (cd_cons p17 (cd_cons p18 (cd_cons p19 (cd_cons p20 (cd_cons p21 (cd_cons p22 (cd_cons p23 (cd_cons p24 (cd_cons k10 (cd_cons p26 (cd_cons p27 (cd_cons p28 (cd_cons p29 (cd_cons p30 (cd_cons p31 (cd_cons k12 (cd_cons p33 (cd_cons p34 (cd_cons p35 (cd_cons p36 (cd_cons p37 cd_nil)))))))))))))))))))))))))))))))))))))) _)
set_option maxRecDepth 100000 in
theorem boundPairs_w13 (a : Bd) (b : Bd) (W : World)  (k0 : (chkB a != 0) = false) (k3 : (a.u) = false) (k6 : (chkB b != 0) = false) (k8 : (b.u) = false) (k10 : (cmpI a.lo 0 == cmpI a.hi 0) = false) (k12 : ((ofB (ofZ a.lo b.lo false) (ofZ a.hi b.hi true)).u) = false) : Calls Try.prog 5 #[bV a, bV b] W fun e w' => e = .returned (.bool true) ∧ Below W.heap.size W w' := by
  have L := boundPairs_000000111111 a b
  have ka : knB a = true := kn_ok k0 k3
  obtain ⟨au, a1, a2, a3⟩ := knB_iff.1 ka
  obtain ⟨a4, a5⟩ := i64_kn ka
  have a6 := Dl.i64 a4
  have a7 := Dl.i64 a5
  have kb : knB b = true := kn_ok k6 k8
  obtain ⟨bu, b1, b2, b3⟩ := knB_iff.1 kb
  obtain ⟨b4, b5⟩ := i64_kn kb
  have b6 := Dl.i64 b4
  have b7 := Dl.i64 b5
  have sg := sgn_diff a2 k10
  have tp := abs_top a2
  have mu := meet_u ka kb
  rw [← ofZ_f a.lo b.lo, ← ofZ_t a.hi b.hi, k12] at mu
  have mc : (cmpB a b == 0) = true := by simpa using mu.symm
  have V : (meetO a b == true) = true := by
    simp [hasB, insB, widV, normB, meetO, noneB, cmp_lt', cmp_gt, cmp_le0, cmp_ge0, mc, ka, kb]
    all_goals omega
  have p2 : (i64B a.lo) = true := by
    first | with_reducible assumption | decide
  have p3 : (i64B a.hi) = true := by
    first | with_reducible assumption | decide
  have p6 : (i64B b.lo) = true := by
    first | with_reducible assumption | decide
  have p7 : (i64B b.hi) = true := by
    first | with_reducible assumption | decide
  have p8 : (true) = true := by
    rfl
  have p9 : (decide (a.lo < 0) == decide (a.lo < 0)) = true := by
    first | exact eqB _ | exact beq_self_eq_true _
  have p10 : (decide (b.lo < 0) == decide (b.lo < 0)) = true := by
    first | exact eqB _ | exact beq_self_eq_true _
  have p11 : (szB a.lo) = true := by
    exact Dl.sz (k := 60) (by first | exact Dl.le (by with_reducible assumption) (by omega) | (refine Dl.le (of_dl (by with_reducible assumption) (by with_reducible assumption)) (by omega)) | (refine Dl.le (of_dl (Dl.abs (by with_reducible assumption)) (Dl.abs (by with_reducible assumption))) (by omega)) | (refine Dl.le (Dl.abs (by with_reducible assumption)) (by omega)) | (refine Dl.le (Dl.mul (by with_reducible assumption) (by with_reducible assumption)) (by omega))) (by omega)
  have p12 : (szB b.lo) = true := by
    exact Dl.sz (k := 60) (by first | exact Dl.le (by with_reducible assumption) (by omega) | (refine Dl.le (of_dl (by with_reducible assumption) (by with_reducible assumption)) (by omega)) | (refine Dl.le (of_dl (Dl.abs (by with_reducible assumption)) (Dl.abs (by with_reducible assumption))) (by omega)) | (refine Dl.le (Dl.abs (by with_reducible assumption)) (by omega)) | (refine Dl.le (Dl.mul (by with_reducible assumption) (by with_reducible assumption)) (by omega))) (by omega)
  have p13 : (decide (a.hi < 0) == decide (a.hi < 0)) = true := by
    first | exact eqB _ | exact beq_self_eq_true _
  have p14 : (decide (b.hi < 0) == decide (b.hi < 0)) = true := by
    first | exact eqB _ | exact beq_self_eq_true _
  have p15 : (szB a.hi) = true := by
    exact Dl.sz (k := 60) (by first | exact Dl.le (by with_reducible assumption) (by omega) | (refine Dl.le (of_dl (by with_reducible assumption) (by with_reducible assumption)) (by omega)) | (refine Dl.le (of_dl (Dl.abs (by with_reducible assumption)) (Dl.abs (by with_reducible assumption))) (by omega)) | (refine Dl.le (Dl.abs (by with_reducible assumption)) (by omega)) | (refine Dl.le (Dl.mul (by with_reducible assumption) (by with_reducible assumption)) (by omega))) (by omega)
  have p16 : (szB b.hi) = true := by
    exact Dl.sz (k := 60) (by first | exact Dl.le (by with_reducible assumption) (by omega) | (refine Dl.le (of_dl (by with_reducible assumption) (by with_reducible assumption)) (by omega)) | (refine Dl.le (of_dl (Dl.abs (by with_reducible assumption)) (Dl.abs (by with_reducible assumption))) (by omega)) | (refine Dl.le (Dl.abs (by with_reducible assumption)) (by omega)) | (refine Dl.le (Dl.mul (by with_reducible assumption) (by with_reducible assumption)) (by omega))) (by omega)
  have p17 : (decide (ofZ a.lo b.lo true < 0) == decide (ofZ a.lo b.lo true < 0)) = true := by
    first | exact eqB _ | exact beq_self_eq_true _
  have p18 : (decide (ofZ a.hi b.hi true < 0) == decide (ofZ a.hi b.hi true < 0)) = true := by
    first | exact eqB _ | exact beq_self_eq_true _
  have p19 : (szB (ofZ a.lo b.lo true)) = true := by
    exact Dl.sz (k := 60) (by first | exact Dl.le (by with_reducible assumption) (by omega) | (refine Dl.le (of_dl (by with_reducible assumption) (by with_reducible assumption)) (by omega)) | (refine Dl.le (of_dl (Dl.abs (by with_reducible assumption)) (Dl.abs (by with_reducible assumption))) (by omega)) | (refine Dl.le (Dl.abs (by with_reducible assumption)) (by omega)) | (refine Dl.le (Dl.mul (by with_reducible assumption) (by with_reducible assumption)) (by omega))) (by omega)
  have p20 : (szB (ofZ a.hi b.hi true)) = true := by
    exact Dl.sz (k := 60) (by first | exact Dl.le (by with_reducible assumption) (by omega) | (refine Dl.le (of_dl (by with_reducible assumption) (by with_reducible assumption)) (by omega)) | (refine Dl.le (of_dl (Dl.abs (by with_reducible assumption)) (Dl.abs (by with_reducible assumption))) (by omega)) | (refine Dl.le (Dl.abs (by with_reducible assumption)) (by omega)) | (refine Dl.le (Dl.mul (by with_reducible assumption) (by with_reducible assumption)) (by omega))) (by omega)
  have p21 : (decide (ofZ a.lo b.lo false < 0) == decide (ofZ a.lo b.lo false < 0)) = true := by
    first | exact eqB _ | exact beq_self_eq_true _
  have p22 : (decide (ofZ a.hi b.hi false < 0) == decide (ofZ a.hi b.hi false < 0)) = true := by
    first | exact eqB _ | exact beq_self_eq_true _
  have p23 : (szB (ofZ a.lo b.lo false)) = true := by
    exact Dl.sz (k := 60) (by first | exact Dl.le (by with_reducible assumption) (by omega) | (refine Dl.le (of_dl (by with_reducible assumption) (by with_reducible assumption)) (by omega)) | (refine Dl.le (of_dl (Dl.abs (by with_reducible assumption)) (Dl.abs (by with_reducible assumption))) (by omega)) | (refine Dl.le (Dl.abs (by with_reducible assumption)) (by omega)) | (refine Dl.le (Dl.mul (by with_reducible assumption) (by with_reducible assumption)) (by omega))) (by omega)
  have p24 : (szB (ofZ a.hi b.hi false)) = true := by
    exact Dl.sz (k := 60) (by first | exact Dl.le (by with_reducible assumption) (by omega) | (refine Dl.le (of_dl (by with_reducible assumption) (by with_reducible assumption)) (by omega)) | (refine Dl.le (of_dl (Dl.abs (by with_reducible assumption)) (Dl.abs (by with_reducible assumption))) (by omega)) | (refine Dl.le (Dl.abs (by with_reducible assumption)) (by omega)) | (refine Dl.le (Dl.mul (by with_reducible assumption) (by with_reducible assumption)) (by omega))) (by omega)
  have p26 : (decide (absI a.lo < 0) == decide (absI a.lo < 0)) = true := by
    first | exact eqB _ | exact beq_self_eq_true _
  have p27 : (decide (absI a.hi < 0) == decide (absI a.hi < 0)) = true := by
    first | exact eqB _ | exact beq_self_eq_true _
  have p28 : (szB (absI a.lo)) = true := by
    exact Dl.sz (k := 60) (by first | exact Dl.le (by with_reducible assumption) (by omega) | (refine Dl.le (of_dl (by with_reducible assumption) (by with_reducible assumption)) (by omega)) | (refine Dl.le (of_dl (Dl.abs (by with_reducible assumption)) (Dl.abs (by with_reducible assumption))) (by omega)) | (refine Dl.le (Dl.abs (by with_reducible assumption)) (by omega)) | (refine Dl.le (Dl.mul (by with_reducible assumption) (by with_reducible assumption)) (by omega))) (by omega)
  have p29 : (szB (absI a.hi)) = true := by
    exact Dl.sz (k := 60) (by first | exact Dl.le (by with_reducible assumption) (by omega) | (refine Dl.le (of_dl (by with_reducible assumption) (by with_reducible assumption)) (by omega)) | (refine Dl.le (of_dl (Dl.abs (by with_reducible assumption)) (Dl.abs (by with_reducible assumption))) (by omega)) | (refine Dl.le (Dl.abs (by with_reducible assumption)) (by omega)) | (refine Dl.le (Dl.mul (by with_reducible assumption) (by with_reducible assumption)) (by omega))) (by omega)
  have p30 : (decide (ofZ (absI a.lo) (absI a.hi) false < 0) == decide (ofZ (absI a.lo) (absI a.hi) false < 0)) = true := by
    first | exact eqB _ | exact beq_self_eq_true _
  have p31 : (szB (ofZ (absI a.lo) (absI a.hi) false)) = true := by
    exact Dl.sz (k := 60) (by first | exact Dl.le (by with_reducible assumption) (by omega) | (refine Dl.le (of_dl (by with_reducible assumption) (by with_reducible assumption)) (by omega)) | (refine Dl.le (of_dl (Dl.abs (by with_reducible assumption)) (Dl.abs (by with_reducible assumption))) (by omega)) | (refine Dl.le (Dl.abs (by with_reducible assumption)) (by omega)) | (refine Dl.le (Dl.mul (by with_reducible assumption) (by with_reducible assumption)) (by omega))) (by omega)
  have p33 : ((minB a b).lo == (ofB (ofZ a.lo b.lo true) (ofZ a.hi b.hi true)).lo && ((minB a b).hi == (ofB (ofZ a.lo b.lo true) (ofZ a.hi b.hi true)).hi && ((minB a b).u == (ofB (ofZ a.lo b.lo true) (ofZ a.hi b.hi true)).u && true))) = true := by
    have e : (minB a b) = ((ofB (ofZ a.lo b.lo true) (ofZ a.hi b.hi true)) : Bd) := by
      simp only [minB, maxB, hullB, absB, meetB, normB, rootB, noneB, ka, kb, Bool.and_true, Bool.true_and, Bool.false_and, Bool.and_false, Bool.not_true, Bool.not_false, cond_true, cond_false, ofZ_t, ofZ_f, sg, tp, mc]
    rw [e]; simp
  have p34 : ((maxB a b).lo == (ofB (ofZ a.lo b.lo false) (ofZ a.hi b.hi false)).lo && ((maxB a b).hi == (ofB (ofZ a.lo b.lo false) (ofZ a.hi b.hi false)).hi && ((maxB a b).u == (ofB (ofZ a.lo b.lo false) (ofZ a.hi b.hi false)).u && true))) = true := by
    have e : (maxB a b) = ((ofB (ofZ a.lo b.lo false) (ofZ a.hi b.hi false)) : Bd) := by
      simp only [minB, maxB, hullB, absB, meetB, normB, rootB, noneB, ka, kb, Bool.and_true, Bool.true_and, Bool.false_and, Bool.and_false, Bool.not_true, Bool.not_false, cond_true, cond_false, ofZ_t, ofZ_f, sg, tp, mc]
    rw [e]; simp
  have p35 : ((hullB a b).lo == (ofB (ofZ a.lo b.lo true) (ofZ a.hi b.hi false)).lo && ((hullB a b).hi == (ofB (ofZ a.lo b.lo true) (ofZ a.hi b.hi false)).hi && ((hullB a b).u == (ofB (ofZ a.lo b.lo true) (ofZ a.hi b.hi false)).u && true))) = true := by
    have e : (hullB a b) = ((ofB (ofZ a.lo b.lo true) (ofZ a.hi b.hi false)) : Bd) := by
      simp only [minB, maxB, hullB, absB, meetB, normB, rootB, noneB, ka, kb, Bool.and_true, Bool.true_and, Bool.false_and, Bool.and_false, Bool.not_true, Bool.not_false, cond_true, cond_false, ofZ_t, ofZ_f, sg, tp, mc]
    rw [e]; simp
  have p36 : ((absB a).lo == (ofB 0 (ofZ (absI a.lo) (absI a.hi) false)).lo && ((absB a).hi == (ofB 0 (ofZ (absI a.lo) (absI a.hi) false)).hi && ((absB a).u == (ofB 0 (ofZ (absI a.lo) (absI a.hi) false)).u && true))) = true := by
    have e : (absB a) = ((ofB 0 (ofZ (absI a.lo) (absI a.hi) false)) : Bd) := by
      simp only [minB, maxB, hullB, absB, meetB, normB, rootB, noneB, ka, kb, Bool.and_true, Bool.true_and, Bool.false_and, Bool.and_false, Bool.not_true, Bool.not_false, cond_true, cond_false, ofZ_t, ofZ_f, sg, tp, mc]
    rw [e]; simp
  have p37 : ((meetB a b).lo == (ofB (ofZ a.lo b.lo false) (ofZ a.hi b.hi true)).lo && ((meetB a b).hi == (ofB (ofZ a.lo b.lo false) (ofZ a.hi b.hi true)).hi && ((meetB a b).u == (ofB (ofZ a.lo b.lo false) (ofZ a.hi b.hi true)).u && true))) = true := by
    have e : (meetB a b) = ((ofB (ofZ a.lo b.lo false) (ofZ a.hi b.hi true)) : Bd) := by
      simp only [minB, maxB, hullB, absB, meetB, normB, rootB, noneB, ka, kb, Bool.and_true, Bool.true_and, Bool.false_and, Bool.and_false, Bool.not_true, Bool.not_false, cond_true, cond_false, ofZ_t, ofZ_f, sg, tp, mc]
    rw [e]; simp
  exact evR_calls (I := numI) (v := .bool true) (ctxLp_ok libBoundPairs_ok eqBoundPairs_ok fnsBoundPairs_ok (fun _ _ _ => lps_nil)) (by kernel_rfl) Try.func5 rfl lps_nil L rfl (all2_R (.cons rfl (.cons rfl .nil))) (congrArg (fun b => some (Value.bool b)) V) _ (Nat.zero_le _) (pickL_ok (cd_cons k0 (cd_cons k3 (cd_cons p2 (cd_cons p3 (cd_cons k6 (cd_cons k8 (cd_cons p6 (cd_cons p7 (cd_cons p8 (cd_cons p9 (cd_cons p10 (cd_cons p11 (cd_cons p12 (cd_cons p13 (cd_cons p14 (cd_cons p15 (cd_cons p16 (cd_cons p17 (cd_cons p18 (cd_cons p19 (cd_cons p20 (cd_cons p21 (cd_cons p22 (cd_cons p23 (cd_cons p24 (cd_cons k10 (cd_cons p26 (cd_cons p27 (cd_cons p28 (cd_cons p29 (cd_cons p30 (cd_cons p31 (cd_cons k12 (cd_cons p33 (cd_cons p34 (cd_cons p35 (cd_cons p36 (cd_cons p37 cd_nil)))))))))))))))))))))))))))))))))))))) _)
set_option maxRecDepth 100000 in
theorem boundPairs_law (a : Bd) (b : Bd) (W : World)  : Calls Try.prog 5 #[bV a, bV b] W fun e w' => e = .returned (.bool true) ∧ Below W.heap.size W w' := by
  cases k0 : (chkB a != 0) with
  | true =>
    cases k1 : (chkB b != 0) with
    | true =>
      exact boundPairs_w0 a b W  k0 k1
    | false =>
      cases k2 : (b.u) with
      | true =>
        exact boundPairs_w1 a b W  k0 k1 k2
      | false =>
        exact boundPairs_w2 a b W  k0 k1 k2
  | false =>
    cases k3 : (a.u) with
    | true =>
      cases k4 : (chkB b != 0) with
      | true =>
        exact boundPairs_w3 a b W  k0 k3 k4
      | false =>
        cases k5 : (b.u) with
        | true =>
          exact boundPairs_w4 a b W  k0 k3 k4 k5
        | false =>
          exact boundPairs_w5 a b W  k0 k3 k4 k5
    | false =>
      cases k6 : (chkB b != 0) with
      | true =>
        cases k7 : (cmpI a.lo 0 == cmpI a.hi 0) with
        | true =>
          exact boundPairs_w6 a b W  k0 k3 k6 k7
        | false =>
          exact boundPairs_w7 a b W  k0 k3 k6 k7
      | false =>
        cases k8 : (b.u) with
        | true =>
          cases k9 : (cmpI a.lo 0 == cmpI a.hi 0) with
          | true =>
            exact boundPairs_w8 a b W  k0 k3 k6 k8 k9
          | false =>
            exact boundPairs_w9 a b W  k0 k3 k6 k8 k9
        | false =>
          cases k10 : (cmpI a.lo 0 == cmpI a.hi 0) with
          | true =>
            cases k11 : ((ofB (ofZ a.lo b.lo false) (ofZ a.hi b.hi true)).u) with
            | true =>
              exact boundPairs_w10 a b W  k0 k3 k6 k8 k10 k11
            | false =>
              exact boundPairs_w11 a b W  k0 k3 k6 k8 k10 k11
          | false =>
            cases k12 : ((ofB (ofZ a.lo b.lo false) (ofZ a.hi b.hi true)).u) with
            | true =>
              exact boundPairs_w12 a b W  k0 k3 k6 k8 k10 k12
            | false =>
              exact boundPairs_w13 a b W  k0 k3 k6 k8 k10 k12
theorem i64_ok {x : Int} (h : okK (some .i64) x) : i64B x = true := i64B_iff.2 (okK_i64 h)
theorem boundPairs_walk (W : World) (al : Int) (hal : okK (some .i64) al) (ah : Int) (hah : okK (some .i64) ah) (au : Bool) (bl : Int) (hbl : okK (some .i64) bl) (bh : Int) (hbh : okK (some .i64) bh) (bu : Bool) :
    Calls Try.prog 5 #[.agg #[.int .i64 al, .int .i64 ah, .bool au], .agg #[.int .i64 bl, .int .i64 bh, .bool bu]] W fun e w' => e = .returned (.bool true) ∧ Below W.heap.size W w' :=
  boundPairs_law ⟨al, ah, au⟩ ⟨bl, bh, bu⟩ W 
end
end Go.Proofs.Ytjegnlnnjcchaaa.AtBr

