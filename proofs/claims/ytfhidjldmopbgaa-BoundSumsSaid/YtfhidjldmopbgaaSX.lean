/-
  The walk of BoundSums: its numbers' part, its loop, and Total, Sum and the comparisons, each under the interpretation that serves it.
  Conditions: those of each theorem.
-/
import Derived.Test.YtfhidjldmopbgaaSW
import Derived.Test.YtfhidjldmopbgaaGO
set_option linter.unusedVariables false
set_option linter.unusedSimpArgs false
namespace Go.Proofs.Ytfhidjldmopbgaa.AtBr
open Ev Go.RowKit Go.Shelf Wd Zd
open Go.Proofs.Ytfhidjldmopbgaa
noncomputable section
theorem ruL_eq : ∀ (T : List (List Int)) (s : Bd) (k : Int), s.u = false → ruL T s k = (ruB T s k).1
  | [], s, k, h => rfl
  | r :: T, s, k, h => by
    unfold ruL ruB
    rw [h, cond_false]
    cases hu : (addB s (tbB r)).u with
    | true =>
      rw [cond_true]
      cases T with
      | nil => rfl
      | cons r' T => unfold ruL; rw [hu, cond_true]
    | false =>
      rw [cond_false]
      exact ruL_eq T _ _ hu
theorem add_ok {a b : Bd} (h : knB a = true) (g : knB b = true) : addB a b = ofB (a.lo + b.lo) (a.hi + b.hi) := by unfold addB; rw [h, g]; rfl
theorem add_na {a b : Bd} (h : knB a = false) : addB a b = noneB := by unfold addB; rw [h]; rfl
theorem add_nb {a b : Bd} (h : knB b = false) : addB a b = noneB := by unfold addB; rw [h, Bool.and_false]; rfl
theorem neg_ok {a : Bd} (h : knB a = true) : negB a = ofB (-a.hi) (-a.lo) := by unfold negB; rw [h]; rfl
theorem neg_na {a : Bd} (h : knB a = false) : negB a = noneB := by unfold negB; rw [h]; rfl
theorem neg_kn {a : Bd} (h : knB a = true) : negB a = ⟨-a.hi, -a.lo, false⟩ ∧ knB (negB a) = true := by
  obtain ⟨h0, h1, h2, h3⟩ := knB_iff.1 h
  have k : knB ⟨-a.hi, -a.lo, false⟩ = true := knB_iff.2 ⟨rfl, by show _ ≤ -a.hi; omega, by show -a.hi ≤ -a.lo; omega, by show -a.lo ≤ _; omega⟩
  have e : negB a = ⟨-a.hi, -a.lo, false⟩ := by rw [neg_ok h]; unfold ofB normB; rw [k]; rfl
  exact ⟨e, by rw [e]; exact k⟩
theorem sub_ok {a b : Bd} (h : knB a = true) (g : knB b = true) : subB a b = ofB (a.lo - b.hi) (a.hi - b.lo) := by
  obtain ⟨e, k⟩ := neg_kn g
  unfold subB
  rw [add_ok h k, e]
  show ofB (a.lo + -b.hi) (a.hi + -b.lo) = _
  rw [Int.sub_eq_add_neg, Int.sub_eq_add_neg]
theorem sub_na {a b : Bd} (h : knB a = false) : subB a b = noneB := add_na h
theorem sub_nb {a b : Bd} (h : knB b = false) : subB a b = noneB := by
  unfold subB
  rw [neg_na h]
  exact add_nb rfl
theorem eq3 (b : Bd) : (b.lo == b.lo && (b.hi == b.hi && (b.u == b.u && true))) = true := by simp
/-- At every function of a list, the loops' specifications. -/
theorem lps_at {P : Program} {I : Interp Tb} {lps : Lps Tb} {l : List (Nat × Func)} (h : ∀ p ∈ l, LpsOk P I lps p.2.ntmps (bodyOf p.2)) : ∀ f fn, Ev.look f l = some fn → LpsOk P I lps fn.ntmps (bodyOf fn) := fun f fn hf => h (f, fn) (look_mem hf)
noncomputable abbrev fnsS3 : List (Nat × Func) := [(36, Try.f36), (48, Try.f48), (11, Try.f11), (31, Try.f31)]
noncomputable abbrev lpsS3 : Lps Tb := [((16, [false, true]), (vlD.sp (fun _ => true)).boo)]
def gSu : List (AV Tb) → Option (AV Tb × List (Bool × Bool))
  | [.w (.one (.fv (.tab [some .i64, some .i64, none] T)))] => some (bA (ruB T ⟨0, 0, false⟩ 0).1.1, [(decide (lenT T ≤ 9223372036854775807), true)])
  | _ => none
noncomputable abbrev lpsS5 : Lps Nm := [((137, [false, true]), rlD.sp nmSafe)]
noncomputable abbrev lpsS6 : Lps Tb := [((19, [false, true]), (clD.sp (fun _ => true)).boo)]
theorem fnsS3_ok : FnsOk Try.prog fnsS3 := (fns_cons Try.func36 rfl Try.call36 (fns_cons Try.func48 rfl Try.call48 (fns_cons Try.func11 rfl Try.call11 (fns_cons Try.func31 rfl Try.call31 (fns_nil _)))))
theorem fnsS3_l : ∀ f fn, Ev.look f fnsS3 = some fn → LpsOk Try.prog tbI lpsS3 fn.ntmps (bodyOf fn) := lps_at (by
  intro p hp
  simp only [List.mem_cons, List.not_mem_nil, or_false] at hp
  rcases hp with rfl | rfl | rfl | rfl
  · exact lps_cons (fun h _ _ => absurd (h : Try.f36.ntmps = _) (by decide)) lps_nil
  · exact lps_cons (fun _ x hx => (vlD_ok x hx).boo) lps_nil
  · exact lps_cons (fun h _ _ => absurd (h : Try.f11.ntmps = _) (by decide)) lps_nil
  · exact lps_cons (fun h _ _ => absurd (h : Try.f31.ntmps = _) (by decide)) lps_nil
)
set_option maxRecDepth 100000 in
theorem su_1 (T : List (List Int)) : evR (ctxLp Try.prog tbI (fun _ => false) libS1 fnsS3 lpsS3) Try.f17 [(.w (.one (.fv (.tab [some .i64, some .i64, none] T))))] [true] = some (AV.w (AW.agg [AC.int IntKind.i64 (ruB T ⟨0, 0, false⟩ 0).fst.fst.lo, AC.int IntKind.i64 (ruB T ⟨0, 0, false⟩ 0).fst.fst.hi, AC.bool (ruB T ⟨0, 0, false⟩ 0).fst.fst.u]), (pickL [(false, false), ((ruB T ⟨0, 0, false⟩ 0).snd, true), (decide ((0 : Int) = 0) && decide (lenT T = lenT T) && decide (lenT T ≤ 9223372036854775807) && decide ((0 : Int) = 0) && decide ((0 : Int) = 0) && decide (false = false), true)] [0, 1, 2])) := by kernel_rfl
set_option maxRecDepth 100000 in
theorem su_0 (T : List (List Int)) : evR (ctxLp Try.prog tbI (fun _ => false) libS1 fnsS3 lpsS3) Try.f17 [(.w (.one (.fv (.tab [some .i64, some .i64, none] T))))] [false] = some (AV.w (AW.agg [AC.int IntKind.i64 (ruB T ⟨0, 0, false⟩ 0).fst.fst.lo, AC.int IntKind.i64 (ruB T ⟨0, 0, false⟩ 0).fst.fst.hi, AC.bool (ruB T ⟨0, 0, false⟩ 0).fst.fst.u]), (pickL [(false, false), ((ruB T ⟨0, 0, false⟩ 0).snd, false), (decide ((0 : Int) = 0) && decide (lenT T = lenT T) && decide (lenT T ≤ 9223372036854775807) && decide ((0 : Int) = 0) && decide ((0 : Int) = 0) && decide (false = false), true)] [0, 1, 2])) := by kernel_rfl
set_option maxHeartbeats 4000000 in
theorem gSu_ok : (factSp gSu).ok Try.prog tbI 17 :=
  factR_ok (ctxLp_ok libS1_ok (eq_none _) fnsS3_ok fnsS3_l) (by kernel_rfl) Try.func17 rfl (lps_cons (fun h _ _ => absurd (h : Try.f17.ntmps = _) (by decide)) lps_nil) fun args v cd hg hc => by
    unfold gSu at hg
    split at hg
    · rename_i T
      cases hg
      have h1 : decide (lenT T ≤ 9223372036854775807) = true := hc (decide (lenT T ≤ 9223372036854775807), true) (by simp)
      have h0 : (decide ((0 : Int) = 0) && decide (lenT T = lenT T) && decide (lenT T ≤ 9223372036854775807) && decide ((0 : Int) = 0) && decide ((0 : Int) = 0) && decide (false = false)) = true := by
        rw [h1, decide_eq_true (rfl : lenT T = lenT T)]; rfl
      refine ⟨rfl, rfl, rfl, ?_⟩
      cases hs : (ruB T ⟨0, 0, false⟩ 0).2 with
      | true =>
        refine ⟨[true], _, _, su_1 T, fun E u hu => hu, pickL_ok ?_ _⟩
        repeat' (first | exact cd_nil | refine cd_cons ?_ ?_)
        all_goals first | rfl | with_reducible assumption
      | false =>
        refine ⟨[false], _, _, su_0 T, fun E u hu => hu, pickL_ok ?_ _⟩
        repeat' (first | exact cd_nil | refine cd_cons ?_ ?_)
        all_goals first | rfl | with_reducible assumption
    · cases hg
noncomputable abbrev libS6 : List (Nat × FnSp Tb) := [(13, sp0 (aBool true)), (14, sp2 dBd dBd (fun a b => bA (addB a b)) (fun _ _ => [])), (15, sp2 dBd dBd (fun a b => bA (subB a b)) (fun _ _ => [])), (16, sp1 dBd (fun a => bA (negB a)) (fun _ => [])), (17, factSp gSu)]
noncomputable abbrev fnsS6 : List (Nat × Func) := [(11, Try.f11), (12, Try.f12), (31, Try.f31)]
theorem libS6_ok : LibOk Try.prog tbI (lib1 libS6) := (lib1_cons (sp0_ok rfl bounds_pl) Try.call13 (lib1_cons (sp2_ok fun a b _ => ⟨_, rfl, add_pl a b⟩) Try.call14 (lib1_cons (sp2_ok fun a b _ => ⟨_, rfl, sub_pl a b⟩) Try.call15 (lib1_cons (sp1_ok fun a _ => ⟨_, rfl, neg_pl a⟩) Try.call16 (lib1_cons gSu_ok Try.call17 (lib1_nil _ _))))))
theorem fnsS6_ok : FnsOk Try.prog fnsS6 := (fns_cons Try.func11 rfl Try.call11 (fns_cons Try.func12 rfl Try.call12 (fns_cons Try.func31 rfl Try.call31 (fns_nil _))))
theorem fnsS6_l : ∀ f fn, Ev.look f fnsS6 = some fn → LpsOk Try.prog tbI lpsS6 fn.ntmps (bodyOf fn) := lps_at (by
  intro p hp
  simp only [List.mem_cons, List.not_mem_nil, or_false] at hp
  rcases hp with rfl | rfl | rfl
  · exact lps_cons (fun h _ _ => absurd (h : Try.f11.ntmps = _) (by decide)) lps_nil
  · exact lps_cons (fun _ x hx => (clD_ok x hx).boo) lps_nil
  · exact lps_cons (fun h _ _ => absurd (h : Try.f31.ntmps = _) (by decide)) lps_nil
)
theorem eqS6_ok : EqOk Try.prog (tabOf Try.prog) (fun t => Nat.beq t 24) := eqB1_ok
set_option maxRecDepth 100000 in
theorem s1_11 (a : Bd) (b : Bd) (T : List (List Int)) : evV cvN (ctxLp Try.prog numI (fun _ => false) libS2 fnsS2 []) Try.f3.ntmps (seqPre 8 (bodyOf Try.f3)) (argsT [(bA a), (bA b), (.w (.one (.fv (.tab [some .i64, some .i64, none] T))))] 0) [] 0 [3, 4, 5, 13, 14, 15, 16, 17] [true, true] = some ((([(3, AV.w (AW.one (AC.ptr 0 0))), (4, AV.w (AW.one (AC.ptr 1 0))), (5, AV.w (AW.one (AC.ptr 2 0))), (13, AV.w (AW.one (AC.ptr 3 0))), (14, AV.w (AW.one (AC.ptr 4 0))), (15, AV.w (AW.one (AC.ptr 5 0))), (16, AV.w (AW.one (AC.ptr 6 0))), (17, AV.w (AW.one (AC.ptr 7 0)))], [(0, { ty := 24, cs := [AC.int IntKind.i64 a.lo, AC.int IntKind.i64 a.hi, AC.bool a.u] }), (1, { ty := 24, cs := [AC.int IntKind.i64 b.lo, AC.int IntKind.i64 b.hi, AC.bool b.u] }), (2, { ty := 25, cs := [AC.fv (Tb.tab [some IntKind.i64, some IntKind.i64, none] T)] }), (3, { ty := 24, cs := [AC.int IntKind.i64 0, AC.int IntKind.i64 0, AC.bool true] }), (4, { ty := 24, cs := [AC.int IntKind.i64 0, AC.int IntKind.i64 0, AC.bool true] }), (5, { ty := 24, cs := [AC.int IntKind.i64 0, AC.int IntKind.i64 0, AC.bool true] }), (6, { ty := 24, cs := [AC.int IntKind.i64 0, AC.int IntKind.i64 0, AC.bool true] }), (7, { ty := 24, cs := [AC.int IntKind.i64 0, AC.int IntKind.i64 0, AC.bool false] })]), 8), (pickL [(chkB a != 0, true), (true, true), (chkB b != 0, true), (false, false)] [0, 0, 0, 1, 2, 2, 2, 1, 3, 3, 3, 3])) := by kernel_rfl
set_option maxRecDepth 100000 in
theorem s1_101 (a : Bd) (b : Bd) (T : List (List Int)) : evV cvN (ctxLp Try.prog numI (fun _ => false) libS2 fnsS2 []) Try.f3.ntmps (seqPre 8 (bodyOf Try.f3)) (argsT [(bA a), (bA b), (.w (.one (.fv (.tab [some .i64, some .i64, none] T))))] 0) [] 0 [3, 4, 5, 13, 14, 15, 16, 17] [true, false, true] = some ((([(3, AV.w (AW.one (AC.ptr 0 0))), (4, AV.w (AW.one (AC.ptr 1 0))), (5, AV.w (AW.one (AC.ptr 2 0))), (13, AV.w (AW.one (AC.ptr 3 0))), (14, AV.w (AW.one (AC.ptr 4 0))), (15, AV.w (AW.one (AC.ptr 5 0))), (16, AV.w (AW.one (AC.ptr 6 0))), (17, AV.w (AW.one (AC.ptr 7 0)))], [(0, { ty := 24, cs := [AC.int IntKind.i64 a.lo, AC.int IntKind.i64 a.hi, AC.bool a.u] }), (1, { ty := 24, cs := [AC.int IntKind.i64 b.lo, AC.int IntKind.i64 b.hi, AC.bool b.u] }), (2, { ty := 25, cs := [AC.fv (Tb.tab [some IntKind.i64, some IntKind.i64, none] T)] }), (3, { ty := 24, cs := [AC.int IntKind.i64 0, AC.int IntKind.i64 0, AC.bool true] }), (4, { ty := 24, cs := [AC.int IntKind.i64 0, AC.int IntKind.i64 0, AC.bool true] }), (5, { ty := 24, cs := [AC.int IntKind.i64 0, AC.int IntKind.i64 0, AC.bool true] }), (6, { ty := 24, cs := [AC.int IntKind.i64 0, AC.int IntKind.i64 0, AC.bool true] }), (7, { ty := 24, cs := [AC.int IntKind.i64 0, AC.int IntKind.i64 0, AC.bool false] })]), 8), (pickL [(chkB a != 0, true), (true, true), (chkB b != 0, false), (b.u, true), (false, false)] [0, 0, 0, 1, 2, 2, 2, 3, 4, 4, 4, 4])) := by kernel_rfl
set_option maxRecDepth 100000 in
theorem s1_100 (a : Bd) (b : Bd) (T : List (List Int)) : evV cvN (ctxLp Try.prog numI (fun _ => false) libS2 fnsS2 []) Try.f3.ntmps (seqPre 8 (bodyOf Try.f3)) (argsT [(bA a), (bA b), (.w (.one (.fv (.tab [some .i64, some .i64, none] T))))] 0) [] 0 [3, 4, 5, 13, 14, 15, 16, 17] [true, false, false] = some ((([(3, AV.w (AW.one (AC.ptr 0 0))), (4, AV.w (AW.one (AC.ptr 1 0))), (5, AV.w (AW.one (AC.ptr 2 0))), (13, AV.w (AW.one (AC.ptr 3 0))), (14, AV.w (AW.one (AC.ptr 4 0))), (15, AV.w (AW.one (AC.ptr 5 0))), (16, AV.w (AW.one (AC.ptr 6 0))), (17, AV.w (AW.one (AC.ptr 7 0)))], [(0, { ty := 24, cs := [AC.int IntKind.i64 a.lo, AC.int IntKind.i64 a.hi, AC.bool a.u] }), (1, { ty := 24, cs := [AC.int IntKind.i64 b.lo, AC.int IntKind.i64 b.hi, AC.bool b.u] }), (2, { ty := 25, cs := [AC.fv (Tb.tab [some IntKind.i64, some IntKind.i64, none] T)] }), (3, { ty := 24, cs := [AC.int IntKind.i64 0, AC.int IntKind.i64 0, AC.bool true] }), (4, { ty := 24, cs := [AC.int IntKind.i64 0, AC.int IntKind.i64 0, AC.bool true] }), (5, { ty := 24, cs := [AC.int IntKind.i64 0, AC.int IntKind.i64 0, AC.bool true] }), (6, { ty := 24, cs := [AC.int IntKind.i64 0, AC.int IntKind.i64 0, AC.bool true] }), (7, { ty := 24, cs := [AC.int IntKind.i64 0, AC.int IntKind.i64 0, AC.bool false] })]), 8), (pickL [(chkB a != 0, true), (true, true), (chkB b != 0, false), (b.u, false), (i64B b.lo, true), (i64B b.hi, true), (false, false)] [0, 0, 0, 1, 2, 2, 2, 3, 4, 5, 6, 6, 6, 6])) := by kernel_rfl
set_option maxRecDepth 100000 in
theorem s1_011 (a : Bd) (b : Bd) (T : List (List Int)) : evV cvN (ctxLp Try.prog numI (fun _ => false) libS2 fnsS2 []) Try.f3.ntmps (seqPre 8 (bodyOf Try.f3)) (argsT [(bA a), (bA b), (.w (.one (.fv (.tab [some .i64, some .i64, none] T))))] 0) [] 0 [3, 4, 5, 13, 14, 15, 16, 17] [false, true, true] = some ((([(3, AV.w (AW.one (AC.ptr 0 0))), (4, AV.w (AW.one (AC.ptr 1 0))), (5, AV.w (AW.one (AC.ptr 2 0))), (13, AV.w (AW.one (AC.ptr 3 0))), (14, AV.w (AW.one (AC.ptr 4 0))), (15, AV.w (AW.one (AC.ptr 5 0))), (16, AV.w (AW.one (AC.ptr 6 0))), (17, AV.w (AW.one (AC.ptr 7 0)))], [(0, { ty := 24, cs := [AC.int IntKind.i64 a.lo, AC.int IntKind.i64 a.hi, AC.bool a.u] }), (1, { ty := 24, cs := [AC.int IntKind.i64 b.lo, AC.int IntKind.i64 b.hi, AC.bool b.u] }), (2, { ty := 25, cs := [AC.fv (Tb.tab [some IntKind.i64, some IntKind.i64, none] T)] }), (3, { ty := 24, cs := [AC.int IntKind.i64 0, AC.int IntKind.i64 0, AC.bool true] }), (4, { ty := 24, cs := [AC.int IntKind.i64 0, AC.int IntKind.i64 0, AC.bool true] }), (5, { ty := 24, cs := [AC.int IntKind.i64 0, AC.int IntKind.i64 0, AC.bool true] }), (6, { ty := 24, cs := [AC.int IntKind.i64 0, AC.int IntKind.i64 0, AC.bool true] }), (7, { ty := 24, cs := [AC.int IntKind.i64 0, AC.int IntKind.i64 0, AC.bool false] })]), 8), (pickL [(chkB a != 0, false), (a.u, true), (chkB b != 0, true), (true, true), (false, false)] [0, 0, 0, 1, 2, 2, 2, 3, 4, 4, 4, 4])) := by kernel_rfl
set_option maxRecDepth 100000 in
theorem s1_0101 (a : Bd) (b : Bd) (T : List (List Int)) : evV cvN (ctxLp Try.prog numI (fun _ => false) libS2 fnsS2 []) Try.f3.ntmps (seqPre 8 (bodyOf Try.f3)) (argsT [(bA a), (bA b), (.w (.one (.fv (.tab [some .i64, some .i64, none] T))))] 0) [] 0 [3, 4, 5, 13, 14, 15, 16, 17] [false, true, false, true] = some ((([(3, AV.w (AW.one (AC.ptr 0 0))), (4, AV.w (AW.one (AC.ptr 1 0))), (5, AV.w (AW.one (AC.ptr 2 0))), (13, AV.w (AW.one (AC.ptr 3 0))), (14, AV.w (AW.one (AC.ptr 4 0))), (15, AV.w (AW.one (AC.ptr 5 0))), (16, AV.w (AW.one (AC.ptr 6 0))), (17, AV.w (AW.one (AC.ptr 7 0)))], [(0, { ty := 24, cs := [AC.int IntKind.i64 a.lo, AC.int IntKind.i64 a.hi, AC.bool a.u] }), (1, { ty := 24, cs := [AC.int IntKind.i64 b.lo, AC.int IntKind.i64 b.hi, AC.bool b.u] }), (2, { ty := 25, cs := [AC.fv (Tb.tab [some IntKind.i64, some IntKind.i64, none] T)] }), (3, { ty := 24, cs := [AC.int IntKind.i64 0, AC.int IntKind.i64 0, AC.bool true] }), (4, { ty := 24, cs := [AC.int IntKind.i64 0, AC.int IntKind.i64 0, AC.bool true] }), (5, { ty := 24, cs := [AC.int IntKind.i64 0, AC.int IntKind.i64 0, AC.bool true] }), (6, { ty := 24, cs := [AC.int IntKind.i64 0, AC.int IntKind.i64 0, AC.bool true] }), (7, { ty := 24, cs := [AC.int IntKind.i64 0, AC.int IntKind.i64 0, AC.bool false] })]), 8), (pickL [(chkB a != 0, false), (a.u, true), (chkB b != 0, false), (b.u, true), (false, false)] [0, 0, 0, 1, 2, 2, 2, 3, 4, 4, 4, 4])) := by kernel_rfl
set_option maxRecDepth 100000 in
theorem s1_0100 (a : Bd) (b : Bd) (T : List (List Int)) : evV cvN (ctxLp Try.prog numI (fun _ => false) libS2 fnsS2 []) Try.f3.ntmps (seqPre 8 (bodyOf Try.f3)) (argsT [(bA a), (bA b), (.w (.one (.fv (.tab [some .i64, some .i64, none] T))))] 0) [] 0 [3, 4, 5, 13, 14, 15, 16, 17] [false, true, false, false] = some ((([(3, AV.w (AW.one (AC.ptr 0 0))), (4, AV.w (AW.one (AC.ptr 1 0))), (5, AV.w (AW.one (AC.ptr 2 0))), (13, AV.w (AW.one (AC.ptr 3 0))), (14, AV.w (AW.one (AC.ptr 4 0))), (15, AV.w (AW.one (AC.ptr 5 0))), (16, AV.w (AW.one (AC.ptr 6 0))), (17, AV.w (AW.one (AC.ptr 7 0)))], [(0, { ty := 24, cs := [AC.int IntKind.i64 a.lo, AC.int IntKind.i64 a.hi, AC.bool a.u] }), (1, { ty := 24, cs := [AC.int IntKind.i64 b.lo, AC.int IntKind.i64 b.hi, AC.bool b.u] }), (2, { ty := 25, cs := [AC.fv (Tb.tab [some IntKind.i64, some IntKind.i64, none] T)] }), (3, { ty := 24, cs := [AC.int IntKind.i64 0, AC.int IntKind.i64 0, AC.bool true] }), (4, { ty := 24, cs := [AC.int IntKind.i64 0, AC.int IntKind.i64 0, AC.bool true] }), (5, { ty := 24, cs := [AC.int IntKind.i64 0, AC.int IntKind.i64 0, AC.bool true] }), (6, { ty := 24, cs := [AC.int IntKind.i64 0, AC.int IntKind.i64 0, AC.bool true] }), (7, { ty := 24, cs := [AC.int IntKind.i64 0, AC.int IntKind.i64 0, AC.bool false] })]), 8), (pickL [(chkB a != 0, false), (a.u, true), (chkB b != 0, false), (b.u, false), (i64B b.lo, true), (i64B b.hi, true), (false, false)] [0, 0, 0, 1, 2, 2, 2, 3, 4, 5, 6, 6, 6, 6])) := by kernel_rfl
set_option maxRecDepth 100000 in
theorem s1_001 (a : Bd) (b : Bd) (T : List (List Int)) : evV cvN (ctxLp Try.prog numI (fun _ => false) libS2 fnsS2 []) Try.f3.ntmps (seqPre 8 (bodyOf Try.f3)) (argsT [(bA a), (bA b), (.w (.one (.fv (.tab [some .i64, some .i64, none] T))))] 0) [] 0 [3, 4, 5, 13, 14, 15, 16, 17] [false, false, true] = some ((([(3, AV.w (AW.one (AC.ptr 0 0))), (4, AV.w (AW.one (AC.ptr 1 0))), (5, AV.w (AW.one (AC.ptr 2 0))), (13, AV.w (AW.one (AC.ptr 3 0))), (14, AV.w (AW.one (AC.ptr 4 0))), (15, AV.w (AW.one (AC.ptr 5 0))), (16, AV.w (AW.one (AC.ptr 6 0))), (17, AV.w (AW.one (AC.ptr 7 0)))], [(0, { ty := 24, cs := [AC.int IntKind.i64 a.lo, AC.int IntKind.i64 a.hi, AC.bool a.u] }), (1, { ty := 24, cs := [AC.int IntKind.i64 b.lo, AC.int IntKind.i64 b.hi, AC.bool b.u] }), (2, { ty := 25, cs := [AC.fv (Tb.tab [some IntKind.i64, some IntKind.i64, none] T)] }), (3, { ty := 24, cs := [AC.int IntKind.i64 0, AC.int IntKind.i64 0, AC.bool true] }), (4, { ty := 24, cs := [AC.int IntKind.i64 0, AC.int IntKind.i64 0, AC.bool true] }), (5, { ty := 24, cs := [AC.int IntKind.i64 0, AC.int IntKind.i64 0, AC.bool true] }), (6, { ty := 24, cs := [AC.int IntKind.i64 (ofB (-a.hi) (-a.lo)).lo, AC.int IntKind.i64 (ofB (-a.hi) (-a.lo)).hi, AC.bool (ofB (-a.hi) (-a.lo)).u] }), (7, { ty := 24, cs := [AC.int IntKind.i64 0, AC.int IntKind.i64 0, AC.bool false] })]), 8), (pickL [(chkB a != 0, false), (a.u, false), (i64B a.lo, true), (i64B a.hi, true), (chkB b != 0, true), (true, true), (false, false), (decide (a.hi < 0) == decide (a.hi < 0), true), (szB a.hi, true), (decide (a.lo < 0) == decide (a.lo < 0), true), (szB a.lo, true), (decide (-a.hi < 0) == decide (-a.hi < 0), true), (decide (-a.lo < 0) == decide (-a.lo < 0), true), (szB (-a.hi), true), (szB (-a.lo), true)] [0, 0, 0, 1, 2, 3, 4, 4, 4, 5, 5, 5, 6, 5, 7, 8, 9, 10, 11, 12, 13, 14])) := by kernel_rfl
set_option maxRecDepth 100000 in
theorem s1_0001 (a : Bd) (b : Bd) (T : List (List Int)) : evV cvN (ctxLp Try.prog numI (fun _ => false) libS2 fnsS2 []) Try.f3.ntmps (seqPre 8 (bodyOf Try.f3)) (argsT [(bA a), (bA b), (.w (.one (.fv (.tab [some .i64, some .i64, none] T))))] 0) [] 0 [3, 4, 5, 13, 14, 15, 16, 17] [false, false, false, true] = some ((([(3, AV.w (AW.one (AC.ptr 0 0))), (4, AV.w (AW.one (AC.ptr 1 0))), (5, AV.w (AW.one (AC.ptr 2 0))), (13, AV.w (AW.one (AC.ptr 3 0))), (14, AV.w (AW.one (AC.ptr 4 0))), (15, AV.w (AW.one (AC.ptr 5 0))), (16, AV.w (AW.one (AC.ptr 6 0))), (17, AV.w (AW.one (AC.ptr 7 0)))], [(0, { ty := 24, cs := [AC.int IntKind.i64 a.lo, AC.int IntKind.i64 a.hi, AC.bool a.u] }), (1, { ty := 24, cs := [AC.int IntKind.i64 b.lo, AC.int IntKind.i64 b.hi, AC.bool b.u] }), (2, { ty := 25, cs := [AC.fv (Tb.tab [some IntKind.i64, some IntKind.i64, none] T)] }), (3, { ty := 24, cs := [AC.int IntKind.i64 0, AC.int IntKind.i64 0, AC.bool true] }), (4, { ty := 24, cs := [AC.int IntKind.i64 0, AC.int IntKind.i64 0, AC.bool true] }), (5, { ty := 24, cs := [AC.int IntKind.i64 0, AC.int IntKind.i64 0, AC.bool true] }), (6, { ty := 24, cs := [AC.int IntKind.i64 (ofB (-a.hi) (-a.lo)).lo, AC.int IntKind.i64 (ofB (-a.hi) (-a.lo)).hi, AC.bool (ofB (-a.hi) (-a.lo)).u] }), (7, { ty := 24, cs := [AC.int IntKind.i64 0, AC.int IntKind.i64 0, AC.bool false] })]), 8), (pickL [(chkB a != 0, false), (a.u, false), (i64B a.lo, true), (i64B a.hi, true), (chkB b != 0, false), (b.u, true), (true, true), (false, false), (decide (a.hi < 0) == decide (a.hi < 0), true), (szB a.hi, true), (decide (a.lo < 0) == decide (a.lo < 0), true), (szB a.lo, true), (decide (-a.hi < 0) == decide (-a.hi < 0), true), (decide (-a.lo < 0) == decide (-a.lo < 0), true), (szB (-a.hi), true), (szB (-a.lo), true)] [0, 0, 0, 1, 2, 3, 4, 4, 4, 5, 6, 6, 7, 6, 8, 9, 10, 11, 12, 13, 14, 15])) := by kernel_rfl
set_option maxRecDepth 100000 in
theorem s1_0000 (a : Bd) (b : Bd) (T : List (List Int)) : evV cvN (ctxLp Try.prog numI (fun _ => false) libS2 fnsS2 []) Try.f3.ntmps (seqPre 8 (bodyOf Try.f3)) (argsT [(bA a), (bA b), (.w (.one (.fv (.tab [some .i64, some .i64, none] T))))] 0) [] 0 [3, 4, 5, 13, 14, 15, 16, 17] [false, false, false, false] = some ((([(3, AV.w (AW.one (AC.ptr 0 0))), (4, AV.w (AW.one (AC.ptr 1 0))), (5, AV.w (AW.one (AC.ptr 2 0))), (13, AV.w (AW.one (AC.ptr 3 0))), (14, AV.w (AW.one (AC.ptr 4 0))), (15, AV.w (AW.one (AC.ptr 5 0))), (16, AV.w (AW.one (AC.ptr 6 0))), (17, AV.w (AW.one (AC.ptr 7 0)))], [(0, { ty := 24, cs := [AC.int IntKind.i64 a.lo, AC.int IntKind.i64 a.hi, AC.bool a.u] }), (1, { ty := 24, cs := [AC.int IntKind.i64 b.lo, AC.int IntKind.i64 b.hi, AC.bool b.u] }), (2, { ty := 25, cs := [AC.fv (Tb.tab [some IntKind.i64, some IntKind.i64, none] T)] }), (3, { ty := 24, cs := [AC.int IntKind.i64 0, AC.int IntKind.i64 0, AC.bool true] }), (4, { ty := 24, cs := [AC.int IntKind.i64 (ofB (a.lo + b.lo) (a.hi + b.hi)).lo, AC.int IntKind.i64 (ofB (a.lo + b.lo) (a.hi + b.hi)).hi, AC.bool (ofB (a.lo + b.lo) (a.hi + b.hi)).u] }), (5, { ty := 24, cs := [AC.int IntKind.i64 (ofB (a.lo - b.hi) (a.hi - b.lo)).lo, AC.int IntKind.i64 (ofB (a.lo - b.hi) (a.hi - b.lo)).hi, AC.bool (ofB (a.lo - b.hi) (a.hi - b.lo)).u] }), (6, { ty := 24, cs := [AC.int IntKind.i64 (ofB (-a.hi) (-a.lo)).lo, AC.int IntKind.i64 (ofB (-a.hi) (-a.lo)).hi, AC.bool (ofB (-a.hi) (-a.lo)).u] }), (7, { ty := 24, cs := [AC.int IntKind.i64 0, AC.int IntKind.i64 0, AC.bool false] })]), 8), (pickL [(chkB a != 0, false), (a.u, false), (i64B a.lo, true), (i64B a.hi, true), (chkB b != 0, false), (b.u, false), (i64B b.lo, true), (i64B b.hi, true), (true, true), (decide (a.lo < 0) == decide (a.lo < 0), true), (decide (b.lo < 0) == decide (b.lo < 0), true), (szB a.lo, true), (szB b.lo, true), (decide (a.hi < 0) == decide (a.hi < 0), true), (decide (b.hi < 0) == decide (b.hi < 0), true), (szB a.hi, true), (szB b.hi, true), (decide (a.lo + b.lo < 0) == decide (a.lo + b.lo < 0), true), (decide (a.hi + b.hi < 0) == decide (a.hi + b.hi < 0), true), (szB (a.lo + b.lo), true), (szB (a.hi + b.hi), true), (decide (a.lo - b.hi < 0) == decide (a.lo - b.hi < 0), true), (decide (a.hi - b.lo < 0) == decide (a.hi - b.lo < 0), true), (szB (a.lo - b.hi), true), (szB (a.hi - b.lo), true), (decide (-a.hi < 0) == decide (-a.hi < 0), true), (decide (-a.lo < 0) == decide (-a.lo < 0), true), (szB (-a.hi), true), (szB (-a.lo), true)] [0, 0, 0, 1, 2, 3, 4, 4, 4, 5, 6, 7, 8, 8, 8, 9, 10, 11, 12, 13, 14, 15, 16, 17, 18, 19, 20, 9, 14, 11, 16, 13, 10, 15, 12, 21, 22, 23, 24, 8, 13, 15, 9, 11, 25, 26, 27, 28])) := by kernel_rfl
set_option maxRecDepth 100000 in
theorem s2_ (a : Bd) (b : Bd) (T : List (List Int)) (d : Bd) (q : Bd) (r : Bd) : evV cvT2 (ctxOf Try.prog tbI (fun _ => false) []) Try.f3.ntmps [seqGet 8 (bodyOf Try.f3)] [(3, .w (.one (.ptr 0 0))), (4, .w (.one (.ptr 1 0))), (5, .w (.one (.ptr 2 0))), (13, .w (.one (.ptr 3 0))), (14, .w (.one (.ptr 4 0))), (15, .w (.one (.ptr 5 0))), (16, .w (.one (.ptr 6 0))), (17, .w (.one (.ptr 7 0)))] [(0, ⟨24, [.int .i64 a.lo, .int .i64 a.hi, .bool a.u]⟩), (1, ⟨24, [.int .i64 b.lo, .int .i64 b.hi, .bool b.u]⟩), (2, ⟨25, [.fv (.tab [some .i64, some .i64, none] T)]⟩), (3, ⟨24, [.int .i64 0, .int .i64 0, .bool true]⟩), (4, ⟨24, [.int .i64 d.lo, .int .i64 d.hi, .bool d.u]⟩), (5, ⟨24, [.int .i64 q.lo, .int .i64 q.hi, .bool q.u]⟩), (6, ⟨24, [.int .i64 r.lo, .int .i64 r.hi, .bool r.u]⟩), (7, ⟨24, [.int .i64 0, .int .i64 0, .bool false]⟩)] 8 [3, 4, 5, 13, 14, 15, 16, 17, 18, 19] [] = some ((([(3, AV.w (AW.one (AC.ptr 0 0))), (4, AV.w (AW.one (AC.ptr 1 0))), (5, AV.w (AW.one (AC.ptr 2 0))), (13, AV.w (AW.one (AC.ptr 3 0))), (14, AV.w (AW.one (AC.ptr 4 0))), (15, AV.w (AW.one (AC.ptr 5 0))), (16, AV.w (AW.one (AC.ptr 6 0))), (17, AV.w (AW.one (AC.ptr 7 0))), (18, AV.w (AW.one (AC.ptr 8 0))), (19, AV.w (AW.one (AC.int IntKind.i64 0)))], [(0, { ty := 24, cs := [AC.int IntKind.i64 a.lo, AC.int IntKind.i64 a.hi, AC.bool a.u] }), (1, { ty := 24, cs := [AC.int IntKind.i64 b.lo, AC.int IntKind.i64 b.hi, AC.bool b.u] }), (2, { ty := 25, cs := [AC.fv (Nm.tab [some IntKind.i64, some IntKind.i64, none] T)] }), (3, { ty := 24, cs := [AC.int IntKind.i64 0, AC.int IntKind.i64 0, AC.bool true] }), (4, { ty := 24, cs := [AC.int IntKind.i64 d.lo, AC.int IntKind.i64 d.hi, AC.bool d.u] }), (5, { ty := 24, cs := [AC.int IntKind.i64 q.lo, AC.int IntKind.i64 q.hi, AC.bool q.u] }), (6, { ty := 24, cs := [AC.int IntKind.i64 r.lo, AC.int IntKind.i64 r.hi, AC.bool r.u] }), (7, { ty := 24, cs := [AC.int IntKind.i64 0, AC.int IntKind.i64 0, AC.bool false] }), (8, { ty := 3, cs := [AC.int IntKind.i64 0] })]), 9), (pickL [] [])) := by kernel_rfl
set_option maxRecDepth 100000 in
theorem s3_ (a : Bd) (b : Bd) (T : List (List Int)) (d : Bd) (q : Bd) (r : Bd) : evV cvN (ctxLp Try.prog numI (fun _ => false) libS2 fnsS2 lpsS5) Try.f3.ntmps [seqGet 9 (bodyOf Try.f3)] [(3, .w (.one (.ptr 0 0))), (4, .w (.one (.ptr 1 0))), (5, .w (.one (.ptr 2 0))), (13, .w (.one (.ptr 3 0))), (14, .w (.one (.ptr 4 0))), (15, .w (.one (.ptr 5 0))), (16, .w (.one (.ptr 6 0))), (17, .w (.one (.ptr 7 0))), (18, .w (.one (.ptr 8 0))), (19, .w (.one (.int .i64 0)))] [(0, ⟨24, [.int .i64 a.lo, .int .i64 a.hi, .bool a.u]⟩), (1, ⟨24, [.int .i64 b.lo, .int .i64 b.hi, .bool b.u]⟩), (2, ⟨25, [.fv (.tab [some .i64, some .i64, none] T)]⟩), (3, ⟨24, [.int .i64 0, .int .i64 0, .bool true]⟩), (4, ⟨24, [.int .i64 d.lo, .int .i64 d.hi, .bool d.u]⟩), (5, ⟨24, [.int .i64 q.lo, .int .i64 q.hi, .bool q.u]⟩), (6, ⟨24, [.int .i64 r.lo, .int .i64 r.hi, .bool r.u]⟩), (7, ⟨24, [.int .i64 0, .int .i64 0, .bool false]⟩), (8, ⟨3, [.int .i64 0]⟩)] 9 [3, 4, 5, 13, 14, 15, 16, 17, 18, 19] [] = some ((([(3, AV.w (AW.one (AC.ptr 0 0))), (4, AV.w (AW.one (AC.ptr 1 0))), (5, AV.w (AW.one (AC.ptr 2 0))), (13, AV.w (AW.one (AC.ptr 3 0))), (14, AV.w (AW.one (AC.ptr 4 0))), (15, AV.w (AW.one (AC.ptr 5 0))), (16, AV.w (AW.one (AC.ptr 6 0))), (17, AV.w (AW.one (AC.ptr 7 0))), (18, AV.w (AW.one (AC.ptr 8 0))), (19, AV.w (AW.one (AC.int IntKind.i64 (ruL T ⟨0, 0, false⟩ 0).snd)))], [(0, { ty := 24, cs := [AC.int IntKind.i64 a.lo, AC.int IntKind.i64 a.hi, AC.bool a.u] }), (1, { ty := 24, cs := [AC.int IntKind.i64 b.lo, AC.int IntKind.i64 b.hi, AC.bool b.u] }), (2, { ty := 25, cs := [AC.fv (Tb.tab [some IntKind.i64, some IntKind.i64, none] T)] }), (3, { ty := 24, cs := [AC.int IntKind.i64 0, AC.int IntKind.i64 0, AC.bool true] }), (4, { ty := 24, cs := [AC.int IntKind.i64 d.lo, AC.int IntKind.i64 d.hi, AC.bool d.u] }), (5, { ty := 24, cs := [AC.int IntKind.i64 q.lo, AC.int IntKind.i64 q.hi, AC.bool q.u] }), (6, { ty := 24, cs := [AC.int IntKind.i64 r.lo, AC.int IntKind.i64 r.hi, AC.bool r.u] }), (7, { ty := 24, cs := [AC.int IntKind.i64 (ruL T ⟨0, 0, false⟩ 0).fst.lo, AC.int IntKind.i64 (ruL T ⟨0, 0, false⟩ 0).fst.hi, AC.bool (ruL T ⟨0, 0, false⟩ 0).fst.u] }), (8, { ty := 3, cs := [AC.int IntKind.i64 0] })]), 9), (pickL [(decide ((0 : Int) = 0) && decide (lenT T = lenT T) && decide (lenT T ≤ 9223372036854775807) && decide ((0 : Int) = 0) && decide ((0 : Int) = 0) && decide (false = false) && decide ((0 : Int) = 0), true)] [0])) := by kernel_rfl
set_option maxRecDepth 100000 in
theorem s4_1111111 (a : Bd) (b : Bd) (T : List (List Int)) (d : Bd) (q : Bd) (r : Bd) (s : Bd) (m : Int) : evT (ctxLp Try.prog tbI (fun t => Nat.beq t 24) libS6 fnsS6 lpsS6) Try.f3 (seqRest 10 (bodyOf Try.f3)) [(3, .w (.one (.ptr 0 0))), (4, .w (.one (.ptr 1 0))), (5, .w (.one (.ptr 2 0))), (13, .w (.one (.ptr 3 0))), (14, .w (.one (.ptr 4 0))), (15, .w (.one (.ptr 5 0))), (16, .w (.one (.ptr 6 0))), (17, .w (.one (.ptr 7 0))), (18, .w (.one (.ptr 8 0))), (19, .w (.one (.int .i64 m)))] [(0, ⟨24, [.int .i64 a.lo, .int .i64 a.hi, .bool a.u]⟩), (1, ⟨24, [.int .i64 b.lo, .int .i64 b.hi, .bool b.u]⟩), (2, ⟨25, [.fv (.tab [some .i64, some .i64, none] T)]⟩), (3, ⟨24, [.int .i64 0, .int .i64 0, .bool true]⟩), (4, ⟨24, [.int .i64 d.lo, .int .i64 d.hi, .bool d.u]⟩), (5, ⟨24, [.int .i64 q.lo, .int .i64 q.hi, .bool q.u]⟩), (6, ⟨24, [.int .i64 r.lo, .int .i64 r.hi, .bool r.u]⟩), (7, ⟨24, [.int .i64 s.lo, .int .i64 s.hi, .bool s.u]⟩), (8, ⟨3, [.int .i64 0]⟩)] 9 [true, true, true, true, true, true, true] = some (AV.w (AW.one (AC.bool ((ruB T ⟨0, 0, false⟩ 0).fst.snd == m))), (pickL [(false, false), ((ruB T ⟨0, 0, false⟩ 0).snd, true), (decide ((0 : Int) = 0) && decide (lenT T = lenT T) && decide (lenT T ≤ 9223372036854775807) && decide ((0 : Int) = 0) && decide ((0 : Int) = 0) && decide (false = false) && decide ((0 : Int) = 0), true), (true, true), ((addB a b).lo == d.lo && ((addB a b).hi == d.hi && ((addB a b).u == d.u && true)), true), ((subB a b).lo == q.lo && ((subB a b).hi == q.hi && ((subB a b).u == q.u && true)), true), ((negB a).lo == r.lo && ((negB a).hi == r.hi && ((negB a).u == r.u && true)), true), (decide (lenT T ≤ 9223372036854775807), true), ((ruB T ⟨0, 0, false⟩ 0).fst.fst.lo == s.lo && ((ruB T ⟨0, 0, false⟩ 0).fst.fst.hi == s.hi && ((ruB T ⟨0, 0, false⟩ 0).fst.fst.u == s.u && true)), true)] [0, 1, 2, 3, 3, 3, 3, 3, 3, 4, 4, 4, 4, 4, 4, 5, 5, 5, 5, 5, 6, 6, 7, 6, 6, 6, 8, 8, 8, 8, 8, 8, 8, 8])) := by kernel_rfl
set_option maxRecDepth 100000 in
theorem s4_0111111 (a : Bd) (b : Bd) (T : List (List Int)) (d : Bd) (q : Bd) (r : Bd) (s : Bd) (m : Int) : evT (ctxLp Try.prog tbI (fun t => Nat.beq t 24) libS6 fnsS6 lpsS6) Try.f3 (seqRest 10 (bodyOf Try.f3)) [(3, .w (.one (.ptr 0 0))), (4, .w (.one (.ptr 1 0))), (5, .w (.one (.ptr 2 0))), (13, .w (.one (.ptr 3 0))), (14, .w (.one (.ptr 4 0))), (15, .w (.one (.ptr 5 0))), (16, .w (.one (.ptr 6 0))), (17, .w (.one (.ptr 7 0))), (18, .w (.one (.ptr 8 0))), (19, .w (.one (.int .i64 m)))] [(0, ⟨24, [.int .i64 a.lo, .int .i64 a.hi, .bool a.u]⟩), (1, ⟨24, [.int .i64 b.lo, .int .i64 b.hi, .bool b.u]⟩), (2, ⟨25, [.fv (.tab [some .i64, some .i64, none] T)]⟩), (3, ⟨24, [.int .i64 0, .int .i64 0, .bool true]⟩), (4, ⟨24, [.int .i64 d.lo, .int .i64 d.hi, .bool d.u]⟩), (5, ⟨24, [.int .i64 q.lo, .int .i64 q.hi, .bool q.u]⟩), (6, ⟨24, [.int .i64 r.lo, .int .i64 r.hi, .bool r.u]⟩), (7, ⟨24, [.int .i64 s.lo, .int .i64 s.hi, .bool s.u]⟩), (8, ⟨3, [.int .i64 0]⟩)] 9 [false, true, true, true, true, true, true] = some (AV.w (AW.one (AC.bool ((ruB T ⟨0, 0, false⟩ 0).fst.snd == m))), (pickL [(false, false), ((ruB T ⟨0, 0, false⟩ 0).snd, false), (decide ((0 : Int) = 0) && decide (lenT T = lenT T) && decide (lenT T ≤ 9223372036854775807) && decide ((0 : Int) = 0) && decide ((0 : Int) = 0) && decide (false = false) && decide ((0 : Int) = 0), true), (true, true), ((addB a b).lo == d.lo && ((addB a b).hi == d.hi && ((addB a b).u == d.u && true)), true), ((subB a b).lo == q.lo && ((subB a b).hi == q.hi && ((subB a b).u == q.u && true)), true), ((negB a).lo == r.lo && ((negB a).hi == r.hi && ((negB a).u == r.u && true)), true), (decide (lenT T ≤ 9223372036854775807), true), ((ruB T ⟨0, 0, false⟩ 0).fst.fst.lo == s.lo && ((ruB T ⟨0, 0, false⟩ 0).fst.fst.hi == s.hi && ((ruB T ⟨0, 0, false⟩ 0).fst.fst.u == s.u && true)), true)] [0, 1, 2, 3, 3, 3, 3, 3, 3, 4, 4, 4, 4, 4, 4, 5, 5, 5, 5, 5, 6, 6, 7, 6, 6, 6, 8, 8, 8, 8, 8, 8, 8, 8])) := by kernel_rfl
set_option maxHeartbeats 4000000 in
theorem s1_all (a b : Bd) (T : List (List Int)) : ∃ q cd, evV cvN (ctxLp Try.prog numI (fun _ => false) libS2 fnsS2 []) Try.f3.ntmps (seqPre 8 (bodyOf Try.f3)) (argsT [(bA a), (bA b), (.w (.one (.fv (.tab [some .i64, some .i64, none] T))))] 0) [] 0 [3, 4, 5, 13, 14, 15, 16, 17] q = some ((([(3, .w (.one (.ptr 0 0))), (4, .w (.one (.ptr 1 0))), (5, .w (.one (.ptr 2 0))), (13, .w (.one (.ptr 3 0))), (14, .w (.one (.ptr 4 0))), (15, .w (.one (.ptr 5 0))), (16, .w (.one (.ptr 6 0))), (17, .w (.one (.ptr 7 0)))], [(0, ⟨24, [.int .i64 a.lo, .int .i64 a.hi, .bool a.u]⟩), (1, ⟨24, [.int .i64 b.lo, .int .i64 b.hi, .bool b.u]⟩), (2, ⟨25, [.fv (.tab [some .i64, some .i64, none] T)]⟩), (3, ⟨24, [.int .i64 0, .int .i64 0, .bool true]⟩), (4, ⟨24, [.int .i64 (addB a b).lo, .int .i64 (addB a b).hi, .bool (addB a b).u]⟩), (5, ⟨24, [.int .i64 (subB a b).lo, .int .i64 (subB a b).hi, .bool (subB a b).u]⟩), (6, ⟨24, [.int .i64 (negB a).lo, .int .i64 (negB a).hi, .bool (negB a).u]⟩), (7, ⟨24, [.int .i64 0, .int .i64 0, .bool false]⟩)]), 8), cd) ∧ ∀ p ∈ cd, p.1 = p.2 := by
  have d0 : Dl 4 0 := Dl.i64 (by decide)
  cases c1 : (chkB a != 0) with
  | true =>
    have k1 : knB a = false := kn_bad c1
    cases c2 : (chkB b != 0) with
    | true =>
      have k2 : knB b = false := kn_bad c2
      have hA : addB a b = noneB := add_na k1
      have hS : subB a b = noneB := sub_na k1
      have hN : negB a = noneB := neg_na k1
      rw [hA, hS, hN]
      have L := s1_11 a b T
      refine ⟨_, _, L, pickL_ok ?_ _⟩
      repeat' (first | exact cd_nil | refine cd_cons ?_ ?_)
      all_goals first | rfl | with_reducible assumption | exact eqB _ | (apply Dl.sz; (repeat' (first | with_reducible assumption | apply Dl.add' | apply Dl.sub' | apply Dl.neg)); omega)

    | false =>
      by_cases e2 : b.u = true
      · skip
        have k2 : knB b = false := kn_u e2
        have hA : addB a b = noneB := add_na k1
        have hS : subB a b = noneB := sub_na k1
        have hN : negB a = noneB := neg_na k1
        rw [hA, hS, hN]
        have L := s1_101 a b T
        refine ⟨_, _, L, pickL_ok ?_ _⟩
        repeat' (first | exact cd_nil | refine cd_cons ?_ ?_)
        all_goals first | rfl | with_reducible assumption | exact eqB _ | (apply Dl.sz; (repeat' (first | with_reducible assumption | apply Dl.add' | apply Dl.sub' | apply Dl.neg)); omega)

      · replace e2 := Bool.eq_false_iff.2 e2
        have k2 : knB b = true := kn_ok c2 e2
        obtain ⟨i2, j2⟩ := i64_kn k2
        have x2 := Dl.i64 i2
        have y2 := Dl.i64 j2
        have hA : addB a b = noneB := add_na k1
        have hS : subB a b = noneB := sub_na k1
        have hN : negB a = noneB := neg_na k1
        rw [hA, hS, hN]
        have L := s1_100 a b T
        refine ⟨_, _, L, pickL_ok ?_ _⟩
        repeat' (first | exact cd_nil | refine cd_cons ?_ ?_)
        all_goals first | rfl | with_reducible assumption | exact eqB _ | (apply Dl.sz; (repeat' (first | with_reducible assumption | apply Dl.add' | apply Dl.sub' | apply Dl.neg)); omega)

  | false =>
    by_cases e1 : a.u = true
    · skip
      have k1 : knB a = false := kn_u e1
      cases c2 : (chkB b != 0) with
      | true =>
        have k2 : knB b = false := kn_bad c2
        have hA : addB a b = noneB := add_na k1
        have hS : subB a b = noneB := sub_na k1
        have hN : negB a = noneB := neg_na k1
        rw [hA, hS, hN]
        have L := s1_011 a b T
        refine ⟨_, _, L, pickL_ok ?_ _⟩
        repeat' (first | exact cd_nil | refine cd_cons ?_ ?_)
        all_goals first | rfl | with_reducible assumption | exact eqB _ | (apply Dl.sz; (repeat' (first | with_reducible assumption | apply Dl.add' | apply Dl.sub' | apply Dl.neg)); omega)

      | false =>
        by_cases e2 : b.u = true
        · skip
          have k2 : knB b = false := kn_u e2
          have hA : addB a b = noneB := add_na k1
          have hS : subB a b = noneB := sub_na k1
          have hN : negB a = noneB := neg_na k1
          rw [hA, hS, hN]
          have L := s1_0101 a b T
          refine ⟨_, _, L, pickL_ok ?_ _⟩
          repeat' (first | exact cd_nil | refine cd_cons ?_ ?_)
          all_goals first | rfl | with_reducible assumption | exact eqB _ | (apply Dl.sz; (repeat' (first | with_reducible assumption | apply Dl.add' | apply Dl.sub' | apply Dl.neg)); omega)

        · replace e2 := Bool.eq_false_iff.2 e2
          have k2 : knB b = true := kn_ok c2 e2
          obtain ⟨i2, j2⟩ := i64_kn k2
          have x2 := Dl.i64 i2
          have y2 := Dl.i64 j2
          have hA : addB a b = noneB := add_na k1
          have hS : subB a b = noneB := sub_na k1
          have hN : negB a = noneB := neg_na k1
          rw [hA, hS, hN]
          have L := s1_0100 a b T
          refine ⟨_, _, L, pickL_ok ?_ _⟩
          repeat' (first | exact cd_nil | refine cd_cons ?_ ?_)
          all_goals first | rfl | with_reducible assumption | exact eqB _ | (apply Dl.sz; (repeat' (first | with_reducible assumption | apply Dl.add' | apply Dl.sub' | apply Dl.neg)); omega)

    · replace e1 := Bool.eq_false_iff.2 e1
      have k1 : knB a = true := kn_ok c1 e1
      obtain ⟨i1, j1⟩ := i64_kn k1
      have x1 := Dl.i64 i1
      have y1 := Dl.i64 j1
      cases c2 : (chkB b != 0) with
      | true =>
        have k2 : knB b = false := kn_bad c2
        have hA : addB a b = noneB := add_nb k2
        have hS : subB a b = noneB := sub_nb k2
        have hN : negB a = ofB (-a.hi) (-a.lo) := neg_ok k1
        rw [hA, hS, hN]
        have L := s1_001 a b T
        refine ⟨_, _, L, pickL_ok ?_ _⟩
        repeat' (first | exact cd_nil | refine cd_cons ?_ ?_)
        all_goals first | rfl | with_reducible assumption | exact eqB _ | (apply Dl.sz; (repeat' (first | with_reducible assumption | apply Dl.add' | apply Dl.sub' | apply Dl.neg)); omega)

      | false =>
        by_cases e2 : b.u = true
        · skip
          have k2 : knB b = false := kn_u e2
          have hA : addB a b = noneB := add_nb k2
          have hS : subB a b = noneB := sub_nb k2
          have hN : negB a = ofB (-a.hi) (-a.lo) := neg_ok k1
          rw [hA, hS, hN]
          have L := s1_0001 a b T
          refine ⟨_, _, L, pickL_ok ?_ _⟩
          repeat' (first | exact cd_nil | refine cd_cons ?_ ?_)
          all_goals first | rfl | with_reducible assumption | exact eqB _ | (apply Dl.sz; (repeat' (first | with_reducible assumption | apply Dl.add' | apply Dl.sub' | apply Dl.neg)); omega)

        · replace e2 := Bool.eq_false_iff.2 e2
          have k2 : knB b = true := kn_ok c2 e2
          obtain ⟨i2, j2⟩ := i64_kn k2
          have x2 := Dl.i64 i2
          have y2 := Dl.i64 j2
          have hA : addB a b = ofB (a.lo + b.lo) (a.hi + b.hi) := add_ok k1 k2
          have hS : subB a b = ofB (a.lo - b.hi) (a.hi - b.lo) := sub_ok k1 k2
          have hN : negB a = ofB (-a.hi) (-a.lo) := neg_ok k1
          rw [hA, hS, hN]
          have L := s1_0000 a b T
          refine ⟨_, _, L, pickL_ok ?_ _⟩
          repeat' (first | exact cd_nil | refine cd_cons ?_ ?_)
          all_goals first | rfl | with_reducible assumption | exact eqB _ | (apply Dl.sz; (repeat' (first | with_reducible assumption | apply Dl.add' | apply Dl.sub' | apply Dl.neg)); omega)

theorem fnsS2_l : ∀ f fn, Ev.look f fnsS2 = some fn → LpsOk Try.prog numI lpsS5 fn.ntmps (bodyOf fn) := fun f fn hf => by
  have := look_mem hf
  simp only [List.mem_cons, List.not_mem_nil, or_false, Prod.mk.injEq] at this
  obtain ⟨_, rfl⟩ := this
  exact lps_cons (fun h _ _ => absurd (h : Try.f5.ntmps = _) (by decide)) lps_nil
theorem convN : ∀ f g D w v, cvN f = some g → numI.hv f D w v → tbI.hv g D w v := fun f g D w v h H => by
  cases f <;> cases h
  exact H
theorem convT : ∀ g f D w v, cvT2 g = some f → tbI.hv g D w v → numI.hv f D w v := fun g f D w v h H => by
  cases g; cases h
  exact H
theorem body_cut : Try.f3.body = some (seqs (seqPre 8 (bodyOf Try.f3)) (seqs [seqGet 8 (bodyOf Try.f3)] (seqs [seqGet 9 (bodyOf Try.f3)] (seqRest 10 (bodyOf Try.f3))))) := by kernel_rfl
set_option maxHeartbeats 4000000 in
theorem bsu_walk (W : World) (x : Int) (hx : okK (some .i64) x) (y : Int) (hy : okK (some .i64) y) (u : Bool) (x' : Int) (hx' : okK (some .i64) x') (y' : Int) (hy' : okK (some .i64) y') (u' : Bool) (T : List (List Int)) (v : Value) (hv : tabHv (fun _ _ => False) W v [some .i64, some .i64, none] T) (hOk : okRows [some .i64, some .i64, none] T) :
    Calls Try.prog 3 #[.agg #[.int .i64 x, .int .i64 y, .bool u], .agg #[.int .i64 x', .int .i64 y', .bool u'], v] W fun e w' => e = .returned (.bool true) ∧ Below W.heap.size W w' := by
  have hT : lenT T ≤ 9223372036854775807 := by
    obtain ⟨p, cap, _, h1, h2, _⟩ := hv
    unfold maxLen at h2
    unfold lenT
    omega
  obtain ⟨q1, cd1, L1, hc1⟩ := s1_all ⟨x, y, u⟩ ⟨x', y', u'⟩ T
  have t0 : decide (lenT T ≤ 9223372036854775807) = true := decide_eq_true hT
  have h0 : (decide ((0 : Int) = 0) && decide (lenT T = lenT T) && decide (lenT T ≤ 9223372036854775807) && decide ((0 : Int) = 0) && decide ((0 : Int) = 0) && decide (false = false) && decide ((0 : Int) = 0)) = true := by
    rw [t0, decide_eq_true (rfl : lenT T = lenT T)]; rfl
  have L2 := s2_ ⟨x, y, u⟩ ⟨x', y', u'⟩ T (addB ⟨x, y, u⟩ ⟨x', y', u'⟩) (subB ⟨x, y, u⟩ ⟨x', y', u'⟩) (negB ⟨x, y, u⟩)
  have L3 := s3_ ⟨x, y, u⟩ ⟨x', y', u'⟩ T (addB ⟨x, y, u⟩ ⟨x', y', u'⟩) (subB ⟨x, y, u⟩ ⟨x', y', u'⟩) (negB ⟨x, y, u⟩)
  rw [ruL_eq T _ _ rfl] at L3
  have hA : All2 (AV.R (Env.facts fun q y => q = Nm.tab [some .i64, some .i64, none] T ∧ y = v)) [bA ⟨x, y, u⟩, bA ⟨x', y', u'⟩, (.w (.one (.fv (.tab [some .i64, some .i64, none] T))))] [.agg #[.int .i64 x, .int .i64 y, .bool u], .agg #[.int .i64 x', .int .i64 y', .bool u'], v] :=
    .cons (show AW.R _ (.agg _) _ from ⟨[.int .i64 x, .int .i64 y, .bool u], rfl, .cons rfl (.cons rfl (.cons rfl .nil))⟩) (.cons (show AW.R _ (.agg _) _ from ⟨[.int .i64 x', .int .i64 y', .bool u'], rfl, .cons rfl (.cons rfl (.cons rfl .nil))⟩) (.cons (show AW.R _ (.one (.fv _)) _ from ⟨rfl, rfl⟩) .nil))
  have go : ∀ {q4 : List Bool} {xx : AV Tb} {cd4 : List (Bool × Bool)}, evT (ctxLp Try.prog tbI (fun t => Nat.beq t 24) libS6 fnsS6 lpsS6) Try.f3 (seqRest 10 (bodyOf Try.f3)) [(3, .w (.one (.ptr 0 0))), (4, .w (.one (.ptr 1 0))), (5, .w (.one (.ptr 2 0))), (13, .w (.one (.ptr 3 0))), (14, .w (.one (.ptr 4 0))), (15, .w (.one (.ptr 5 0))), (16, .w (.one (.ptr 6 0))), (17, .w (.one (.ptr 7 0))), (18, .w (.one (.ptr 8 0))), (19, .w (.one (.int .i64 (ruB T ⟨0, 0, false⟩ 0).1.2)))] [(0, ⟨24, [.int .i64 (⟨x, y, u⟩ : Bd).lo, .int .i64 (⟨x, y, u⟩ : Bd).hi, .bool (⟨x, y, u⟩ : Bd).u]⟩), (1, ⟨24, [.int .i64 (⟨x', y', u'⟩ : Bd).lo, .int .i64 (⟨x', y', u'⟩ : Bd).hi, .bool (⟨x', y', u'⟩ : Bd).u]⟩), (2, ⟨25, [.fv (.tab [some .i64, some .i64, none] T)]⟩), (3, ⟨24, [.int .i64 0, .int .i64 0, .bool true]⟩), (4, ⟨24, [.int .i64 (addB ⟨x, y, u⟩ ⟨x', y', u'⟩).lo, .int .i64 (addB ⟨x, y, u⟩ ⟨x', y', u'⟩).hi, .bool (addB ⟨x, y, u⟩ ⟨x', y', u'⟩).u]⟩), (5, ⟨24, [.int .i64 (subB ⟨x, y, u⟩ ⟨x', y', u'⟩).lo, .int .i64 (subB ⟨x, y, u⟩ ⟨x', y', u'⟩).hi, .bool (subB ⟨x, y, u⟩ ⟨x', y', u'⟩).u]⟩), (6, ⟨24, [.int .i64 (negB ⟨x, y, u⟩).lo, .int .i64 (negB ⟨x, y, u⟩).hi, .bool (negB ⟨x, y, u⟩).u]⟩), (7, ⟨24, [.int .i64 (ruB T ⟨0, 0, false⟩ 0).1.1.lo, .int .i64 (ruB T ⟨0, 0, false⟩ 0).1.1.hi, .bool (ruB T ⟨0, 0, false⟩ 0).1.1.u]⟩), (8, ⟨3, [.int .i64 0]⟩)] 9 q4 = some (xx, cd4) → (∀ q ∈ cd4, q.1 = q.2) → xx.val = some (.bool true) → Calls Try.prog 3 #[.agg #[.int .i64 x, .int .i64 y, .bool u], .agg #[.int .i64 x', .int .i64 y', .bool u'], v] W fun e w' => e = .returned (.bool true) ∧ Below W.heap.size W w' := by
    intro q4 xx cd4 L4 hc4 hxx
    exact cut3_view (I := numI) (J := tbI) (h := fun q y => q = .tab [some .i64, some .i64, none] T ∧ y = v) (v := .bool true) (ctxLp_ok libS2_ok (eq_none _) fnsS2_ok (fun _ _ _ => lps_nil)) (ctxOf_ok (lib1_nil _ _) (eq_none _)) (ctxLp_ok libS2_ok (eq_none _) fnsS2_ok fnsS2_l) (ctxLp_ok libS6_ok eqS6_ok fnsS6_ok fnsS6_l) (by kernel_rfl) rfl rfl Try.func3 body_cut
      (fun _ _ => lps_nil) (fun _ _ => lps_nil) (lps_one (x0 := seqGet 9 (bodyOf Try.f3)) (fun x hx => rlD_ok x (by rw [← hx]; kernel_rfl)) rfl) (lps_cons (fun h _ _ => absurd (h : Try.f3.ntmps = _) (by decide)) lps_nil)
      convN convT (fun q y hq => by obtain ⟨rfl, rfl⟩ := hq; exact hv) rfl hA
      L1 hc1 L2 cd_nil L3 (pickL_ok (cd_cons h0 cd_nil) _) L4 hc4 hxx
  cases hs : (ruB T ⟨0, 0, false⟩ 0).2 with
  | true =>
    refine go (s4_1111111 ⟨x, y, u⟩ ⟨x', y', u'⟩ T (addB ⟨x, y, u⟩ ⟨x', y', u'⟩) (subB ⟨x, y, u⟩ ⟨x', y', u'⟩) (negB ⟨x, y, u⟩) (ruB T ⟨0, 0, false⟩ 0).1.1 (ruB T ⟨0, 0, false⟩ 0).1.2) (pickL_ok ?_ _) (by simp [AV.val, AW.val, AC.val])
    repeat' (first | exact cd_nil | refine cd_cons ?_ ?_)
    all_goals first | rfl | with_reducible assumption | exact eq3 _
  | false =>
    refine go (s4_0111111 ⟨x, y, u⟩ ⟨x', y', u'⟩ T (addB ⟨x, y, u⟩ ⟨x', y', u'⟩) (subB ⟨x, y, u⟩ ⟨x', y', u'⟩) (negB ⟨x, y, u⟩) (ruB T ⟨0, 0, false⟩ 0).1.1 (ruB T ⟨0, 0, false⟩ 0).1.2) (pickL_ok ?_ _) (by simp [AV.val, AW.val, AC.val])
    repeat' (first | exact cd_nil | refine cd_cons ?_ ?_)
    all_goals first | rfl | with_reducible assumption | exact eq3 _
end
end Go.Proofs.Ytfhidjldmopbgaa.AtBr

