/-
 Package spymake's streams: Below, Next, Range, for every list of integers.
 Conditions: those of each theorem.
-/
import Derived.Test.YtmhhdedekblbnaaGreatProg
import Derived.Test.YtmhhdedekblbnaaGreatQEv2
import Derived.Test.YtmhhdedekblbnaaGreatQNS
set_option maxRecDepth 100000
set_option linter.unusedVariables false
set_option linter.unusedSimpArgs false
namespace Go.Proofs.YtmhhdedekblbnaaGreat
open Go.RowKit Ev Wd
variable {F : Type}

def belowV (x n : Int) : Int := bif decide (n < 1) then 0 else bif decide (x.tmod n < 0) then x.tmod n + n else x.tmod n
theorem belowV_in (x n : Int) (h : 1 <= n) : 0 <= belowV x n /\ belowV x n < n := by
 unfold belowV
 have h0 : decide (n < 1) = false := by simp; omega
 have h1 := Int.tmod_lt_of_pos x (show 0 < n by omega)
 have h2 : -n < x.tmod n := by
   have := Int.tmod_lt_of_pos (-x) (show 0 < n by omega)
   rw [Int.neg_tmod] at this; omega
 rw [h0]
 cases h : decide (x.tmod n < 0) with
 | true => have := of_decide_eq_true h; simp only [cond_false, cond_true]; omega
 | false => have := of_decide_eq_false h; simp only [cond_false]; omega
def atB (a : Int) : Bool := decide (0 <= a) && decide (a < 1000000)
theorem atB_iff {a : Int} : atB a = true ↔ 0 <= a /\ a < 1000000 := by unfold atB; simp
def nextV (l : List Int) (a n : Int) : Int := bif lenI l == 0 then belowV (IntKind.i64.wrap ((a + 1) * 7919)) n else
 belowV (IntKind.i64.wrap (belowV (getI l (a.tmod (lenI l))) 1073741824 + IntKind.i64.wrap (IntKind.i64.wrap (a.tdiv (lenI l)) * IntKind.i64.wrap (7919 + a.tmod (lenI l))))) n
theorem nextV_in (l : List Int) (a n : Int) (h : 1 <= n) : 0 <= nextV l a n /\ nextV l a n < n := by
 unfold nextV
 cases (lenI l == 0)
 · exact belowV_in _ n h
 · exact belowV_in _ n h
def listB (l : List Int) : Bool := l.all i64B && decide (lenI l <= 9223372036854775807)

def rB (v : Int) : Bool := decide (-2305843009213693952 <= v) && decide (v <= 2305843009213693952)
theorem rB_iff {v : Int} : rB v = true ↔ -2305843009213693952 <= v /\ v <= 2305843009213693952 := by unfold rB; simp
def rangeV (l : List Int) (a lo hi : Int) : Int := lo + nextV l a (hi - lo + 1)
theorem rangeV_in (l : List Int) (a lo hi : Int) (h : lo <= hi) : lo <= rangeV l a lo hi /\ rangeV l a lo hi <= hi := by
 have := nextV_in l a (hi - lo + 1) (by omega)
 unfold rangeV; omega
abbrev belowS : FnSp F := sp2 (dInt .i64) (dInt .i64) (fun x n => aInt .i64 (belowV x n)) (fun x n => [(i64B x, true), (i64B n, true)])
theorem below_l0 (x : Int) (n : Int) : evR (ctxOf Tryz.prog noFacts (fun _ => false) []) Tryz.f31 [(.w (.one (.int .i64 x))), (.w (.one (.int .i64 n)))] [true] = some (AV.w (AW.one (AC.int IntKind.i64 0)), [(decide (n < 1), true)]) := by kernel_rfl
theorem below_l1 (x : Int) (n : Int) : evR (ctxOf Tryz.prog noFacts (fun _ => false) []) Tryz.f31 [(.w (.one (.int .i64 x))), (.w (.one (.int .i64 n)))] [false, true] = some (AV.w (AW.one (AC.int IntKind.i64 (IntKind.i64.wrap (x.tmod n + n)))), [(decide (n < 1), false), (decide (n = 0), false), (decide (x.tmod n < 0), true)]) := by kernel_rfl
theorem below_l2 (x : Int) (n : Int) : evR (ctxOf Tryz.prog noFacts (fun _ => false) []) Tryz.f31 [(.w (.one (.int .i64 x))), (.w (.one (.int .i64 n)))] [false, false] = some (AV.w (AW.one (AC.int IntKind.i64 (x.tmod n))), [(decide (n < 1), false), (decide (n = 0), false), (decide (x.tmod n < 0), false)]) := by kernel_rfl
theorem below_t (x : Int) (n : Int) (s0 : (decide (n < 1)) = false -> (decide (x.tmod n < 0)) = true -> decide (n = 0) = false) (s1 : (decide (n < 1)) = false -> (decide (x.tmod n < 0)) = false -> decide (n = 0) = false) : Pl Tryz.prog 31 [.int .i64 x, .int .i64 n] (AV.get ((bif decide (n < 1) then (AV.w (AW.one (AC.int IntKind.i64 0))) else (bif decide (x.tmod n < 0) then (AV.w (AW.one (AC.int IntKind.i64 (IntKind.i64.wrap (x.tmod n + n))))) else (AV.w (AW.one (AC.int IntKind.i64 (x.tmod n)))))) : AV Empty)) :=
 (pl_node (fun h0 => (pl_leaf rfl (ctxOf_ok (lib1_nil _ _) (eq_none _)) (by kernel_rfl) Tryz.func31 rfl (below_l0 x n) rfl (all2_R (.cons rfl (.cons rfl .nil))) rfl (cd_cons h0 cd_nil))) (fun h0 => (pl_node (fun h1 => (pl_leaf rfl (ctxOf_ok (lib1_nil _ _) (eq_none _)) (by kernel_rfl) Tryz.func31 rfl (below_l1 x n) rfl (all2_R (.cons rfl (.cons rfl .nil))) rfl (cd_cons h0 (cd_cons (s0 h0 h1) (cd_cons h1 cd_nil))))) (fun h1 => (pl_leaf rfl (ctxOf_ok (lib1_nil _ _) (eq_none _)) (by kernel_rfl) Tryz.func31 rfl (below_l2 x n) rfl (all2_R (.cons rfl (.cons rfl .nil))) rfl (cd_cons h0 (cd_cons (s1 h0 h1) (cd_cons h1 cd_nil))))))))
theorem below_pl (x : Int) (n : Int) (hn : i64B n = true) : Pl Tryz.prog 31 [.int .i64 x, .int .i64 n] (.int .i64 (belowV x n)) := by
 refine Eq.mp (congrArg (Pl _ _ _) ?_) (below_t x n (fun h0 h1 => by (have := of_decide_eq_false h0; exact decide_eq_false (by omega))) (fun h0 h1 => by (have := of_decide_eq_false h0; exact decide_eq_false (by omega))))
 simp only [belowV]
 cases h : decide (n < 1) with
 | true => rfl
 | false =>
   have h0 := of_decide_eq_false h
   have g1 := Int.tmod_lt_of_pos x (show 0 < n by omega)
   have g2 : -n < x.tmod n := by
     have := Int.tmod_lt_of_pos (-x) (show 0 < n by omega)
     rw [Int.neg_tmod] at this; omega
   cases h1 : decide (x.tmod n < 0) with
   | false => rfl
   | true => have := of_decide_eq_true h1; rw [i64B_iff] at hn; rw [IntWalk.i64_in (x.tmod n + n) (by omega)]; rfl
theorem belowS_ok (I : Interp F) : belowS.ok Tryz.prog I 31 := sp2_ok fun x n hc => ⟨_, rfl, below_pl x n (cd2 hc).2⟩
theorem listB_get {l : List Int} (h : listB l = true) (i : Int) : i64B (getI l i) = true := by
 unfold listB at h
 simp only [Bool.and_eq_true, List.all_eq_true] at h
 unfold getI
 cases hi : l[i.toNat]? with
 | none => simp [List.getD, hi, i64B]
 | some v => simp only [List.getD, hi, Option.getD_some]; exact h.1 v (List.mem_of_getElem? hi)
theorem wrap64B (n : Int) : i64B (IntKind.i64.wrap n) = true := by rw [i64B_iff, IntKind.wrap_i64]; omega
end Go.Proofs.YtmhhdedekblbnaaGreat
