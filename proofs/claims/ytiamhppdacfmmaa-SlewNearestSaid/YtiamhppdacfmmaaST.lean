/-
  Package spymake's streams: Below, Next, Range, for every list of integers.
  Conditions: those of each theorem.
-/
import Derived.Test.YtiamhppdacfmmaaProg
import Derived.Test.YtiamhppdacfmmaaEv2
import Derived.Test.YtiamhppdacfmmaaNS
set_option linter.unusedVariables false
set_option linter.unusedSimpArgs false
namespace Go.Proofs.Ytiamhppdacfmmaa
open Go.RowKit Ev Wd
variable {F : Type}

def belowV (x n : Int) : Int := bif decide (n < 1) then 0 else bif decide (x.tmod n < 0) then x.tmod n + n else x.tmod n
theorem belowV_in (x n : Int) (h : 1 ≤ n) : 0 ≤ belowV x n ∧ belowV x n < n := by
  unfold belowV
  have h0 : decide (n < 1) = false := by simp; omega
  have h1 := Int.tmod_lt_of_pos x (show 0 < n by omega)
  have h2 : -n < x.tmod n := by
    have := Int.tmod_lt_of_pos (-x) (show 0 < n by omega)
    rw [Int.neg_tmod] at this; omega
  rw [h0]
  cases h : decide (x.tmod n < 0) with
  | true => have := of_decide_eq_true h; simp only [cond_false, cond_true]; omega
  | false => have := of_decide_eq_false h; simp only [cond_false]; omega
def atB (a : Int) : Bool := decide (0 ≤ a) && decide (a < 1000000)
theorem atB_iff {a : Int} : atB a = true ↔ 0 ≤ a ∧ a < 1000000 := by unfold atB; simp
/-- The number that Next hands out behind a numbers of the list l. -/
def nextV (l : List Int) (a n : Int) : Int := bif lenI l == 0 then belowV (IntKind.i64.wrap ((a + 1) * 7919)) n else
  belowV (IntKind.i64.wrap (belowV (getI l (a.tmod (lenI l))) 1073741824 + IntKind.i64.wrap (IntKind.i64.wrap (a.tdiv (lenI l)) * IntKind.i64.wrap (7919 + a.tmod (lenI l))))) n
theorem nextV_in (l : List Int) (a n : Int) (h : 1 ≤ n) : 0 ≤ nextV l a n ∧ nextV l a n < n := by
  unfold nextV
  cases (lenI l == 0)
  · exact belowV_in _ n h
  · exact belowV_in _ n h
def listB (l : List Int) : Bool := l.all i64B && decide (lenI l ≤ 9223372036854775807)

def rB (v : Int) : Bool := decide (-2305843009213693952 ≤ v) && decide (v ≤ 2305843009213693952)
theorem rB_iff {v : Int} : rB v = true ↔ -2305843009213693952 ≤ v ∧ v ≤ 2305843009213693952 := by unfold rB; simp
def rangeV (l : List Int) (a lo hi : Int) : Int := lo + nextV l a (hi - lo + 1)
theorem rangeV_in (l : List Int) (a lo hi : Int) (h : lo ≤ hi) : lo ≤ rangeV l a lo hi ∧ rangeV l a lo hi ≤ hi := by
  have := nextV_in l a (hi - lo + 1) (by omega)
  unfold rangeV; omega
/-- What streams take: the list holds int64, the count is small. -/
abbrev stC (l : List Int) (a : Int) : List (Bool × Bool) := [(listB l, true), (atB a, true)]
abbrev belowS : FnSp F := sp2 (dInt .i64) (dInt .i64) (fun x n => aInt .i64 (belowV x n)) (fun x n => [(i64B x, true), (i64B n, true)])
abbrev nextG (l : List Int) (a : Int) (rest : List (AV Fct)) : Option (AV Fct × Int × List (Bool × Bool)) := match rest with
  | [x] => match (dInt .i64).dec x with
    | some n => some (aInt .i64 (nextV l a n), a + 1, (i64B n, true) :: stC l a)
    | none => none
  | _ => none
abbrev rangeG (l : List Int) (a : Int) (rest : List (AV Fct)) : Option (AV Fct × Int × List (Bool × Bool)) := match rest with
  | [x, y] => match (dInt .i64).dec x, (dInt .i64).dec y with
    | some lo, some hi => some (aInt .i64 (rangeV l a lo hi), a + 1, (decide (hi < lo), false) :: (rB lo, true) :: (rB hi, true) :: stC l a)
    | _, _ => none
  | _ => none
abbrev nextS : FnSp Fct := stream 71 nextG
abbrev rangeS : FnSp Fct := stream 71 rangeG
abbrev libS2 : List (Nat × FnSp Fct) := [(44, nextS)]
abbrev libS1 : List (Nat × FnSp Fct) := [(43, belowS)]
set_option maxRecDepth 100000 in
theorem below_l0 (x : Int) (n : Int) : evR (ctxOf Try.prog noFacts (fun _ => false) []) Try.f43 [(.w (.one (.int .i64 x))), (.w (.one (.int .i64 n)))] [true] = some (AV.w (AW.one (AC.int IntKind.i64 0)), [(decide (n < 1), true)]) := by kernel_rfl
set_option maxRecDepth 100000 in
theorem below_l1 (x : Int) (n : Int) : evR (ctxOf Try.prog noFacts (fun _ => false) []) Try.f43 [(.w (.one (.int .i64 x))), (.w (.one (.int .i64 n)))] [false, true] = some (AV.w (AW.one (AC.int IntKind.i64 (IntKind.i64.wrap (x.tmod n + n)))), [(decide (n < 1), false), (decide (n = 0), false), (decide (x.tmod n < 0), true)]) := by kernel_rfl
set_option maxRecDepth 100000 in
theorem below_l2 (x : Int) (n : Int) : evR (ctxOf Try.prog noFacts (fun _ => false) []) Try.f43 [(.w (.one (.int .i64 x))), (.w (.one (.int .i64 n)))] [false, false] = some (AV.w (AW.one (AC.int IntKind.i64 (x.tmod n))), [(decide (n < 1), false), (decide (n = 0), false), (decide (x.tmod n < 0), false)]) := by kernel_rfl
set_option maxRecDepth 100000 in
theorem below_t (x : Int) (n : Int) (s0 : (decide (n < 1)) = false → (decide (x.tmod n < 0)) = true → decide (n = 0) = false) (s1 : (decide (n < 1)) = false → (decide (x.tmod n < 0)) = false → decide (n = 0) = false) : Pl Try.prog 43 [.int .i64 x, .int .i64 n] (AV.get ((bif decide (n < 1) then (AV.w (AW.one (AC.int IntKind.i64 0))) else (bif decide (x.tmod n < 0) then (AV.w (AW.one (AC.int IntKind.i64 (IntKind.i64.wrap (x.tmod n + n))))) else (AV.w (AW.one (AC.int IntKind.i64 (x.tmod n)))))) : AV Empty)) :=
  (pl_node (fun h0 => (pl_leaf rfl (ctxOf_ok (lib1_nil _ _) (eq_none _)) (by kernel_rfl) Try.func43 rfl (below_l0 x n) rfl (all2_R (.cons rfl (.cons rfl .nil))) rfl (cd_cons h0 cd_nil))) (fun h0 => (pl_node (fun h1 => (pl_leaf rfl (ctxOf_ok (lib1_nil _ _) (eq_none _)) (by kernel_rfl) Try.func43 rfl (below_l1 x n) rfl (all2_R (.cons rfl (.cons rfl .nil))) rfl (cd_cons h0 (cd_cons (s0 h0 h1) (cd_cons h1 cd_nil))))) (fun h1 => (pl_leaf rfl (ctxOf_ok (lib1_nil _ _) (eq_none _)) (by kernel_rfl) Try.func43 rfl (below_l2 x n) rfl (all2_R (.cons rfl (.cons rfl .nil))) rfl (cd_cons h0 (cd_cons (s1 h0 h1) (cd_cons h1 cd_nil))))))))
theorem below_pl (x : Int) (n : Int) (hn : i64B n = true) : Pl Try.prog 43 [.int .i64 x, .int .i64 n] (.int .i64 (belowV x n)) := by
  refine Eq.mp (congrArg (Pl _ _ _) ?_) (below_t x n (fun h0 h1 => by (have := of_decide_eq_false h0; exact decide_eq_false (by omega))) (fun h0 h1 => by (have := of_decide_eq_false h0; exact decide_eq_false (by omega))))
  simp only [belowV]
  cases h : decide (n < 1) with
  | true => rfl
  | false =>
    have h0 := of_decide_eq_false h
    have g1 := Int.tmod_lt_of_pos x (show 0 < n by omega)
    have g2 : -n < x.tmod n := by
      have := Int.tmod_lt_of_pos (-x) (show 0 < n by omega)
      rw [Int.neg_tmod] at this; omega
    cases h1 : decide (x.tmod n < 0) with
    | false => rfl
    | true => have := of_decide_eq_true h1; rw [i64B_iff] at hn; rw [IntWalk.i64_in (x.tmod n + n) (by omega)]; rfl
theorem belowS_ok (I : Interp F) : belowS.ok Try.prog I 43 := sp2_ok fun x n hc => ⟨_, rfl, below_pl x n (cd2 hc).2⟩
theorem libS1_ok (B : Nat) : LibOk Try.prog (fctI B) (lib1 libS1) := lib1_cons (belowS_ok _) Try.call43 (lib1_nil _ _)
theorem dInt_eq {k : IntKind} {x : AV F} {n : Int} (h : (dInt k).dec x = some n) : x = aInt k n := by
  simp only [dInt] at h
  split at h
  · rename_i k' m
    by_cases e : k' = k
    · subst e; simp at h; subst h; rfl
    · simp [e] at h
  · cases h
theorem belowV_64 {x n : Int} (hn : i64B n = true) : i64B (belowV x n) = true := by
  rw [i64B_iff] at hn ⊢
  by_cases h : 1 ≤ n
  · have := belowV_in x n h; omega
  · have : decide (n < 1) = true := by simp; omega
    unfold belowV; rw [this]; simp only [cond_true]; decide
theorem listB_get {l : List Int} (h : listB l = true) (i : Int) : i64B (getI l i) = true := by
  unfold listB at h
  simp only [Bool.and_eq_true, List.all_eq_true] at h
  unfold getI
  cases hi : l[i.toNat]? with
  | none => simp [List.getD, hi, i64B]
  | some v => simp only [List.getD, hi, Option.getD_some]; exact h.1 v (List.mem_of_getElem? hi)
theorem wrap64B (n : Int) : i64B (IntKind.i64.wrap n) = true := by rw [i64B_iff, IntKind.wrap_i64]; omega
set_option maxRecDepth 100000 in
theorem next_l0 (B : Nat) (l : List Int) (a : Int) (n : Int) : evS (ctxOf Try.prog (fctI B) (fun _ => false) libS1) Try.f44 71 l a [(.w (.one (.int .i64 n)))] [true] = some (AV.w (AW.one (AC.int IntKind.i64 (belowV (IntKind.i64.wrap (IntKind.i64.wrap (a + 1) * 7919)) n))), IntKind.i64.wrap (a + 1), [(lenI l == 0, true), (i64B (IntKind.i64.wrap (IntKind.i64.wrap (a + 1) * 7919)), true), (i64B n, true)]) := by kernel_rfl
set_option maxRecDepth 100000 in
theorem next_l1 (B : Nat) (l : List Int) (a : Int) (n : Int) : evS (ctxOf Try.prog (fctI B) (fun _ => false) libS1) Try.f44 71 l a [(.w (.one (.int .i64 n)))] [false] = some (AV.w (AW.one (AC.int IntKind.i64 (belowV (IntKind.i64.wrap (belowV (getI l ((IntKind.i64.wrap (IntKind.i64.wrap (a + 1) - 1)).tmod (lenI l))) 1073741824 + IntKind.i64.wrap (IntKind.i64.wrap ((IntKind.i64.wrap (IntKind.i64.wrap (a + 1) - 1)).tdiv (lenI l)) * IntKind.i64.wrap (7919 + (IntKind.i64.wrap (IntKind.i64.wrap (a + 1) - 1)).tmod (lenI l))))) n))), IntKind.i64.wrap (a + 1), [(lenI l == 0, false), (decide (lenI l = 0), false), (decide (lenI l = 0), false), (decide (0 ≤ (IntKind.i64.wrap (IntKind.i64.wrap (a + 1) - 1)).tmod (lenI l)), true), (decide ((IntKind.i64.wrap (IntKind.i64.wrap (a + 1) - 1)).tmod (lenI l) < lenI l), true), (decide (0 ≤ (IntKind.i64.wrap (IntKind.i64.wrap (a + 1) - 1)).tmod (lenI l)), true), (decide ((IntKind.i64.wrap (IntKind.i64.wrap (a + 1) - 1)).tmod (lenI l) < lenI l), true), (i64B (getI l ((IntKind.i64.wrap (IntKind.i64.wrap (a + 1) - 1)).tmod (lenI l))), true), (i64B 1073741824, true), (i64B (IntKind.i64.wrap (belowV (getI l ((IntKind.i64.wrap (IntKind.i64.wrap (a + 1) - 1)).tmod (lenI l))) 1073741824 + IntKind.i64.wrap (IntKind.i64.wrap ((IntKind.i64.wrap (IntKind.i64.wrap (a + 1) - 1)).tdiv (lenI l)) * IntKind.i64.wrap (7919 + (IntKind.i64.wrap (IntKind.i64.wrap (a + 1) - 1)).tmod (lenI l))))), true), (i64B n, true)]) := by kernel_rfl
theorem nextS_ok (B : Nat) : nextS.ok Try.prog (fctI B) 44 := by
  refine stream_ok (ctxOf_ok (libS1_ok B) (eq_none _)) (by kernel_rfl) Try.func44 rfl fun l a rest v a' cd hg hc => ?_
  simp only [nextG] at hg
  split at hg
  · rename_i x
    split at hg
    · rename_i n hx
      cases hg
      have hn : i64B n = true := hc (i64B n, true) (by simp)
      have hl : listB l = true := hc (listB l, true) (by simp)
      have ha := atB_iff.1 (hc (atB a, true) (by simp))
      have e1 : IntKind.i64.wrap (a + 1) = a + 1 := IntWalk.i64_in _ (by omega)
      have e2 : IntKind.i64.wrap (a + 1 - 1) = a := by rw [show a + 1 - 1 = a by omega]; exact IntWalk.i64_in _ (by omega)
      rw [dInt_eq hx]
      cases hz : (lenI l == 0) with
      | true =>
        have L := next_l0 B l a n
        rw [e1, hz] at L
        refine ⟨[.int .i64 n], .int .i64 (nextV l a n), [true], _, _, _, .cons rfl .nil, .cons rfl .nil, rfl, ?_, rfl, L, ?_⟩
        · unfold nextV; rw [hz]; rfl
        · exact cd_cons rfl (cd_cons (wrap64B _) (cd_cons hn cd_nil))
      | false =>
        have L := next_l1 B l a n
        rw [e1, e2, hz] at L
        have h0 : lenI l ≠ 0 := by simpa using hz
        have hp : 0 < lenI l := by have : 0 ≤ lenI l := Int.natCast_nonneg _; omega
        have m1 : 0 ≤ a.tmod (lenI l) := Int.tmod_nonneg _ ha.1
        have m2 := Int.tmod_lt_of_pos a hp
        refine ⟨[.int .i64 n], .int .i64 (nextV l a n), [false], _, _, _, .cons rfl .nil, .cons rfl .nil, rfl, ?_, rfl, L, ?_⟩
        · unfold nextV; rw [hz]; rfl
        · repeat' (first | exact cd_nil | refine cd_cons ?_ ?_)
          all_goals first | rfl | exact hn | exact wrap64B _ | exact listB_get hl _ | exact decide_eq_true m1 | exact decide_eq_true m2 | exact decide_eq_false h0
    · cases hg
  · cases hg
theorem libS2_ok (B : Nat) : LibOk Try.prog (fctI B) (lib1 libS2) := lib1_cons (nextS_ok B) Try.call44 (lib1_nil _ _)
set_option maxRecDepth 100000 in
theorem range_l0 (B : Nat) (l : List Int) (a : Int) (x : Int) (y : Int) : evS (ctxOf Try.prog (fctI B) (fun _ => false) libS2) Try.f71 71 l a [(.w (.one (.int .i64 x))), (.w (.one (.int .i64 y)))] [true] = some (AV.w (AW.one (AC.int IntKind.i64 x)), a, [(decide (y < x), true)]) := by kernel_rfl
set_option maxRecDepth 100000 in
theorem range_l1 (B : Nat) (l : List Int) (a : Int) (x : Int) (y : Int) : evS (ctxOf Try.prog (fctI B) (fun _ => false) libS2) Try.f71 71 l a [(.w (.one (.int .i64 x))), (.w (.one (.int .i64 y)))] [false] = some (AV.w (AW.one (AC.int IntKind.i64 (IntKind.i64.wrap (x + nextV l a (IntKind.i64.wrap (IntKind.i64.wrap (y - x) + 1)))))), a + 1, [(decide (y < x), false), (i64B (IntKind.i64.wrap (IntKind.i64.wrap (y - x) + 1)), true), (listB l, true), (atB a, true)]) := by kernel_rfl
theorem rangeS_ok (B : Nat) : rangeS.ok Try.prog (fctI B) 71 := by
  refine stream_ok (ctxOf_ok (libS2_ok B) (eq_none _)) (by kernel_rfl) Try.func71 rfl fun l a rest v a' cd hg hc => ?_
  simp only [rangeG] at hg
  split at hg
  · rename_i x y
    split at hg
    · rename_i lo hi hx hy
      cases hg
      have hlt : decide (hi < lo) = false := hc (decide (hi < lo), false) (by simp)
      have h1 := rB_iff.1 (hc (rB lo, true) (by simp))
      have h2 := rB_iff.1 (hc (rB hi, true) (by simp))
      have hl : listB l = true := hc (listB l, true) (by simp)
      have ha : atB a = true := hc (atB a, true) (by simp)
      have hle := of_decide_eq_false hlt
      have hn := nextV_in l a (hi - lo + 1) (by omega)
      have e1 : IntKind.i64.wrap (hi - lo) = hi - lo := IntWalk.i64_in _ (by omega)
      have e2 : IntKind.i64.wrap (hi - lo + 1) = hi - lo + 1 := IntWalk.i64_in _ (by omega)
      have e3 : IntKind.i64.wrap (lo + nextV l a (hi - lo + 1)) = lo + nextV l a (hi - lo + 1) := IntWalk.i64_in _ (by omega)
      rw [dInt_eq hx, dInt_eq hy]
      have L := range_l1 B l a lo hi
      rw [e1, e2, e3] at L
      refine ⟨[.int .i64 lo, .int .i64 hi], .int .i64 (rangeV l a lo hi), [false], _, _, _, .cons rfl (.cons rfl .nil), .cons rfl (.cons rfl .nil), rfl, rfl, rfl, L, ?_⟩
      repeat' (first | exact cd_nil | refine cd_cons ?_ ?_)
      all_goals first | exact hlt | exact hl | exact ha | (rw [i64B_iff]; omega)
    · cases hg
  · cases hg
end Go.Proofs.Ytiamhppdacfmmaa

