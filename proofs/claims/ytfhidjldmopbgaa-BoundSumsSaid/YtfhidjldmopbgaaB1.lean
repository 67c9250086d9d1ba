/-
  Package bound: what its small functions return, for every argument.
  Conditions: none.
-/
import Derived.Test.YtfhidjldmopbgaaProg
import Derived.Test.YtfhidjldmopbgaaEv2
import Derived.IntWalk
set_option linter.unusedVariables false
set_option linter.unusedSimpArgs false
namespace Go.Proofs.Ytfhidjldmopbgaa
open Go.RowKit Ev
variable {F : Type}

/-- A bound. -/
structure Bd where
  lo : Int
  hi : Int
  u : Bool
abbrev bV (b : Bd) : Value := .agg #[.int .i64 b.lo, .int .i64 b.hi, .bool b.u]
abbrev bA (b : Bd) : AV F := .w (.agg [.int .i64 b.lo, .int .i64 b.hi, .bool b.u])
def dBd : Dec F Bd where
  dec := fun x => match x with
    | .w (.agg [.int .i64 a, .int .i64 b, .bool c]) => some ⟨a, b, c⟩
    | .w (.agg [.int .i64 a, .int .i64 b, .yes c]) => some ⟨a, b, c⟩
    | _ => none
  enc := bV
  ok := fun x a h => by
    split at h
    · cases h; rfl
    · cases h; rfl
    · cases h
def inB (v : Int) : Bool := decide (-1152921504606846976 ≤ v) && decide (v ≤ 1152921504606846976)
def chkB (b : Bd) : Int := bif b.u && !(b.lo == 0 && b.hi == 0) then 3 else bif !(inB b.lo && inB b.hi) then 4 else bif decide (b.lo > b.hi) then 11 else 0
def knB (b : Bd) : Bool := !b.u && (inB b.lo && inB b.hi && decide (b.lo ≤ b.hi))
def noneB : Bd := ⟨0, 0, true⟩
def normB (b : Bd) : Bd := bif knB b then b else noneB
def ofB (lo hi : Int) : Bd := normB ⟨lo, hi, false⟩
def hasB (b : Bd) (v : Int) : Bool := !knB b || (decide (b.lo ≤ v) && decide (v ≤ b.hi))
def insB (a b : Bd) : Bool := !knB b || (knB a && decide (b.lo ≤ a.lo) && decide (a.hi ≤ b.hi))
def cmpB (a b : Bd) : Int := bif !(knB a && knB b) then 0 else bif decide (a.hi < b.lo) then -1 else bif decide (a.lo > b.hi) then 1 else 0
def widV (b : Bd) : Int := bif knB b then b.hi - b.lo else 0
def addB (a b : Bd) : Bd := bif knB a && knB b then ofB (a.lo + b.lo) (a.hi + b.hi) else noneB
def negB (a : Bd) : Bd := bif knB a then ofB (-a.hi) (-a.lo) else noneB
def subB (a b : Bd) : Bd := addB a (negB b)
def minI (a b : Int) : Int := if b < a then b else a
def maxI (a b : Int) : Int := if b > a then b else a
def minB (a b : Bd) : Bd := bif knB a && knB b then ofB (minI a.lo b.lo) (minI a.hi b.hi) else noneB
def maxB (a b : Bd) : Bd := bif knB a && knB b then ofB (maxI a.lo b.lo) (maxI a.hi b.hi) else noneB
def hullB (a b : Bd) : Bd := bif knB a && knB b then ofB (minI a.lo b.lo) (maxI a.hi b.hi) else noneB
def absB (a : Bd) : Bd := bif knB a then ofB (maxI (maxI 0 a.lo) (-a.hi)) (maxI (-a.lo) a.hi) else noneB
def meetB (a b : Bd) : Bd := bif !knB a then normB b else bif !knB b then a else bif !(cmpB a b == 0) then ⟨0, 0, false⟩ else ofB (maxI a.lo b.lo) (minI a.hi b.hi)
def meetO (a b : Bd) : Bool := !knB a || !knB b || (cmpB a b == 0)
theorem inB_iff {v : Int} : inB v = true ↔ -1152921504606846976 ≤ v ∧ v ≤ 1152921504606846976 := by unfold inB; simp
theorem knB_iff {b : Bd} : knB b = true ↔ b.u = false ∧ -1152921504606846976 ≤ b.lo ∧ b.lo ≤ b.hi ∧ b.hi ≤ 1152921504606846976 := by
  unfold knB inB
  simp only [Bool.and_eq_true, Bool.not_eq_true', decide_eq_true_eq]
  constructor
  · rintro ⟨h1, ⟨⟨h2, h3⟩, h4, h5⟩, h6⟩; exact ⟨h1, h2, h6, h5⟩
  · rintro ⟨h1, h2, h3, h4⟩; exact ⟨h1, ⟨⟨h2, by omega⟩, by omega, h4⟩, h3⟩

abbrev libB0 : List (Nat × FnSp Empty) := []
abbrev libB1 : List (Nat × FnSp Empty) := [(42, sp1 (dInt .i64) (fun v => aBool (inB v)) (fun _ => []))]
abbrev libB2 : List (Nat × FnSp Empty) := (46, sp1 dBd (fun b => aInt .i64 (chkB b)) (fun _ => [])) :: libB1
abbrev libB3 : List (Nat × FnSp Empty) := (34, sp0 (bA noneB)) :: (33, sp1 dBd (fun b => aBool (knB b)) (fun _ => [])) :: libB2
abbrev libB4 : List (Nat × FnSp Empty) := (47, sp1 dBd (fun b => bA (normB b)) (fun _ => [])) :: libB3
abbrev libB5 : List (Nat × FnSp Empty) := (35, sp2 (dInt .i64) (dInt .i64) (fun x y => bA (ofB x y)) (fun _ _ => [])) :: libB4
abbrev libB6 : List (Nat × FnSp Empty) := (14, sp2 dBd dBd (fun a b => bA (addB a b)) (fun _ _ => [])) :: (16, sp1 dBd (fun a => bA (negB a)) (fun _ => [])) :: libB5

theorem libB0_ok : LibOk Try.prog noFacts (lib1 libB0) := lib1_nil _ _
set_option maxRecDepth 100000 in
theorem inRange_l0 (v : Int) : evR (ctxOf Try.prog noFacts (fun _ => false) libB0) Try.f42 [(.w (.one (.int .i64 v)))] [true] = some (AV.w (AW.one (AC.bool (decide (v ≤ 1152921504606846976)))), [(decide (-1152921504606846976 ≤ v), true), (decide (-1152921504606846976 ≤ v), true), (decide (-1152921504606846976 ≤ v), true)]) := by kernel_rfl
set_option maxRecDepth 100000 in
theorem inRange_l1 (v : Int) : evR (ctxOf Try.prog noFacts (fun _ => false) libB0) Try.f42 [(.w (.one (.int .i64 v)))] [false] = some (AV.w (AW.one (AC.yes false)), [(decide (-1152921504606846976 ≤ v), false), (decide (-1152921504606846976 ≤ v), false), (decide (-1152921504606846976 ≤ v), false)]) := by kernel_rfl
set_option maxRecDepth 100000 in
theorem inRange_t (v : Int) : Pl Try.prog 42 [.int .i64 v] (AV.get ((bif decide (-1152921504606846976 ≤ v) then (AV.w (AW.one (AC.bool (decide (v ≤ 1152921504606846976))))) else (AV.w (AW.one (AC.yes false)))) : AV Empty)) :=
  (pl_node (fun h0 => (pl_leaf rfl (ctxOf_ok libB0_ok (eq_none _)) (by kernel_rfl) Try.func42 rfl (inRange_l0 v) rfl (all2_R (.cons rfl .nil)) rfl (cd_cons h0 (cd_cons h0 (cd_cons h0 cd_nil))))) (fun h0 => (pl_leaf rfl (ctxOf_ok libB0_ok (eq_none _)) (by kernel_rfl) Try.func42 rfl (inRange_l1 v) rfl (all2_R (.cons rfl .nil)) rfl (cd_cons h0 (cd_cons h0 (cd_cons h0 cd_nil))))))
theorem inRange_pl (v : Int) : Pl Try.prog 42 [.int .i64 v] (.bool (inB v)) := by
  refine Eq.mp (congrArg (Pl _ _ _) ?_) (inRange_t v)
  unfold inB; cases decide (-1152921504606846976 ≤ v) <;> rfl
theorem libB1_ok : LibOk Try.prog noFacts (lib1 libB1) := (lib1_cons (sp1_ok fun v _ => ⟨_, rfl, inRange_pl v⟩) Try.call42 (libB0_ok))
set_option maxRecDepth 100000 in
theorem check_l0 (a : Bd) : evR (ctxOf Try.prog noFacts (fun _ => false) libB1) Try.f46 [(bA a)] [true, true] = some (AV.w (AW.one (AC.int IntKind.i64 3)), [(a.u, true), (a.u, true), (a.u, true), (a.u, true), (a.lo != 0, true), (a.lo != 0, true), (a.lo != 0, true), (a.u, true), (a.lo != 0, true), (a.u, true), (true, true)]) := by kernel_rfl
set_option maxRecDepth 100000 in
theorem check_l1 (a : Bd) : evR (ctxOf Try.prog noFacts (fun _ => false) libB1) Try.f46 [(bA a)] [true, false, true] = some (AV.w (AW.one (AC.int IntKind.i64 3)), [(a.u, true), (a.u, true), (a.u, true), (a.u, true), (a.lo != 0, false), (a.lo != 0, false), (a.lo != 0, false), (a.u, true), (a.lo != 0, false), (a.u, true), (a.hi != 0, true)]) := by kernel_rfl
set_option maxRecDepth 100000 in
theorem check_l2 (a : Bd) : evR (ctxOf Try.prog noFacts (fun _ => false) libB1) Try.f46 [(bA a)] [true, false, false, true] = some (AV.w (AW.one (AC.int IntKind.i64 4)), [(a.u, true), (a.u, true), (a.u, true), (a.u, true), (a.lo != 0, false), (a.lo != 0, false), (a.lo != 0, false), (a.u, true), (a.lo != 0, false), (a.u, true), (a.hi != 0, false), (!inB a.lo, true), (!inB a.lo, true), (!inB a.lo, true), (!inB a.lo, true), (!inB a.lo, true), (true, true)]) := by kernel_rfl
set_option maxRecDepth 100000 in
theorem check_l3 (a : Bd) : evR (ctxOf Try.prog noFacts (fun _ => false) libB1) Try.f46 [(bA a)] [true, false, false, false, true] = some (AV.w (AW.one (AC.int IntKind.i64 4)), [(a.u, true), (a.u, true), (a.u, true), (a.u, true), (a.lo != 0, false), (a.lo != 0, false), (a.lo != 0, false), (a.u, true), (a.lo != 0, false), (a.u, true), (a.hi != 0, false), (!inB a.lo, false), (!inB a.lo, false), (!inB a.lo, false), (!inB a.lo, false), (!inB a.lo, false), (!inB a.hi, true)]) := by kernel_rfl
set_option maxRecDepth 100000 in
theorem check_l4 (a : Bd) : evR (ctxOf Try.prog noFacts (fun _ => false) libB1) Try.f46 [(bA a)] [true, false, false, false, false, true] = some (AV.w (AW.one (AC.int IntKind.i64 11)), [(a.u, true), (a.u, true), (a.u, true), (a.u, true), (a.lo != 0, false), (a.lo != 0, false), (a.lo != 0, false), (a.u, true), (a.lo != 0, false), (a.u, true), (a.hi != 0, false), (!inB a.lo, false), (!inB a.lo, false), (!inB a.lo, false), (!inB a.lo, false), (!inB a.lo, false), (!inB a.hi, false), (decide (a.lo > a.hi), true)]) := by kernel_rfl
set_option maxRecDepth 100000 in
theorem check_l5 (a : Bd) : evR (ctxOf Try.prog noFacts (fun _ => false) libB1) Try.f46 [(bA a)] [true, false, false, false, false, false] = some (AV.w (AW.one (AC.int IntKind.i64 0)), [(a.u, true), (a.u, true), (a.u, true), (a.u, true), (a.lo != 0, false), (a.lo != 0, false), (a.lo != 0, false), (a.u, true), (a.lo != 0, false), (a.u, true), (a.hi != 0, false), (!inB a.lo, false), (!inB a.lo, false), (!inB a.lo, false), (!inB a.lo, false), (!inB a.lo, false), (!inB a.hi, false), (decide (a.lo > a.hi), false)]) := by kernel_rfl
set_option maxRecDepth 100000 in
theorem check_l6 (a : Bd) : evR (ctxOf Try.prog noFacts (fun _ => false) libB1) Try.f46 [(bA a)] [false, true] = some (AV.w (AW.one (AC.int IntKind.i64 4)), [(a.u, false), (a.u, false), (a.u, false), (a.u, false), (a.u, false), (a.u, false), (false, false), (!inB a.lo, true), (!inB a.lo, true), (!inB a.lo, true), (!inB a.lo, true), (!inB a.lo, true), (true, true)]) := by kernel_rfl
set_option maxRecDepth 100000 in
theorem check_l7 (a : Bd) : evR (ctxOf Try.prog noFacts (fun _ => false) libB1) Try.f46 [(bA a)] [false, false, true] = some (AV.w (AW.one (AC.int IntKind.i64 4)), [(a.u, false), (a.u, false), (a.u, false), (a.u, false), (a.u, false), (a.u, false), (false, false), (!inB a.lo, false), (!inB a.lo, false), (!inB a.lo, false), (!inB a.lo, false), (!inB a.lo, false), (!inB a.hi, true)]) := by kernel_rfl
set_option maxRecDepth 100000 in
theorem check_l8 (a : Bd) : evR (ctxOf Try.prog noFacts (fun _ => false) libB1) Try.f46 [(bA a)] [false, false, false, true] = some (AV.w (AW.one (AC.int IntKind.i64 11)), [(a.u, false), (a.u, false), (a.u, false), (a.u, false), (a.u, false), (a.u, false), (false, false), (!inB a.lo, false), (!inB a.lo, false), (!inB a.lo, false), (!inB a.lo, false), (!inB a.lo, false), (!inB a.hi, false), (decide (a.lo > a.hi), true)]) := by kernel_rfl
set_option maxRecDepth 100000 in
theorem check_l9 (a : Bd) : evR (ctxOf Try.prog noFacts (fun _ => false) libB1) Try.f46 [(bA a)] [false, false, false, false] = some (AV.w (AW.one (AC.int IntKind.i64 0)), [(a.u, false), (a.u, false), (a.u, false), (a.u, false), (a.u, false), (a.u, false), (false, false), (!inB a.lo, false), (!inB a.lo, false), (!inB a.lo, false), (!inB a.lo, false), (!inB a.lo, false), (!inB a.hi, false), (decide (a.lo > a.hi), false)]) := by kernel_rfl
set_option maxRecDepth 100000 in
theorem check_t (a : Bd) : Pl Try.prog 46 [bV a] (AV.get ((bif a.u then (bif a.lo != 0 then (AV.w (AW.one (AC.int IntKind.i64 3))) else (bif a.hi != 0 then (AV.w (AW.one (AC.int IntKind.i64 3))) else (bif !inB a.lo then (AV.w (AW.one (AC.int IntKind.i64 4))) else (bif !inB a.hi then (AV.w (AW.one (AC.int IntKind.i64 4))) else (bif decide (a.lo > a.hi) then (AV.w (AW.one (AC.int IntKind.i64 11))) else (AV.w (AW.one (AC.int IntKind.i64 0)))))))) else (bif !inB a.lo then (AV.w (AW.one (AC.int IntKind.i64 4))) else (bif !inB a.hi then (AV.w (AW.one (AC.int IntKind.i64 4))) else (bif decide (a.lo > a.hi) then (AV.w (AW.one (AC.int IntKind.i64 11))) else (AV.w (AW.one (AC.int IntKind.i64 0))))))) : AV Empty)) :=
  (pl_node (fun h0 => (pl_node (fun h1 => (pl_leaf rfl (ctxOf_ok libB1_ok (eq_none _)) (by kernel_rfl) Try.func46 rfl (check_l0 a) rfl (all2_R (.cons rfl .nil)) rfl (cd_cons h0 (cd_cons h0 (cd_cons h0 (cd_cons h0 (cd_cons h1 (cd_cons h1 (cd_cons h1 (cd_cons h0 (cd_cons h1 (cd_cons h0 (cd_cons rfl cd_nil))))))))))))) (fun h1 => (pl_node (fun h2 => (pl_leaf rfl (ctxOf_ok libB1_ok (eq_none _)) (by kernel_rfl) Try.func46 rfl (check_l1 a) rfl (all2_R (.cons rfl .nil)) rfl (cd_cons h0 (cd_cons h0 (cd_cons h0 (cd_cons h0 (cd_cons h1 (cd_cons h1 (cd_cons h1 (cd_cons h0 (cd_cons h1 (cd_cons h0 (cd_cons h2 cd_nil))))))))))))) (fun h2 => (pl_node (fun h3 => (pl_leaf rfl (ctxOf_ok libB1_ok (eq_none _)) (by kernel_rfl) Try.func46 rfl (check_l2 a) rfl (all2_R (.cons rfl .nil)) rfl (cd_cons h0 (cd_cons h0 (cd_cons h0 (cd_cons h0 (cd_cons h1 (cd_cons h1 (cd_cons h1 (cd_cons h0 (cd_cons h1 (cd_cons h0 (cd_cons h2 (cd_cons h3 (cd_cons h3 (cd_cons h3 (cd_cons h3 (cd_cons h3 (cd_cons rfl cd_nil))))))))))))))))))) (fun h3 => (pl_node (fun h4 => (pl_leaf rfl (ctxOf_ok libB1_ok (eq_none _)) (by kernel_rfl) Try.func46 rfl (check_l3 a) rfl (all2_R (.cons rfl .nil)) rfl (cd_cons h0 (cd_cons h0 (cd_cons h0 (cd_cons h0 (cd_cons h1 (cd_cons h1 (cd_cons h1 (cd_cons h0 (cd_cons h1 (cd_cons h0 (cd_cons h2 (cd_cons h3 (cd_cons h3 (cd_cons h3 (cd_cons h3 (cd_cons h3 (cd_cons h4 cd_nil))))))))))))))))))) (fun h4 => (pl_node (fun h5 => (pl_leaf rfl (ctxOf_ok libB1_ok (eq_none _)) (by kernel_rfl) Try.func46 rfl (check_l4 a) rfl (all2_R (.cons rfl .nil)) rfl (cd_cons h0 (cd_cons h0 (cd_cons h0 (cd_cons h0 (cd_cons h1 (cd_cons h1 (cd_cons h1 (cd_cons h0 (cd_cons h1 (cd_cons h0 (cd_cons h2 (cd_cons h3 (cd_cons h3 (cd_cons h3 (cd_cons h3 (cd_cons h3 (cd_cons h4 (cd_cons h5 cd_nil)))))))))))))))))))) (fun h5 => (pl_leaf rfl (ctxOf_ok libB1_ok (eq_none _)) (by kernel_rfl) Try.func46 rfl (check_l5 a) rfl (all2_R (.cons rfl .nil)) rfl (cd_cons h0 (cd_cons h0 (cd_cons h0 (cd_cons h0 (cd_cons h1 (cd_cons h1 (cd_cons h1 (cd_cons h0 (cd_cons h1 (cd_cons h0 (cd_cons h2 (cd_cons h3 (cd_cons h3 (cd_cons h3 (cd_cons h3 (cd_cons h3 (cd_cons h4 (cd_cons h5 cd_nil)))))))))))))))))))))))))))))) (fun h0 => (pl_node (fun h1 => (pl_leaf rfl (ctxOf_ok libB1_ok (eq_none _)) (by kernel_rfl) Try.func46 rfl (check_l6 a) rfl (all2_R (.cons rfl .nil)) rfl (cd_cons h0 (cd_cons h0 (cd_cons h0 (cd_cons h0 (cd_cons h0 (cd_cons h0 (cd_cons rfl (cd_cons h1 (cd_cons h1 (cd_cons h1 (cd_cons h1 (cd_cons h1 (cd_cons rfl cd_nil))))))))))))))) (fun h1 => (pl_node (fun h2 => (pl_leaf rfl (ctxOf_ok libB1_ok (eq_none _)) (by kernel_rfl) Try.func46 rfl (check_l7 a) rfl (all2_R (.cons rfl .nil)) rfl (cd_cons h0 (cd_cons h0 (cd_cons h0 (cd_cons h0 (cd_cons h0 (cd_cons h0 (cd_cons rfl (cd_cons h1 (cd_cons h1 (cd_cons h1 (cd_cons h1 (cd_cons h1 (cd_cons h2 cd_nil))))))))))))))) (fun h2 => (pl_node (fun h3 => (pl_leaf rfl (ctxOf_ok libB1_ok (eq_none _)) (by kernel_rfl) Try.func46 rfl (check_l8 a) rfl (all2_R (.cons rfl .nil)) rfl (cd_cons h0 (cd_cons h0 (cd_cons h0 (cd_cons h0 (cd_cons h0 (cd_cons h0 (cd_cons rfl (cd_cons h1 (cd_cons h1 (cd_cons h1 (cd_cons h1 (cd_cons h1 (cd_cons h2 (cd_cons h3 cd_nil)))))))))))))))) (fun h3 => (pl_leaf rfl (ctxOf_ok libB1_ok (eq_none _)) (by kernel_rfl) Try.func46 rfl (check_l9 a) rfl (all2_R (.cons rfl .nil)) rfl (cd_cons h0 (cd_cons h0 (cd_cons h0 (cd_cons h0 (cd_cons h0 (cd_cons h0 (cd_cons rfl (cd_cons h1 (cd_cons h1 (cd_cons h1 (cd_cons h1 (cd_cons h1 (cd_cons h2 (cd_cons h3 cd_nil)))))))))))))))))))))))
theorem check_pl (a : Bd) : Pl Try.prog 46 [bV a] (.int .i64 (chkB a)) := by
  refine Eq.mp (congrArg (Pl _ _ _) ?_) (check_t a)
  obtain ⟨x, y, u⟩ := a; simp only [chkB, bne]; cases u <;> cases (x == 0) <;> cases (y == 0) <;> cases inB x <;> cases inB y <;> cases decide (x > y) <;> rfl
theorem libB2_ok : LibOk Try.prog noFacts (lib1 libB2) := (lib1_cons (sp1_ok fun a _ => ⟨_, rfl, check_pl a⟩) Try.call46 (libB1_ok))
set_option maxRecDepth 100000 in
theorem known_l0 (a : Bd) : evR (ctxOf Try.prog noFacts (fun _ => false) libB2) Try.f33 [(bA a)] [true] = some (AV.w (AW.one (AC.bool (chkB { lo := a.lo, hi := a.hi, u := a.u } == 0))), [(!a.u, true), (!a.u, true), (!a.u, true), (!a.u, true)]) := by kernel_rfl
set_option maxRecDepth 100000 in
theorem known_l1 (a : Bd) : evR (ctxOf Try.prog noFacts (fun _ => false) libB2) Try.f33 [(bA a)] [false] = some (AV.w (AW.one (AC.yes false)), [(!a.u, false), (!a.u, false), (!a.u, false), (!a.u, false)]) := by kernel_rfl
set_option maxRecDepth 100000 in
theorem known_t (a : Bd) : Pl Try.prog 33 [bV a] (AV.get ((bif !a.u then (AV.w (AW.one (AC.bool (chkB { lo := a.lo, hi := a.hi, u := a.u } == 0)))) else (AV.w (AW.one (AC.yes false)))) : AV Empty)) :=
  (pl_node (fun h0 => (pl_leaf rfl (ctxOf_ok libB2_ok (eq_none _)) (by kernel_rfl) Try.func33 rfl (known_l0 a) rfl (all2_R (.cons rfl .nil)) rfl (cd_cons h0 (cd_cons h0 (cd_cons h0 (cd_cons h0 cd_nil)))))) (fun h0 => (pl_leaf rfl (ctxOf_ok libB2_ok (eq_none _)) (by kernel_rfl) Try.func33 rfl (known_l1 a) rfl (all2_R (.cons rfl .nil)) rfl (cd_cons h0 (cd_cons h0 (cd_cons h0 (cd_cons h0 cd_nil)))))))
theorem known_pl (a : Bd) : Pl Try.prog 33 [bV a] (.bool (knB a)) := by
  refine Eq.mp (congrArg (Pl _ _ _) ?_) (known_t a)
  obtain ⟨x, y, u⟩ := a; simp only [knB]; have e : decide (x ≤ y) = !decide (x > y) := by (by_cases h : x > y <;> simp [h] <;> omega)
  rw [e]; simp only [chkB]; cases u <;> cases inB x <;> cases inB y <;> cases decide (x > y) <;> rfl
set_option maxRecDepth 100000 in
theorem none_l0  : evR (ctxOf Try.prog noFacts (fun _ => false) libB0) Try.f34 [] [] = some (AV.w (AW.agg [AC.int IntKind.i64 0, AC.int IntKind.i64 0, AC.yes true]), []) := by kernel_rfl
set_option maxRecDepth 100000 in
theorem none_t  : Pl Try.prog 34 [] (AV.get ((AV.w (AW.agg [AC.int IntKind.i64 0, AC.int IntKind.i64 0, AC.yes true])) : AV Empty)) :=
  (pl_leaf rfl (ctxOf_ok libB0_ok (eq_none _)) (by kernel_rfl) Try.func34 rfl (none_l0) rfl (all2_R .nil) rfl cd_nil)
theorem none_pl  : Pl Try.prog 34 [] (bV noneB) := by
  refine Eq.mp (congrArg (Pl _ _ _) ?_) (none_t )
  rfl
theorem libB3_ok : LibOk Try.prog noFacts (lib1 libB3) := (lib1_cons (sp0_ok rfl none_pl) Try.call34 (lib1_cons (sp1_ok fun a _ => ⟨_, rfl, known_pl a⟩) Try.call33 (libB2_ok)))
set_option maxRecDepth 100000 in
theorem norm_l0 (a : Bd) : evR (ctxOf Try.prog noFacts (fun _ => false) libB3) Try.f47 [(bA a)] [true] = some (AV.w (AW.agg [AC.int IntKind.i64 noneB.lo, AC.int IntKind.i64 noneB.hi, AC.bool noneB.u]), [(!knB { lo := a.lo, hi := a.hi, u := a.u }, true)]) := by kernel_rfl
set_option maxRecDepth 100000 in
theorem norm_l1 (a : Bd) : evR (ctxOf Try.prog noFacts (fun _ => false) libB3) Try.f47 [(bA a)] [false] = some (AV.w (AW.agg [AC.int IntKind.i64 a.lo, AC.int IntKind.i64 a.hi, AC.bool a.u]), [(!knB { lo := a.lo, hi := a.hi, u := a.u }, false)]) := by kernel_rfl
set_option maxRecDepth 100000 in
theorem norm_t (a : Bd) : Pl Try.prog 47 [bV a] (AV.get ((bif !knB { lo := a.lo, hi := a.hi, u := a.u } then (AV.w (AW.agg [AC.int IntKind.i64 noneB.lo, AC.int IntKind.i64 noneB.hi, AC.bool noneB.u])) else (AV.w (AW.agg [AC.int IntKind.i64 a.lo, AC.int IntKind.i64 a.hi, AC.bool a.u]))) : AV Empty)) :=
  (pl_node (fun h0 => (pl_leaf rfl (ctxOf_ok libB3_ok (eq_none _)) (by kernel_rfl) Try.func47 rfl (norm_l0 a) rfl (all2_R (.cons rfl .nil)) rfl (cd_cons h0 cd_nil))) (fun h0 => (pl_leaf rfl (ctxOf_ok libB3_ok (eq_none _)) (by kernel_rfl) Try.func47 rfl (norm_l1 a) rfl (all2_R (.cons rfl .nil)) rfl (cd_cons h0 cd_nil))))
theorem norm_pl (a : Bd) : Pl Try.prog 47 [bV a] (bV (normB a)) := by
  refine Eq.mp (congrArg (Pl _ _ _) ?_) (norm_t a)
  obtain ⟨x, y, u⟩ := a; simp only [normB]; cases knB ⟨x, y, u⟩ <;> rfl
theorem libB4_ok : LibOk Try.prog noFacts (lib1 libB4) := (lib1_cons (sp1_ok fun a _ => ⟨_, rfl, norm_pl a⟩) Try.call47 (libB3_ok))
set_option maxRecDepth 100000 in
theorem of_l0 (x : Int) (y : Int) : evR (ctxOf Try.prog noFacts (fun _ => false) libB4) Try.f35 [(.w (.one (.int .i64 x))), (.w (.one (.int .i64 y)))] [] = some (AV.w (AW.agg [AC.int IntKind.i64 (normB { lo := x, hi := y, u := false }).lo, AC.int IntKind.i64 (normB { lo := x, hi := y, u := false }).hi, AC.bool (normB { lo := x, hi := y, u := false }).u]), []) := by kernel_rfl
set_option maxRecDepth 100000 in
theorem of_t (x : Int) (y : Int) : Pl Try.prog 35 [.int .i64 x, .int .i64 y] (AV.get ((AV.w (AW.agg [AC.int IntKind.i64 (normB { lo := x, hi := y, u := false }).lo, AC.int IntKind.i64 (normB { lo := x, hi := y, u := false }).hi, AC.bool (normB { lo := x, hi := y, u := false }).u])) : AV Empty)) :=
  (pl_leaf rfl (ctxOf_ok libB4_ok (eq_none _)) (by kernel_rfl) Try.func35 rfl (of_l0 x y) rfl (all2_R (.cons rfl (.cons rfl .nil))) rfl cd_nil)
theorem of_pl (x : Int) (y : Int) : Pl Try.prog 35 [.int .i64 x, .int .i64 y] (bV (ofB x y)) := by
  refine Eq.mp (congrArg (Pl _ _ _) ?_) (of_t x y)
  rfl
theorem libB5_ok : LibOk Try.prog noFacts (lib1 libB5) := (lib1_cons (sp2_ok fun x y _ => ⟨_, rfl, of_pl x y⟩) Try.call35 (libB4_ok))
set_option maxRecDepth 100000 in
theorem has_l0 (a : Bd) (v : Int) : evR (ctxOf Try.prog noFacts (fun _ => false) libB3) Try.f41 [(bA a), (.w (.one (.int .i64 v)))] [true] = some (AV.w (AW.one (AC.yes true)), [(!knB { lo := a.lo, hi := a.hi, u := a.u }, true), (!knB { lo := a.lo, hi := a.hi, u := a.u }, true), (!knB { lo := a.lo, hi := a.hi, u := a.u }, true), (!knB { lo := a.lo, hi := a.hi, u := a.u }, true), (!knB { lo := a.lo, hi := a.hi, u := a.u }, true), (!knB { lo := a.lo, hi := a.hi, u := a.u }, true), (!knB { lo := a.lo, hi := a.hi, u := a.u }, true)]) := by kernel_rfl
set_option maxRecDepth 100000 in
theorem has_l1 (a : Bd) (v : Int) : evR (ctxOf Try.prog noFacts (fun _ => false) libB3) Try.f41 [(bA a), (.w (.one (.int .i64 v)))] [false, true] = some (AV.w (AW.one (AC.bool (decide (v ≤ a.hi)))), [(!knB { lo := a.lo, hi := a.hi, u := a.u }, false), (!knB { lo := a.lo, hi := a.hi, u := a.u }, false), (!knB { lo := a.lo, hi := a.hi, u := a.u }, false), (!knB { lo := a.lo, hi := a.hi, u := a.u }, false), (!knB { lo := a.lo, hi := a.hi, u := a.u }, false), (decide (a.lo ≤ v), true), (decide (a.lo ≤ v), true), (decide (a.lo ≤ v), true), (decide (a.lo ≤ v), true), (!knB { lo := a.lo, hi := a.hi, u := a.u }, false), (decide (a.lo ≤ v), true), (!knB { lo := a.lo, hi := a.hi, u := a.u }, false)]) := by kernel_rfl
set_option maxRecDepth 100000 in
theorem has_l2 (a : Bd) (v : Int) : evR (ctxOf Try.prog noFacts (fun _ => false) libB3) Try.f41 [(bA a), (.w (.one (.int .i64 v)))] [false, false] = some (AV.w (AW.one (AC.yes false)), [(!knB { lo := a.lo, hi := a.hi, u := a.u }, false), (!knB { lo := a.lo, hi := a.hi, u := a.u }, false), (!knB { lo := a.lo, hi := a.hi, u := a.u }, false), (!knB { lo := a.lo, hi := a.hi, u := a.u }, false), (!knB { lo := a.lo, hi := a.hi, u := a.u }, false), (decide (a.lo ≤ v), false), (decide (a.lo ≤ v), false), (decide (a.lo ≤ v), false), (decide (a.lo ≤ v), false), (!knB { lo := a.lo, hi := a.hi, u := a.u }, false), (decide (a.lo ≤ v), false), (!knB { lo := a.lo, hi := a.hi, u := a.u }, false)]) := by kernel_rfl
set_option maxRecDepth 100000 in
theorem has_t (a : Bd) (v : Int) : Pl Try.prog 41 [bV a, .int .i64 v] (AV.get ((bif !knB { lo := a.lo, hi := a.hi, u := a.u } then (AV.w (AW.one (AC.yes true))) else (bif decide (a.lo ≤ v) then (AV.w (AW.one (AC.bool (decide (v ≤ a.hi))))) else (AV.w (AW.one (AC.yes false))))) : AV Empty)) :=
  (pl_node (fun h0 => (pl_leaf rfl (ctxOf_ok libB3_ok (eq_none _)) (by kernel_rfl) Try.func41 rfl (has_l0 a v) rfl (all2_R (.cons rfl (.cons rfl .nil))) rfl (cd_cons h0 (cd_cons h0 (cd_cons h0 (cd_cons h0 (cd_cons h0 (cd_cons h0 (cd_cons h0 cd_nil))))))))) (fun h0 => (pl_node (fun h1 => (pl_leaf rfl (ctxOf_ok libB3_ok (eq_none _)) (by kernel_rfl) Try.func41 rfl (has_l1 a v) rfl (all2_R (.cons rfl (.cons rfl .nil))) rfl (cd_cons h0 (cd_cons h0 (cd_cons h0 (cd_cons h0 (cd_cons h0 (cd_cons h1 (cd_cons h1 (cd_cons h1 (cd_cons h1 (cd_cons h0 (cd_cons h1 (cd_cons h0 cd_nil)))))))))))))) (fun h1 => (pl_leaf rfl (ctxOf_ok libB3_ok (eq_none _)) (by kernel_rfl) Try.func41 rfl (has_l2 a v) rfl (all2_R (.cons rfl (.cons rfl .nil))) rfl (cd_cons h0 (cd_cons h0 (cd_cons h0 (cd_cons h0 (cd_cons h0 (cd_cons h1 (cd_cons h1 (cd_cons h1 (cd_cons h1 (cd_cons h0 (cd_cons h1 (cd_cons h0 cd_nil)))))))))))))))))
theorem has_pl (a : Bd) (v : Int) : Pl Try.prog 41 [bV a, .int .i64 v] (.bool (hasB a v)) := by
  refine Eq.mp (congrArg (Pl _ _ _) ?_) (has_t a v)
  obtain ⟨x, y, u⟩ := a; simp only [hasB]; cases knB ⟨x, y, u⟩ <;> cases decide (x ≤ v) <;> rfl
set_option maxRecDepth 100000 in
theorem add_l0 (a : Bd) (b : Bd) : evR (ctxOf Try.prog noFacts (fun _ => false) libB5) Try.f14 [(bA a), (bA b)] [true] = some (AV.w (AW.agg [AC.int IntKind.i64 noneB.lo, AC.int IntKind.i64 noneB.hi, AC.bool noneB.u]), [(!knB { lo := a.lo, hi := a.hi, u := a.u }, true), (!knB { lo := a.lo, hi := a.hi, u := a.u }, true), (!knB { lo := a.lo, hi := a.hi, u := a.u }, true), (!knB { lo := a.lo, hi := a.hi, u := a.u }, true), (true, true)]) := by kernel_rfl
set_option maxRecDepth 100000 in
theorem add_l1 (a : Bd) (b : Bd) : evR (ctxOf Try.prog noFacts (fun _ => false) libB5) Try.f14 [(bA a), (bA b)] [false, true] = some (AV.w (AW.agg [AC.int IntKind.i64 noneB.lo, AC.int IntKind.i64 noneB.hi, AC.bool noneB.u]), [(!knB { lo := a.lo, hi := a.hi, u := a.u }, false), (!knB { lo := a.lo, hi := a.hi, u := a.u }, false), (!knB { lo := a.lo, hi := a.hi, u := a.u }, false), (!knB { lo := a.lo, hi := a.hi, u := a.u }, false), (!knB { lo := b.lo, hi := b.hi, u := b.u }, true)]) := by kernel_rfl
set_option maxRecDepth 100000 in
theorem add_l2 (a : Bd) (b : Bd) : evR (ctxOf Try.prog noFacts (fun _ => false) libB5) Try.f14 [(bA a), (bA b)] [false, false] = some (AV.w (AW.agg [AC.int IntKind.i64 (ofB (IntKind.i64.wrap (a.lo + b.lo)) (IntKind.i64.wrap (a.hi + b.hi))).lo, AC.int IntKind.i64 (ofB (IntKind.i64.wrap (a.lo + b.lo)) (IntKind.i64.wrap (a.hi + b.hi))).hi, AC.bool (ofB (IntKind.i64.wrap (a.lo + b.lo)) (IntKind.i64.wrap (a.hi + b.hi))).u]), [(!knB { lo := a.lo, hi := a.hi, u := a.u }, false), (!knB { lo := a.lo, hi := a.hi, u := a.u }, false), (!knB { lo := a.lo, hi := a.hi, u := a.u }, false), (!knB { lo := a.lo, hi := a.hi, u := a.u }, false), (!knB { lo := b.lo, hi := b.hi, u := b.u }, false)]) := by kernel_rfl
set_option maxRecDepth 100000 in
theorem add_t (a : Bd) (b : Bd) : Pl Try.prog 14 [bV a, bV b] (AV.get ((bif !knB { lo := a.lo, hi := a.hi, u := a.u } then (AV.w (AW.agg [AC.int IntKind.i64 noneB.lo, AC.int IntKind.i64 noneB.hi, AC.bool noneB.u])) else (bif !knB { lo := b.lo, hi := b.hi, u := b.u } then (AV.w (AW.agg [AC.int IntKind.i64 noneB.lo, AC.int IntKind.i64 noneB.hi, AC.bool noneB.u])) else (AV.w (AW.agg [AC.int IntKind.i64 (ofB (IntKind.i64.wrap (a.lo + b.lo)) (IntKind.i64.wrap (a.hi + b.hi))).lo, AC.int IntKind.i64 (ofB (IntKind.i64.wrap (a.lo + b.lo)) (IntKind.i64.wrap (a.hi + b.hi))).hi, AC.bool (ofB (IntKind.i64.wrap (a.lo + b.lo)) (IntKind.i64.wrap (a.hi + b.hi))).u])))) : AV Empty)) :=
  (pl_node (fun h0 => (pl_leaf rfl (ctxOf_ok libB5_ok (eq_none _)) (by kernel_rfl) Try.func14 rfl (add_l0 a b) rfl (all2_R (.cons rfl (.cons rfl .nil))) rfl (cd_cons h0 (cd_cons h0 (cd_cons h0 (cd_cons h0 (cd_cons rfl cd_nil))))))) (fun h0 => (pl_node (fun h1 => (pl_leaf rfl (ctxOf_ok libB5_ok (eq_none _)) (by kernel_rfl) Try.func14 rfl (add_l1 a b) rfl (all2_R (.cons rfl (.cons rfl .nil))) rfl (cd_cons h0 (cd_cons h0 (cd_cons h0 (cd_cons h0 (cd_cons h1 cd_nil))))))) (fun h1 => (pl_leaf rfl (ctxOf_ok libB5_ok (eq_none _)) (by kernel_rfl) Try.func14 rfl (add_l2 a b) rfl (all2_R (.cons rfl (.cons rfl .nil))) rfl (cd_cons h0 (cd_cons h0 (cd_cons h0 (cd_cons h0 (cd_cons h1 cd_nil))))))))))
theorem add_pl (a : Bd) (b : Bd) : Pl Try.prog 14 [bV a, bV b] (bV (addB a b)) := by
  refine Eq.mp (congrArg (Pl _ _ _) ?_) (add_t a b)
  obtain ⟨x, y, u⟩ := a; obtain ⟨x', y', u'⟩ := b; simp only [addB]; cases h : knB ⟨x, y, u⟩ <;> cases h' : knB ⟨x', y', u'⟩ <;> first | rfl | (have g := knB_iff.1 h; have g' := knB_iff.1 h'; simp only at g g'; rw [IntWalk.i64_in (x + x') (by omega), IntWalk.i64_in (y + y') (by omega)]; rfl)
set_option maxRecDepth 100000 in
theorem neg_l0 (a : Bd) : evR (ctxOf Try.prog noFacts (fun _ => false) libB5) Try.f16 [(bA a)] [true] = some (AV.w (AW.agg [AC.int IntKind.i64 noneB.lo, AC.int IntKind.i64 noneB.hi, AC.bool noneB.u]), [(!knB { lo := a.lo, hi := a.hi, u := a.u }, true)]) := by kernel_rfl
set_option maxRecDepth 100000 in
theorem neg_l1 (a : Bd) : evR (ctxOf Try.prog noFacts (fun _ => false) libB5) Try.f16 [(bA a)] [false] = some (AV.w (AW.agg [AC.int IntKind.i64 (ofB (IntKind.i64.wrap (0 - a.hi)) (IntKind.i64.wrap (0 - a.lo))).lo, AC.int IntKind.i64 (ofB (IntKind.i64.wrap (0 - a.hi)) (IntKind.i64.wrap (0 - a.lo))).hi, AC.bool (ofB (IntKind.i64.wrap (0 - a.hi)) (IntKind.i64.wrap (0 - a.lo))).u]), [(!knB { lo := a.lo, hi := a.hi, u := a.u }, false)]) := by kernel_rfl
set_option maxRecDepth 100000 in
theorem neg_t (a : Bd) : Pl Try.prog 16 [bV a] (AV.get ((bif !knB { lo := a.lo, hi := a.hi, u := a.u } then (AV.w (AW.agg [AC.int IntKind.i64 noneB.lo, AC.int IntKind.i64 noneB.hi, AC.bool noneB.u])) else (AV.w (AW.agg [AC.int IntKind.i64 (ofB (IntKind.i64.wrap (0 - a.hi)) (IntKind.i64.wrap (0 - a.lo))).lo, AC.int IntKind.i64 (ofB (IntKind.i64.wrap (0 - a.hi)) (IntKind.i64.wrap (0 - a.lo))).hi, AC.bool (ofB (IntKind.i64.wrap (0 - a.hi)) (IntKind.i64.wrap (0 - a.lo))).u]))) : AV Empty)) :=
  (pl_node (fun h0 => (pl_leaf rfl (ctxOf_ok libB5_ok (eq_none _)) (by kernel_rfl) Try.func16 rfl (neg_l0 a) rfl (all2_R (.cons rfl .nil)) rfl (cd_cons h0 cd_nil))) (fun h0 => (pl_leaf rfl (ctxOf_ok libB5_ok (eq_none _)) (by kernel_rfl) Try.func16 rfl (neg_l1 a) rfl (all2_R (.cons rfl .nil)) rfl (cd_cons h0 cd_nil))))
theorem neg_pl (a : Bd) : Pl Try.prog 16 [bV a] (bV (negB a)) := by
  refine Eq.mp (congrArg (Pl _ _ _) ?_) (neg_t a)
  obtain ⟨x, y, u⟩ := a; simp only [negB]; cases h : knB ⟨x, y, u⟩ with
  | false => rfl
  | true => have := knB_iff.1 h; simp only at this; rw [IntWalk.i64_in (0 - y) (by omega), IntWalk.i64_in (0 - x) (by omega), show 0 - y = -y by omega, show 0 - x = -x by omega]; rfl
theorem libB6_ok : LibOk Try.prog noFacts (lib1 libB6) := (lib1_cons (sp2_ok fun a b _ => ⟨_, rfl, add_pl a b⟩) Try.call14 (lib1_cons (sp1_ok fun a _ => ⟨_, rfl, neg_pl a⟩) Try.call16 (libB5_ok)))

set_option maxRecDepth 100000 in
theorem sub_l0 (a : Bd) (b : Bd) : evR (ctxOf Try.prog noFacts (fun _ => false) libB6) Try.f15 [(bA a), (bA b)] [] = some (AV.w (AW.agg [AC.int IntKind.i64 (addB { lo := a.lo, hi := a.hi, u := a.u } { lo := (negB { lo := b.lo, hi := b.hi, u := b.u }).lo, hi := (negB { lo := b.lo, hi := b.hi, u := b.u }).hi, u := (negB { lo := b.lo, hi := b.hi, u := b.u }).u }).lo, AC.int IntKind.i64 (addB { lo := a.lo, hi := a.hi, u := a.u } { lo := (negB { lo := b.lo, hi := b.hi, u := b.u }).lo, hi := (negB { lo := b.lo, hi := b.hi, u := b.u }).hi, u := (negB { lo := b.lo, hi := b.hi, u := b.u }).u }).hi, AC.bool (addB { lo := a.lo, hi := a.hi, u := a.u } { lo := (negB { lo := b.lo, hi := b.hi, u := b.u }).lo, hi := (negB { lo := b.lo, hi := b.hi, u := b.u }).hi, u := (negB { lo := b.lo, hi := b.hi, u := b.u }).u }).u]), []) := by kernel_rfl
set_option maxRecDepth 100000 in
theorem sub_t (a : Bd) (b : Bd) : Pl Try.prog 15 [bV a, bV b] (AV.get ((AV.w (AW.agg [AC.int IntKind.i64 (addB { lo := a.lo, hi := a.hi, u := a.u } { lo := (negB { lo := b.lo, hi := b.hi, u := b.u }).lo, hi := (negB { lo := b.lo, hi := b.hi, u := b.u }).hi, u := (negB { lo := b.lo, hi := b.hi, u := b.u }).u }).lo, AC.int IntKind.i64 (addB { lo := a.lo, hi := a.hi, u := a.u } { lo := (negB { lo := b.lo, hi := b.hi, u := b.u }).lo, hi := (negB { lo := b.lo, hi := b.hi, u := b.u }).hi, u := (negB { lo := b.lo, hi := b.hi, u := b.u }).u }).hi, AC.bool (addB { lo := a.lo, hi := a.hi, u := a.u } { lo := (negB { lo := b.lo, hi := b.hi, u := b.u }).lo, hi := (negB { lo := b.lo, hi := b.hi, u := b.u }).hi, u := (negB { lo := b.lo, hi := b.hi, u := b.u }).u }).u])) : AV Empty)) :=
  (pl_leaf rfl (ctxOf_ok libB6_ok (eq_none _)) (by kernel_rfl) Try.func15 rfl (sub_l0 a b) rfl (all2_R (.cons rfl (.cons rfl .nil))) rfl cd_nil)
theorem sub_pl (a : Bd) (b : Bd) : Pl Try.prog 15 [bV a, bV b] (bV (subB a b)) := by
  refine Eq.mp (congrArg (Pl _ _ _) ?_) (sub_t a b)
  rfl
set_option maxRecDepth 100000 in
theorem hull_l0 (a : Bd) (b : Bd) : evR (ctxOf Try.prog noFacts (fun _ => false) libB5) Try.f39 [(bA a), (bA b)] [true] = some (AV.w (AW.agg [AC.int IntKind.i64 noneB.lo, AC.int IntKind.i64 noneB.hi, AC.bool noneB.u]), [(!knB { lo := a.lo, hi := a.hi, u := a.u }, true), (!knB { lo := a.lo, hi := a.hi, u := a.u }, true), (!knB { lo := a.lo, hi := a.hi, u := a.u }, true), (!knB { lo := a.lo, hi := a.hi, u := a.u }, true), (true, true)]) := by kernel_rfl
set_option maxRecDepth 100000 in
theorem hull_l1 (a : Bd) (b : Bd) : evR (ctxOf Try.prog noFacts (fun _ => false) libB5) Try.f39 [(bA a), (bA b)] [false, true] = some (AV.w (AW.agg [AC.int IntKind.i64 noneB.lo, AC.int IntKind.i64 noneB.hi, AC.bool noneB.u]), [(!knB { lo := a.lo, hi := a.hi, u := a.u }, false), (!knB { lo := a.lo, hi := a.hi, u := a.u }, false), (!knB { lo := a.lo, hi := a.hi, u := a.u }, false), (!knB { lo := a.lo, hi := a.hi, u := a.u }, false), (!knB { lo := b.lo, hi := b.hi, u := b.u }, true)]) := by kernel_rfl
set_option maxRecDepth 100000 in
theorem hull_l2 (a : Bd) (b : Bd) : evR (ctxOf Try.prog noFacts (fun _ => false) libB5) Try.f39 [(bA a), (bA b)] [false, false] = some (AV.w (AW.agg [AC.int IntKind.i64 (ofB (bif false then if b.lo > a.lo then b.lo else a.lo else if b.lo < a.lo then b.lo else a.lo) (bif true then if b.hi > a.hi then b.hi else a.hi else if b.hi < a.hi then b.hi else a.hi)).lo, AC.int IntKind.i64 (ofB (bif false then if b.lo > a.lo then b.lo else a.lo else if b.lo < a.lo then b.lo else a.lo) (bif true then if b.hi > a.hi then b.hi else a.hi else if b.hi < a.hi then b.hi else a.hi)).hi, AC.bool (ofB (bif false then if b.lo > a.lo then b.lo else a.lo else if b.lo < a.lo then b.lo else a.lo) (bif true then if b.hi > a.hi then b.hi else a.hi else if b.hi < a.hi then b.hi else a.hi)).u]), [(!knB { lo := a.lo, hi := a.hi, u := a.u }, false), (!knB { lo := a.lo, hi := a.hi, u := a.u }, false), (!knB { lo := a.lo, hi := a.hi, u := a.u }, false), (!knB { lo := a.lo, hi := a.hi, u := a.u }, false), (!knB { lo := b.lo, hi := b.hi, u := b.u }, false)]) := by kernel_rfl
set_option maxRecDepth 100000 in
theorem hull_t (a : Bd) (b : Bd) : Pl Try.prog 39 [bV a, bV b] (AV.get ((bif !knB { lo := a.lo, hi := a.hi, u := a.u } then (AV.w (AW.agg [AC.int IntKind.i64 noneB.lo, AC.int IntKind.i64 noneB.hi, AC.bool noneB.u])) else (bif !knB { lo := b.lo, hi := b.hi, u := b.u } then (AV.w (AW.agg [AC.int IntKind.i64 noneB.lo, AC.int IntKind.i64 noneB.hi, AC.bool noneB.u])) else (AV.w (AW.agg [AC.int IntKind.i64 (ofB (bif false then if b.lo > a.lo then b.lo else a.lo else if b.lo < a.lo then b.lo else a.lo) (bif true then if b.hi > a.hi then b.hi else a.hi else if b.hi < a.hi then b.hi else a.hi)).lo, AC.int IntKind.i64 (ofB (bif false then if b.lo > a.lo then b.lo else a.lo else if b.lo < a.lo then b.lo else a.lo) (bif true then if b.hi > a.hi then b.hi else a.hi else if b.hi < a.hi then b.hi else a.hi)).hi, AC.bool (ofB (bif false then if b.lo > a.lo then b.lo else a.lo else if b.lo < a.lo then b.lo else a.lo) (bif true then if b.hi > a.hi then b.hi else a.hi else if b.hi < a.hi then b.hi else a.hi)).u])))) : AV Empty)) :=
  (pl_node (fun h0 => (pl_leaf rfl (ctxOf_ok libB5_ok (eq_none _)) (by kernel_rfl) Try.func39 rfl (hull_l0 a b) rfl (all2_R (.cons rfl (.cons rfl .nil))) rfl (cd_cons h0 (cd_cons h0 (cd_cons h0 (cd_cons h0 (cd_cons rfl cd_nil))))))) (fun h0 => (pl_node (fun h1 => (pl_leaf rfl (ctxOf_ok libB5_ok (eq_none _)) (by kernel_rfl) Try.func39 rfl (hull_l1 a b) rfl (all2_R (.cons rfl (.cons rfl .nil))) rfl (cd_cons h0 (cd_cons h0 (cd_cons h0 (cd_cons h0 (cd_cons h1 cd_nil))))))) (fun h1 => (pl_leaf rfl (ctxOf_ok libB5_ok (eq_none _)) (by kernel_rfl) Try.func39 rfl (hull_l2 a b) rfl (all2_R (.cons rfl (.cons rfl .nil))) rfl (cd_cons h0 (cd_cons h0 (cd_cons h0 (cd_cons h0 (cd_cons h1 cd_nil))))))))))
theorem hull_pl (a : Bd) (b : Bd) : Pl Try.prog 39 [bV a, bV b] (bV (hullB a b)) := by
  refine Eq.mp (congrArg (Pl _ _ _) ?_) (hull_t a b)
  obtain ⟨x, y, u⟩ := a; obtain ⟨x', y', u'⟩ := b; simp only [hullB]; cases knB ⟨x, y, u⟩ <;> cases knB ⟨x', y', u'⟩ <;> rfl
end Go.Proofs.Ytfhidjldmopbgaa

