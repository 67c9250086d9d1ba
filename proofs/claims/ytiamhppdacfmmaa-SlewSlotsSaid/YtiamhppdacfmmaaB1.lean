/-
  Package bound: what its small functions return, for every argument.
  Conditions: none.
-/
import Derived.Test.YtiamhppdacfmmaaProg
import Derived.Test.YtiamhppdacfmmaaEv2
import Derived.IntWalk
set_option linter.unusedVariables false
set_option linter.unusedSimpArgs false
namespace Go.Proofs.Ytiamhppdacfmmaa
open Go.RowKit Ev
variable {F : Type}

/-- A bound. -/
structure Bd where
  lo : Int
  hi : Int
  u : Bool
abbrev bV (b : Bd) : Value := .agg #[.int .i64 b.lo, .int .i64 b.hi, .bool b.u]
abbrev bA (b : Bd) : AV F := .w (.agg [.int .i64 b.lo, .int .i64 b.hi, .bool b.u])
def dBd : Dec F Bd where
  dec := fun x => match x with
    | .w (.agg [.int .i64 a, .int .i64 b, .bool c]) => some ⟨a, b, c⟩
    | .w (.agg [.int .i64 a, .int .i64 b, .yes c]) => some ⟨a, b, c⟩
    | _ => none
  enc := bV
  ok := fun x a h => by
    split at h
    · cases h; rfl
    · cases h; rfl
    · cases h
def inB (v : Int) : Bool := decide (-1152921504606846976 ≤ v) && decide (v ≤ 1152921504606846976)
def chkB (b : Bd) : Int := bif b.u && !(b.lo == 0 && b.hi == 0) then 3 else bif !(inB b.lo && inB b.hi) then 4 else bif decide (b.lo > b.hi) then 11 else 0
def knB (b : Bd) : Bool := !b.u && (inB b.lo && inB b.hi && decide (b.lo ≤ b.hi))
def noneB : Bd := ⟨0, 0, true⟩
def normB (b : Bd) : Bd := bif knB b then b else noneB
def ofB (lo hi : Int) : Bd := normB ⟨lo, hi, false⟩
def hasB (b : Bd) (v : Int) : Bool := !knB b || (decide (b.lo ≤ v) && decide (v ≤ b.hi))
def insB (a b : Bd) : Bool := !knB b || (knB a && decide (b.lo ≤ a.lo) && decide (a.hi ≤ b.hi))
def cmpB (a b : Bd) : Int := bif !(knB a && knB b) then 0 else bif decide (a.hi < b.lo) then -1 else bif decide (a.lo > b.hi) then 1 else 0
def widV (b : Bd) : Int := bif knB b then b.hi - b.lo else 0
def addB (a b : Bd) : Bd := bif knB a && knB b then ofB (a.lo + b.lo) (a.hi + b.hi) else noneB
def negB (a : Bd) : Bd := bif knB a then ofB (-a.hi) (-a.lo) else noneB
def subB (a b : Bd) : Bd := addB a (negB b)
def minI (a b : Int) : Int := if b < a then b else a
def maxI (a b : Int) : Int := if b > a then b else a
def minB (a b : Bd) : Bd := bif knB a && knB b then ofB (minI a.lo b.lo) (minI a.hi b.hi) else noneB
def maxB (a b : Bd) : Bd := bif knB a && knB b then ofB (maxI a.lo b.lo) (maxI a.hi b.hi) else noneB
def hullB (a b : Bd) : Bd := bif knB a && knB b then ofB (minI a.lo b.lo) (maxI a.hi b.hi) else noneB
def absB (a : Bd) : Bd := bif knB a then ofB (maxI (maxI 0 a.lo) (-a.hi)) (maxI (-a.lo) a.hi) else noneB
def meetB (a b : Bd) : Bd := bif !knB a then normB b else bif !knB b then a else bif !(cmpB a b == 0) then ⟨0, 0, false⟩ else ofB (maxI a.lo b.lo) (minI a.hi b.hi)
def meetO (a b : Bd) : Bool := !knB a || !knB b || (cmpB a b == 0)
theorem inB_iff {v : Int} : inB v = true ↔ -1152921504606846976 ≤ v ∧ v ≤ 1152921504606846976 := by unfold inB; simp
theorem knB_iff {b : Bd} : knB b = true ↔ b.u = false ∧ -1152921504606846976 ≤ b.lo ∧ b.lo ≤ b.hi ∧ b.hi ≤ 1152921504606846976 := by
  unfold knB inB
  simp only [Bool.and_eq_true, Bool.not_eq_true', decide_eq_true_eq]
  constructor
  · rintro ⟨h1, ⟨⟨h2, h3⟩, h4, h5⟩, h6⟩; exact ⟨h1, h2, h6, h5⟩
  · rintro ⟨h1, h2, h3, h4⟩; exact ⟨h1, ⟨⟨h2, by omega⟩, by omega, h4⟩, h3⟩

abbrev libB0 : List (Nat × FnSp Empty) := []
abbrev libB1 : List (Nat × FnSp Empty) := []

abbrev libB2 : List (Nat × FnSp Empty) := libB1

abbrev libB3 : List (Nat × FnSp Empty) := libB2

abbrev libB4 : List (Nat × FnSp Empty) := libB3

abbrev libB5 : List (Nat × FnSp Empty) := libB4

abbrev libB6 : List (Nat × FnSp Empty) := libB5

theorem libB0_ok : LibOk Try.prog noFacts (lib1 libB0) := lib1_nil _ _
theorem libB1_ok : LibOk Try.prog noFacts (lib1 libB1) := (libB0_ok)

theorem libB2_ok : LibOk Try.prog noFacts (lib1 libB2) := (libB1_ok)

theorem libB3_ok : LibOk Try.prog noFacts (lib1 libB3) := (libB2_ok)

theorem libB4_ok : LibOk Try.prog noFacts (lib1 libB4) := (libB3_ok)

theorem libB5_ok : LibOk Try.prog noFacts (lib1 libB5) := (libB4_ok)

theorem libB6_ok : LibOk Try.prog noFacts (lib1 libB6) := (libB5_ok)

end Go.Proofs.Ytiamhppdacfmmaa

