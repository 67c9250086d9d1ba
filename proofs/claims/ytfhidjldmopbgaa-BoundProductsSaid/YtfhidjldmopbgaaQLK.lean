/-
  Loops whose only local blocks are what one closure has captured: sort.Search and its like.
  Conditions: those of each theorem.
-/
import Derived.Test.YtfhidjldmopbgaaQEv2

set_option linter.unusedVariables false
set_option linter.unusedSimpArgs false
namespace Go.Proofs.Ytfhidjldmopbgaa.Ev
open Go.RowKit
variable {F : Type}
variable {ds : List Deferred} {ro : Option Nat}

def capsB : List (Nat × Nat) → Option (List Nat)
  | [] => some []
  | (b, 0) :: r => match capsB r with
    | some l => some (b :: l)
    | none => none
  | _ :: _ => none
def clB (f : Nat) (x : AV F) : Option (List Nat) := match x with
  | .w (.one (.fnc g caps)) => bif Nat.beq f g then capsB caps else none
  | _ => none
/-- What a loop over a closure is given: ts: the temporaries of its state (flat values), cl: the closure's, fn: its function, m: how many blocks it has captured. -/
structure LpDefK (σ F : Type) where
  ts : List Nat
  cl : Nat
  fn : Nat
  m : Nat
  W : List Nat
  dec : List (AV F) → List (Blk F) → Option σ
  spec : σ → Option (Ex × List (Nat × AV F) × List (Blk F) × List (Bool × Bool))
def LpDefK.sp {σ : Type} (d : LpDefK σ F) (safe : TypeId → Bool) : LpSp F where
  W := d.W
  fk := fun _ _ => none
  run := fun tm hp _ => match vals tm d.ts with
    | none => none
    | some vs => match look d.cl tm with
      | none => none
      | some x => match clB d.fn x with
        | none => none
        | some bs => bif apart bs && Nat.beq bs.length d.m then (match looks hp bs with
          | none => none
          | some ks => match d.dec vs ks with
            | none => none
            | some s => match d.spec s with
              | none => none
              | some (ex, outs, wb, cd) => bif okB safe ks wb && outs.all (fun e => memN e.1 d.W && e.2.flat) then some (ex, outs, bs.zip wb, cd) else none) else none
/-- One loop, two specifications: the first that reads its state. -/
def LpSp.or (a b : LpSp F) : LpSp F where
  W := a.W
  fk := fun _ _ => none
  run := fun tm hp β => match a.run tm hp β with
    | some r => some r
    | none => b.run tm hp β
theorem lpOr_ok {P : Program} {I : Interp F} {nt : Nat} {x : Code} {a b : LpSp F} (ha : LpOk P I nt x a) (hb : LpOk P I nt x b) (hw : b.W = a.W) (fa : ∀ tm hp, a.fk tm hp = none) (fb : ∀ tm hp, b.fk tm hp = none) : LpOk P I nt x (a.or b) := by
  refine ⟨fun tm hp β ex outs wb cd hrun => ?_, fun tm hp β ex outs wb cd hrun _ hc ro ds E w0 A w Q ht hm hQ => ?_⟩
  · simp only [LpSp.or] at hrun ⊢
    split at hrun
    · rename_i r hr
      cases hrun
      exact ha.keys tm hp β ex outs wb cd hr
    · have := hb.keys tm hp β ex outs wb cd hrun
      rw [hw] at this; exact this
  · simp only [LpSp.or] at hrun hQ
    split at hrun
    · rename_i r hr
      cases hrun
      exact ha.run tm hp β ex outs wb cd hr (fun b h => by rw [fa] at h; cases h) hc ro ds E w0 A w Q ht hm hQ
    · refine hb.run tm hp β ex outs wb cd hrun (fun b h => by rw [fb] at h; cases h) hc ro ds E w0 A w Q ht hm ?_
      rw [hw]; exact hQ
end Go.Proofs.Ytfhidjldmopbgaa.Ev

