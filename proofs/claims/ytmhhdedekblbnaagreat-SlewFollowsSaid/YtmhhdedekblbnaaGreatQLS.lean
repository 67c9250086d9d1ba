/-
 Callees that are handed local blocks of their caller (as slices or pointers), and callees that return a new slice.
 Conditions: the blocks' cells are plain or facts, each block is handed over once, and the callee leaves the blocks as they are.
-/
import Derived.Test.YtmhhdedekblbnaaGreatQEv2
set_option linter.unusedVariables false
set_option linter.unusedSimpArgs false
namespace Go.Proofs.YtmhhdedekblbnaaGreat.Ev
open Go.RowKit
variable {F : Type}
def AC.soB : AC F -> Bool
 | .int _ _ => true
 | .bool _ => true
 | .yes _ => true
 | .lit _ => true
 | .fv _ => true
 | _ => false
theorem AC.so_flat {c : AC F} (h : c.soB = true) : c.flat = true := by cases c <;> first | rfl | cases h
theorem so_tok {ty : TypeId} {l : List (AC F)} (h : l.all AC.soB = true) : (Blk.tok ⟨ty, l⟩ : Option (Nat × Nat)) = none := by
 unfold Blk.tok
 split
 · rename_i n sz e
   simp only at e
   rw [e] at h
   cases h
 · rename_i ks l' e
   simp only at e
   rw [e] at h
   cases h
 · rename_i e
   simp only at e
   rw [e] at h
   cases h
 · rfl
theorem so_R {E E' : Env F} (hh : ∀ f v, E.h f v -> E'.h f v) {l : List (AC F)} {vs : List Value} (h : l.all AC.soB = true) (H : All2 (AC.R E) l vs) : All2 (AC.R E') l vs :=
 all2_all (R := AC.R E) (S := AC.R E') (p := AC.soB) (fun _ _ hfl r => AC.flat_R hh (AC.so_flat hfl) r) h H
def portOf : AV F -> Option Nat
 | .w (.one (.slc b _ _ _)) => some b
 | .w (.one (.ptr b _)) => some b
 | _ => none
def setPort : AV F -> Nat -> AV F
 | .w (.one (.slc _ o n c)), i => .w (.one (.slc i o n c))
 | .w (.one (.ptr _ o)), i => .w (.one (.ptr i o))
 | x, _ => x
def pts : List (AV F) -> List Nat
 | [] => []
 | x :: r => match portOf x with
   | some b => b :: pts r
   | none => pts r
def rel : List (AV F) -> Nat -> List (AV F)
 | [], _ => []
 | x :: r, i => match portOf x with
   | some _ => setPort x i :: rel r (i + 1)
   | none => x :: rel r i
def okA (x : AV F) : Bool := match portOf x with
 | some _ => true
 | none => x.flat
def nodupN : List Nat -> Bool
 | [] => true
 | a :: l => !memN a l && nodupN l
theorem memN_not {a b : Nat} : ∀ {l : List Nat}, memN a l = false -> ∀ (i : Nat), l[i]? = some b -> a ≠ b
 | [], _, i, h => by simp at h
 | x :: l, h, i, hi => by
   simp only [memN, List.any_cons, Bool.or_eq_false_iff] at h
   cases i with
   | zero =>
     simp at hi; subst hi
     intro e; subst e
     have := h.1
     simp at this
   | succ i => exact memN_not (l := l) h.2 i (by simpa using hi)
theorem nodup_inj {b : Nat} : ∀ {l : List Nat}, nodupN l = true -> ∀ (i j : Nat), l[i]? = some b -> l[j]? = some b -> i = j
 | [], _, i, _, h, _ => by simp at h
 | x :: l, h, i, j, hi, hj => by
   simp only [nodupN, Bool.and_eq_true, Bool.not_eq_true'] at h
   cases i with
   | zero => cases j with
     | zero => rfl
     | succ j =>
       simp at hi; subst hi
       exact absurd rfl (memN_not h.1 j (by simpa using hj))
   | succ i => cases j with
     | zero =>
       simp at hj; subst hj
       exact absurd rfl (memN_not h.1 i (by simpa using hi))
     | succ j => rw [nodup_inj h.2 i j (by simpa using hi) (by simpa using hj)]
theorem port_R {E : Env F} {x : AV F} {b : Nat} {u : Value} (hp : portOf x = some b) (h : x.R E u) : ∃ k, E.m b = some k /\ ∀ (E' : Env F) i, E'.m i = some k -> (setPort x i).R E' u := by
 unfold portOf at hp
 split at hp
 · rename_i b' o n c
   cases hp
   obtain ⟨k, h1, rfl⟩ := h
   exact ⟨k, h1, fun E' i h => ⟨k, h, rfl⟩⟩
 · rename_i b' o
   cases hp
   obtain ⟨k, h1, rfl⟩ := h
   exact ⟨k, h1, fun E' i h => ⟨k, h, rfl⟩⟩
 · cases hp
theorem rel_R {E E1 : Env F} (hh : ∀ f v, E.h f v -> E1.h f v) : ∀ {args : List (AV F)} {us : List Value} {j : Nat}, All2 (AV.R E) args us -> args.all okA = true -> (∀ (i b : Nat), (pts args)[i]? = some b -> E1.m (j + i) = E.m b) -> All2 (AV.R E1) (rel args j) us
 | [], _, _, H, _, _ => by cases H; exact .nil
 | x :: r, _, j, H, ho, hm => by
   cases H with
   | cons hx H =>
     simp only [List.all_cons, Bool.and_eq_true] at ho
     simp only [rel]
     cases hp : portOf x with
     | some b =>
       simp only [pts, hp] at hm
       obtain ⟨k, h1, h2⟩ := port_R hp hx
       refine .cons (h2 E1 j ?_) (rel_R hh H ho.2 fun i b hi => ?_)
       · have := hm 0 b (by simp)
         rw [<- h1]; simpa using this
       · have := hm (i + 1) b (by simpa using hi)
         rw [<- this]; congr 1; omega
     | none =>
       simp only [pts, hp] at hm
       have hf : x.flat = true := by have := ho.1; simp only [okA, hp] at this; exact this
       exact .cons (AV.flat_R hh hf hx) (rel_R hh H ho.2 hm)
theorem rel_len : ∀ {args : List (AV F)} {j : Nat}, (rel args j).length = args.length
 | [], _ => rfl
 | x :: r, j => by
   simp only [rel]
   split <;> simp [rel_len]
theorem looks_at {α : Type} {hp : List (Nat × α)} : ∀ {l : List Nat} {bs : List α}, looks hp l = some bs -> bs.length = l.length /\ ∀ (i b : Nat), l[i]? = some b -> ∃ x, bs[i]? = some x /\ look b hp = some x
 | [], bs, h => by cases h; exact ⟨rfl, fun i b h => by simp at h⟩
 | a :: l, bs, h => by
   simp only [looks] at h
   split at h
   · rename_i x hx
     split at h
     · rename_i bs' hbs
       cases h
       obtain ⟨h1, h2⟩ := looks_at hbs
       refine ⟨by simp [h1], fun i b hi => ?_⟩
       cases i with
       | zero => simp at hi; subst hi; exact ⟨x, by simp, hx⟩
       | succ i => simpa using h2 i b (by simpa using hi)
     · cases h
   · cases h
def cellsAt (hp : List (Nat × Blk F)) : List (Blk F) -> Nat -> Option (List (AW F))
 | [], _ => some []
 | x :: r, i => match look i hp with
   | some y => bif Nat.beq y.ty x.ty then
       match cellsAt hp r (i + 1) with
       | some l => some (.agg y.cs :: l)
       | none => none
     else none
   | none => none
def evLoc (c : Ctx F) (fn : Func) (args : List (AV F)) (bs : List (Blk F)) (path : List Bool) : Option (AV F × List (Bool × Bool)) :=
 match evFn c 400 fn args (numb 0 bs) bs.length (.fix path) with
 | some r => match r.path with
   | .fix [] => match r.val, cellsAt r.hp bs 0 with
     | .w x, some l => some (.tup (x :: l), r.cd)
     | _, _ => none
   | _ => none
 | none => none
def locB (c : Ctx F) (args : List (AV F)) (bs : List (Blk F)) : Bool := args.all okA && nodupN (pts args) && bs.all fun b => b.cs.all AC.soB && c.safe b.ty
theorem locB_ok {P : Program} {I : Interp F} {c : Ctx F} (hC : CtxOk P I c) {args : List (AV F)} {bs : List (Blk F)} (h : locB c args bs = true) : args.all okA = true /\ nodupN (pts args) = true /\ ∀ (i : Nat) (b : Blk F), bs[i]? = some b -> b.cs.all AC.soB = true /\ I.safe b.ty = true := by
 simp only [locB, Bool.and_eq_true] at h
 refine ⟨h.1.1, h.1.2, fun i b hb => ?_⟩
 have := List.all_eq_true.1 h.2 b (List.mem_of_getElem? hb)
 simp only [Bool.and_eq_true] at this
 exact ⟨this.1, hC.safe _ this.2⟩
end Go.Proofs.YtmhhdedekblbnaaGreat.Ev
