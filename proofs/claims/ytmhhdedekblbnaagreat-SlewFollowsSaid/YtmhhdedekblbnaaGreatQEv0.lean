/-
 An evaluator for functions over abstract values and local memory: values and memory.
 Conditions: those of each theorem.
-/
import Derived.Handy
import Derived.CallsIn
import Derived.ControlIn
import Derived.OrdersIn
import Derived.LoopNIn
import Derived.Deep.MidRow
import Derived.Laws.CopyRow
import Derived.Laws.StructEq
import Derived.Laws.MakeOwn
import Derived.MapKept
set_option linter.unusedVariables false
set_option linter.unusedSimpArgs false
namespace Go.Proofs.YtmhhdedekblbnaaGreat.Ev
open Go.RowKit

def look {α : Type} (k : Nat) : List (Nat × α) -> Option α
 | [] => none
 | (j, v) :: r => bif Nat.beq j k then some v else look k r

abbrev CK := Option (Option IntKind)
def ckOk : CK -> Value -> Bool
 | none, .string _ => true
 | some none, .bool _ => true
 | some (some k), .int k' _ => decide (k = k')
 | _, _ => false
inductive AC (F : Type) where
 | int (k : IntKind) (n : Int)
 | bool (b : Bool)
 | lit (v : Value)
 | yes (b : Bool)
 | ptr (b o : Nat)
 | slc (b o len cap : Nat)
 | ext (k j : Nat) (f : F) (c : Nat)
 | fnc (f : FuncId) (caps : List (Nat × Nat))
 | xel (k j : Nat) (f : F) (i : Int)
 | fv (f : F)
 | fel (f : F) (i : Int) (k o : Nat)
 | tip (s n : Nat) (f : F)
 | tok (n sz : Nat)
 | arr (v : Nat) (ks : List (Option IntKind)) (l : List (List Int))
 | wsl (b v sz : Nat) (off len cap : Int)
 | wel (b v sz : Nat) (e : Int) (o : Nat)
 | mp (kk vk : CK) (D : List (Value × Value))
 | mpv (b : Nat)
inductive AW (F : Type) where
 | one (c : AC F)
 | agg (cs : List (AC F))
inductive AV (F : Type) where
 | w (x : AW F)
 | tup (l : List (AW F))
structure Blk (F : Type) where
 ty : TypeId
 cs : List (AC F)
structure Env (F : Type) where
 m : Nat -> Option Nat
 r : Nat -> Nat -> Option (F × Array Value)
 h : F -> Value -> Prop
 q : Nat -> Nat -> Option Value

variable {F : Type}
variable {ds : List Deferred} {ro : Option Nat}

inductive All2 {α β : Type} (R : α -> β -> Prop) : List α -> List β -> Prop
 | nil : All2 R [] []
 | cons {a b l k} : R a b -> All2 R l k -> All2 R (a :: l) (b :: k)

theorem All2.mono {α β : Type} {R S : α -> β -> Prop} (h : ∀ a b, R a b -> S a b) {l : List α} {k : List β} (H : All2 R l k) : All2 S l k := by
 induction H with
 | nil => exact .nil
 | cons r _ ih => exact .cons (h _ _ r) ih
theorem All2.length {α β : Type} {R : α -> β -> Prop} {l : List α} {k : List β} (H : All2 R l k) : l.length = k.length := by
 induction H with
 | nil => rfl
 | cons _ _ ih => simp [ih]
theorem All2.get {α β : Type} {R : α -> β -> Prop} {l : List α} {k : List β} (H : All2 R l k) : ∀ (i : Nat) (a : α), l[i]? = some a -> ∃ b, k[i]? = some b /\ R a b := by
 induction H with
 | nil => intro i a h; simp at h
 | cons r _ ih =>
   intro i a h
   cases i with
   | zero => simp at h; subst h; exact ⟨_, by simp, r⟩
   | succ i => simpa using ih i a (by simpa using h)
theorem All2.append {α β : Type} {R : α -> β -> Prop} {l l' : List α} {k k' : List β} (H : All2 R l k) (H' : All2 R l' k') : All2 R (l ++ l') (k ++ k') := by
 induction H with
 | nil => exact H'
 | cons r _ ih => exact .cons r ih
theorem All2.take {α β : Type} {R : α -> β -> Prop} {l : List α} {k : List β} (H : All2 R l k) : ∀ n, All2 R (l.take n) (k.take n) := by
 induction H with
 | nil => intro n; simp; exact .nil
 | cons r _ ih => intro n; cases n with
   | zero => exact .nil
   | succ n => simpa using .cons r (ih n)
theorem All2.drop {α β : Type} {R : α -> β -> Prop} {l : List α} {k : List β} (H : All2 R l k) : ∀ n, All2 R (l.drop n) (k.drop n) := by
 induction H with
 | nil => intro n; simp; exact .nil
 | cons r h ih => intro n; cases n with
   | zero => exact .cons r h
   | succ n => simpa using ih n

def PtrR (E : Env F) (p : Nat × Nat) (v : Value) : Prop := ∃ k, E.m p.1 = some k /\ v = .pointer (some ⟨k, p.2, none⟩)
def AC.R (E : Env F) : AC F -> Value -> Prop
 | .int k n, v => v = .int k n
 | .bool b, v => v = .bool b
 | .lit u, v => v = u
 | .yes b, v => v = .bool b
 | .ptr b o, v => PtrR E (b, o) v
 | .slc b o len cap, v => ∃ k, E.m b = some k /\ v = .slice (some ⟨k, o, none⟩) len cap
 | .ext k j f c, v => ∃ arr, E.r k j = some (f, arr) /\ arr[c]? = some v
 | .fnc f caps, v => ∃ us, v = .func (.func f) #[] us.toArray /\ All2 (PtrR E) caps us
 | .xel k j f i, v => ∃ a n c, E.r k j = some (f, #[.slice (some a) n c]) /\ v = .pointer (some (a.add i.toNat))
 | .fv f, v => E.h f v
 | .fel f i k o, v => ∃ b off n c, E.h f (.slice (some ⟨b, off, none⟩) n c) /\ v = .pointer (some ⟨b, off + (i.toNat * k + o), none⟩)
 | .tip s n f, v => E.h f v /\ E.q s n = some v
 | .tok _ _, _ => False
 | .arr _ _ _, _ => False
 | .wsl b v0 sz off len cap, v => ∃ (k c c' : Nat), E.q b v0 = some (.slice (some ⟨k, 0, none⟩) 0 c) /\ 0 <= off /\ 0 <= len /\ len <= cap /\ cap <= (c' : Int) /\ off + (c' : Int) = (c : Int) /\ v = .slice (some ⟨k, off.toNat * sz, none⟩) len.toNat c'
 | .wel b v0 sz e o, v => ∃ k c, E.q b v0 = some (.slice (some ⟨k, 0, none⟩) 0 c) /\ 0 <= e /\ e < (c : Int) /\ v = .pointer (some ⟨k, e.toNat * sz + o, none⟩)
 | .mp _ _ _, _ => False
 | .mpv b, v => ∃ k, E.q b 0 = some (.map (some k)) /\ v = .map (some k)
def AW.R (E : Env F) : AW F -> Value -> Prop
 | .one c, v => c.R E v
 | .agg cs, v => ∃ vs, v = .agg vs.toArray /\ All2 (AC.R E) cs vs
def AV.R (E : Env F) : AV F -> Value -> Prop
 | .w x, v => x.R E v
 | .tup l, v => ∃ vs, v = .tuple vs.toArray /\ All2 (AW.R E) l vs

structure Env.le (E E' : Env F) : Prop where
 m : ∀ b k, E.m b = some k -> E'.m b = some k
 r : ∀ k j x, E.r k j = some x -> E'.r k j = some x
 h : ∀ f v, E.h f v -> E'.h f v
 q : ∀ s n v, E.q s n = some v -> E'.q s n = some v
theorem Env.le.refl (E : Env F) : E.le E := ⟨fun _ _ h => h, fun _ _ _ h => h, fun _ _ h => h, fun _ _ _ h => h⟩
theorem Env.le.trans {E E' E'' : Env F} (h : E.le E') (k : E'.le E'') : E.le E'' := ⟨fun b x e => k.m b x (h.m b x e), fun b j x e => k.r b j x (h.r b j x e), fun f v e => k.h f v (h.h f v e), fun s n v e => k.q s n v (h.q s n v e)⟩
theorem PtrR.mono {E E' : Env F} (h : E.le E') {p : Nat × Nat} {v : Value} (H : PtrR E p v) : PtrR E' p v := by
 obtain ⟨k, hk, rfl⟩ := H
 exact ⟨k, h.m _ _ hk, rfl⟩
theorem AC.R.mono {E E' : Env F} (h : E.le E') {c : AC F} {v : Value} (H : c.R E v) : c.R E' v := by
 cases c with
 | int | bool | lit | yes => exact H
 | ptr b o => exact PtrR.mono h H
 | slc b o len cap => obtain ⟨k, h1, h2⟩ := H; exact ⟨k, h.m _ _ h1, h2⟩
 | ext k j f c => obtain ⟨arr, h1, h2⟩ := H; exact ⟨arr, h.r _ _ _ h1, h2⟩
 | fnc f caps => obtain ⟨us, rfl, h2⟩ := H; exact ⟨us, rfl, h2.mono fun _ _ => PtrR.mono h⟩
 | xel k j f i => obtain ⟨a, n, c, h1, h2⟩ := H; exact ⟨a, n, c, h.r _ _ _ h1, h2⟩
 | fv f => exact h.h _ _ H
 | fel f i k o => obtain ⟨b, off, n, c, h1, h2⟩ := H; exact ⟨b, off, n, c, h.h _ _ h1, h2⟩
 | tip s n f => exact ⟨h.h _ _ H.1, h.q _ _ _ H.2⟩
 | tok n sz => exact H
 | arr v0 ks l => exact H
 | wsl b v0 sz off len cap => obtain ⟨k, c, c', h1, h2⟩ := H; exact ⟨k, c, c', h.q _ _ _ h1, h2⟩
 | wel b v0 sz e o => obtain ⟨k, c, h1, h2⟩ := H; exact ⟨k, c, h.q _ _ _ h1, h2⟩
 | mp kk vk D => exact H
 | mpv b => obtain ⟨k, h1, h2⟩ := H; exact ⟨k, h.q _ _ _ h1, h2⟩
theorem AW.R.mono {E E' : Env F} (h : E.le E') {c : AW F} {v : Value} (H : c.R E v) : c.R E' v := by
 cases c with
 | one c => exact AC.R.mono h H
 | agg cs => obtain ⟨vs, rfl, h2⟩ := H; exact ⟨vs, rfl, h2.mono fun _ _ => AC.R.mono h⟩
theorem AV.R.mono {E E' : Env F} (h : E.le E') {c : AV F} {v : Value} (H : c.R E v) : c.R E' v := by
 cases c with
 | w x => exact AW.R.mono h H
 | tup l => obtain ⟨vs, rfl, h2⟩ := H; exact ⟨vs, rfl, h2.mono fun _ _ => AW.R.mono h⟩

def isCell : Value -> Bool
 | .agg _ => false
 | .tuple _ => false
 | _ => true
def AC.cellB : AC F -> Bool
 | .lit v => isCell v
 | _ => true

def AC.lv : AC F -> Option Value
 | .int k n => some (.int k n)
 | .bool b => some (.bool b)
 | .yes b => some (.bool b)
 | .lit v => some v
 | _ => none
def AC.is (hv : F -> World -> Value -> Prop) (w : World) (v : Value) : AC F -> Prop
 | .fv f => hv f w v
 | x => x.lv = some v
def decL : Nat -> Nat -> List UInt8
 | 0, _ => []
 | f + 1, n => if n = 0 then [] else UInt8.ofNat ((n - 1) % 256) :: decL f ((n - 1) / 256)
def decS (x : Int) : ByteArray := ⟨(decL x.toNat x.toNat).toArray⟩
def encL : List UInt8 -> Nat
 | [] => 0
 | b :: r => encL r * 256 + b.toNat + 1
def encS (s : ByteArray) : Int := (encL s.data.toList : Int)
theorem decL_enc : ∀ (l : List UInt8) (f : Nat), encL l <= f -> decL f (encL l) = l
 | [], 0, _ => rfl
 | [], f + 1, _ => rfl
 | b :: r, 0, h => by simp only [encL] at h; omega
 | b :: r, f + 1, h => by
   simp only [encL] at h ⊢
   have hb := b.toNat_lt
   rw [decL, if_neg (by omega), show encL r * 256 + b.toNat + 1 - 1 = encL r * 256 + b.toNat by omega, show (encL r * 256 + b.toNat) % 256 = b.toNat by omega, show (encL r * 256 + b.toNat) / 256 = encL r by omega, decL_enc r f (by omega)]
   simp
theorem dec_enc (s : ByteArray) : decS (encS s) = s := by
 unfold decS encS
 rw [Int.toNat_natCast, decL_enc _ _ (Nat.le_refl _)]
def isS : IntKind -> Bool
 | .i8 => true
 | _ => false
def kdV : Option IntKind -> Int -> Value
 | some .i8, x => .string (decS x)
 | some k, x => .int k x
 | none, x => .bool (decide (x = 1))
theorem kdV_int {k : IntKind} (h : isS k = false) (x : Int) : kdV (some k) x = .int k x := by cases k <;> first | rfl | cases h
theorem kdV_cell (k : Option IntKind) (x : Int) : isCell (kdV k x) = true := by
 rcases k with _ | k
 · rfl
 · cases k <;> rfl
def tabHv (D : Nat -> Nat -> Prop) (w : World) (v : Value) (ks : List (Option IntKind)) (l : List (List Int)) : Prop :=
 ∃ (p : Option Addr) (cap : Nat), v = .slice p l.length cap /\ l.length <= cap /\ cap <= maxLen /\ (p = none -> l.length = 0) /\
   ∀ a, p = some a -> a = ⟨a.block, a.off, none⟩ /\ ∀ j, j < l.length -> ∀ o k, ks[o]? = some k -> ¬ D a.block (a.off + (j * ks.length + o)) /\ w.cell? ⟨a.block, a.off + (j * ks.length + o), none⟩ = some (kdV k ((l.getD j []).getD o 0))
structure Interp (F : Type) where
 holds : F -> World -> Array Value -> Prop
 base : Nat
 safe : TypeId -> Bool
 slen : F -> Option Int
 sget : F -> Int -> Option (AC F)
 mono : ∀ f w w' arr, holds f w arr ->
   (∀ k, k < w.heap.size -> w'.heap[k]? = w.heap[k]? \/ base <= k /\ ∃ c c' ty fr, w.heap[k]? = some (.cells c ty fr) /\ safe ty = true /\ w'.heap[k]? = some (.cells c' ty fr)) -> holds f w' arr
 slen_ok : ∀ f n w arr, slen f = some n -> holds f w arr -> ∃ p m cap, arr = #[.slice p m cap] /\ n = (m : Int) /\ (p = none -> m = 0)
 sget_ok : ∀ f n i x w a m cap, slen f = some n -> sget f i = some x -> 0 <= i -> i < n -> holds f w #[.slice (some a) m cap] -> ∃ v, (∀ E, x.R E v) /\ w.cell? (a.add i.toNat) = some v
 hv : F -> (Nat -> Nat -> Prop) -> World -> Value -> Prop
 vlen : F -> Option Int
 vesz : F -> Nat
 vget : F -> Int -> Nat -> Option (AC F)
 vsub : F -> Int -> Int -> Option F
 hv_mono : ∀ f D D' w w' v, hv f D w v -> (∀ k o, k < w.heap.size -> D' k o -> D k o) ->
   (∀ k, k < w.heap.size -> w'.heap[k]? = w.heap[k]? \/ base <= k /\ ∃ c c' ty fr, w.heap[k]? = some (.cells c ty fr) /\ safe ty = true /\ w'.heap[k]? = some (.cells c' ty fr) /\ ∀ o, c'[o]? = c[o]? \/ D k o) -> hv f D' w' v
 hv_cell : ∀ f D w v, hv f D w v -> isCell v = true
 vlen_ok : ∀ f n D w v, vlen f = some n -> hv f D w v -> ∃ p m cap, v = .slice p m cap /\ n = (m : Int) /\ (p = none -> m = 0) /\ ∀ a, p = some a -> a = ⟨a.block, a.off, none⟩
 vget_ok : ∀ f n i o x D w b off m cap, vlen f = some n -> vget f i o = some x -> 0 <= i -> i < n -> hv f D w (.slice (some ⟨b, off, none⟩) m cap) -> ∃ v, w.cell? ⟨b, off + (i.toNat * vesz f + o), none⟩ = some v /\ isCell v = true /\ x.is (fun f => hv f D) w v
 vsub_ok : ∀ f g n a b D w v, vsub f a b = some g -> vlen f = some n -> 0 <= a -> a <= b -> b <= n -> hv f D w v -> ∃ p m cap, v = .slice p m cap /\ n = (m : Int) /\ b <= (cap : Int) /\ hv g D w (.slice (if cap = a.toNat then p else p.map (·.add (a.toNat * vesz f))) (b.toNat - a.toNat) (cap - a.toNat))
 vapp : F -> List (AC F) -> Nat -> Option F
 vapp_ok : ∀ f g xs m (n : Nat) D w v (k cap : Nat) (us : List Value), vapp f xs m = some g -> vlen f = some (n : Int) -> hv f D w v -> (v = .slice none 0 0 \/ ∃ kv c, v = .slice (some ⟨kv, 0, none⟩) n c) -> xs.length = m * vesz f -> All2 (fun x u => isCell u = true /\ x.is (fun f => hv f D) w u) xs us ->
   (∀ kv c, v = .slice (some ⟨kv, 0, none⟩) n c -> ∀ j, j < n * vesz f -> w.cell? ⟨k, j, none⟩ = w.cell? ⟨kv, j, none⟩) -> (∀ j u, us[j]? = some u -> w.cell? ⟨k, n * vesz f + j, none⟩ = some u) ->
   (∀ o, o < (n + m) * vesz f -> ¬ D k o) -> (∃ cur ty fr, w.heap[k]? = some (.cells cur ty fr) /\ safe ty = true) -> n + m <= cap -> cap <= maxLen -> 0 < m -> hv g D w (.slice (some ⟨k, 0, none⟩) (n + m) cap)
 nil : TypeId -> Option F
 nil_ok : ∀ t g D w, nil t = some g -> hv g D w (.slice none 0 0)
 maps : Bool := false
 mono_map : maps = true -> ∀ f w w' arr k es c, holds f w arr -> w.heap[k]? = some (.map es c) -> (∀ j, j < w.heap.size -> j ≠ k -> w'.heap[j]? = w.heap[j]?) -> holds f w' arr := by intro h; cases h
 hv_map : maps = true -> ∀ f D w w' v k es c, hv f D w v -> w.heap[k]? = some (.map es c) -> (∀ j, j < w.heap.size -> j ≠ k -> w'.heap[j]? = w.heap[j]?) -> hv f D w' v := by intro h; cases h
 vrow : F -> Option (List (Option IntKind) × List (List Int)) := fun _ => none
 vrow_ok : ∀ f ks l D w v, vrow f = some (ks, l) -> hv f D w v -> tabHv D w v ks l := by intro _ _ _ _ _ _ h; cases h
 inv : World -> Prop := fun _ => True
 inv_mono : ∀ w w', (∀ k, k < base -> w'.heap[k]? = w.heap[k]?) -> w.heap.size <= w'.heap.size -> inv w -> inv w' := by intro _ _ _ _ _; trivial
 deref : F -> Option (Bool × F) := fun _ => none
 deref_ok : ∀ f b g D w v, deref f = some (b, g) -> hv f D w v -> (b = true /\ v = .pointer none) \/ (b = false /\ ∃ k off, v = .pointer (some ⟨k, off, none⟩) /\ ∃ n c, hv g D w (.slice (some ⟨k, off, none⟩) n c)) := by intro _ _ _ _ _ _ h; cases h
 nilp : Option F := none
 nilp_ok : ∀ f D w, nilp = some f -> hv f D w (.pointer none) := by intro _ _ _ h; cases h
 mkp : TypeId -> List (AC F) -> Option F := fun _ _ => none
 mkp_ok : ∀ ty cs f D w k (vs : List Value), mkp ty cs = some f -> w.heap[k]? = some (.cells vs.toArray ty (0, 0)) -> All2 (fun c v => AC.is (fun g => hv g D) w v c) cs vs -> (∀ o, ¬ D k o) -> hv f D w (.pointer (some ⟨k, 0, none⟩)) := by intro _ _ _ _ _ _ _ h; cases h
def Interp.bs {F : Type} (I : Interp F) (w : World) : Prop := I.base <= w.heap.size /\ I.inv w
theorem Interp.bs.mono {F : Type} {I : Interp F} {w w' : World} (h : I.bs w) (hs : w.heap.size <= w'.heap.size) (hk : ∀ k, k < I.base -> w'.heap[k]? = w.heap[k]?) : I.bs w' := ⟨Nat.le_trans h.1 hs, I.inv_mono w w' hk hs h.2⟩
theorem Interp.bs.old {F : Type} {I : Interp F} {w w' : World} (h : I.bs w) (hs : w.heap.size <= w'.heap.size) (hk : ∀ k, k < w.heap.size -> w'.heap[k]? = w.heap[k]?) : I.bs w' := h.mono hs fun k hb => hk k (Nat.lt_of_lt_of_le hb h.1)
theorem Interp.bs.keep {F : Type} {I : Interp F} {w w' : World} (h : I.bs w) (hs : w.heap.size <= w'.heap.size) {j : Nat} (hj : I.base <= j) (hk : ∀ k, k < w.heap.size -> k ≠ j -> w'.heap[k]? = w.heap[k]?) : I.bs w' := h.mono hs fun k hb => hk k (Nat.lt_of_lt_of_le hb h.1) (by omega)

def noFacts : Interp Empty where
 holds := fun f => nomatch f
 base := 0
 safe := fun _ => true
 slen := fun f => nomatch f
 sget := fun f => nomatch f
 mono := fun f => nomatch f
 slen_ok := fun f => nomatch f
 sget_ok := fun f => nomatch f
 hv := fun f => nomatch f
 vlen := fun f => nomatch f
 vesz := fun f => nomatch f
 vget := fun f => nomatch f
 vsub := fun f => nomatch f
 vapp := fun f => nomatch f
 nil := fun _ => none
 hv_mono := fun f => nomatch f
 hv_cell := fun f => nomatch f
 vlen_ok := fun f => nomatch f
 vget_ok := fun f => nomatch f
 vsub_ok := fun f => nomatch f
 vapp_ok := fun f => nomatch f
 nil_ok := fun _ _ _ _ h => nomatch h
 maps := true
 mono_map := fun _ f => nomatch f
 hv_map := fun _ f => nomatch f

structure Start where
 w : World
 own : Nat -> Prop
 dt : Nat -> Nat -> Prop
def Start.out (s : Start) (k o : Nat) : Prop := s.dt k o /\ k < s.w.heap.size
structure Kept (s : Start) (w : World) : Prop where
 os : w.os = s.w.os
 tape : w.tape = s.w.tape
 output : w.output = s.w.output
 size : s.w.heap.size <= w.heap.size
 block : ∀ k, k < s.w.heap.size -> ¬ s.own k -> w.heap[k]? = s.w.heap[k]?

def blkOf : Value -> Option Nat
 | .slice (some a) _ _ => some a.block
 | .map (some k) => some k
 | _ => none
def Env.own (E : Env F) (b k : Nat) : Prop := E.m b = some k \/ ∃ n v, E.q b n = some v /\ blkOf v = some k
def Blk.tok (b : Blk F) : Option (Nat × Nat) := match b.cs with | [.tok n sz] => some (n, sz) | [.arr v ks _] => some (v, ks.length) | [.mp _ _ _] => some (0, 1) | _ => none
def Blk.lo (b : Blk F) : Nat := match b.cs with | [.tok n sz] => n * sz | _ => 0
theorem Blk.lo_le {b : Blk F} {n sz : Nat} (h : b.tok = some (n, sz)) : b.lo <= n * sz := by
 unfold Blk.tok at h
 unfold Blk.lo
 split at h
 · rename_i e; rw [e]; cases h; exact Nat.le_refl _
 · rename_i e; rw [e]; exact Nat.zero_le _
 · rename_i e; rw [e]; exact Nat.zero_le _
 · cases h
def ArrOk (ks : List (Option IntKind)) (l : List (List Int)) (cur : Array Value) : Prop :=
 ∀ j, j < l.length -> ∀ o kd, ks[o]? = some kd -> cur[j * ks.length + o]? = some (kdV kd ((l.getD j []).getD o 0))
def MapIs (kk vk : CK) (D : List (Value × Value)) (es : Array MapEntry) : Prop :=
 es.toList.map (fun e => (e.key, e.val)) = D /\ ∀ e ∈ D, ckOk kk e.1 = true /\ ckOk vk e.2 = true
def Dirt (E : Env F) (hp : List (Nat × Blk F)) (k o : Nat) : Prop :=
 (∃ b, E.m b = some k) \/ ∃ b blk n sz v, look b hp = some blk /\ blk.tok = some (n, sz) /\ E.q b n = some v /\ blkOf v = some k /\ blk.lo <= o
def Dt (w0 : Start) (E : Env F) (hp : List (Nat × Blk F)) (k o : Nat) : Prop := w0.out k o \/ Dirt E hp k o
def Dead (E : Env F) (b : Nat) (blk : Blk F) (n : Nat) : Prop := blk.cs = [.tok n 0] /\ E.q b n = none /\ ∃ j u, E.q b j = some u
def RowAt (I : Interp F) (E : Env F) (w : World) (b : Nat) (blk : Blk F) (n sz : Nat) : Prop :=
 ((0 < sz \/ Dead E b blk n) /\ ∀ v ks l, blk.cs = [.arr v ks l] -> ∃ k c cur, E.q b v = some (.slice (some ⟨k, 0, none⟩) 0 c) /\ l.length <= c /\ w.heap[k]? = some (.cells cur blk.ty (0, 0)) /\ ArrOk ks l cur /\ cur.size = c * ks.length /\ c <= maxLen) /\
 I.safe blk.ty = true /\ (∀ m, n < m -> E.q b m = none) /\ ((E.q b n = some (.slice none 0 0) /\ n = 0) \/
   (∃ k cap cur, E.q b n = some (.slice (some ⟨k, 0, none⟩) n cap) /\ w.heap[k]? = some (.cells cur blk.ty (0, 0)) /\ n <= cap /\ cap <= maxLen /\ cur.size = cap * sz) \/
   (∃ k es c kk vk D, blk.cs = [.mp kk vk D] /\ n = 0 /\ E.q b n = some (.map (some k)) /\ w.heap[k]? = some (.map es c) /\ MapIs kk vk D es) \/ (∃ ks l, blk.cs = [.arr n ks l]) \/ Dead E b blk n)
structure Mem (I : Interp F) (w0 : Start) (E : Env F) (hl : List (Nat × Blk F)) (w : World) : Prop where
 hp : ∀ b blk, look b hl = some blk -> blk.tok = none -> ∃ k vs, E.m b = some k /\ w.heap[k]? = some (.cells vs.toArray blk.ty (0, 0)) /\ All2 (AC.R E) blk.cs vs
 tok : ∀ b blk n sz, look b hl = some blk -> blk.tok = some (n, sz) -> RowAt I E w b blk n sz
 exc : ∀ b k, E.m b = some k -> ∀ n, E.q b n = none
 inj : ∀ b b' k, E.own b k -> E.own b' k -> b = b'
 loc : ∀ b k, E.own b k -> k < w.heap.size
 ext : ∀ k j f arr, E.r k j = some (f, arr) -> I.holds f w arr /\ ∀ (i : Nat) (v : Value), arr[i]? = some v -> isCell v = true
 kept : Kept w0 w
 new : ∀ b k, E.own b k -> w0.own k \/ w0.w.heap.size <= k
 low : ∀ b k, E.own b k -> I.base <= k
 bsz : I.bs w
 fv : ∀ f v, E.h f v -> I.hv f (Dt w0 E hl) w v
 apt : ∀ b n v k o, E.q b n = some v -> blkOf v = some k -> ¬ w0.out k o

structure Tms (ds : List Deferred) (E : Env F) (nt : Nat) (tm : List (Nat × AV F)) (a : Act) : Prop where
 tm : ∀ i v, look i tm = some v -> ∃ u, a.tmps[i]? = some u /\ v.R E u
 sz : a.tmps.size = nt
 df : a.defers = ds

theorem Tms.mono {E E' : Env F} (h : E.le E') {nt : Nat} {tm : List (Nat × AV F)} {a : Act} (H : Tms ds E nt tm a) : Tms ds E' nt tm a :=
 ⟨fun i v hv => let ⟨u, h1, h2⟩ := H.tm i v hv; ⟨u, h1, h2.mono h⟩, H.sz, H.df⟩
theorem Tms.congr {E : Env F} {nt : Nat} {tm tm' : List (Nat × AV F)} {a : Act} (H : Tms ds E nt tm a) (h : ∀ i, look i tm' = look i tm) : Tms ds E nt tm' a :=
 ⟨fun i v hv => H.tm i v (by rw [<- h]; exact hv), H.sz, H.df⟩
theorem Dirt.congr {E : Env F} {hp hp' : List (Nat × Blk F)} (h : ∀ i, look i hp' = look i hp) {k o : Nat} (H : Dirt E hp' k o) : Dirt E hp k o := by
 rcases H with H | ⟨b, blk, n, sz, v, h1, h2⟩
 · exact .inl H
 · exact .inr ⟨b, blk, n, sz, v, by rw [<- h]; exact h1, h2⟩
theorem Mem.congr {I : Interp F} {w0 : Start} {w : World} {E : Env F} {hp hp' : List (Nat × Blk F)} (H : Mem I w0 E hp w) (h : ∀ i, look i hp' = look i hp) : Mem I w0 E hp' w :=
 ⟨fun b blk hb => H.hp b blk (by rw [<- h]; exact hb), fun b blk n sz hb => H.tok b blk n sz (by rw [<- h]; exact hb), H.exc, H.inj, H.loc, H.ext, H.kept, H.new, H.low, H.bsz,
   fun f v hv => I.hv_mono f _ _ w w v (H.fv f v hv) (fun _ _ _ => Or.imp id (Dirt.congr h)) fun _ _ => .inl rfl, H.apt⟩
theorem look_cons {α : Type} (k j : Nat) (v : α) (r : List (Nat × α)) : look k ((j, v) :: r) = if j = k then some v else look k r := by
 show (bif Nat.beq j k then some v else look k r) = _
 by_cases h : j = k
 · subst h; simp
 · rw [if_neg h]
   have : Nat.beq j k = false := by
     cases hb : Nat.beq j k with
     | false => rfl
     | true => exact absurd (Nat.eq_of_beq_eq_true hb) h
   rw [this]; rfl
theorem Tms.put {E : Env F} {nt : Nat} {tm : List (Nat × AV F)} {a : Act} (H : Tms ds E nt tm a) {d : Nat} (hd : d < nt) {v : AV F} {u : Value} (hv : v.R E u) : Tms ds E nt ((d, v) :: tm) (a.put (some d) u) := by
 refine ⟨fun i x hx => ?_, by simp [Act.put, H.sz], H.df⟩
 rw [look_cons] at hx
 by_cases h : d = i
 · subst h
   simp at hx; subst hx
   exact ⟨u, by simp [Act.put, H.sz, hd], hv⟩
 · rw [if_neg h] at hx
   obtain ⟨u', h1, h2⟩ := H.tm i x hx
   exact ⟨u', by simp [Act.put, Array.getElem?_setIfInBounds_ne h, h1], h2⟩


structure But (s : Nat) (E E' : Env F) : Prop where
 le : E.le E'
 m : ∀ b, b ≠ s -> E'.m b = E.m b
 r : ∀ b, b ≠ s -> ∀ j, E'.r b j = E.r b j
 q : ∀ b, b ≠ s -> (∀ n, E.q b n = none) -> ∀ n, E'.q b n = none
theorem But.refl (s : Nat) (E : Env F) : But s E E := ⟨.refl E, fun _ _ => rfl, fun _ _ _ => rfl, fun _ _ h => h⟩
def Fresh (s : Nat) (E : Env F) : Prop := E.m s = none /\ (∀ j, E.r s j = none) /\ ∀ n, E.q s n = none
def Env.setm (E : Env F) (s k : Nat) : Env F := { E with m := fun b => if b = s then some k else E.m b }
theorem But.setm {E : Env F} {s : Nat} (h : Fresh s E) (k : Nat) : But s E (E.setm s k) where
 le := ⟨fun b x e => by
   show (if b = s then some k else E.m b) = some x
   by_cases hb : b = s
   · subst hb; rw [h.1] at e; cases e
   · rw [if_neg hb]; exact e, fun _ _ _ e => e, fun _ _ e => e, fun _ _ _ e => e⟩
 m := fun b hb => if_neg hb
 r := fun _ _ _ => rfl
 q := fun _ _ h => h

theorem Dead.move {E E' : Env F} {b b' : Nat} {blk : Blk F} {n : Nat} (h : Dead E b blk n) (hq : ∀ m, E'.q b' m = E.q b m) : Dead E' b' blk n := by
 obtain ⟨h1, h2, j, u, h3⟩ := h
 exact ⟨h1, by rw [hq]; exact h2, j, u, by rw [hq]; exact h3⟩
theorem RowAt.move {I : Interp F} {E E' : Env F} {w w' : World} {b b' : Nat} {e : Blk F} {n sz : Nat} (H : RowAt I E w b e n sz) (hq : ∀ m, E'.q b' m = E.q b m) (hk : ∀ k, E.own b k -> w'.heap[k]? = w.heap[k]?) : RowAt I E' w' b' e n sz := by
 obtain ⟨h1, h2, h3, h4⟩ := H
 refine ⟨⟨h1.1.imp id fun h => h.move hq, fun v ks l hl => by
   obtain ⟨k, c, cur, g1, g0, g2, g3⟩ := h1.2 v ks l hl
   exact ⟨k, c, cur, by rw [hq]; exact g1, g0, by rw [hk k (.inr ⟨v, _, g1, rfl⟩)]; exact g2, g3⟩⟩, h2, fun m hm => by rw [hq]; exact h3 m hm, ?_⟩
 rcases h4 with h4 | ⟨k, cap, cur, g1, g2, g3⟩ | ⟨k, es, c, kk, vk, D, g1, g2, g3, g4, g5⟩ | h4 | h4
 · exact .inl (by rw [hq]; exact h4)
 · exact .inr (.inl ⟨k, cap, cur, by rw [hq]; exact g1, by rw [hk k (.inr ⟨n, _, g1, rfl⟩)]; exact g2, g3⟩)
 · exact .inr (.inr (.inl ⟨k, es, c, kk, vk, D, g1, g2, by rw [hq]; exact g3, by rw [hk k (.inr ⟨n, _, g3, rfl⟩)]; exact g4, g5⟩))
 · exact .inr (.inr (.inr (.inl h4)))
 · exact .inr (.inr (.inr (.inr (h4.move hq))))
theorem RowAt.keep {I : Interp F} {E E' : Env F} {w w' : World} {b : Nat} {e : Blk F} {n sz : Nat} (H : RowAt I E w b e n sz) (hq : ∀ m, E'.q b m = E.q b m) (hk : ∀ k, E.own b k -> w'.heap[k]? = w.heap[k]?) : RowAt I E' w' b e n sz := H.move hq hk
theorem tok_none {E : Env F} {blk : Blk F} {vs : List Value} (h : All2 (AC.R E) blk.cs vs) : blk.tok = none := by
 unfold Blk.tok
 split
 · rename_i n sz e
   rw [e] at h
   cases h with | cons r _ => exact r.elim
 · rename_i ks l e
   rw [e] at h
   cases h with | cons r _ => exact r.elim
 · rename_i e
   rw [e] at h
   cases h with | cons r _ => exact r.elim
 · rfl
theorem Mem.plain {I : Interp F} {w0 : Start} {w : World} {E : Env F} {hp : List (Nat × Blk F)} (H : Mem I w0 E hp w) {b k : Nat} {blk : Blk F} (hb : look b hp = some blk) (hm : E.m b = some k) : blk.tok = none := by
 cases ht : blk.tok with
 | none => rfl
 | some p =>
   obtain ⟨n, sz⟩ := p
   obtain ⟨h1, _, _, h4⟩ := H.tok b blk n sz hb ht
   have hx := H.exc b k hm n
   rcases h4 with ⟨h4, _⟩ | ⟨_, _, _, h4, _⟩ | ⟨_, _, _, _, _, _, _, _, h4, _⟩ | ⟨ks, l, h4⟩ | ⟨_, _, j, u, h4⟩
   · rw [hx] at h4; cases h4
   · rw [hx] at h4; cases h4
   · rw [hx] at h4; cases h4
   · obtain ⟨_, _, _, h5, _⟩ := h1.2 _ ks l h4
     rw [hx] at h5; cases h5
   · rw [H.exc b k hm j] at h4; cases h4
theorem own_setm {E : Env F} {s k0 b k : Nat} (h : (E.setm s k0).own b k) : (b = s /\ k = k0) \/ E.own b k := by
 rcases h with h | h
 · by_cases hb : b = s
   · refine .inl ⟨hb, ?_⟩
     have : (E.setm s k0).m b = some k0 := if_pos hb
     rw [this] at h; cases h; rfl
   · have : (E.setm s k0).m b = E.m b := if_neg hb
     rw [this] at h
     exact .inr (.inl h)
 · exact .inr (.inr h)
theorem Mem.draw {I : Interp F} {w0 : Start} {w : World} {E : Env F} {hp : List (Nat × Blk F)} (H : Mem I w0 E hp w) : Mem I w0 E hp { w with drawn := w.drawn + 1 } where
 hp := H.hp
 tok := H.tok
 exc := H.exc
 inj := H.inj
 loc := H.loc
 ext := fun k j f arr h => ⟨I.mono f w _ arr (H.ext k j f arr h).1 fun _ _ => .inl rfl, (H.ext k j f arr h).2⟩
 kept := ⟨H.kept.os, H.kept.tape, H.kept.output, H.kept.size, H.kept.block⟩
 new := H.new
 low := H.low
 bsz := H.bsz.old (Nat.le_refl _) fun _ _ => rfl
 fv := fun f v h => I.hv_mono f _ _ w _ v (H.fv f v h) (fun _ _ _ h => h) fun _ _ => .inl rfl
 apt := H.apt

theorem Mem.alloc {I : Interp F} {w0 : Start} {w : World} {E : Env F} {hp : List (Nat × Blk F)} (H : Mem I w0 E hp w) {s : Nat} (hs : Fresh s E) {blk : Blk F} {vs : List Value}
   (hv : All2 (AC.R E) blk.cs vs) : Mem I w0 (E.setm s w.heap.size) ((s, blk) :: hp) { w with heap := w.heap.push (.cells vs.toArray blk.ty (0, 0)) } := by
 have hle := (But.setm hs w.heap.size).le
 have old : ∀ k, k < w.heap.size -> (w.heap.push (.cells vs.toArray blk.ty (0, 0)))[k]? = w.heap[k]? := fun k hk => by
   rw [Array.getElem?_push, if_neg (by omega)]
 refine ⟨fun b x hb hx => ?_, fun b x n sz hb hx => ?_, fun b k h n => ?_, fun b b' k h h' => ?_, fun b k h => ?_, fun k j f arr h => ?_, ?_, fun b k h => ?_, fun b k h => ?_, H.bsz.old (by simp) old, fun f v h => I.hv_mono f _ _ w _ v (H.fv f v h) (fun k o hk => Or.imp id fun hd => ?_) fun k hk => .inl (old k hk), H.apt⟩
 · rw [look_cons] at hb
   by_cases e : s = b
   · subst e
     simp at hb; subst hb
     exact ⟨w.heap.size, vs, if_pos rfl, by simp, hv.mono fun _ _ => AC.R.mono hle⟩
   · rw [if_neg e] at hb
     obtain ⟨k, ws, h1, h2, h3⟩ := H.hp b x hb hx
     exact ⟨k, ws, hle.m _ _ h1, by show (w.heap.push _)[k]? = _; rw [old k (H.loc b k (.inl h1))]; exact h2, h3.mono fun _ _ => AC.R.mono hle⟩
 · rw [look_cons] at hb
   by_cases e : s = b
   · subst e
     simp at hb; subst hb
     rw [tok_none hv] at hx; cases hx
   · rw [if_neg e] at hb
     exact (H.tok b x n sz hb hx).keep (fun _ => rfl) fun k hk => old k (H.loc b k hk)
 · by_cases hb : b = s
   · subst hb; exact hs.2.2 n
   · have : (E.setm s w.heap.size).m b = E.m b := if_neg hb
     rw [this] at h
     exact H.exc b k h n
 · rcases own_setm h with ⟨h1, h2⟩ | h1 <;> rcases own_setm h' with ⟨g1, g2⟩ | g1
   · rw [h1, g1]
   · have := H.loc _ _ g1; omega
   · have := H.loc _ _ h1; omega
   · exact H.inj b b' k h1 g1
 · show k < (w.heap.push _).size
   rw [Array.size_push]
   rcases own_setm h with ⟨_, h2⟩ | h
   · omega
   · have := H.loc b k h; omega
 · obtain ⟨h1, h2⟩ := H.ext k j f arr h
   exact ⟨I.mono f w _ arr h1 fun k hk => .inl (old k hk), h2⟩
 · refine ⟨H.kept.os, H.kept.tape, H.kept.output, Nat.le_trans H.kept.size (by simp), fun k hk ho => ?_⟩
   exact (old k (Nat.lt_of_lt_of_le hk H.kept.size)).trans (H.kept.block k hk ho)
 · rcases own_setm h with ⟨_, h2⟩ | h
   · rw [h2]; exact .inr H.kept.size
   · exact H.new b k h
 · rcases own_setm h with ⟨_, h2⟩ | h
   · rw [h2]; exact H.bsz.1
   · exact H.low b k h
 · rcases hd with ⟨b, hb⟩ | ⟨b, x, n, sz, u, h1, h2, h3, h4, h5⟩
   · rcases own_setm (.inl hb : (E.setm s w.heap.size).own b k) with ⟨_, q⟩ | q
     · omega
     · by_cases e : b = s
       · have : (E.setm s w.heap.size).m b = some w.heap.size := if_pos e
         rw [this] at hb; cases hb; omega
       · have : (E.setm s w.heap.size).m b = E.m b := if_neg e
         rw [this] at hb
         exact .inl ⟨b, hb⟩
   · rw [look_cons] at h1
     by_cases e : s = b
     · subst e
       simp at h1; subst h1
       rw [tok_none hv] at h2; cases h2
     · rw [if_neg e] at h1
       exact .inr ⟨b, x, n, sz, u, h1, h2, h3, h4, h5⟩

theorem Dirt.write {E : Env F} {hp : List (Nat × Blk F)} {b : Nat} {blk : Blk F} {vs : List Value} (hv : All2 (AC.R E) blk.cs vs) {k o : Nat} (h : Dirt E ((b, blk) :: hp) k o) : Dirt E hp k o := by
 rcases h with h | ⟨c, x, n, sz, u, h1, h2, h3⟩
 · exact .inl h
 · rw [look_cons] at h1
   by_cases e : b = c
   · subst e
     simp at h1; subst h1
     rw [tok_none hv] at h2; cases h2
   · rw [if_neg e] at h1
     exact .inr ⟨c, x, n, sz, u, h1, h2, h3⟩
theorem Mem.wrote {I : Interp F} {w0 : Start} {w w' : World} {E : Env F} {hp : List (Nat × Blk F)} (H : Mem I w0 E hp w) {b k : Nat} {blk : Blk F} (hb : look b hp = some blk) (hm : E.m b = some k)
   (hsafe : I.safe blk.ty = true) {cs : List (AC F)} {vs : List Value} (hv : All2 (AC.R E) cs vs)
   (hos : w'.os = w.os) (htape : w'.tape = w.tape) (hout : w'.output = w.output) (hsz : w.heap.size <= w'.heap.size)
   (hne : ∀ j, j < w.heap.size -> j ≠ k -> w'.heap[j]? = w.heap[j]?) (hk : w'.heap[k]? = some (.cells vs.toArray blk.ty (0, 0))) :
   Mem I w0 E ((b, ⟨blk.ty, cs⟩) :: hp) w' := by
 obtain ⟨k', us, h1, h2, h3⟩ := H.hp b blk hb (H.plain hb hm)
 rw [hm] at h1; cases h1
 have own1 : E.own b k := .inl hm
 refine ⟨fun c x hc hx => ?_, fun c x n sz hc hx => ?_, H.exc, H.inj, fun c j h => Nat.lt_of_lt_of_le (H.loc c j h) hsz, fun c j f arr h => ?_, ?_, H.new, H.low, H.bsz.keep hsz (H.low b k own1) hne, fun f v h => I.hv_mono f _ _ w _ v (H.fv f v h) (fun _ _ _ => Or.imp id (Dirt.write (blk := ⟨blk.ty, cs⟩) hv)) fun i hi => ?_, H.apt⟩
 · rw [look_cons] at hc
   by_cases e : b = c
   · subst e
     simp at hc; subst hc
     exact ⟨k, vs, hm, hk, hv⟩
   · rw [if_neg e] at hc
     obtain ⟨j, ws, g1, g2, g3⟩ := H.hp c x hc hx
     exact ⟨j, ws, g1, by rw [hne j (H.loc c j (.inl g1)) fun e' => e (H.inj b c k own1 (.inl (e' ▸ g1)))]; exact g2, g3⟩
 · rw [look_cons] at hc
   by_cases e : b = c
   · subst e
     simp at hc; subst hc
     rw [tok_none (blk := ⟨blk.ty, cs⟩) hv] at hx; cases hx
   · rw [if_neg e] at hc
     exact (H.tok c x n sz hc hx).keep (fun _ => rfl) fun j hj => hne j (H.loc c j hj) fun e' => e (H.inj b c k own1 (e' ▸ hj))
 · obtain ⟨g1, g2⟩ := H.ext c j f arr h
   refine ⟨I.mono f w _ arr g1 fun i hi => ?_, g2⟩
   by_cases e : i = k
   · subst e; exact .inr ⟨H.low b i own1, _, _, _, _, h2, hsafe, hk⟩
   · exact .inl (hne i hi e)
 · refine ⟨hos.trans H.kept.os, htape.trans H.kept.tape, hout.trans H.kept.output, Nat.le_trans H.kept.size hsz, fun j hj ho => ?_⟩
   refine (hne j (Nat.lt_of_lt_of_le hj H.kept.size) fun e => ?_).trans (H.kept.block j hj ho)
   subst e
   rcases H.new b j own1 with h | h
   · exact ho h
   · omega
 · by_cases e : i = k
   · subst e; exact .inr ⟨H.low b i own1, _, _, _, _, h2, hsafe, hk, fun o => .inr (.inr (.inl ⟨b, hm⟩))⟩
   · exact .inl (hne i hi e)
theorem Mem.write {I : Interp F} {w0 : Start} {w w' : World} {E : Env F} {hp : List (Nat × Blk F)} (H : Mem I w0 E hp w) {b k : Nat} {blk : Blk F} (hb : look b hp = some blk) (hm : E.m b = some k)
   (hsafe : I.safe blk.ty = true) {cs : List (AC F)} {vs : List Value} (hv : All2 (AC.R E) cs vs)
   (hos : w'.os = w.os) (htape : w'.tape = w.tape) (hout : w'.output = w.output) (hsz : w'.heap.size = w.heap.size)
   (hne : ∀ j, j ≠ k -> w'.heap[j]? = w.heap[j]?) (hk : w'.heap[k]? = some (.cells vs.toArray blk.ty (0, 0))) :
   Mem I w0 E ((b, ⟨blk.ty, cs⟩) :: hp) w' := H.wrote hb hm hsafe hv hos htape hout (Nat.le_of_eq hsz.symm) (fun j _ => hne j) hk

def Env.ran (E : Env F) (k : Nat) : Prop := ∃ b, E.own b k
theorem Mem.trans {I : Interp F} {w0 : Start} {w w' : World} {E E' : Env F} {hp hp' : List (Nat × Blk F)} (H : Mem I w0 E hp w) (H' : Mem I ⟨w, E.ran, w0.out⟩ E' hp' w') : Mem I w0 E' hp' w' where
 hp := H'.hp
 tok := H'.tok
 exc := H'.exc
 inj := H'.inj
 loc := H'.loc
 ext := H'.ext
 kept := ⟨H'.kept.os.trans H.kept.os, H'.kept.tape.trans H.kept.tape, H'.kept.output.trans H.kept.output, Nat.le_trans H.kept.size H'.kept.size, fun k hk ho => by
   refine (H'.kept.block k (Nat.lt_of_lt_of_le hk H.kept.size) fun hr => ?_).trans (H.kept.block k hk ho)
   obtain ⟨b, hb⟩ := hr
   rcases H.new b k hb with h | h
   · exact ho h
   · omega⟩
 new := fun b k h => by
   rcases H'.new b k h with ⟨b', hr⟩ | hr
   · exact H.new b' k hr
   · exact .inr (Nat.le_trans H.kept.size hr)
 low := H'.low
 bsz := H'.bsz
 fv := fun f v h => I.hv_mono f _ _ w' w' v (H'.fv f v h) (fun _ _ _ => Or.imp (fun h => ⟨h, Nat.lt_of_lt_of_le h.2 H.kept.size⟩) id) fun _ _ => .inl rfl
 apt := fun b n v k o h1 h2 h3 => H'.apt b n v k o h1 h2 ⟨h3, Nat.lt_of_lt_of_le h3.2 H.kept.size⟩
theorem Mem.here {I : Interp F} {w0 : Start} {w : World} {E : Env F} {hp : List (Nat × Blk F)} (H : Mem I w0 E hp w) : Mem I ⟨w, E.ran, w0.out⟩ E hp w :=
 ⟨H.hp, H.tok, H.exc, H.inj, H.loc, H.ext, ⟨rfl, rfl, rfl, Nat.le_refl _, fun _ _ _ => rfl⟩, fun b k h => .inl ⟨b, h⟩, H.low, H.bsz, fun f v h => I.hv_mono f _ _ w w v (H.fv f v h) (fun _ _ _ => Or.imp (fun h => h.1) id) fun _ _ => .inl rfl, fun b n v k o h1 h2 h3 => H.apt b n v k o h1 h2 h3.1⟩
theorem Mem.below {I : Interp F} {w0 : Start} {w w' : World} {E : Env F} {hp : List (Nat × Blk F)} (H : Mem I w0 E hp w) (hb : Below w.heap.size w w') : Mem I w0 E hp w' where
 hp := fun b blk h ht => by
   obtain ⟨k, vs, h1, h2, h3⟩ := H.hp b blk h ht
   exact ⟨k, vs, h1, by rw [hb.block k (H.loc b k (.inl h1))]; exact h2, h3⟩
 tok := fun b blk n sz h ht => (H.tok b blk n sz h ht).keep (fun _ => rfl) fun k hk => hb.block k (H.loc b k hk)
 exc := H.exc
 inj := H.inj
 loc := fun b k h => Nat.lt_of_lt_of_le (H.loc b k h) hb.size
 ext := fun k j f arr h => ⟨I.mono f w _ arr (H.ext k j f arr h).1 fun i hi => .inl (hb.block i hi), (H.ext k j f arr h).2⟩
 kept := ⟨hb.os.trans H.kept.os, hb.tape.trans H.kept.tape, hb.output.trans H.kept.output, Nat.le_trans H.kept.size hb.size, fun k hk ho => (hb.block k (Nat.lt_of_lt_of_le hk H.kept.size)).trans (H.kept.block k hk ho)⟩
 new := H.new
 low := H.low
 bsz := H.bsz.old hb.size hb.block
 fv := fun f v h => I.hv_mono f _ _ w _ v (H.fv f v h) (fun _ _ _ h => h) fun i hi => .inl (hb.block i hi)
 apt := H.apt

def Env.setq (E : Env F) (b n : Nat) (v : Value) : Env F := { E with q := fun s i => if s = b /\ i = n then some v else E.q s i }
theorem setq_at (E : Env F) (b n : Nat) (v : Value) : (E.setq b n v).q b n = some v := if_pos ⟨rfl, rfl⟩
theorem setq_ne (E : Env F) {b n : Nat} (v : Value) {s i : Nat} (h : ¬ (s = b /\ i = n)) : (E.setq b n v).q s i = E.q s i := if_neg h
theorem setq_le {E : Env F} {b n : Nat} {v : Value} (h : E.q b n = none) : E.le (E.setq b n v) := ⟨fun _ _ h => h, fun _ _ _ h => h, fun _ _ h => h, fun s i u e => by
 by_cases hs : s = b /\ i = n
 · obtain ⟨rfl, rfl⟩ := hs; rw [h] at e; cases e
 · rw [setq_ne E v hs]; exact e⟩
theorem own_setq {E : Env F} {b n : Nat} {v : Value} {c k : Nat} (h : (E.setq b n v).own c k) : E.own c k \/ (c = b /\ blkOf v = some k) := by
 rcases h with h | ⟨i, u, h1, h2⟩
 · exact .inl (.inl h)
 · by_cases hs : c = b /\ i = n
   · obtain ⟨rfl, rfl⟩ := hs
     rw [setq_at] at h1; cases h1
     exact .inr ⟨rfl, h2⟩
   · rw [setq_ne E v hs] at h1
     exact .inl (.inr ⟨i, u, h1, h2⟩)
theorem Mem.nilrow {I : Interp F} {w0 : Start} {w : World} {E : Env F} {hp : List (Nat × Blk F)} (H : Mem I w0 E hp w) {s : Nat} (hs : Fresh s E) {e : TypeId} {sz : Nat} (hsz : 0 < sz) (hsafe : I.safe e = true) :
   Mem I w0 (E.setq s 0 (.slice none 0 0)) ((s, ⟨e, [.tok 0 sz]⟩) :: hp) w := by
 have hle := setq_le (v := .slice none 0 0) (hs.2.2 0)
 have own : ∀ {c k}, (E.setq s 0 (.slice none 0 0)).own c k -> E.own c k := fun h => (own_setq h).elim id fun h => by cases h.2
 refine ⟨fun b x hb hx => ?_, fun b x n sz' hb hx => ?_, fun b k h n => ?_, fun b b' k h h' => H.inj b b' k (own h) (own h'), fun b k h => H.loc b k (own h), H.ext, H.kept, fun b k h => H.new b k (own h), fun b k h => H.low b k (own h), H.bsz, fun f v h => I.hv_mono f _ _ w _ v (H.fv f v h) (fun k o hk => Or.imp id fun hd => ?_) fun k hk => .inl rfl, fun b n v k o h1 h2 => ?_⟩
 · rw [look_cons] at hb
   by_cases e : s = b
   · subst e
     simp at hb; subst hb
     cases hx
   · rw [if_neg e] at hb
     obtain ⟨k, ws, h1, h2, h3⟩ := H.hp b x hb hx
     exact ⟨k, ws, h1, h2, h3.mono fun _ _ => AC.R.mono hle⟩
 · rw [look_cons] at hb
   by_cases e' : s = b
   · subst e'
     simp at hb; subst hb
     cases hx
     refine ⟨⟨.inl hsz, fun v ks l h => by cases h⟩, hsafe, fun m hm => ?_, .inl ⟨setq_at E s 0 _, rfl⟩⟩
     rw [setq_ne E _ (by omega)]; exact hs.2.2 m
   · rw [if_neg e'] at hb
     exact (H.tok b x n sz' hb hx).keep (fun m => setq_ne E _ fun h => e' h.1.symm) fun k hk => rfl
 · by_cases hb : b = s
   · subst hb; rw [show (E.setq b 0 (.slice none 0 0)).m b = E.m b from rfl, hs.1] at h; cases h
   · rw [setq_ne E _ fun h => hb h.1]; exact H.exc b k h n
 · rcases hd with h | ⟨b, x, n, sz', u, h1, h2, h3, h4, h5⟩
   · exact .inl h
   · rw [look_cons] at h1
     by_cases e' : s = b
     · subst e'
       simp at h1; subst h1
       cases h2
       rw [setq_at] at h3; cases h3; cases h4
     · rw [if_neg e'] at h1
       rw [setq_ne E _ fun h => e' h.1.symm] at h3
       exact .inr ⟨b, x, n, sz', u, h1, h2, h3, h4, h5⟩
 · by_cases hs' : b = s /\ n = 0
   · obtain ⟨rfl, rfl⟩ := hs'
     rw [setq_at] at h1; cases h1; cases h2
   · rw [setq_ne E _ hs'] at h1
     exact H.apt b n v k o h1 h2
theorem Mem.grow {I : Interp F} {w0 : Start} {w w' : World} {E : Env F} {hp : List (Nat × Blk F)} (H : Mem I w0 E hp w) {b n sz m : Nat} {blk : Blk F} (hb : look b hp = some blk) (ht : blk.tok = some (n, sz)) (hm : 0 < m) {v : Value} (hq : E.q b n = some v)
   {k cap : Nat} {cur : Array Value} (hos : w'.os = w.os) (htape : w'.tape = w.tape) (hout : w'.output = w.output) (hsz : w.heap.size <= w'.heap.size)
   (hk : w'.heap[k]? = some (.cells cur blk.ty (0, 0))) (hc1 : n + m <= cap) (hc2 : cap <= maxLen) (hcs : cur.size = cap * sz)
   (hcase : (blkOf v = some k /\ (∀ j, j < w.heap.size -> j ≠ k -> w'.heap[j]? = w.heap[j]?) /\ ∃ c0, w.heap[k]? = some (.cells c0 blk.ty (0, 0)) /\ ∀ o, o < n * sz -> cur[o]? = c0[o]?) \/
     (k = w.heap.size /\ ∀ j, j < w.heap.size -> w'.heap[j]? = w.heap[j]?)) :
   Mem I w0 (E.setq b (n + m) (.slice (some ⟨k, 0, none⟩) (n + m) cap)) ((b, ⟨blk.ty, [.tok (n + m) sz]⟩) :: hp) w' := by
 obtain ⟨t1, t2, t3, t4⟩ := H.tok b blk n sz hb ht
 have hnew : E.q b (n + m) = none := t3 _ (by omega)
 have hle := setq_le (v := .slice (some ⟨k, 0, none⟩) (n + m) cap) hnew
 have ownk : E.own b k \/ k = w.heap.size := hcase.elim (fun h => .inl (.inr ⟨n, v, hq, h.1⟩)) fun h => .inr h.1
 have old : ∀ j, j < w.heap.size -> ¬ E.own b j -> w'.heap[j]? = w.heap[j]? := fun j hj hn => by
   rcases hcase with ⟨h1, h2, _⟩ | ⟨_, h2⟩
   · exact h2 j hj fun e => hn (e ▸ .inr ⟨n, v, hq, h1⟩)
   · exact h2 j hj
 have own : ∀ {c j}, (E.setq b (n + m) (.slice (some ⟨k, 0, none⟩) (n + m) cap)).own c j -> E.own c j \/ (c = b /\ j = k) := fun h => (own_setq h).imp id fun h => ⟨h.1, by have := h.2; simpa [blkOf] using this.symm⟩
 have hkw : k < w'.heap.size := (Array.getElem?_eq_some_iff.1 hk).1
 have hbm : E.m b = none := by
   cases hx : E.m b with
   | none => rfl
   | some j => have := H.exc b j hx n; rw [hq] at this; cases this
 refine ⟨fun c x hc hx => ?_, fun c x n' sz' hc hx => ?_, fun c j h i => ?_, fun c c' j h h' => ?_, fun c j h => ?_, fun c j f arr h => ?_, ?_, fun c j h => ?_, fun c j h => ?_, H.bsz.mono hsz (fun j hj => old j (Nat.lt_of_lt_of_le hj H.bsz.1) fun h => by have := H.low b j h; omega), fun f u h => I.hv_mono f _ _ w _ u (H.fv f u h) (fun j o hj => Or.imp id fun hd => ?_) (fun j hj => ?_), fun c i u j o h1 h2 h3 => ?_⟩
 · rw [look_cons] at hc
   by_cases e : b = c
   · subst e
     simp at hc; subst hc
     cases hx
   · rw [if_neg e] at hc
     obtain ⟨j, ws, h1, h2, h3⟩ := H.hp c x hc hx
     exact ⟨j, ws, h1, by rw [old j (H.loc c j (.inl h1)) fun h => e (H.inj b c j h (.inl h1))]; exact h2, h3.mono fun _ _ => AC.R.mono hle⟩
 · rw [look_cons] at hc
   by_cases e : b = c
   · subst e
     simp at hc; subst hc
     cases hx
     refine ⟨⟨.inl (t1.1.elim id fun h => by (rw [h.2.1] at hq; cases hq)), fun v ks l h => by cases h⟩, t2, fun i hi => ?_, .inr (.inl ⟨k, cap, cur, setq_at E b _ _, hk, hc1, hc2, hcs⟩)⟩
     rw [setq_ne E _ (by omega)]; exact t3 i (by omega)
   · rw [if_neg e] at hc
     exact (H.tok c x n' sz' hc hx).keep (fun i => setq_ne E _ fun h => e h.1.symm) fun j hj => old j (H.loc c j hj) fun h => e (H.inj b c j h hj)
 · by_cases e : c = b
   · subst e; rw [show (E.setq c (n + m) (.slice (some ⟨k, 0, none⟩) (n + m) cap)).m c = E.m c from rfl, hbm] at h; cases h
   · rw [setq_ne E _ fun h => e h.1]; exact H.exc c j h i
 · have aux : ∀ {c c'}, E.own c j -> c' = b /\ j = k -> c = c' := fun h g => by
     rcases ownk with hw | hw
     · rw [g.1]; exact H.inj _ _ j h (g.2 ▸ hw)
     · have := H.loc _ _ h; omega
   rcases own h with h | h <;> rcases own h' with g | g
   · exact H.inj c c' j h g
   · exact aux h g
   · exact (aux g h).symm
   · rw [h.1, g.1]
 · rcases own h with h | h
   · exact Nat.lt_of_lt_of_le (H.loc c j h) hsz
   · rw [h.2]; exact hkw
 · obtain ⟨g1, g2⟩ := H.ext c j f arr h
   refine ⟨I.mono f w _ arr g1 fun i hi => ?_, g2⟩
   by_cases e : w'.heap[i]? = w.heap[i]?
   · exact .inl e
   · rcases hcase with ⟨h1, h2, c0, h3, _⟩ | ⟨_, h2⟩
     · have hik : i = k := Classical.byContradiction fun hn => e (h2 i hi hn)
       subst hik
       exact .inr ⟨H.low b i (.inr ⟨n, v, hq, h1⟩), _, _, _, _, h3, t2, hk⟩
     · exact absurd (h2 i hi) e
 · refine ⟨hos.trans H.kept.os, htape.trans H.kept.tape, hout.trans H.kept.output, Nat.le_trans H.kept.size hsz, fun j hj ho => ?_⟩
   refine (old j (Nat.lt_of_lt_of_le hj H.kept.size) fun h => ?_).trans (H.kept.block j hj ho)
   rcases H.new b j h with h | h
   · exact ho h
   · omega
 · rcases own h with h | h
   · exact H.new c j h
   · rw [h.2]
     rcases ownk with hw | hw
     · exact H.new b k hw
     · exact .inr (by rw [hw]; exact H.kept.size)
 · rcases own h with h | h
   · exact H.low c j h
   · rw [h.2]
     rcases ownk with hw | hw
     · exact H.low b k hw
     · rw [hw]; exact H.bsz.1
 · rcases hd with h | ⟨c, x, n', sz', u', h1, h2, h3, h4, h5⟩
   · exact .inl h
   · rw [look_cons] at h1
     by_cases e : b = c
     · subst e
       simp at h1; subst h1
       cases h2
       rw [setq_at] at h3; cases h3
       have hjk : k = j := by simpa [blkOf] using h4
       subst hjk
       rcases hcase with ⟨h1, _⟩ | ⟨h1, _⟩
       · exact .inr ⟨b, blk, n, sz, v, hb, ht, hq, h1, Nat.le_trans (Blk.lo_le ht) (Nat.le_trans (Nat.mul_le_mul_right _ (by omega)) h5)⟩
       · omega
     · rw [if_neg e] at h1
       rw [setq_ne E _ fun h => e h.1.symm] at h3
       exact .inr ⟨c, x, n', sz', u', h1, h2, h3, h4, h5⟩
 · by_cases e : w'.heap[j]? = w.heap[j]?
   · exact .inl e
   · rcases hcase with ⟨h1, h2, c0, h3, h4⟩ | ⟨_, h2⟩
     · have hjk : j = k := Classical.byContradiction fun hn => e (h2 j hj hn)
       subst hjk
       refine .inr ⟨H.low b j (.inr ⟨n, v, hq, h1⟩), _, _, _, _, h3, t2, hk, fun o => ?_⟩
       rcases Nat.lt_or_ge o (n * sz) with ho | ho
       · exact .inl (h4 o ho)
       · exact .inr (.inr (.inr ⟨b, blk, n, sz, v, hb, ht, hq, h1, Nat.le_trans (Blk.lo_le ht) ho⟩))
     · exact absurd (h2 j hj) e
 · by_cases hs' : c = b /\ i = n + m
   · obtain ⟨rfl, rfl⟩ := hs'
     rw [setq_at] at h1; cases h1
     have hjk : k = j := by simpa [blkOf] using h2
     subst hjk
     rcases hcase with ⟨g1, _⟩ | ⟨g1, _⟩
     · exact H.apt c n v k o hq g1 h3
     · have := h3.2; have := H.kept.size; omega
   · rw [setq_ne E _ hs'] at h1
     exact H.apt c i u j o h1 h2 h3


theorem Mem.growarr {I : Interp F} {w0 : Start} {w w' : World} {E : Env F} {hp : List (Nat × Blk F)} (H : Mem I w0 E hp w) {b n sz : Nat} {blk : Blk F} (hb : look b hp = some blk) (ht : blk.tok = some (n, sz)) {v : Value} (hq : E.q b n = some v)
   {ks : List (Option IntKind)} {l' : List (List Int)} (hks : ks.length = sz) {k cap : Nat} {cur : Array Value} (hos : w'.os = w.os) (htape : w'.tape = w.tape) (hout : w'.output = w.output) (hsz : w.heap.size <= w'.heap.size)
   (hk : w'.heap[k]? = some (.cells cur blk.ty (0, 0))) (hc1 : l'.length <= cap) (hc2 : cap <= maxLen) (hcs : cur.size = cap * sz) (hok : ArrOk ks l' cur)
   (hcase : (blkOf v = some k /\ (∀ j, j < w.heap.size -> j ≠ k -> w'.heap[j]? = w.heap[j]?) /\ (∃ c0, w.heap[k]? = some (.cells c0 blk.ty (0, 0))) /\ blk.lo = 0) \/
     (k = w.heap.size /\ ∀ j, j < w.heap.size -> w'.heap[j]? = w.heap[j]?)) :
   Mem I w0 (E.setq b (n + 1) (.slice (some ⟨k, 0, none⟩) 0 cap)) ((b, ⟨blk.ty, [.arr (n + 1) ks l']⟩) :: hp) w' := by
 subst hks
 obtain ⟨t1, t2, t3, t4⟩ := H.tok b blk n ks.length hb ht
 have hnew : E.q b (n + 1) = none := t3 _ (by omega)
 have hle := setq_le (v := .slice (some ⟨k, 0, none⟩) 0 cap) hnew
 have ownk : E.own b k \/ k = w.heap.size := hcase.elim (fun h => .inl (.inr ⟨n, v, hq, h.1⟩)) fun h => .inr h.1
 have old : ∀ j, j < w.heap.size -> ¬ E.own b j -> w'.heap[j]? = w.heap[j]? := fun j hj hn => by
   rcases hcase with ⟨h1, h2, _⟩ | ⟨_, h2⟩
   · exact h2 j hj fun e => hn (e ▸ .inr ⟨n, v, hq, h1⟩)
   · exact h2 j hj
 have own : ∀ {c j}, (E.setq b (n + 1) (.slice (some ⟨k, 0, none⟩) 0 cap)).own c j -> E.own c j \/ (c = b /\ j = k) := fun h => (own_setq h).imp id fun h => ⟨h.1, by have := h.2; simpa [blkOf] using this.symm⟩
 have hkw : k < w'.heap.size := (Array.getElem?_eq_some_iff.1 hk).1
 have hbm : E.m b = none := by
   cases hx : E.m b with
   | none => rfl
   | some j => have := H.exc b j hx n; rw [hq] at this; cases this
 refine ⟨fun c x hc hx => ?_, fun c x n' sz' hc hx => ?_, fun c j h i => ?_, fun c c' j h h' => ?_, fun c j h => ?_, fun c j f arr h => ?_, ?_, fun c j h => ?_, fun c j h => ?_, H.bsz.mono hsz (fun j hj => old j (Nat.lt_of_lt_of_le hj H.bsz.1) fun h => by have := H.low b j h; omega), fun f u h => I.hv_mono f _ _ w _ u (H.fv f u h) (fun j o hj => Or.imp id fun hd => ?_) (fun j hj => ?_), fun c i u j o h1 h2 h3 => ?_⟩
 · rw [look_cons] at hc
   by_cases e : b = c
   · subst e
     simp at hc; subst hc
     cases hx
   · rw [if_neg e] at hc
     obtain ⟨j, ws, h1, h2, h3⟩ := H.hp c x hc hx
     exact ⟨j, ws, h1, by rw [old j (H.loc c j (.inl h1)) fun h => e (H.inj b c j h (.inl h1))]; exact h2, h3.mono fun _ _ => AC.R.mono hle⟩
 · rw [look_cons] at hc
   by_cases e : b = c
   · subst e
     simp at hc; subst hc
     cases hx
     refine ⟨⟨.inl (t1.1.elim id fun h => by (rw [h.2.1] at hq; cases hq)), fun v' ks' m' h => by cases h; exact ⟨k, cap, cur, setq_at E b _ _, hc1, hk, hok, hcs, hc2⟩⟩, t2, fun i hi => ?_, .inr (.inr (.inr (.inl ⟨ks, l', rfl⟩)))⟩
     rw [setq_ne E _ (by omega)]; exact t3 i (by omega)
   · rw [if_neg e] at hc
     exact (H.tok c x n' sz' hc hx).keep (fun i => setq_ne E _ fun h => e h.1.symm) fun j hj => old j (H.loc c j hj) fun h => e (H.inj b c j h hj)
 · by_cases e : c = b
   · subst e; rw [show (E.setq c (n + 1) (.slice (some ⟨k, 0, none⟩) 0 cap)).m c = E.m c from rfl, hbm] at h; cases h
   · rw [setq_ne E _ fun h => e h.1]; exact H.exc c j h i
 · have aux : ∀ {c c'}, E.own c j -> c' = b /\ j = k -> c = c' := fun h g => by
     rcases ownk with hw | hw
     · rw [g.1]; exact H.inj _ _ j h (g.2 ▸ hw)
     · have := H.loc _ _ h; omega
   rcases own h with h | h <;> rcases own h' with g | g
   · exact H.inj c c' j h g
   · exact aux h g
   · exact (aux g h).symm
   · rw [h.1, g.1]
 · rcases own h with h | h
   · exact Nat.lt_of_lt_of_le (H.loc c j h) hsz
   · rw [h.2]; exact hkw
 · obtain ⟨g1, g2⟩ := H.ext c j f arr h
   refine ⟨I.mono f w _ arr g1 fun i hi => ?_, g2⟩
   by_cases e : w'.heap[i]? = w.heap[i]?
   · exact .inl e
   · rcases hcase with ⟨h1, h2, ⟨c0, h3⟩, h4⟩ | ⟨_, h2⟩
     · have hik : i = k := Classical.byContradiction fun hn => e (h2 i hi hn)
       subst hik
       exact .inr ⟨H.low b i (.inr ⟨n, v, hq, h1⟩), _, _, _, _, h3, t2, hk⟩
     · exact absurd (h2 i hi) e
 · refine ⟨hos.trans H.kept.os, htape.trans H.kept.tape, hout.trans H.kept.output, Nat.le_trans H.kept.size hsz, fun j hj ho => ?_⟩
   refine (old j (Nat.lt_of_lt_of_le hj H.kept.size) fun h => ?_).trans (H.kept.block j hj ho)
   rcases H.new b j h with h | h
   · exact ho h
   · omega
 · rcases own h with h | h
   · exact H.new c j h
   · rw [h.2]
     rcases ownk with hw | hw
     · exact H.new b k hw
     · exact .inr (by rw [hw]; exact H.kept.size)
 · rcases own h with h | h
   · exact H.low c j h
   · rw [h.2]
     rcases ownk with hw | hw
     · exact H.low b k hw
     · rw [hw]; exact H.bsz.1
 · rcases hd with h | ⟨c, x, n', sz', u', h1, h2, h3, h4, h5⟩
   · exact .inl h
   · rw [look_cons] at h1
     by_cases e : b = c
     · subst e
       simp at h1; subst h1
       cases h2
       rw [setq_at] at h3; cases h3
       have hjk : k = j := by simpa [blkOf] using h4
       subst hjk
       rcases hcase with ⟨h1, _, _, h6⟩ | ⟨h1, _⟩
       · exact .inr ⟨b, blk, n, ks.length, v, hb, ht, hq, h1, by rw [h6]; exact Nat.zero_le _⟩
       · omega
     · rw [if_neg e] at h1
       rw [setq_ne E _ fun h => e h.1.symm] at h3
       exact .inr ⟨c, x, n', sz', u', h1, h2, h3, h4, h5⟩
 · by_cases e : w'.heap[j]? = w.heap[j]?
   · exact .inl e
   · rcases hcase with ⟨h1, h2, ⟨c0, h3⟩, h4⟩ | ⟨_, h2⟩
     · have hjk : j = k := Classical.byContradiction fun hn => e (h2 j hj hn)
       subst hjk
       exact .inr ⟨H.low b j (.inr ⟨n, v, hq, h1⟩), _, _, _, _, h3, t2, hk, fun o => .inr (.inr (.inr ⟨b, blk, n, ks.length, v, hb, ht, hq, h1, by rw [h4]; exact Nat.zero_le _⟩))⟩
     · exact absurd (h2 j hj) e
 · by_cases hs' : c = b /\ i = n + 1
   · obtain ⟨rfl, rfl⟩ := hs'
     rw [setq_at] at h1; cases h1
     have hjk : k = j := by simpa [blkOf] using h2
     subst hjk
     rcases hcase with ⟨g1, _⟩ | ⟨g1, _⟩
     · exact H.apt c n v k o hq g1 h3
     · have := h3.2; have := H.kept.size; omega
   · rw [setq_ne E _ hs'] at h1
     exact H.apt c i u j o h1 h2 h3

theorem Mem.newarr {I : Interp F} {w0 : Start} {w : World} {E : Env F} {hp : List (Nat × Blk F)} (H : Mem I w0 E hp w) {s : Nat} (hs : Fresh s E) {e : TypeId} {ks : List (Option IntKind)} {l : List (List Int)} {cur : Array Value}
   {c : Nat} (hlc : l.length <= c) (hsz : 0 < ks.length) (hsafe : I.safe e = true) (hcur : cur.size = c * ks.length) (hcap : c <= maxLen) (hok : ArrOk ks l cur) :
   Mem I w0 (E.setq s 0 (.slice (some ⟨w.heap.size, 0, none⟩) 0 c)) ((s, ⟨e, [.arr 0 ks l]⟩) :: hp) { w with heap := w.heap.push (.cells cur e (0, 0)) } := by
 have hle := setq_le (v := .slice (some ⟨w.heap.size, 0, none⟩) 0 c) (hs.2.2 0)
 have old : ∀ k, k < w.heap.size -> (w.heap.push (.cells cur e (0, 0)))[k]? = w.heap[k]? := fun k hk => by
   rw [Array.getElem?_push, if_neg (by omega)]
 have own : ∀ {d k}, (E.setq s 0 (.slice (some ⟨w.heap.size, 0, none⟩) 0 c)).own d k -> E.own d k \/ (d = s /\ k = w.heap.size) := fun h => (own_setq h).imp id fun h => ⟨h.1, by have := h.2; simpa [blkOf] using this.symm⟩
 refine ⟨fun b x hb hx => ?_, fun b x n sz hb hx => ?_, fun b k h n => ?_, fun b b' k h h' => ?_, fun b k h => ?_, fun k j f arr h => ?_, ?_, fun b k h => ?_, fun b k h => ?_, H.bsz.old (by simp) old, fun f v h => I.hv_mono f _ _ w _ v (H.fv f v h) (fun k o hk => Or.imp id fun hd => ?_) fun k hk => .inl (old k hk), fun b n v k o h1 h2 h3 => ?_⟩
 · rw [look_cons] at hb
   by_cases q : s = b
   · subst q
     simp at hb; subst hb
     cases hx
   · rw [if_neg q] at hb
     obtain ⟨k, ws, h1, h2, h3⟩ := H.hp b x hb hx
     exact ⟨k, ws, h1, by show (w.heap.push _)[k]? = _; rw [old k (H.loc b k (.inl h1))]; exact h2, h3.mono fun _ _ => AC.R.mono hle⟩
 · rw [look_cons] at hb
   by_cases q : s = b
   · subst q
     simp at hb; subst hb
     cases hx
     refine ⟨⟨.inl hsz, fun v' ks' l' h => by cases h; exact ⟨w.heap.size, c, cur, setq_at E s 0 _, hlc, by simp, hok, hcur, hcap⟩⟩, hsafe, fun m hm => ?_, .inr (.inr (.inr (.inl ⟨ks, l, rfl⟩)))⟩
     rw [setq_ne E _ (by omega)]; exact hs.2.2 m
   · rw [if_neg q] at hb
     exact (H.tok b x n sz hb hx).keep (fun m => setq_ne E _ fun h => q h.1.symm) fun k hk => old k (H.loc b k hk)
 · by_cases q : b = s
   · subst q; rw [show (E.setq b 0 (.slice (some ⟨w.heap.size, 0, none⟩) 0 c)).m b = E.m b from rfl, hs.1] at h; cases h
   · rw [setq_ne E _ fun h => q h.1]; exact H.exc b k h n
 · rcases own h with h | h <;> rcases own h' with g | g
   · exact H.inj b b' k h g
   · have := H.loc _ _ h; omega
   · have := H.loc _ _ g; omega
   · rw [h.1, g.1]
 · show k < (w.heap.push _).size
   rw [Array.size_push]
   rcases own h with h | h
   · have := H.loc b k h; omega
   · omega
 · obtain ⟨h1, h2⟩ := H.ext k j f arr h
   exact ⟨I.mono f w _ arr h1 fun k hk => .inl (old k hk), h2⟩
 · exact ⟨H.kept.os, H.kept.tape, H.kept.output, Nat.le_trans H.kept.size (by simp), fun k hk ho => (old k (Nat.lt_of_lt_of_le hk H.kept.size)).trans (H.kept.block k hk ho)⟩
 · rcases own h with h | h
   · exact H.new b k h
   · rw [h.2]; exact .inr H.kept.size
 · rcases own h with h | h
   · exact H.low b k h
   · rw [h.2]; exact H.bsz.1
 · rcases hd with h | ⟨b, x, n, sz, u, h1, h2, h3, h4, h5⟩
   · exact .inl h
   · rw [look_cons] at h1
     by_cases q : s = b
     · subst q
       simp at h1; subst h1
       cases h2
       rw [setq_at] at h3; cases h3
       have : w.heap.size = k := by simpa [blkOf] using h4
       omega
     · rw [if_neg q] at h1
       rw [setq_ne E _ fun h => q h.1.symm] at h3
       exact .inr ⟨b, x, n, sz, u, h1, h2, h3, h4, h5⟩
 · by_cases q : b = s /\ n = 0
   · obtain ⟨rfl, rfl⟩ := q
     rw [setq_at] at h1; cases h1
     have : w.heap.size = k := by simpa [blkOf] using h2
     have := h3.2; have := H.kept.size
     omega
   · rw [setq_ne E _ q] at h1
     exact H.apt b n v k o h1 h2 h3
theorem Mem.setarr {I : Interp F} {w0 : Start} {w w' : World} {E : Env F} {hp : List (Nat × Blk F)} (H : Mem I w0 E hp w) {b k : Nat} {e : TypeId} {ks : List (Option IntKind)} {l l' : List (List Int)} {cur cur' : Array Value} {n0 v0 : Nat}
   (hb : look b hp = some ⟨e, [.arr v0 ks l]⟩) (hq : E.q b v0 = some (.slice (some ⟨k, 0, none⟩) 0 n0))  (hk0 : w.heap[k]? = some (.cells cur e (0, 0))) (hlen : l'.length <= n0) (hcs : cur'.size = cur.size) (hok : ArrOk ks l' cur')
   (hos : w'.os = w.os) (htape : w'.tape = w.tape) (hout : w'.output = w.output) (hsz : w.heap.size <= w'.heap.size) (hne : ∀ j, j < w.heap.size -> j ≠ k -> w'.heap[j]? = w.heap[j]?) (hk : w'.heap[k]? = some (.cells cur' e (0, 0))) :
   Mem I w0 E ((b, ⟨e, [.arr v0 ks l']⟩) :: hp) w' := by
 have own1 : E.own b k := .inr ⟨v0, _, hq, rfl⟩
 obtain ⟨t1, t2, t3, t4⟩ := H.tok b _ v0 ks.length hb rfl
 refine ⟨fun c x hc hx => ?_, fun c x n sz hc hx => ?_, H.exc, H.inj, fun c j h => Nat.lt_of_lt_of_le (H.loc c j h) hsz, fun c j f arr h => ?_, ?_, H.new, H.low, H.bsz.keep hsz (H.low b k own1) hne, fun f v h => I.hv_mono f _ _ w _ v (H.fv f v h) (fun j o _ => Or.imp id fun hd => ?_) fun i hi => ?_, H.apt⟩
 · rw [look_cons] at hc
   by_cases q : b = c
   · subst q
     simp at hc; subst hc
     cases hx
   · rw [if_neg q] at hc
     obtain ⟨j, ws, g1, g2, g3⟩ := H.hp c x hc hx
     exact ⟨j, ws, g1, by rw [hne j (H.loc c j (.inl g1)) fun e' => q (H.inj b c k own1 (.inl (e' ▸ g1)))]; exact g2, g3⟩
 · rw [look_cons] at hc
   by_cases q : b = c
   · subst q
     simp at hc; subst hc
     cases hx
     obtain ⟨k', c', cur2, h1, _, h2, _, h5, h6⟩ := t1.2 v0 ks l rfl
     rw [hq] at h1; cases h1
     have h2 : w.heap[k]? = some (.cells cur2 e (0, 0)) := h2
     rw [hk0] at h2; cases h2
     exact ⟨⟨.inl (t1.1.elim id fun h => by cases h.1), fun v' ks' m h => by cases h; exact ⟨k, n0, cur', hq, hlen, hk, hok, by rw [hcs]; exact h5, h6⟩⟩, t2, t3, .inr (.inr (.inr (.inl ⟨ks, l', rfl⟩)))⟩
   · rw [if_neg q] at hc
     exact (H.tok c x n sz hc hx).keep (fun _ => rfl) fun j hj => hne j (H.loc c j hj) fun e' => q (H.inj b c k own1 (e' ▸ hj))
 · obtain ⟨g1, g2⟩ := H.ext c j f arr h
   refine ⟨I.mono f w _ arr g1 fun i hi => ?_, g2⟩
   by_cases q : i = k
   · subst q; exact .inr ⟨H.low b i own1, _, _, _, _, hk0, t2, hk⟩
   · exact .inl (hne i hi q)
 · refine ⟨hos.trans H.kept.os, htape.trans H.kept.tape, hout.trans H.kept.output, Nat.le_trans H.kept.size hsz, fun j hj ho => ?_⟩
   refine (hne j (Nat.lt_of_lt_of_le hj H.kept.size) fun q => ?_).trans (H.kept.block j hj ho)
   subst q
   rcases H.new b j own1 with h | h
   · exact ho h
   · omega
 · rcases hd with h | ⟨c, x, n, sz, u, h1, h2, h3, h4, h5⟩
   · exact .inl h
   · rw [look_cons] at h1
     by_cases q : b = c
     · subst q
       simp at h1; subst h1
       cases h2
       exact .inr ⟨b, _, v0, ks.length, u, hb, rfl, h3, h4, h5⟩
     · rw [if_neg q] at h1
       exact .inr ⟨c, x, n, sz, u, h1, h2, h3, h4, h5⟩
 · by_cases q : i = k
   · subst q; exact .inr ⟨H.low b i own1, _, _, _, _, hk0, t2, hk, fun o => .inr (.inr (.inr ⟨b, _, v0, ks.length, _, hb, rfl, hq, rfl, Nat.zero_le _⟩))⟩
   · exact .inl (hne i hi q)
theorem Mem.arr {I : Interp F} {w0 : Start} {w : World} {E : Env F} {hp : List (Nat × Blk F)} (H : Mem I w0 E hp w) {b : Nat} {e : TypeId} {v0 : Nat} {ks : List (Option IntKind)} {l : List (List Int)} (hb : look b hp = some ⟨e, [.arr v0 ks l]⟩) :
   ∃ k c cur, E.q b v0 = some (.slice (some ⟨k, 0, none⟩) 0 c) /\ l.length <= c /\ w.heap[k]? = some (.cells cur e (0, 0)) /\ ArrOk ks l cur /\ cur.size = c * ks.length /\ 0 < ks.length /\ c <= maxLen := by
 obtain ⟨t1, _⟩ := H.tok b _ v0 ks.length hb rfl
 obtain ⟨k, c, cur, g1, g0, g2, g3, g4, g5⟩ := t1.2 v0 ks l rfl
 exact ⟨k, c, cur, g1, g0, g2, g3, g4, t1.1.elim id (fun h => by cases h.1), g5⟩

theorem Mem.newmap {I : Interp F} {w0 : Start} {w : World} {E : Env F} {hp : List (Nat × Blk F)} (H : Mem I w0 E hp w) {s : Nat} (hs : Fresh s E) {e : TypeId} (kk vk : CK) (hsafe : I.safe e = true) :
   Mem I w0 (E.setq s 0 (.map (some w.heap.size))) ((s, ⟨e, [.mp kk vk []]⟩) :: hp) { w with heap := w.heap.push (.map #[] 0) } := by
 have hle := setq_le (v := .map (some w.heap.size)) (hs.2.2 0)
 have old : ∀ k, k < w.heap.size -> (w.heap.push (.map #[] 0))[k]? = w.heap[k]? := fun k hk => by
   rw [Array.getElem?_push, if_neg (by omega)]
 have own : ∀ {d k}, (E.setq s 0 (.map (some w.heap.size))).own d k -> E.own d k \/ (d = s /\ k = w.heap.size) := fun h => (own_setq h).imp id fun h => ⟨h.1, by have := h.2; simpa [blkOf] using this.symm⟩
 refine ⟨fun b x hb hx => ?_, fun b x n sz hb hx => ?_, fun b k h n => ?_, fun b b' k h h' => ?_, fun b k h => ?_, fun k j f arr h => ?_, ?_, fun b k h => ?_, fun b k h => ?_, H.bsz.old (by simp) old, fun f v h => I.hv_mono f _ _ w _ v (H.fv f v h) (fun k o hk => Or.imp id fun hd => ?_) fun k hk => .inl (old k hk), fun b n v k o h1 h2 h3 => ?_⟩
 · rw [look_cons] at hb
   by_cases q : s = b
   · subst q
     simp at hb; subst hb
     cases hx
   · rw [if_neg q] at hb
     obtain ⟨k, ws, h1, h2, h3⟩ := H.hp b x hb hx
     exact ⟨k, ws, h1, by show (w.heap.push _)[k]? = _; rw [old k (H.loc b k (.inl h1))]; exact h2, h3.mono fun _ _ => AC.R.mono hle⟩
 · rw [look_cons] at hb
   by_cases q : s = b
   · subst q
     simp at hb; subst hb
     cases hx
     refine ⟨⟨.inl Nat.zero_lt_one, fun v' ks' l' h => by cases h⟩, hsafe, fun m hm => ?_, .inr (.inr (.inl ⟨w.heap.size, #[], 0, kk, vk, [], rfl, rfl, setq_at E s 0 _, by simp, rfl, fun e he => by cases he⟩))⟩
     rw [setq_ne E _ (by omega)]; exact hs.2.2 m
   · rw [if_neg q] at hb
     exact (H.tok b x n sz hb hx).keep (fun m => setq_ne E _ fun h => q h.1.symm) fun k hk => old k (H.loc b k hk)
 · by_cases q : b = s
   · subst q; rw [show (E.setq b 0 (.map (some w.heap.size))).m b = E.m b from rfl, hs.1] at h; cases h
   · rw [setq_ne E _ fun h => q h.1]; exact H.exc b k h n
 · rcases own h with h | h <;> rcases own h' with g | g
   · exact H.inj b b' k h g
   · have := H.loc _ _ h; omega
   · have := H.loc _ _ g; omega
   · rw [h.1, g.1]
 · show k < (w.heap.push _).size
   rw [Array.size_push]
   rcases own h with h | h
   · have := H.loc b k h; omega
   · omega
 · obtain ⟨h1, h2⟩ := H.ext k j f arr h
   exact ⟨I.mono f w _ arr h1 fun k hk => .inl (old k hk), h2⟩
 · exact ⟨H.kept.os, H.kept.tape, H.kept.output, Nat.le_trans H.kept.size (by simp), fun k hk ho => (old k (Nat.lt_of_lt_of_le hk H.kept.size)).trans (H.kept.block k hk ho)⟩
 · rcases own h with h | h
   · exact H.new b k h
   · rw [h.2]; exact .inr H.kept.size
 · rcases own h with h | h
   · exact H.low b k h
   · rw [h.2]; exact H.bsz.1
 · rcases hd with h | ⟨b, x, n, sz, u, h1, h2, h3, h4, h5⟩
   · exact .inl h
   · rw [look_cons] at h1
     by_cases q : s = b
     · subst q
       simp at h1; subst h1
       cases h2
       rw [setq_at] at h3; cases h3
       have : w.heap.size = k := by simpa [blkOf] using h4
       omega
     · rw [if_neg q] at h1
       rw [setq_ne E _ fun h => q h.1.symm] at h3
       exact .inr ⟨b, x, n, sz, u, h1, h2, h3, h4, h5⟩
 · by_cases q : b = s /\ n = 0
   · obtain ⟨rfl, rfl⟩ := q
     rw [setq_at] at h1; cases h1
     have : w.heap.size = k := by simpa [blkOf] using h2
     have := h3.2; have := H.kept.size
     omega
   · rw [setq_ne E _ q] at h1
     exact H.apt b n v k o h1 h2 h3
theorem Mem.setmap {I : Interp F} (hI : I.maps = true) {w0 : Start} {w w' : World} {E : Env F} {hp : List (Nat × Blk F)} (H : Mem I w0 E hp w) {b k : Nat} {e : TypeId} {kk vk : CK} {D D' : List (Value × Value)} {es es' : Array MapEntry} {c c' : Nat}
   (hb : look b hp = some ⟨e, [.mp kk vk D]⟩) (hq : E.q b 0 = some (.map (some k))) (hk0 : w.heap[k]? = some (.map es c)) (hD : MapIs kk vk D' es')
   (hos : w'.os = w.os) (htape : w'.tape = w.tape) (hout : w'.output = w.output) (hsz : w.heap.size <= w'.heap.size) (hne : ∀ j, j < w.heap.size -> j ≠ k -> w'.heap[j]? = w.heap[j]?) (hk : w'.heap[k]? = some (.map es' c')) :
   Mem I w0 E ((b, ⟨e, [.mp kk vk D']⟩) :: hp) w' := by
 have own1 : E.own b k := .inr ⟨0, _, hq, rfl⟩
 obtain ⟨t1, t2, t3, t4⟩ := H.tok b _ 0 1 hb rfl
 refine ⟨fun c x hc hx => ?_, fun c x n sz hc hx => ?_, H.exc, H.inj, fun c j h => Nat.lt_of_lt_of_le (H.loc c j h) hsz, fun c j f arr h => ?_, ?_, H.new, H.low, H.bsz.keep hsz (H.low b k own1) hne, fun f v h => I.hv_mono f _ _ w' w' v (I.hv_map hI f _ w w' v k es c (H.fv f v h) hk0 hne) (fun j o _ => Or.imp id fun hd => ?_) (fun _ _ => .inl rfl), H.apt⟩
 · rw [look_cons] at hc
   by_cases q : b = c
   · subst q
     simp at hc; subst hc
     cases hx
   · rw [if_neg q] at hc
     obtain ⟨j, ws, g1, g2, g3⟩ := H.hp c x hc hx
     exact ⟨j, ws, g1, by rw [hne j (H.loc c j (.inl g1)) fun e' => q (H.inj b c k own1 (.inl (e' ▸ g1)))]; exact g2, g3⟩
 · rw [look_cons] at hc
   by_cases q : b = c
   · subst q
     simp at hc; subst hc
     cases hx
     exact ⟨⟨.inl Nat.zero_lt_one, fun v' ks' m h => by cases h⟩, t2, t3, .inr (.inr (.inl ⟨k, es', c', kk, vk, D', rfl, rfl, hq, hk, hD⟩))⟩
   · rw [if_neg q] at hc
     exact (H.tok c x n sz hc hx).keep (fun _ => rfl) fun j hj => hne j (H.loc c j hj) fun e' => q (H.inj b c k own1 (e' ▸ hj))
 · obtain ⟨g1, g2⟩ := H.ext c j f arr h
   exact ⟨I.mono_map hI f w w' arr k es _ g1 hk0 hne, g2⟩
 · refine ⟨hos.trans H.kept.os, htape.trans H.kept.tape, hout.trans H.kept.output, Nat.le_trans H.kept.size hsz, fun j hj ho => ?_⟩
   refine (hne j (Nat.lt_of_lt_of_le hj H.kept.size) fun q => ?_).trans (H.kept.block j hj ho)
   subst q
   rcases H.new b j own1 with h | h
   · exact ho h
   · omega
 · rcases hd with h | ⟨c, x, n, sz, u, h1, h2, h3, h4, h5⟩
   · exact .inl h
   · rw [look_cons] at h1
     by_cases q : b = c
     · subst q
       simp at h1; subst h1
       cases h2
       exact .inr ⟨b, _, 0, 1, u, hb, rfl, h3, h4, h5⟩
     · rw [if_neg q] at h1
       exact .inr ⟨c, x, n, sz, u, h1, h2, h3, h4, h5⟩
theorem Mem.map {I : Interp F} {w0 : Start} {w : World} {E : Env F} {hp : List (Nat × Blk F)} (H : Mem I w0 E hp w) {b : Nat} {e : TypeId} {kk vk : CK} {D : List (Value × Value)} (hb : look b hp = some ⟨e, [.mp kk vk D]⟩) {k : Nat} (hq : E.q b 0 = some (.map (some k))) :
   ∃ es c, w.heap[k]? = some (.map es c) /\ MapIs kk vk D es := by
 obtain ⟨t1, t2, t3, t4⟩ := H.tok b _ 0 1 hb rfl
 rcases t4 with ⟨h1, _⟩ | ⟨k', cap, cur2, h1, h2, h3, h4, h5⟩ | ⟨k', es, c, kk', vk', D', g1, g2, g3, g4, g5⟩ | ⟨_, _, h1⟩ | ⟨h1, _⟩
 · rw [hq] at h1; cases h1
 · rw [hq] at h1; cases h1
 · rw [hq] at g3; cases g3; cases g1
   exact ⟨es, c, g4, g5⟩
 · cases h1
 · cases h1
def Env.addh (E : Env F) (g : F -> Value -> Prop) : Env F := { E with h := fun f v => E.h f v \/ g f v }
theorem But.addh (s : Nat) (E : Env F) (g : F -> Value -> Prop) : But s E (E.addh g) := ⟨⟨fun _ _ h => h, fun _ _ _ h => h, fun _ _ h => .inl h, fun _ _ _ h => h⟩, fun _ _ => rfl, fun _ _ _ => rfl, fun _ _ h => h⟩
theorem Mem.addh {I : Interp F} {w0 : Start} {w : World} {E : Env F} {hp : List (Nat × Blk F)} (H : Mem I w0 E hp w) {g : F -> Value -> Prop} (hg : ∀ f v, g f v -> I.hv f (Dt w0 E hp) w v) : Mem I w0 (E.addh g) hp w where
 hp := fun b blk h ht => by
   obtain ⟨k, vs, h1, h2, h3⟩ := H.hp b blk h ht
   exact ⟨k, vs, h1, h2, h3.mono fun _ _ => AC.R.mono (But.addh 0 E g).le⟩
 tok := H.tok
 exc := H.exc
 inj := H.inj
 loc := H.loc
 ext := H.ext
 kept := H.kept
 new := H.new
 low := H.low
 bsz := H.bsz
 fv := fun f v h => h.elim (H.fv f v) (hg f v)
 apt := H.apt

structure Out (F : Type) where
 val : AV F
 wr : List (Nat × Blk F)
 cd : List (Bool × Bool)
structure FnSp (F : Type) where
 blocks : List (AV F) -> List Nat
 run : Nat -> List (AV F) -> List (Blk F) -> Option (Out F)
def looks {α : Type} (hp : List (Nat × α)) : List Nat -> Option (List α)
 | [] => some []
 | b :: r => match look b hp with
   | some x => match looks hp r with
     | some l => some (x :: l)
     | none => none
   | none => none
def FnSp.ok (P : Program) (I : Interp F) (f : FuncId) (sp : FnSp F) : Prop :=
 ∀ (E : Env F) (hp : List (Nat × Blk F)) (w : World) (slot : Nat) (args : List (AV F)) (us : List Value) (bs : List (Blk F)) (out : Out F),
   ∀ dt, sp.run slot args bs = some out -> All2 (AV.R E) args us -> looks hp (sp.blocks args) = some bs -> Mem I ⟨w, E.ran, dt⟩ E hp w -> Fresh slot E -> (∀ c ∈ out.cd, c.1 = c.2) ->
   Calls P f us.toArray w fun e w' => ∃ E' u, But slot E E' /\ e = .returned u /\ out.val.R E' u /\ Mem I ⟨w, E.ran, dt⟩ E' (out.wr ++ hp) w'

structure TyI where
 size : Nat
 bytes : Nat
 zero : Value
 desc : TypeDesc
def TabOk (P : Program) (T : Nat -> Option TyI) : Prop :=
 ∀ t i, T t = some i -> (P.info? t).map (·.size) = some i.size /\ (P.info? t).bind (·.zero) = some i.zero /\ P.underlying t = some i.desc
def TabB (P : Program) (T : Nat -> Option TyI) : Prop := ∀ t i, T t = some i -> (P.info? t).map (·.bytes) = some i.bytes
def DirX (P : Program) (f : FuncId) (sp : FnSp F) : Prop := ∀ (E : Env F) (w : World) (slot : Nat) (args : List (AV F)) (us : List Value) (bs : List (Blk F)) (out : Out F), sp.run slot args bs = some out -> All2 (AV.R E) args us -> (∀ c ∈ out.cd, c.1 = c.2) ->
 out.wr = [] /\ ∃ u, (callFunc f us.toArray).run P w = .ok (.value u) w /\ out.val.R E u
def LibOk (P : Program) (I : Interp F) (L : Nat -> Option (FnSp F)) : Prop :=
 ∀ f sp, L f = some sp -> (sp.ok P I f /\ ∀ args w, (callFunc f args).run P w = .ok (.enter f args) w) \/ DirX P f sp

end Go.Proofs.YtmhhdedekblbnaaGreat.Ev
