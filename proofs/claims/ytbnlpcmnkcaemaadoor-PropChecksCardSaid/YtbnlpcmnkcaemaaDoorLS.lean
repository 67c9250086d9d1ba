/-
  Callees that are handed local blocks of their caller (as slices or pointers), and callees that return a new slice.
  Conditions: the blocks' cells are plain or facts, each block is handed over once, and the callee leaves the blocks as they are.
-/
import Derived.Test.YtbnlpcmnkcaemaaDoorEv2
set_option linter.unusedVariables false
set_option linter.unusedSimpArgs false
namespace Go.Proofs.YtbnlpcmnkcaemaaDoor.Ev
open Go.RowKit
variable {F : Type}
def AC.soB : AC F → Bool
  | .int _ _ => true
  | .bool _ => true
  | .yes _ => true
  | .lit _ => true
  | .fv _ => true
  | _ => false
theorem AC.so_flat {c : AC F} (h : c.soB = true) : c.flat = true := by cases c <;> first | rfl | cases h
theorem so_tok {ty : TypeId} {l : List (AC F)} (h : l.all AC.soB = true) : (Blk.tok ⟨ty, l⟩ : Option (Nat × Nat)) = none := by
  unfold Blk.tok
  split
  · rename_i n sz e
    simp only at e
    rw [e] at h
    cases h
  · rename_i ks l' e
    simp only at e
    rw [e] at h
    cases h
  · rename_i e
    simp only at e
    rw [e] at h
    cases h
  · rfl
theorem so_R {E E' : Env F} (hh : ∀ f v, E.h f v → E'.h f v) {l : List (AC F)} {vs : List Value} (h : l.all AC.soB = true) (H : All2 (AC.R E) l vs) : All2 (AC.R E') l vs :=
  all2_all (R := AC.R E) (S := AC.R E') (p := AC.soB) (fun _ _ hfl r => AC.flat_R hh (AC.so_flat hfl) r) h H
def portOf : AV F → Option Nat
  | .w (.one (.slc b _ _ _)) => some b
  | .w (.one (.ptr b _)) => some b
  | _ => none
def setPort : AV F → Nat → AV F
  | .w (.one (.slc _ o n c)), i => .w (.one (.slc i o n c))
  | .w (.one (.ptr _ o)), i => .w (.one (.ptr i o))
  | x, _ => x
def pts : List (AV F) → List Nat
  | [] => []
  | x :: r => match portOf x with
    | some b => b :: pts r
    | none => pts r
def rel : List (AV F) → Nat → List (AV F)
  | [], _ => []
  | x :: r, i => match portOf x with
    | some _ => setPort x i :: rel r (i + 1)
    | none => x :: rel r i
def okA (x : AV F) : Bool := match portOf x with
  | some _ => true
  | none => x.flat
def nodupN : List Nat → Bool
  | [] => true
  | a :: l => !memN a l && nodupN l
theorem memN_not {a b : Nat} : ∀ {l : List Nat}, memN a l = false → ∀ (i : Nat), l[i]? = some b → a ≠ b
  | [], _, i, h => by simp at h
  | x :: l, h, i, hi => by
    simp only [memN, List.any_cons, Bool.or_eq_false_iff] at h
    cases i with
    | zero =>
      simp at hi; subst hi
      intro e; subst e
      have := h.1
      simp at this
    | succ i => exact memN_not (l := l) h.2 i (by simpa using hi)
theorem nodup_inj {b : Nat} : ∀ {l : List Nat}, nodupN l = true → ∀ (i j : Nat), l[i]? = some b → l[j]? = some b → i = j
  | [], _, i, _, h, _ => by simp at h
  | x :: l, h, i, j, hi, hj => by
    simp only [nodupN, Bool.and_eq_true, Bool.not_eq_true'] at h
    cases i with
    | zero => cases j with
      | zero => rfl
      | succ j =>
        simp at hi; subst hi
        exact absurd rfl (memN_not h.1 j (by simpa using hj))
    | succ i => cases j with
      | zero =>
        simp at hj; subst hj
        exact absurd rfl (memN_not h.1 i (by simpa using hi))
      | succ j => rw [nodup_inj h.2 i j (by simpa using hi) (by simpa using hj)]
theorem port_R {E : Env F} {x : AV F} {b : Nat} {u : Value} (hp : portOf x = some b) (h : x.R E u) : ∃ k, E.m b = some k ∧ ∀ (E' : Env F) i, E'.m i = some k → (setPort x i).R E' u := by
  unfold portOf at hp
  split at hp
  · rename_i b' o n c
    cases hp
    obtain ⟨k, h1, rfl⟩ := h
    exact ⟨k, h1, fun E' i h => ⟨k, h, rfl⟩⟩
  · rename_i b' o
    cases hp
    obtain ⟨k, h1, rfl⟩ := h
    exact ⟨k, h1, fun E' i h => ⟨k, h, rfl⟩⟩
  · cases hp
theorem pts_mem {E : Env F} : ∀ {args : List (AV F)} {us : List Value}, All2 (AV.R E) args us → ∀ (i b : Nat), (pts args)[i]? = some b → ∃ k, E.m b = some k
  | [], _, _, i, b, h => by simp [pts] at h
  | x :: r, _, H, i, b, h => by
    cases H with
    | cons hx H =>
      simp only [pts] at h
      split at h
      · rename_i b' hb'
        cases i with
        | zero =>
          simp at h; subst h
          obtain ⟨k, hk, _⟩ := port_R hb' hx
          exact ⟨k, hk⟩
        | succ i => exact pts_mem H i b (by simpa using h)
      · exact pts_mem H i b h
theorem rel_R {E E1 : Env F} (hh : ∀ f v, E.h f v → E1.h f v) : ∀ {args : List (AV F)} {us : List Value} {j : Nat}, All2 (AV.R E) args us → args.all okA = true → (∀ (i b : Nat), (pts args)[i]? = some b → E1.m (j + i) = E.m b) → All2 (AV.R E1) (rel args j) us
  | [], _, _, H, _, _ => by cases H; exact .nil
  | x :: r, _, j, H, ho, hm => by
    cases H with
    | cons hx H =>
      simp only [List.all_cons, Bool.and_eq_true] at ho
      simp only [rel]
      cases hp : portOf x with
      | some b =>
        simp only [pts, hp] at hm
        obtain ⟨k, h1, h2⟩ := port_R hp hx
        refine .cons (h2 E1 j ?_) (rel_R hh H ho.2 fun i b hi => ?_)
        · have := hm 0 b (by simp)
          rw [← h1]; simpa using this
        · have := hm (i + 1) b (by simpa using hi)
          rw [← this]; congr 1; omega
      | none =>
        simp only [pts, hp] at hm
        have hf : x.flat = true := by have := ho.1; simp only [okA, hp] at this; exact this
        exact .cons (AV.flat_R hh hf hx) (rel_R hh H ho.2 hm)
theorem rel_len : ∀ {args : List (AV F)} {j : Nat}, (rel args j).length = args.length
  | [], _ => rfl
  | x :: r, j => by
    simp only [rel]
    split <;> simp [rel_len]
theorem looks_at {α : Type} {hp : List (Nat × α)} : ∀ {l : List Nat} {bs : List α}, looks hp l = some bs → bs.length = l.length ∧ ∀ (i b : Nat), l[i]? = some b → ∃ x, bs[i]? = some x ∧ look b hp = some x
  | [], bs, h => by cases h; exact ⟨rfl, fun i b h => by simp at h⟩
  | a :: l, bs, h => by
    simp only [looks] at h
    split at h
    · rename_i x hx
      split at h
      · rename_i bs' hbs
        cases h
        obtain ⟨h1, h2⟩ := looks_at hbs
        refine ⟨by simp [h1], fun i b hi => ?_⟩
        cases i with
        | zero => simp at hi; subst hi; exact ⟨x, by simp, hx⟩
        | succ i => simpa using h2 i b (by simpa using hi)
      · cases h
    · cases h
/-- Behind a callee that changed nothing but values of cells of local blocks, within what is known of them. -/
theorem Mem.callee {I : Interp F} {w : World} {E : Env F} {dt : Nat → Nat → Prop} {hp : List (Nat × Blk F)} (hm : Mem I ⟨w, E.ran, dt⟩ E hp w) {w' : World} {g : F → Value → Prop}
    (hos : w'.os = w.os) (htape : w'.tape = w.tape) (hout : w'.output = w.output) (hsz : w.heap.size ≤ w'.heap.size)
    (hchg : ∀ j, j < w.heap.size → w'.heap[j]? = w.heap[j]? ∨ ∃ b blk vs', E.m b = some j ∧ look b hp = some blk ∧ blk.tok = none ∧ w'.heap[j]? = some (.cells vs'.toArray blk.ty (0, 0)) ∧ All2 (AC.R (E.addh g)) blk.cs vs' ∧ I.safe blk.ty = true)
    (hg : ∀ f v, g f v → I.hv f (Dt ⟨w, E.ran, dt⟩ E hp) w' v) : Mem I ⟨w, E.ran, dt⟩ (E.addh g) hp w' := by
  have keep : ∀ j, j < w.heap.size → (∀ b, E.m b ≠ some j) → w'.heap[j]? = w.heap[j]? := fun j hj hn => by
    rcases hchg j hj with h | ⟨b, blk, vs', h1, _⟩
    · exact h
    · exact absurd h1 (hn b)
  have was : ∀ k, k < w.heap.size → w'.heap[k]? = w.heap[k]? ∨ I.base ≤ k ∧ ∃ c c' ty fr, w.heap[k]? = some (.cells c ty fr) ∧ I.safe ty = true ∧ w'.heap[k]? = some (.cells c' ty fr) ∧ ∃ b, E.m b = some k := fun k hk => by
    rcases hchg k hk with h | ⟨b, blk, vs', h1, h2, h3, h4, h5, h6⟩
    · exact .inl h
    · obtain ⟨k', vs, g1, g2, g3⟩ := hm.hp b blk h2 h3
      rw [h1] at g1; cases g1
      exact .inr ⟨hm.low b _ (.inl h1), _, _, _, _, g2, h6, h4, b, h1⟩
  refine ⟨fun b blk hb ht => ?_, fun b blk n sz hb ht => ?_, hm.exc, hm.inj, fun b k h => Nat.lt_of_lt_of_le (hm.loc b k h) hsz, fun k j f arr h => ?_, ⟨hos, htape, hout, hsz, fun k hk ho => keep k hk fun b h => ho ⟨b, .inl h⟩⟩, fun b k h => .inl ⟨b, h⟩, hm.low, Nat.le_trans hm.bsz hsz, fun f v h => ?_, hm.apt⟩
  · obtain ⟨k, vs, g1, g2, g3⟩ := hm.hp b blk hb ht
    rcases hchg k (hm.loc b k (.inl g1)) with h | ⟨b', blk', vs', h1, h2, h3, h4, h5, h6⟩
    · exact ⟨k, vs, g1, by rw [h]; exact g2, g3.mono fun _ _ => AC.R.mono (But.addh 0 E g).le⟩
    · have e := hm.inj b b' k (.inl g1) (.inl h1)
      subst e
      rw [hb] at h2; cases h2
      exact ⟨k, vs', g1, h4, h5⟩
  · refine (hm.tok b blk n sz hb ht).keep (fun _ => rfl) fun k hk => keep k (hm.loc b k hk) fun b' h => ?_
    have e := hm.inj b b' k hk (.inl h)
    subst e
    rcases hk with hk | ⟨n', v, hk, _⟩
    · have := hm.plain hb hk
      rw [ht] at this; cases this
    · rw [hm.exc b k h n'] at hk; cases hk
  · obtain ⟨g1, g2⟩ := hm.ext k j f arr h
    refine ⟨I.mono f w _ arr g1 fun i hi => ?_, g2⟩
    rcases was i hi with h | ⟨h1, c, c', ty, fr, h2, h3, h4, _⟩
    · exact .inl h
    · exact .inr ⟨h1, c, c', ty, fr, h2, h3, h4⟩
  · rcases h with h | h
    · refine I.hv_mono f _ _ w w' v (hm.fv f v h) (fun _ _ _ hd => hd) fun i hi => ?_
      rcases was i hi with h | ⟨h1, c, c', ty, fr, h2, h3, h4, b, hb⟩
      · exact .inl h
      · exact .inr ⟨h1, c, c', ty, fr, h2, h3, h4, fun o => .inr (.inr (.inl ⟨b, hb⟩))⟩
    · exact hg f v h
/-- A block that a callee made becomes the caller's. -/
theorem Mem.adopt {I : Interp F} {w0 : Start} {w : World} {E : Env F} {hp : List (Nat × Blk F)} (H : Mem I w0 E hp w) {s k : Nat} (hs : Fresh s E) {blk : Blk F} {vs : List Value}
    (hk : w.heap[k]? = some (.cells vs.toArray blk.ty (0, 0))) (hv : All2 (AC.R E) blk.cs vs) (hown : ∀ b, ¬ E.own b k) (hnew : w0.w.heap.size ≤ k) (hbase : I.base ≤ k)
    (hfv : ∀ f v, E.h f v → I.hv f (fun j o => Dt w0 E hp j o ∨ j = k) w v) : Mem I w0 (E.setm s k) ((s, blk) :: hp) w := by
  have hle := (But.setm hs k).le
  have hklt : k < w.heap.size := by
    rcases Nat.lt_or_ge k w.heap.size with h | h
    · exact h
    · rw [Array.getElem?_eq_none h] at hk; cases hk
  refine ⟨fun b x hb hx => ?_, fun b x n sz hb hx => ?_, fun b j h n => ?_, fun b b' j h h' => ?_, fun b j h => ?_, H.ext, H.kept, fun b j h => ?_, fun b j h => ?_, H.bsz, fun f v h => I.hv_mono f _ _ w _ v (hfv f v h) (fun j o hj hd => ?_) fun j hj => .inl rfl, H.apt⟩
  · rw [look_cons] at hb
    by_cases e : s = b
    · subst e
      simp at hb; subst hb
      exact ⟨k, vs, if_pos rfl, hk, hv.mono fun _ _ => AC.R.mono hle⟩
    · rw [if_neg e] at hb
      obtain ⟨j, ws, h1, h2, h3⟩ := H.hp b x hb hx
      exact ⟨j, ws, hle.m _ _ h1, h2, h3.mono fun _ _ => AC.R.mono hle⟩
  · rw [look_cons] at hb
    by_cases e : s = b
    · subst e
      simp at hb; subst hb
      rw [tok_none hv] at hx; cases hx
    · rw [if_neg e] at hb
      exact (H.tok b x n sz hb hx).keep (fun _ => rfl) fun _ _ => rfl
  · by_cases hb : b = s
    · subst hb; exact hs.2.2 n
    · have : (E.setm s k).m b = E.m b := if_neg hb
      rw [this] at h
      exact H.exc b j h n
  · rcases own_setm h with ⟨h1, h2⟩ | h1 <;> rcases own_setm h' with ⟨g1, g2⟩ | g1
    · rw [h1, g1]
    · subst h2; exact absurd g1 (hown _)
    · subst g2; exact absurd h1 (hown _)
    · exact H.inj b b' j h1 g1
  · rcases own_setm h with ⟨_, h2⟩ | h
    · omega
    · exact H.loc b j h
  · rcases own_setm h with ⟨_, h2⟩ | h
    · rw [h2]; exact .inr hnew
    · exact H.new b j h
  · rcases own_setm h with ⟨_, h2⟩ | h
    · rw [h2]; exact hbase
    · exact H.low b j h
  · rcases hd with hd | ⟨b, hb⟩ | ⟨b, x, n, sz, u, h1, h2, h3, h4, h5⟩
    · exact .inl (.inl hd)
    · rcases own_setm (.inl hb : (E.setm s k).own b j) with ⟨_, q⟩ | q
      · exact .inr q
      · by_cases e : b = s
        · have : (E.setm s k).m b = some k := if_pos e
          rw [this] at hb; cases hb; exact .inr rfl
        · have : (E.setm s k).m b = E.m b := if_neg e
          rw [this] at hb
          exact .inl (.inr (.inl ⟨b, hb⟩))
    · rw [look_cons] at h1
      by_cases e : s = b
      · subst e
        simp at h1; subst h1
        rw [tok_none hv] at h2; cases h2
      · rw [if_neg e] at h1
        exact .inl (.inr (.inr ⟨b, x, n, sz, u, h1, h2, h3, h4, h5⟩))
/-- What a callee does that is handed local blocks. -/
theorem loc_calls {P : Program} {I : Interp F} {c : Ctx F} (hC : CtxOk P I c) (hmix : P.follows .mixedOrders = true) {f : FuncId} {fn : Func} (hf : P.funcs[f]? = some fn) (hb : fn.body.isSome = true) (hL : LpsOk P I c.lps fn.ntmps (bodyOf fn))
    {args : List (AV F)} {us : List Value} {E : Env F} {hp : List (Nat × Blk F)} {w : World} {dt : Nat → Nat → Prop} {bs : List (Blk F)} (ha : All2 (AV.R E) args us) (hbl : looks hp (pts args) = some bs) (hm : Mem I ⟨w, E.ran, dt⟩ E hp w)
    (hfl : args.all okA = true) (hnd : nodupN (pts args) = true) (hso : ∀ (i : Nat) (b : Blk F), bs[i]? = some b → b.cs.all AC.soB = true ∧ I.safe b.ty = true) (hn : args.length ≤ fn.ntmps) {path : Pth} {r : ResF F} (hr : evFn c 400 fn (rel args 0) (numb 0 bs) bs.length path = some r) (hc : ∀ p ∈ r.cd, p.1 = p.2)
    (hsame : ∀ (i : Nat) (b : Blk F), bs[i]? = some b → look i r.hp = some b) :
    Calls P f us.toArray w fun e w' => ∃ E' u, e = .returned u ∧ r.val.R E' u ∧ Mem I ⟨w, E.ran, dt⟩ (E.addh E'.h) hp w' ∧
      ∀ (b : Nat) (x : Blk F), bs.length ≤ b → look b r.hp = some x → x.cs.all AC.soB = true → ∃ k vs, E'.m b = some k ∧ w.heap.size ≤ k ∧ I.base ≤ k ∧ w'.heap[k]? = some (.cells vs.toArray x.ty (0, 0)) ∧ All2 (AC.R (E.addh E'.h)) x.cs vs ∧ ∀ f v, (E.addh E'.h).h f v → I.hv f (fun j o => Dt ⟨w, E.ran, dt⟩ (E.addh E'.h) hp j o ∨ j = k) w' v := by
  obtain ⟨hlen, hget⟩ := looks_at hbl
  generalize hE1 : (⟨fun i => match (pts args)[i]? with | some b => E.m b | none => none, fun _ _ => none, E.h, fun _ _ => none⟩ : Env F) = E1 at *
  have m1 : ∀ (i b : Nat), (pts args)[i]? = some b → E1.m i = E.m b := fun i b h => by subst hE1; simp only [h]
  have m0 : ∀ i, bs.length ≤ i → E1.m i = none := fun i hi => by
    subst hE1
    have : (pts args)[i]? = none := List.getElem?_eq_none (by omega)
    simp only [this]
  have mm : ∀ i k, E1.m i = some k → ∃ b, (pts args)[i]? = some b ∧ E.m b = some k := fun i k h => by
    cases hq : (pts args)[i]? with
    | none => subst hE1; simp only [hq] at h; cases h
    | some b => exact ⟨b, rfl, by rw [← m1 i b hq]; exact h⟩
  have q1 : ∀ i n, E1.q i n = none := fun i n => by subst hE1; rfl
  have r1 : ∀ i n, E1.r i n = none := fun i n => by subst hE1; rfl
  have eh : E1.h = E.h := by subst hE1; rfl
  have own1 : ∀ i j, E1.own i j → E1.m i = some j := fun i j H => by
    rcases H with H | ⟨_, _, H, _⟩
    · exact H
    · rw [q1] at H; cases H
  have blkAt : ∀ (i b : Nat), (pts args)[i]? = some b → ∃ x, bs[i]? = some x ∧ look b hp = some x := hget
  have lk : ∀ (i : Nat) (x : Blk F), look i (numb 0 bs) = some x → bs[i]? = some x := fun i x h => by
    rw [numb_get] at h
    simpa using h
  have tk : ∀ (i : Nat) (x : Blk F), bs[i]? = some x → x.tok = none := fun i x h => so_tok (hso i x h).1
  have hm0 : Mem I ⟨w, E1.ran, Dt ⟨w, E.ran, dt⟩ E hp⟩ E1 (numb 0 bs) w := by
    refine ⟨fun i x hx ht => ?_, fun i x n sz hx ht => ?_, fun i j _ n => q1 i n, fun i i' j H H' => ?_, fun i j H => ?_, fun i j q arr H => ?_, ⟨rfl, rfl, rfl, Nat.le_refl _, fun _ _ _ => rfl⟩, fun i j H => .inl ⟨i, H⟩, fun i j H => ?_, hm.bsz, fun q v hq => ?_, fun i n v _ _ H => ?_⟩
    · have hx := lk i x hx
      have hi : i < (pts args).length := by rw [← hlen]; exact (List.getElem?_eq_some_iff.1 hx).1
      have hp1 : (pts args)[i]? = some (pts args)[i] := List.getElem?_eq_getElem hi
      obtain ⟨x', g1, g2⟩ := blkAt i _ hp1
      rw [hx] at g1; cases g1
      obtain ⟨k, vs, g3, g4, g5⟩ := hm.hp _ x g2 (tk i x hx)
      exact ⟨k, vs, by rw [m1 i _ hp1]; exact g3, g4, so_R (fun f v h => by rw [eh]; exact h) (hso i x hx).1 g5⟩
    · rw [tk i x (lk i x hx)] at ht; cases ht
    · obtain ⟨b, g1, g2⟩ := mm i j (own1 i j H)
      obtain ⟨b', g1', g2'⟩ := mm i' j (own1 i' j H')
      have e := hm.inj b b' j (.inl g2) (.inl g2')
      subst e
      exact nodup_inj hnd i i' g1 g1'
    · obtain ⟨b, _, g2⟩ := mm i j (own1 i j H)
      exact hm.loc b j (.inl g2)
    · rw [r1] at H; cases H
    · obtain ⟨b, _, g2⟩ := mm i j (own1 i j H)
      exact hm.low b j (.inl g2)
    · rw [eh] at hq
      refine I.hv_mono q _ _ w w v (hm.fv q v hq) (fun i o _ hd => ?_) (fun _ _ => .inl rfl)
      rcases hd with hd | ⟨i', hd⟩ | ⟨i', x, n, sz, v', hd, ht, _⟩
      · exact hd.1
      · obtain ⟨b, _, g2⟩ := mm i' i hd
        exact .inr (.inl ⟨b, g2⟩)
      · rw [tk i' x (lk i' x hd)] at ht; cases ht
    · rw [q1] at H; cases H
  have hA : All2 (AV.R E1) (rel args 0) us := rel_R (fun f v h => by rw [eh]; exact h) ha hfl fun i b hi => by rw [Nat.zero_add]; exact m1 i b hi
  have hb' : fn.body = some (bodyOf fn) := by
    unfold bodyOf
    cases hfb : fn.body with
    | none => rw [hfb] at hb; cases hb
    | some c => rfl
  have hfr1 : Free bs.length E1 := fun i hi => ⟨m0 i hi, fun j => r1 i j, fun n => q1 i n⟩
  refine (evF_calls hC hmix hf hb' hL hr hc (by rw [rel_len]; exact hn) hA hm0 hfr1).mono ?_
  rintro e w' ⟨E', u1, q0, rfl, q2, q3⟩
  have hmem : Mem I ⟨w, E.ran, dt⟩ (E.addh E'.h) hp w' := by
    refine hm.callee (g := E'.h) q3.kept.os q3.kept.tape q3.kept.output q3.kept.size (fun j hj => ?_) fun f v hv => I.hv_mono f _ _ w' w' v (q3.fv f v hv) (fun k o _ hd => .inl ⟨hd, ?_⟩) fun _ _ => .inl rfl
    · by_cases ho : E1.ran j
      · obtain ⟨i, hi⟩ := ho
        obtain ⟨b, g1, g2⟩ := mm i j (own1 i j hi)
        obtain ⟨x, g3, g4⟩ := blkAt i b g1
        obtain ⟨k2, vs2, s1, s2, s3⟩ := q3.hp i x (hsame i x g3) (tk i x g3)
        rw [q0.m _ _ (own1 i j hi)] at s1; cases s1
        exact .inr ⟨b, x, vs2, g2, g4, tk i x g3, s2, so_R (E' := E.addh E'.h) (fun f v h => (.inr h : E.h f v ∨ E'.h f v)) (hso i x g3).1 s3, (hso i x g3).2⟩
      · exact .inl (q3.kept.block j hj ho)
    · rcases hd with hd | ⟨b, hd⟩ | ⟨b, _, n, _, v, _, _, d3, d4, _⟩
      · exact hd.2
      · exact hm.loc b k (.inl hd)
      · exact hm.loc b k (.inr ⟨n, v, d3, d4⟩)
  refine ⟨E', u1, rfl, q2, hmem, fun b x hbl' hx hxs => ?_⟩
  obtain ⟨k, vs, s1, s2, s3⟩ := q3.hp b x hx (so_tok hxs)
  have hk : w.heap.size ≤ k := by
    rcases q3.new b k (.inl s1) with ⟨i, hi⟩ | h
    · have g := own1 i k hi
      have e := q3.inj b i k (.inl s1) (.inl (q0.m _ _ g))
      subst e
      rw [m0 b hbl'] at g; cases g
    · exact h
  refine ⟨k, vs, s1, hk, q3.low b k (.inl s1), s2, so_R (E' := E.addh E'.h) (fun f v h => (.inr h : E.h f v ∨ E'.h f v)) hxs s3, fun f v h => ?_⟩
  rcases h with h | h
  · refine I.hv_mono f _ _ w w' v (hm.fv f v h) (fun j o hj hd => ?_) fun j hj => ?_
    · rcases hd with hd | hd
      · exact hd
      · exfalso; omega
    · by_cases ho : E1.ran j
      · obtain ⟨i, hi⟩ := ho
        obtain ⟨b', g1, g2⟩ := mm i j (own1 i j hi)
        obtain ⟨x', g3, g4⟩ := blkAt i b' g1
        obtain ⟨k2, vs2, t1, t2, t3⟩ := q3.hp i x' (hsame i x' g3) (tk i x' g3)
        rw [q0.m _ _ (own1 i j hi)] at t1; cases t1
        obtain ⟨k3, vs3, v1, v2, v3⟩ := hm.hp b' x' g4 (tk i x' g3)
        rw [g2] at v1; cases v1
        exact .inr ⟨hm.low b' _ (.inl g2), _, _, _, _, v2, (hso i x' g3).2, t2, fun o => .inr (.inr (.inl ⟨b', g2⟩))⟩
      · exact .inl (q3.kept.block j hj ho)
  · refine I.hv_mono f _ _ w' w' v (q3.fv f v h) (fun j o hj hd => ?_) fun _ _ => .inl rfl
    rcases hd with hd | hd
    · refine .inl ⟨hd, ?_⟩
      rcases hd with hd | ⟨b, hd⟩ | ⟨b, _, n, _, v, _, _, d3, d4, _⟩
      · exact hd.2
      · exact hm.loc b j (.inl hd)
      · exact hm.loc b j (.inr ⟨n, v, d3, d4⟩)
    · subst hd
      exact .inr (.inl ⟨b, s1⟩)
/-- The callee by itself: its blocks are slots 0, 1 ..; behind it the blocks' cells follow its result. -/
def cellsAt (hp : List (Nat × Blk F)) : List (Blk F) → Nat → Option (List (AW F))
  | [], _ => some []
  | x :: r, i => match look i hp with
    | some y => bif Nat.beq y.ty x.ty then
        match cellsAt hp r (i + 1) with
        | some l => some (.agg y.cs :: l)
        | none => none
      else none
    | none => none
def evLoc (c : Ctx F) (fn : Func) (args : List (AV F)) (bs : List (Blk F)) (path : List Bool) : Option (AV F × List (Bool × Bool)) :=
  match evFn c 400 fn args (numb 0 bs) bs.length (.fix path) with
  | some r => match r.path with
    | .fix [] => match r.val, cellsAt r.hp bs 0 with
      | .w x, some l => some (.tup (x :: l), r.cd)
      | _, _ => none
    | _ => none
  | none => none
/-- The callee that returns a new slice: its length, and its cells, follow. -/
def evNew (c : Ctx F) (fn : Func) (args : List (AV F)) (bs : List (Blk F)) (ty : TypeId) (path : List Bool) : Option (AV F × List (Bool × Bool)) :=
  match evFn c 400 fn args (numb 0 bs) bs.length (.fix path) with
  | some r => match r.path with
    | .fix [] => match r.val, cellsAt r.hp bs 0 with
      | .w (.one (.slc b 0 n m)), some l => match look b r.hp with
        | some y => bif Nat.beq y.ty ty && Nat.ble bs.length b && y.cs.all AC.soB then some (.tup (.one (.slc 0 0 n m) :: .agg y.cs :: l), r.cd) else none
        | none => none
      | _, _ => none
    | _ => none
  | none => none
def aggs (bs : List (Blk F)) : List (AW F) := bs.map fun b => .agg b.cs
theorem cellsAt_same {hp : List (Nat × Blk F)} : ∀ {bs : List (Blk F)} {j : Nat}, cellsAt hp bs j = some (aggs bs) → ∀ (i : Nat) (b : Blk F), bs[i]? = some b → look (j + i) hp = some b
  | [], j, _, i, b, h => by simp at h
  | x :: r, j, h, i, b, hi => by
    simp only [cellsAt] at h
    split at h
    · rename_i y hy
      cases hb : Nat.beq y.ty x.ty with
      | false => rw [hb] at h; cases h
      | true =>
        rw [hb] at h; simp only [cond_true] at h
        split at h
        · rename_i l hl
          simp only [aggs, List.map_cons, Option.some.injEq, List.cons.injEq, AW.agg.injEq] at h
          obtain ⟨h1, h2⟩ := h
          have e : y = x := by
            have := Nat.eq_of_beq_eq_true hb
            cases x; cases y
            simp only at h1 this
            rw [h1, this]
          subst e
          cases i with
          | zero => simp at hi; subst hi; exact hy
          | succ i =>
            have := cellsAt_same (bs := r) (j := j + 1) (by rw [hl, h2]; rfl) i b (by simpa using hi)
            rw [← this]; congr 1; omega
        · cases h
    · cases h
/-- A callee that is handed local blocks: the specification is given the blocks. -/
def locB (c : Ctx F) (args : List (AV F)) (bs : List (Blk F)) : Bool := args.all okA && nodupN (pts args) && bs.all fun b => b.cs.all AC.soB && c.safe b.ty
def locSp (c : Ctx F) (g : List (AV F) → List (Blk F) → Option (AV F × List (Bool × Bool))) : FnSp F where
  blocks := pts
  run := fun _ args bs => bif locB c args bs then match g (rel args 0) bs with
      | some (v, cd) => some ⟨v, [], cd⟩
      | none => none
    else none
theorem locB_ok {P : Program} {I : Interp F} {c : Ctx F} (hC : CtxOk P I c) {args : List (AV F)} {bs : List (Blk F)} (h : locB c args bs = true) : args.all okA = true ∧ nodupN (pts args) = true ∧ ∀ (i : Nat) (b : Blk F), bs[i]? = some b → b.cs.all AC.soB = true ∧ I.safe b.ty = true := by
  simp only [locB, Bool.and_eq_true] at h
  refine ⟨h.1.1, h.1.2, fun i b hb => ?_⟩
  have := List.all_eq_true.1 h.2 b (List.mem_of_getElem? hb)
  simp only [Bool.and_eq_true] at this
  exact ⟨this.1, hC.safe _ this.2⟩
theorem locSp_ok {P : Program} {I : Interp F} {c : Ctx F} (hC : CtxOk P I c) (hmix : P.follows .mixedOrders = true) {f : FuncId} {fn : Func} (hf : P.funcs[f]? = some fn) (hb : fn.body.isSome = true) (hL : LpsOk P I c.lps fn.ntmps (bodyOf fn))
    {c' : Ctx F} (hsf : c'.safe = c.safe) {g : List (AV F) → List (Blk F) → Option (AV F × List (Bool × Bool))}
    (h : ∀ args bs v cd, g args bs = some (v, cd) → (∀ p ∈ cd, p.1 = p.2) → v.flat = true ∧ Nat.ble args.length fn.ntmps = true ∧
      ∃ path x cd', evLoc c fn args bs path = some (.tup (x :: aggs bs), cd') ∧ (∀ E u, (AV.w x).untip.R E u → v.R E u) ∧ ∀ p ∈ cd', p.1 = p.2) : (locSp c' g).ok P I f := by
  intro E hp w slot args us bs out dt hrun ha hbl hm hfr hc
  simp only [locSp] at hrun hbl
  cases hl : locB c' args bs with
  | false => rw [hl] at hrun; cases hrun
  | true =>
    rw [hl] at hrun; simp only [cond_true] at hrun
    have hl : locB c args bs = true := by unfold locB at hl ⊢; rw [← hsf]; exact hl
    split at hrun
    · rename_i v cd hg
      cases hrun
      obtain ⟨a1, a2, a3⟩ := locB_ok hC hl
      obtain ⟨h1, h2, path, y, cd', h4, h5, h6⟩ := h _ _ v cd hg hc
      unfold evLoc at h4
      split at h4
      · rename_i r hr
        split at h4
        · split at h4
          · rename_i x2 l2 hv2 hl2
            simp only [Option.some.injEq, Prod.mk.injEq, AV.tup.injEq, List.cons.injEq] at h4
            obtain ⟨⟨rfl, e2⟩, rfl⟩ := h4
            refine (loc_calls hC hmix hf hb hL ha hbl hm a1 a2 a3 (by have := Nat.le_of_ble_eq_true h2; rw [rel_len] at this; exact this) hr h6 fun i b hi => by have := cellsAt_same (j := 0) (by rw [hl2, e2]) i b hi; rwa [Nat.zero_add] at this).mono ?_
            rintro e w' ⟨E', u, rfl, q2, q3, _⟩
            rw [hv2] at q2
            exact ⟨E.addh E'.h, u, But.addh _ _ _, rfl, AV.flat_R (E := E') (E' := E.addh E'.h) (fun _ _ h => .inr h) h1 (h5 _ _ (AV.untip_R q2)), q3⟩
          · cases h4
        · cases h4
      · cases h4
    · cases hrun
/-- A callee that returns a new slice of elements of this type. -/
def newSp (c : Ctx F) (ty : TypeId) (g : List (AV F) → List (Blk F) → Option (Nat × List (AC F) × List (Bool × Bool))) : FnSp F where
  blocks := pts
  run := fun slot args bs => bif locB c args bs then match g (rel args 0) bs with
      | some (n, cs, cd) => some ⟨.w (.one (.slc slot 0 n n)), [(slot, ⟨ty, cs⟩)], cd⟩
      | none => none
    else none
theorem newSp_ok {P : Program} {I : Interp F} {c : Ctx F} (hC : CtxOk P I c) (hmix : P.follows .mixedOrders = true) {f : FuncId} {fn : Func} (hf : P.funcs[f]? = some fn) (hb : fn.body.isSome = true) (hL : LpsOk P I c.lps fn.ntmps (bodyOf fn))
    {c' : Ctx F} (hsf : c'.safe = c.safe) {ty : TypeId} {g : List (AV F) → List (Blk F) → Option (Nat × List (AC F) × List (Bool × Bool))}
    (h : ∀ args bs n cs cd, g args bs = some (n, cs, cd) → (∀ p ∈ cd, p.1 = p.2) → Nat.ble args.length fn.ntmps = true ∧
      ∃ path cd', evNew c fn args bs ty path = some (.tup (.one (.slc 0 0 n n) :: .agg cs :: aggs bs), cd') ∧ ∀ p ∈ cd', p.1 = p.2) : (newSp c' ty g).ok P I f := by
  intro E hp w slot args us bs out dt hrun ha hbl hm hfr hc
  simp only [newSp] at hrun hbl
  cases hl : locB c' args bs with
  | false => rw [hl] at hrun; cases hrun
  | true =>
    rw [hl] at hrun; simp only [cond_true] at hrun
    have hl : locB c args bs = true := by unfold locB at hl ⊢; rw [← hsf]; exact hl
    split at hrun
    · rename_i n cs cd hg
      cases hrun
      obtain ⟨a1, a2, a3⟩ := locB_ok hC hl
      obtain ⟨h2, path, cd', h4, h6⟩ := h _ _ n cs cd hg hc
      unfold evNew at h4
      split at h4
      · rename_i r hr
        split at h4
        · split at h4
          · rename_i b n2 m2 l2 hv2 hl2
            split at h4
            · rename_i y hy
              cases hq : Nat.beq y.ty ty && Nat.ble bs.length b && y.cs.all AC.soB with
              | false => rw [hq] at h4; cases h4
              | true =>
                rw [hq] at h4
                simp only [cond_true, Option.some.injEq, Prod.mk.injEq, AV.tup.injEq, List.cons.injEq, AW.one.injEq, AC.slc.injEq, AW.agg.injEq, true_and] at h4
                obtain ⟨⟨⟨rfl, e0⟩, rfl, e2⟩, rfl⟩ := h4
                subst e0
                simp only [Bool.and_eq_true] at hq
                obtain ⟨⟨t1, t2⟩, t3⟩ := hq
                have t1 := Nat.eq_of_beq_eq_true t1
                subst t1
                refine (loc_calls hC hmix hf hb hL ha hbl hm a1 a2 a3 (by have := Nat.le_of_ble_eq_true h2; rw [rel_len] at this; exact this) hr h6 fun i b hi => by have := cellsAt_same (j := 0) (by rw [hl2, e2]) i b hi; rwa [Nat.zero_add] at this).mono ?_
                rintro e w' ⟨E', u, rfl, q2, q3, q4⟩
                obtain ⟨k, vs, s1, s2, s3, s4, s5, s6⟩ := q4 b y (Nat.le_of_ble_eq_true t2) hy t3
                rw [hv2] at q2
                obtain ⟨k', g1, rfl⟩ := q2
                rw [s1] at g1; cases g1
                have hfr' : Fresh slot (E.addh E'.h) := hfr
                have hown : ∀ b, ¬ (E.addh E'.h).own b k := fun b h => by
                  have := hm.loc b k h
                  omega
                refine ⟨(E.addh E'.h).setm slot k, _, ?_, rfl, ⟨k, if_pos rfl, rfl⟩, q3.adopt hfr' s4 s5 hown s2 s3 s6⟩
                have b1 := But.addh slot E E'.h
                have b2 := But.setm hfr' k
                exact ⟨b1.le.trans b2.le, fun b hb => (b2.m b hb).trans (b1.m b hb), fun b hb j => (b2.r b hb j).trans (b1.r b hb j), fun b hb h n => b2.q b hb (b1.q b hb h) n⟩
            · cases h4
          · cases h4
        · cases h4
      · cases h4
    · cases hrun
end Go.Proofs.YtbnlpcmnkcaemaaDoor.Ev

