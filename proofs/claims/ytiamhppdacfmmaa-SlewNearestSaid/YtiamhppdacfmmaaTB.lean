/-
  Slices of structs of numbers and Booleans as foreign values of the evaluator.
  Conditions: those of each theorem.
-/
import Derived.Test.YtiamhppdacfmmaaProg
import Derived.Test.YtiamhppdacfmmaaEv2
set_option linter.unusedVariables false
set_option linter.unusedSimpArgs false
namespace Go.Proofs.Ytiamhppdacfmmaa
open Go.RowKit Ev
variable {F : Type}

/-- Tables alone. -/
inductive Tb where
  | tab (ks : List (Option IntKind)) (l : List (List Int))
def tbI : Interp Tb where
  holds := fun _ _ _ => False
  base := 0
  safe := fun _ => true
  slen := fun _ => none
  sget := fun _ _ => none
  mono := fun _ _ _ _ h => h.elim
  slen_ok := fun _ _ _ _ h => by cases h
  sget_ok := fun _ _ _ _ _ _ _ _ h => by cases h
  hv := fun f D w v => match f with | .tab ks l => tabHv D w v ks l
  vlen := fun f => match f with | .tab _ l => some (lenT l)
  vesz := fun f => match f with | .tab ks _ => ks.length
  vget := fun f i o => match f with | .tab ks l => (match ks[o]? with | some kd => some (kdC kd (cel l i o)) | none => none)
  vsub := fun f a b => match f with | .tab ks l => some (.tab ks ((l.take b.toNat).drop a.toNat))
  vapp := fun f xs m => match f with
    | .tab ks l => match rowsOf ks m xs with
      | some rs => some (.tab ks (l ++ rs))
      | none => none
  nil := fun _ => none
  vrow := fun f => match f with | .tab ks l => some (ks, l)
  vrow_ok := fun f ks l D w v h H => by cases f with | tab ks' l' => cases h; exact H
  hv_mono := fun f D D' w w' v h hD hk => by
    cases f with
    | tab ks l => exact tabHv.keep h hD hk
  hv_cell := fun f D w v h => by
    cases f with
    | tab ks l => obtain ⟨p, cap, rfl, _⟩ := h; rfl
  vlen_ok := fun f n D w v hn h => by
    cases f with
    | tab ks l =>
      cases hn
      obtain ⟨p, cap, rfl, g2, g3, g4, g5⟩ := h
      exact ⟨p, l.length, cap, rfl, rfl, g4, fun a ha => (g5 a ha).1⟩
  vget_ok := fun f n i o x D w b off m cap hn hx h0 h1 h => by
    cases f with
    | tab ks l =>
      cases hn
      obtain ⟨p, cap', e, g2, g3, g4, g5⟩ := h
      cases e
      unfold lenT at h1
      simp only at hx
      split at hx
      · rename_i k hk
        cases hx
        exact ⟨_, ((g5 _ rfl).2 i.toNat (by omega) o _ hk).2, kdV_cell _ _, kdC_is _ _⟩
      · cases hx
  vsub_ok := fun f g n a b D w v hg hn h0 h1 h2 h => by
    cases f with
    | tab ks l => cases hn; cases hg; exact tabHv.sub h h0 h1 h2
  vapp_ok := fun f g xs m n D w v k cap us hg hn h hv hx hu h1 h2 h3 h4 h5 h6 h7 => by
    cases f with
    | tab ks l =>
      simp only at hg
      split at hg
      · rename_i rs hrs
        cases hg
        have hn : l.length = n := by simp only [lenT, Option.some.injEq] at hn; omega
        obtain ⟨g0, _, g2⟩ := rowsOf_get hrs hu
        have hlen : (l ++ rs).length = n + m := by rw [List.length_append]; omega
        refine ⟨some ⟨k, 0, none⟩, cap, by rw [hlen], by omega, h6, fun e => (by cases e), fun a ha => ?_⟩
        cases ha
        refine ⟨rfl, fun j hj o kd ho => ?_⟩
        rw [hlen] at hj
        have hol : o < ks.length := (List.getElem?_eq_some_iff.1 ho).1
        have hjo : j * ks.length + o < (n + m) * ks.length := by
          have : (j + 1) * ks.length ≤ (n + m) * ks.length := Nat.mul_le_mul_right _ (by omega)
          rw [Nat.add_mul] at this; omega
        simp only [Nat.zero_add] at h1 h2 h3 ⊢
        refine ⟨h3 _ hjo, ?_⟩
        rcases Nat.lt_or_ge j n with q | q
        · have hjn : j * ks.length + o < n * ks.length := by
            have : (j + 1) * ks.length ≤ n * ks.length := Nat.mul_le_mul_right _ (by omega)
            rw [Nat.add_mul] at this; omega
          rcases hv with rfl | ⟨kv, c, rfl⟩
          · obtain ⟨p, cap', e, _⟩ := h
            simp only [Value.slice.injEq] at e
            omega
          · rw [h1 kv c rfl _ hjn]
            obtain ⟨p, cap', e, e2, e3, e4, e5⟩ := h
            simp only [Value.slice.injEq] at e
            have := ((e5 _ e.1.symm).2 j (by omega) o kd ho).2
            simp only [Nat.zero_add] at this
            rw [this]
            congr 3
            simp only [List.getD_eq_getElem?_getD]
            rw [List.getElem?_append_left (by omega)]
        · have := h2 ((j - n) * ks.length + o) _ (g2 (j - n) (by omega) o kd ho)
          rw [show n * ks.length + ((j - n) * ks.length + o) = j * ks.length + o by rw [← Nat.add_assoc, ← Nat.add_mul, show n + (j - n) = j by omega]] at this
          rw [this]
          congr 3
          simp only [List.getD_eq_getElem?_getD]
          rw [List.getElem?_append_right (by omega), hn]
      · cases hg
  nil_ok := fun _ _ _ _ h => by cases h
  maps := true
  mono_map := fun _ _ _ _ _ _ _ _ h => h.elim
  hv_map := fun _ f D w w' v k es c h hk hne => by
    cases f with
    | tab ks l => exact tabHv.mapped h hk hne
/-! ### A function of tables, among other foreign values -/
def cvC (conv : F → Option Tb) (ks0 : List (Option IntKind)) : AC F → Option (AC Tb)
  | .int k n => some (.int k n)
  | .bool b => some (.bool b)
  | .yes b => some (.yes b)
  | .lit (.slice none 0 0) => some (.fv (.tab ks0 []))
  | .lit v => some (.lit v)
  | .fv f => match conv f with
    | some t => some (.fv t)
    | none => none
  | .tip _ _ f => match conv f with
    | some t => some (.fv t)
    | none => none
  | _ => none
def cvCs (conv : F → Option Tb) (ks0 : List (Option IntKind)) : List (AC F) → Option (List (AC Tb))
  | [] => some []
  | c :: r => match cvC conv ks0 c with
    | some x => match cvCs conv ks0 r with
      | some l => some (x :: l)
      | none => none
    | none => none
def tcvV (conv : F → Option Tb) (ks0 : List (Option IntKind)) : AV F → Option (AV Tb)
  | .w (.one c) => match cvC conv ks0 c with
    | some x => some (.w (.one x))
    | none => none
  | .w (.agg cs) => match cvCs conv ks0 cs with
    | some x => some (.w (.agg x))
    | none => none
  | _ => none
def cvVs (conv : F → Option Tb) (ks0 : List (Option IntKind)) : List (AV F) → Option (List (AV Tb))
  | [] => some []
  | c :: r => match tcvV conv ks0 c with
    | some x => match cvVs conv ks0 r with
      | some l => some (x :: l)
      | none => none
    | none => none
def bkC (inj : Tb → F) : AC Tb → Option (AC F)
  | .int k n => some (.int k n)
  | .bool b => some (.bool b)
  | .yes b => some (.yes b)
  | .lit v => some (.lit v)
  | .fv t => some (.fv (inj t))
  | _ => none
def bkCs (inj : Tb → F) : List (AC Tb) → Option (List (AC F))
  | [] => some []
  | c :: r => match bkC inj c with
    | some x => match bkCs inj r with
      | some l => some (x :: l)
      | none => none
    | none => none
def bkW (inj : Tb → F) : AW Tb → Option (AW F)
  | .one c => match bkC inj c with
    | some x => some (.one x)
    | none => none
  | .agg cs => match bkCs inj cs with
    | some x => some (.agg x)
    | none => none
def bkWs (inj : Tb → F) : List (AW Tb) → Option (List (AW F))
  | [] => some []
  | c :: r => match bkW inj c with
    | some x => match bkWs inj r with
      | some l => some (x :: l)
      | none => none
    | none => none
def bkV (inj : Tb → F) : AV Tb → Option (AV F)
  | .w x => match bkW inj x with
    | some y => some (.w y)
    | none => none
  | .tup l => match bkWs inj l with
    | some y => some (.tup y)
    | none => none
def liftG (conv : F → Option Tb) (inj : Tb → F) (ks0 : List (Option IntKind)) (g : List (AV Tb) → Option (AV Tb × List (Bool × Bool))) : List (AV F) → Option (AV F × List (Bool × Bool)) := fun args =>
  match cvVs conv ks0 args with
  | some xs => match g xs with
    | some (v, cd) => match bkV inj v with
      | some v' => some (v', cd)
      | none => none
    | none => none
  | none => none
section
variable {conv : F → Option Tb} {inj : Tb → F} (hconv : ∀ f t, conv f = some t → f = inj t) {ks0 : List (Option IntKind)}
def tbE (inj : Tb → F) (ks0 : List (Option IntKind)) (E : Env F) : Env Tb := Env.facts fun t v => E.h (inj t) v ∨ (t = .tab ks0 [] ∧ v = .slice none 0 0)
include hconv in
theorem cvC_R {E : Env F} {c : AC F} {c' : AC Tb} {v : Value} (h : cvC conv ks0 c = some c') (H : c.R E v) : c'.R (tbE inj ks0 E) v := by
  unfold cvC at h
  split at h
  · cases h; exact H
  · cases h; exact H
  · cases h; exact H
  · cases h; exact Or.inr ⟨rfl, H⟩
  · cases h; exact H
  · split at h
    · rename_i f _ t ht
      cases h
      have := hconv f t ht
      subst this
      exact Or.inl H
    · cases h
  · split at h
    · rename_i f _ t ht
      cases h
      have := hconv f t ht
      subst this
      exact Or.inl H.1
    · cases h
  · cases h
include hconv in
theorem cvCs_R {E : Env F} : ∀ {cs : List (AC F)} {cs' : List (AC Tb)} {vs : List Value}, cvCs conv ks0 cs = some cs' → All2 (AC.R E) cs vs → All2 (AC.R (tbE inj ks0 E)) cs' vs
  | [], cs', vs, h, H => by cases h; cases H; exact .nil
  | c :: r, cs', vs, h, H => by
    cases H with
    | cons q H =>
      unfold cvCs at h
      split at h
      · rename_i x hx
        split at h
        · rename_i l hl
          cases h
          exact .cons (cvC_R hconv hx q) (cvCs_R hl H)
        · cases h
      · cases h
include hconv in
theorem cvV_R {E : Env F} {x : AV F} {x' : AV Tb} {v : Value} (h : tcvV conv ks0 x = some x') (H : x.R E v) : x'.R (tbE inj ks0 E) v := by
  unfold tcvV at h
  split at h
  · split at h
    · rename_i y hy
      cases h
      exact cvC_R hconv hy H
    · cases h
  · split at h
    · rename_i y hy
      cases h
      obtain ⟨vs, rfl, H⟩ := H
      exact ⟨vs, rfl, cvCs_R hconv hy H⟩
    · cases h
  · cases h
include hconv in
theorem cvVs_R {E : Env F} : ∀ {xs : List (AV F)} {xs' : List (AV Tb)} {vs : List Value}, cvVs conv ks0 xs = some xs' → All2 (AV.R E) xs vs → All2 (AV.R (tbE inj ks0 E)) xs' vs
  | [], cs', vs, h, H => by cases h; cases H; exact .nil
  | c :: r, cs', vs, h, H => by
    cases H with
    | cons q H =>
      unfold cvVs at h
      split at h
      · rename_i x hx
        split at h
        · rename_i l hl
          cases h
          exact .cons (cvV_R hconv hx q) (cvVs_R hl H)
        · cases h
      · cases h
theorem bkC_R {E : Env Tb} {E' : Env F} (hE : ∀ t u, E.h t u → E'.h (inj t) u) {c : AC Tb} {c' : AC F} {v : Value} (h : bkC inj c = some c') (H : c.R E v) : c'.R E' v := by
  unfold bkC at h
  split at h
  · cases h; exact H
  · cases h; exact H
  · cases h; exact H
  · cases h; exact H
  · cases h; exact hE _ _ H
  · cases h
theorem bkCs_R {E : Env Tb} {E' : Env F} (hE : ∀ t u, E.h t u → E'.h (inj t) u) : ∀ {cs : List (AC Tb)} {cs' : List (AC F)} {vs : List Value}, bkCs inj cs = some cs' → All2 (AC.R E) cs vs → All2 (AC.R E') cs' vs
  | [], cs', vs, h, H => by cases h; cases H; exact .nil
  | c :: r, cs', vs, h, H => by
    cases H with
    | cons q H =>
      unfold bkCs at h
      split at h
      · rename_i x hx
        split at h
        · rename_i l hl
          cases h
          exact .cons (bkC_R hE hx q) (bkCs_R hE hl H)
        · cases h
      · cases h
theorem bkW_R {E : Env Tb} {E' : Env F} (hE : ∀ t u, E.h t u → E'.h (inj t) u) {x : AW Tb} {x' : AW F} {v : Value} (h : bkW inj x = some x') (H : x.R E v) : x'.R E' v := by
  unfold bkW at h
  split at h
  · split at h
    · rename_i y hy
      cases h
      exact bkC_R hE hy H
    · cases h
  · split at h
    · rename_i y hy
      cases h
      obtain ⟨vs, rfl, H⟩ := H
      exact ⟨vs, rfl, bkCs_R hE hy H⟩
    · cases h
theorem bkWs_R {E : Env Tb} {E' : Env F} (hE : ∀ t u, E.h t u → E'.h (inj t) u) : ∀ {cs : List (AW Tb)} {cs' : List (AW F)} {vs : List Value}, bkWs inj cs = some cs' → All2 (AW.R E) cs vs → All2 (AW.R E') cs' vs
  | [], cs', vs, h, H => by cases h; cases H; exact .nil
  | c :: r, cs', vs, h, H => by
    cases H with
    | cons q H =>
      unfold bkWs at h
      split at h
      · rename_i x hx
        split at h
        · rename_i l hl
          cases h
          exact .cons (bkW_R hE hx q) (bkWs_R hE hl H)
        · cases h
      · cases h
theorem bkV_R {E : Env Tb} {E' : Env F} (hE : ∀ t u, E.h t u → E'.h (inj t) u) {x : AV Tb} {x' : AV F} {v : Value} (h : bkV inj x = some x') (H : x.R E v) : x'.R E' v := by
  unfold bkV at h
  split at h
  · split at h
    · rename_i y hy
      cases h
      exact bkW_R hE hy H
    · cases h
  · split at h
    · rename_i y hy
      cases h
      obtain ⟨vs, rfl, H⟩ := H
      exact ⟨vs, rfl, bkWs_R hE hy H⟩
    · cases h
include hconv in
/-- What a function of tables does among tables alone, it does among other foreign values. -/
theorem lift_ok {P : Program} {I : Interp F} {f : FuncId} (hI : ∀ t D w v, I.hv (inj t) D w v ↔ tbI.hv t D w v) {g : List (AV Tb) → Option (AV Tb × List (Bool × Bool))} (h : (factSp g).ok P tbI f) : (factSp (liftG conv inj ks0 g)).ok P I f := by
  intro E hp w slot args us bs out dt hrun ha _ hm _ hc
  simp only [factSp] at hrun
  split at hrun
  · rename_i v cd hg
    cases hrun
    unfold liftG at hg
    split at hg
    · rename_i xs hxs
      split at hg
      · rename_i v0 cd0 hg0
        split at hg
        · rename_i v' hv'
          cases hg
          have hargs := cvVs_R hconv hxs ha
          have hm0 : Mem tbI ⟨w, (tbE inj ks0 E).ran, Dt ⟨w, E.ran, dt⟩ E hp⟩ (tbE inj ks0 E) [] w := by
            refine ⟨fun b blk h => by simp [Ev.look] at h, fun b blk n sz h => by simp [Ev.look] at h, fun _ _ _ _ => rfl, fun b b' k h => (own_facts h).elim, fun b k h => (own_facts h).elim, fun k j f arr h => by (cases h), ⟨rfl, rfl, rfl, Nat.le_refl _, fun _ _ _ => rfl⟩, fun b k h => (own_facts h).elim, fun b k h => (own_facts h).elim, ⟨Nat.zero_le _, trivial⟩,
              fun t v hv => ?_, fun _ _ _ _ _ h => by cases h⟩
            rcases hv with hv | ⟨rfl, rfl⟩
            · refine tbI.hv_mono t _ _ w w v ((hI t _ _ _).1 (hm.fv (inj t) v hv)) (fun k o _ hd => ?_) (fun _ _ => .inl rfl)
              rcases hd with hd | ⟨_, hd⟩ | ⟨_, _, _, _, _, hd, _⟩
              · exact hd.1
              · cases hd
              · simp [Ev.look] at hd
            · exact nil_tab _ _ _
          refine (h (tbE inj ks0 E) [] w 0 xs us [] ⟨v0, [], cd⟩ _ (by simp only [factSp, hg0]) hargs rfl hm0 ⟨rfl, fun _ => rfl, fun _ => rfl⟩ hc).mono ?_
          rintro e w' ⟨E', u, q0, rfl, q2, q3⟩
          simp only [List.nil_append] at q3
          have hbel : Below w.heap.size w w' := ⟨q3.kept.os, q3.kept.tape, q3.kept.output, q3.kept.size, fun k hk => q3.kept.block k hk fun ⟨b, hb⟩ => own_facts hb⟩
          refine ⟨E.addh (fun f u => ∃ t, f = inj t ∧ E'.h t u), u, But.addh _ _ _, rfl, bkV_R (fun t u ht => show E.h (inj t) u ∨ ∃ t', inj t = inj t' ∧ E'.h t' u from .inr ⟨t, rfl, ht⟩) hv' q2, (hm.below hbel).addh fun f v hv => ?_⟩
          obtain ⟨t, rfl, ht⟩ := hv
          refine (hI t _ _ _).2 (tbI.hv_mono t _ _ w' w' v (q3.fv t v ht) (fun k o _ hd => .inl ⟨hd, ?_⟩) fun _ _ => .inl rfl)
          rcases hd with hd | ⟨b, hd⟩ | ⟨b, _, n, _, v, _, _, d3, d4, _⟩
          · exact hd.2
          · exact hm.loc b k (.inl hd)
          · exact hm.loc b k (.inr ⟨n, v, d3, d4⟩)
        · cases hg
      · cases hg
    · cases hg
  · cases hrun
end
/-- Among the facts of streams. -/
def cvF : Fct → Option Tb
  | .tab ks l => some (.tab ks l)
  | _ => none
def inF : Tb → Fct
  | .tab ks l => .tab ks l
theorem liftF_ok {P : Program} {B : Nat} {f : FuncId} {ks0 : List (Option IntKind)} {g : List (AV Tb) → Option (AV Tb × List (Bool × Bool))} (h : (factSp g).ok P tbI f) : (factSp (liftG cvF inF ks0 g)).ok P (fctI B) f :=
  lift_ok (fun f t h => by cases f <;> cases h; rfl) (fun t D w v => by cases t; exact Iff.rfl) h
/-! ### A law that is handed foreign values -/
theorem facts_mem {I : Interp F} {h : F → Value → Prop} {W : World} (hb : I.base = 0) (hh : ∀ q v, h q v → I.hv q (fun _ _ => False) W v) (hJ : I.inv W := by trivial) : Mem I ⟨W, (Env.facts h).ran, fun _ _ => False⟩ (Env.facts h) [] W := by
  refine ⟨fun b blk h => by simp [Ev.look] at h, fun b blk n sz h => by simp [Ev.look] at h, fun _ _ _ _ => rfl, fun b b' k h => (own_facts h).elim, fun b k h => (own_facts h).elim, fun k j f arr h => by (cases h), ⟨rfl, rfl, rfl, Nat.le_refl _, fun _ _ _ => rfl⟩, fun b k h => (own_facts h).elim, fun b k h => (own_facts h).elim, ⟨by rw [hb]; exact Nat.zero_le _, hJ⟩,
    fun q v hq => ?_, fun _ _ _ _ _ h => by cases h⟩
  refine I.hv_mono q (fun _ _ => False) _ W W v (hh q v hq) (fun k o _ hd => ?_) (fun _ _ => .inl rfl)
  rcases hd with hd | ⟨_, hd⟩ | ⟨_, _, _, _, _, hd, _⟩
  · exact hd.1
  · cases hd
  · simp [Ev.look] at hd
theorem law_facts {P : Program} {I : Interp F} {c : Ctx F} (hC : CtxOk P I c) (hmix : P.follows .mixedOrders = true) {f : FuncId} {fn : Func} (hf : P.funcs[f]? = some fn) (hb : fn.body.isSome = true) (hL : LpsOk P I c.lps fn.ntmps (bodyOf fn)) (hbase : I.base = 0)
    {h : F → Value → Prop} {W : World} (hh : ∀ q v, h q v → I.hv q (fun _ _ => False) W v) {xs : List (AV F)} {us : List Value} {path : List Bool} {x : AV F} {cd : List (Bool × Bool)} {v : Value} (ev : evR c fn xs path = some (x, cd))
    (hn : Nat.ble xs.length fn.ntmps = true) (ha : All2 (AV.R (Env.facts h)) xs us) (hx : x.val = some v) (hc : ∀ p ∈ cd, p.1 = p.2) (hJ : I.inv W := by trivial) :
    Calls P f us.toArray W fun e w' => e = .returned v ∧ Below W.heap.size W w' := by
  have hb' : fn.body = some (bodyOf fn) := by
    unfold bodyOf
    cases hfb : fn.body with
    | none => rw [hfb] at hb; cases hb
    | some c => rfl
  unfold evR at ev
  split at ev
  · rename_i r hr
    split at ev
    · cases ev
      refine (evF_calls hC hmix hf hb' hL hr hc (Nat.le_of_ble_eq_true hn) ha (facts_mem hbase hh hJ) (fun _ _ => ⟨rfl, fun _ => rfl, fun _ => rfl⟩)).mono ?_
      rintro e w' ⟨E', u1, _, rfl, q2, q3⟩
      have := AV.val_R hx q2
      subst this
      exact ⟨rfl, q3.kept.os, q3.kept.tape, q3.kept.output, q3.kept.size, fun i hi => q3.kept.block i hi fun ⟨b, hb⟩ => own_facts hb⟩
    · cases ev
  · cases ev
/-- As list_calls, where nil slices are rows. -/
theorem list_callsR {P : Program} {B : Nat} {c : Ctx Fct} {nl : TypeId → Option Fct} {hnl : ∀ t g D w, nl t = some g → (fctI B).hv g D w (.slice none 0 0)} (hC : CtxOk P ((fctI B).rows nl hnl) c) (hmix : P.follows .mixedOrders = true) {f : FuncId} {fn : Func} (hf : P.funcs[f]? = some fn) (hb : fn.body.isSome = true)
    {l : List Int} {p : Option Addr} {cap : Nat} {args : List (AV Fct)} {us : List Value} {path : List Bool} {x : AV Fct} {cd : List (Bool × Bool)} {v : Value} (h : evL c fn l args path = some (x, cd))
    (hn : Nat.ble (args.length + 1) fn.ntmps = true) (ha : All2 (fun (x : AV Fct) u => x.val = some u) args us) (hx : x.val = some v) (W : World) (hB : B = W.heap.size) (hl : fctHolds B (.ints l) W #[.slice p l.length cap])
    (hc : ∀ p ∈ cd, p.1 = p.2) (hL : LpsOk P ((fctI B).rows nl hnl) c.lps fn.ntmps (bodyOf fn) := by exact lps_nil) : Calls P f (.slice p l.length cap :: us).toArray W fun e w' => e = .returned v ∧ Below W.heap.size W w' := by
  unfold evL at h
  split at h
  · rename_i r hr
    split at h
    · cases h
      have hb' : fn.body = some (bodyOf fn) := by
        unfold bodyOf
        cases hfb : fn.body with
        | none => rw [hfb] at hb; cases hb
        | some c => rfl
      have hm0 : Mem (fctI B) ⟨W, (Env.lst (.ints l, #[.slice p l.length cap])).ran, fun _ _ => False⟩ (Env.lst (.ints l, #[.slice p l.length cap])) [] W := by
        refine ⟨fun b blk h => by simp [Ev.look] at h, fun b blk n sz h => by simp [Ev.look] at h, fun _ _ _ _ => rfl, fun b b' k h => (own_lst h).elim, fun b k h => (own_lst h).elim, fun k j f arr h => ?_, ⟨rfl, rfl, rfl, Nat.le_refl _, fun _ _ _ => rfl⟩, fun b k h => (own_lst h).elim, fun b k h => (own_lst h).elim, ⟨Nat.le_of_eq hB, trivial⟩, fun _ _ h => h.elim, fun _ _ _ _ _ h => by cases h⟩
        cases k with
        | zero => cases j with
          | zero =>
            cases h
            refine ⟨hl, fun i v hv => ?_⟩
            cases i with
            | zero => simp at hv; subst hv; rfl
            | succ i => simp at hv
          | succ => cases h
        | succ => cases h
      have hfree : Free 1 (Env.lst (.ints l, #[.slice p l.length cap])) := fun b hb => by
        cases b with
        | zero => omega
        | succ n => exact ⟨rfl, fun _ => rfl, fun _ => rfl⟩
      refine (evF_calls hC hmix hf hb' hL hr hc (E := Env.lst (.ints l, #[.slice p l.length cap])) (us := .slice p l.length cap :: us) (w := W) (by simpa using Nat.le_of_ble_eq_true hn) (.cons ⟨_, rfl, rfl⟩ (all2_R ha)) (Mem.rows.2 hm0) hfree).mono ?_
      rintro e w' ⟨E', u, _, rfl, h2, h3⟩
      refine ⟨by rw [AV.val_R hx h2], h3.kept.os, h3.kept.tape, h3.kept.output, h3.kept.size, fun k hk => h3.kept.block k hk fun ⟨b, hb⟩ => own_lst hb⟩
    · cases h
  · cases h
end Go.Proofs.Ytiamhppdacfmmaa

