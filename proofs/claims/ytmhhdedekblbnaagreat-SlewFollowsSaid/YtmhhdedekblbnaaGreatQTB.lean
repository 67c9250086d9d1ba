/-
 Slices of structs of numbers and Booleans as foreign values of the evaluator.
 Conditions: those of each theorem.
-/
import Derived.Test.YtmhhdedekblbnaaGreatProg
import Derived.Test.YtmhhdedekblbnaaGreatQEv2
set_option linter.unusedVariables false
set_option linter.unusedSimpArgs false
namespace Go.Proofs.YtmhhdedekblbnaaGreat
open Go.RowKit Ev
variable {F : Type}

inductive Tb where
 | tab (ks : List (Option IntKind)) (l : List (List Int))
def tbI : Interp Tb where
 holds := fun _ _ _ => False
 base := 0
 safe := fun _ => true
 slen := fun _ => none
 sget := fun _ _ => none
 mono := fun _ _ _ _ h => h.elim
 slen_ok := fun _ _ _ _ h => by cases h
 sget_ok := fun _ _ _ _ _ _ _ _ h => by cases h
 hv := fun f D w v => match f with | .tab ks l => tabHv D w v ks l
 vlen := fun f => match f with | .tab _ l => some (lenT l)
 vesz := fun f => match f with | .tab ks _ => ks.length
 vget := fun f i o => match f with | .tab ks l => (match ks[o]? with | some kd => some (kdC kd (cel l i o)) | none => none)
 vsub := fun f a b => match f with | .tab ks l => some (.tab ks ((l.take b.toNat).drop a.toNat))
 vapp := fun f xs m => match f with
   | .tab ks l => match rowsOf ks m xs with
     | some rs => some (.tab ks (l ++ rs))
     | none => none
 nil := fun _ => none
 vrow := fun f => match f with | .tab ks l => some (ks, l)
 vrow_ok := fun f ks l D w v h H => by cases f with | tab ks' l' => cases h; exact H
 hv_mono := fun f D D' w w' v h hD hk => by
   cases f with
   | tab ks l => exact tabHv.keep h hD hk
 hv_cell := fun f D w v h => by
   cases f with
   | tab ks l => obtain ⟨p, cap, rfl, _⟩ := h; rfl
 vlen_ok := fun f n D w v hn h => by
   cases f with
   | tab ks l =>
     cases hn
     obtain ⟨p, cap, rfl, g2, g3, g4, g5⟩ := h
     exact ⟨p, l.length, cap, rfl, rfl, g4, fun a ha => (g5 a ha).1⟩
 vget_ok := fun f n i o x D w b off m cap hn hx h0 h1 h => by
   cases f with
   | tab ks l =>
     cases hn
     obtain ⟨p, cap', e, g2, g3, g4, g5⟩ := h
     cases e
     unfold lenT at h1
     simp only at hx
     split at hx
     · rename_i k hk
       cases hx
       exact ⟨_, ((g5 _ rfl).2 i.toNat (by omega) o _ hk).2, kdV_cell _ _, kdC_is _ _⟩
     · cases hx
 vsub_ok := fun f g n a b D w v hg hn h0 h1 h2 h => by
   cases f with
   | tab ks l => cases hn; cases hg; exact tabHv.sub h h0 h1 h2
 vapp_ok := fun f g xs m n D w v k cap us hg hn h hv hx hu h1 h2 h3 h4 h5 h6 h7 => by
   cases f with
   | tab ks l =>
     simp only at hg
     split at hg
     · rename_i rs hrs
       cases hg
       have hn : l.length = n := by simp only [lenT, Option.some.injEq] at hn; omega
       obtain ⟨g0, _, g2⟩ := rowsOf_get hrs hu
       have hlen : (l ++ rs).length = n + m := by rw [List.length_append]; omega
       refine ⟨some ⟨k, 0, none⟩, cap, by rw [hlen], by omega, h6, fun e => (by cases e), fun a ha => ?_⟩
       cases ha
       refine ⟨rfl, fun j hj o kd ho => ?_⟩
       rw [hlen] at hj
       have hol : o < ks.length := (List.getElem?_eq_some_iff.1 ho).1
       have hjo : j * ks.length + o < (n + m) * ks.length := by
         have : (j + 1) * ks.length <= (n + m) * ks.length := Nat.mul_le_mul_right _ (by omega)
         rw [Nat.add_mul] at this; omega
       simp only [Nat.zero_add] at h1 h2 h3 ⊢
       refine ⟨h3 _ hjo, ?_⟩
       rcases Nat.lt_or_ge j n with q | q
       · have hjn : j * ks.length + o < n * ks.length := by
           have : (j + 1) * ks.length <= n * ks.length := Nat.mul_le_mul_right _ (by omega)
           rw [Nat.add_mul] at this; omega
         rcases hv with rfl | ⟨kv, c, rfl⟩
         · obtain ⟨p, cap', e, _⟩ := h
           simp only [Value.slice.injEq] at e
           omega
         · rw [h1 kv c rfl _ hjn]
           obtain ⟨p, cap', e, e2, e3, e4, e5⟩ := h
           simp only [Value.slice.injEq] at e
           have := ((e5 _ e.1.symm).2 j (by omega) o kd ho).2
           simp only [Nat.zero_add] at this
           rw [this]
           congr 3
           simp only [List.getD_eq_getElem?_getD]
           rw [List.getElem?_append_left (by omega)]
       · have := h2 ((j - n) * ks.length + o) _ (g2 (j - n) (by omega) o kd ho)
         rw [show n * ks.length + ((j - n) * ks.length + o) = j * ks.length + o by rw [<- Nat.add_assoc, <- Nat.add_mul, show n + (j - n) = j by omega]] at this
         rw [this]
         congr 3
         simp only [List.getD_eq_getElem?_getD]
         rw [List.getElem?_append_right (by omega), hn]
     · cases hg
 nil_ok := fun _ _ _ _ h => by cases h
 maps := true
 mono_map := fun _ _ _ _ _ _ _ _ h => h.elim
 hv_map := fun _ f D w w' v k es c h hk hne => by
   cases f with
   | tab ks l => exact tabHv.mapped h hk hne

section
variable {conv : F -> Option Tb} {inj : Tb -> F} (hconv : ∀ f t, conv f = some t -> f = inj t) {ks0 : List (Option IntKind)}
end

theorem facts_mem {I : Interp F} {h : F -> Value -> Prop} {W : World} (hb : I.base = 0) (hh : ∀ q v, h q v -> I.hv q (fun _ _ => False) W v) (hJ : I.inv W := by trivial) : Mem I ⟨W, (Env.facts h).ran, fun _ _ => False⟩ (Env.facts h) [] W := by
 refine ⟨fun b blk h => by simp [Ev.look] at h, fun b blk n sz h => by simp [Ev.look] at h, fun _ _ _ _ => rfl, fun b b' k h => (own_facts h).elim, fun b k h => (own_facts h).elim, fun k j f arr h => by (cases h), ⟨rfl, rfl, rfl, Nat.le_refl _, fun _ _ _ => rfl⟩, fun b k h => (own_facts h).elim, fun b k h => (own_facts h).elim, ⟨by rw [hb]; exact Nat.zero_le _, hJ⟩,
   fun q v hq => ?_, fun _ _ _ _ _ h => by cases h⟩
 refine I.hv_mono q (fun _ _ => False) _ W W v (hh q v hq) (fun k o _ hd => ?_) (fun _ _ => .inl rfl)
 rcases hd with hd | ⟨_, hd⟩ | ⟨_, _, _, _, _, hd, _⟩
 · exact hd.1
 · cases hd
 · simp [Ev.look] at hd
theorem law_facts {P : Program} {I : Interp F} {c : Ctx F} (hC : CtxOk P I c) (hmix : P.follows .mixedOrders = true) {f : FuncId} {fn : Func} (hf : P.funcs[f]? = some fn) (hb : fn.body.isSome = true) (hL : LpsOk P I c.lps fn.ntmps (bodyOf fn)) (hbase : I.base = 0)
   {h : F -> Value -> Prop} {W : World} (hh : ∀ q v, h q v -> I.hv q (fun _ _ => False) W v) {xs : List (AV F)} {us : List Value} {path : List Bool} {x : AV F} {cd : List (Bool × Bool)} {v : Value} (ev : evR c fn xs path = some (x, cd))
   (hn : Nat.ble xs.length fn.ntmps = true) (ha : All2 (AV.R (Env.facts h)) xs us) (hx : x.val = some v) (hc : ∀ p ∈ cd, p.1 = p.2) (hJ : I.inv W := by trivial) :
   Calls P f us.toArray W fun e w' => e = .returned v /\ Below W.heap.size W w' := by
 have hb' : fn.body = some (bodyOf fn) := by
   unfold bodyOf
   cases hfb : fn.body with
   | none => rw [hfb] at hb; cases hb
   | some c => rfl
 unfold evR at ev
 split at ev
 · rename_i r hr
   split at ev
   · cases ev
     refine (evF_calls hC hmix hf hb' hL hr hc (Nat.le_of_ble_eq_true hn) ha (facts_mem hbase hh hJ) (fun _ _ => ⟨rfl, fun _ => rfl, fun _ => rfl⟩)).mono ?_
     rintro e w' ⟨E', u1, _, rfl, q2, q3⟩
     have := AV.val_R hx q2
     subst this
     exact ⟨rfl, q3.kept.os, q3.kept.tape, q3.kept.output, q3.kept.size, fun i hi => q3.kept.block i hi fun ⟨b, hb⟩ => own_facts hb⟩
   · cases ev
 · cases ev
end Go.Proofs.YtmhhdedekblbnaaGreat
