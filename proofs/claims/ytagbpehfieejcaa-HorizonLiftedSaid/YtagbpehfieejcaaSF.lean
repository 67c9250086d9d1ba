/-
  Functions of streams that return foreign values (slices of structs).
  Conditions: those of each theorem.
-/
import Derived.Test.YtagbpehfieejcaaProg
import Derived.Test.YtagbpehfieejcaaEv2
import Derived.Test.YtagbpehfieejcaaTB
set_option linter.unusedVariables false
set_option linter.unusedSimpArgs false
namespace Go.Proofs.Ytagbpehfieejcaa
open Go.RowKit Ev

/-- Nil slices, as tables without rows. -/
def nilF (f : Fct) (v : Value) : Prop := ∃ ks, f = .tab ks [] ∧ v = .slice none 0 0
theorem streamF_ok {P : Program} {B : Nat} {nl : TypeId → Option Fct} {hnl : ∀ t g D w, nl t = some g → (fctI B).hv g D w (.slice none 0 0)} {c : Ctx Fct} (hC : CtxOk P ((fctI B).rows nl hnl) c) (hmix : P.follows .mixedOrders = true) {f : FuncId} {fn : Func} (hf : P.funcs[f]? = some fn) (hb : fn.body.isSome = true) {T : TypeId}
    {g : List Int → Int → List (AV Fct) → Option (AV Fct × Int × List (Bool × Bool))}
    (hT : ∀ l a rest v a' cd, g l a rest = some (v, a', cd) → (∀ p ∈ cd, p.1 = p.2) → v.flat = true ∧ ∃ us path x cd' rest', All2 (fun (x : AV Fct) u => x.val = some u) rest us ∧ All2 (fun (x : AV Fct) u => x.val = some u) rest' us ∧ (∀ E u, (∀ ks, E.h (.tab ks []) (.slice none 0 0)) → x.untip.R E u → v.R E u) ∧ Nat.ble (rest'.length + 1) fn.ntmps = true ∧
      evS c fn T l a rest' path = some (x, a', cd') ∧ (∀ p ∈ cd', p.1 = p.2)) (hL : LpsOk P ((fctI B).rows nl hnl) c.lps fn.ntmps (bodyOf fn) := by exact lps_nil) : (stream T g).ok P ((fctI B).rows nl hnl) f := by
  intro E hp w slot args us bs out dt hrun ha hbl hmR hfr hc
  have hm := Mem.rows.1 hmR
  simp only [stream] at hrun
  split at hrun
  · rename_i b rest ty k j l a
    cases hty : Nat.beq ty T with
    | false => rw [hty] at hrun; cases hrun
    | true =>
    have hty := Nat.eq_of_beq_eq_true hty
    subst hty
    simp only [Nat.beq_refl, cond_true] at hrun
    split at hrun
    · rename_i v a' cd hg
      cases hrun
      obtain ⟨hfl, us', path, x, cd', rest', h1, h1', h3, h4, h5, h6⟩ := hT l a rest v a' cd hg hc
      have hl := looks_one hbl
      obtain ⟨m, vs, g1, g2, g3⟩ := hm.hp b _ hl rfl
      cases ha with
      | cons hp0 ha =>
        rename_i u0 us0
        obtain ⟨m', q1, rfl⟩ := hp0
        rw [g1] at q1; cases q1
        have hus : us0 = us' := all2_val h1 ha
        subst hus
        cases g3 with
        | cons r1 g3 =>
          rename_i c0 vs0
          obtain ⟨w1, hw1, r2⟩ := all2_one g3
          subst hw1
          cases (r2 : w1 = _)
          obtain ⟨arr, e1, e2⟩ := r1
          obtain ⟨f1, f2⟩ := hm.ext k j _ arr e1
          have hm0 : Mem (fctI B) ⟨w, (Env.one m (.ints l, arr)).ran, Dt ⟨w, E.ran, dt⟩ E hp⟩ (Env.one m (.ints l, arr)) [(0, streamBlk ty 0 0 l a)] w := by
            refine ⟨fun b' blk hb' _ => ?_, fun b' blk n sz hb' ht => ?_, fun _ _ _ _ => rfl, fun b1 b2 k' e3 e4 => (own_one e3).1.trans (own_one e4).1.symm, fun b1 k' e3 => (own_one e3).2 ▸ hm.loc b m (.inl g1), fun k1 j1 f3 arr3 e3 => ?_, ⟨rfl, rfl, rfl, Nat.le_refl _, fun _ _ _ => rfl⟩, fun b1 k' e3 => .inl ⟨b1, e3⟩, fun b1 k' e3 => (own_one e3).2 ▸ hm.low b m (.inl g1), hm.bsz, fun _ _ h => h.elim, fun _ _ _ _ _ h => by cases h⟩
            · rw [look_cons] at hb'
              by_cases e0 : (0 : Nat) = b'
              · subst e0
                simp at hb'; subst hb'
                exact ⟨m, _, rfl, g2, .cons ⟨arr, rfl, e2⟩ (.cons rfl .nil)⟩
              · rw [if_neg e0] at hb'; simp [Ev.look] at hb'
            · rw [look_cons] at hb'
              by_cases e0 : (0 : Nat) = b'
              · subst e0
                simp at hb'; subst hb'
                cases ht
              · rw [if_neg e0] at hb'; simp [Ev.look] at hb'
            · cases k1 with
              | zero => cases j1 with
                | zero => cases e3; exact ⟨f1, f2⟩
                | succ => cases e3
              | succ => cases e3
          have hfree : Free 1 (Env.one m (.ints l, arr)) := fun b' hb' => by
            cases b' with
            | zero => omega
            | succ n => exact ⟨rfl, fun _ => rfl, fun _ => rfl⟩
          unfold evS at h5
          split at h5
          · rename_i r hr
            split at h5
            · rename_i t2' fx a2 hpath hlook
              cases ht2 : Nat.beq t2' ty with
              | false => rw [ht2] at h5; cases h5
              | true =>
              rw [ht2] at h5
              have ht2 := Nat.eq_of_beq_eq_true ht2
              subst ht2
              cases h5
              have hb' : fn.body = some (bodyOf fn) := by
                unfold bodyOf
                cases hfb : fn.body with
                | none => rw [hfb] at hb; cases hb
                | some c => rfl
              have hcall := evF_calls hC hmix hf hb' hL hr h6 (E := Env.one m (.ints l, arr)) (us := .pointer (some ⟨m, 0, none⟩) :: us0) (w := w) (by simpa using Nat.le_of_ble_eq_true h4) (.cons ⟨m, rfl, rfl⟩ (all2_R h1')) (Mem.rows.2 hm0) hfree
              refine hcall.mono ?_
              rintro e w' ⟨E', u2, hle, rfl, hv2, hm2R⟩
              have hm2 := Mem.rows.1 hm2R
              have hv := h3 (E'.addh nilF) u2 (fun ks => Or.inr ⟨ks, rfl, rfl⟩) (AV.untip_R (hv2.mono (But.addh 0 E' nilF).le))
              obtain ⟨m2, vs2, s1, s2, s3⟩ := hm2.hp 0 _ hlook rfl
              have : m2 = m := by
                have := hle.m 0 m rfl
                rw [s1] at this; cases this; rfl
              subst this
              cases s3 with
              | cons t1 s3 =>
                rename_i c2 vs3
                obtain ⟨w3, hw3, t2⟩ := all2_one s3
                subst hw3
                cases (t2 : w3 = _)
                obtain ⟨arr2, y1, y2⟩ := t1
                have hy := hle.r 0 0 (.ints l, arr) rfl
                rw [y1] at hy
                cases hy
                have hwr := hm.wrote (cs := [.ext k j (.ints l) 0, .int .i64 a']) hl g1 rfl (vs := [c2, .int .i64 a']) (.cons ⟨arr, e1, y2⟩ (.cons rfl .nil)) hm2.kept.os hm2.kept.tape hm2.kept.output hm2.kept.size (fun i hi hne => hm2.kept.block i hi fun ⟨b2, hb2⟩ => hne (own_one hb2).2.symm) s2
                refine ⟨E.addh (E'.addh nilF).h, u2, But.addh _ _ _, rfl, AV.flat_R (E := E'.addh nilF) (E' := E.addh (E'.addh nilF).h) (fun _ _ h => .inr h) hfl hv, Mem.rows.2 (hwr.addh fun f v hv => ?_)⟩
                rcases hv with hv | ⟨ks, rfl, rfl⟩
                rotate_left
                · exact nil_tab ks _ _
                refine (fctI B).hv_mono f _ _ w' w' v (hm2.fv f v hv) (fun k0 o _ hd => .inl ⟨?_, ?_⟩) fun _ _ => .inl rfl
                · rcases hd with hd | hd
                  · exact .inl hd
                  · exact .inr (Dirt.write (blk := streamBlk t2' k j l a') (vs := [c2, .int .i64 a']) (.cons ⟨arr, e1, y2⟩ (.cons rfl .nil)) hd)
                · rcases hd with hd | ⟨b3, hd⟩ | ⟨b3, _, n3, _, v3, _, _, d3, d4, _⟩
                  · exact hd.2
                  · exact hm.loc b3 k0 (.inl hd)
                  · exact hm.loc b3 k0 (.inr ⟨n3, v3, d3, d4⟩)
            · cases h5
          · cases h5
    · cases hrun
  · cases hrun
end Go.Proofs.Ytagbpehfieejcaa

