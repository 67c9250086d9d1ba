/-
  A callee that is a closure over one local block of numbers: its specification may look at the block.
  Conditions: the block's cells are integers, and the callee leaves the block as it is.
-/
import Derived.Test.YtoaoifiklnbknaaLV
set_option linter.unusedVariables false
set_option linter.unusedSimpArgs false
namespace Go.Proofs.Ytoaoifiklnbknaa.Ev
open Go.RowKit
variable {F : Type}
def AC.intB : AC F → Bool
  | .int _ _ => true
  | _ => false
theorem AC.intB_R {E E' : Env F} {c : AC F} {v : Value} (h : c.intB = true) (H : c.R E v) : c.R E' v := by
  cases c <;> simp only [AC.intB] at h <;> first | exact H | cases h
theorem AC.intB_eq {E E' : Env F} {c : AC F} {v v' : Value} (h : c.intB = true) (H : c.R E v) (H' : c.R E' v') : v = v' := by
  cases c <;> simp only [AC.intB] at h <;> first | exact (show v = _ from H).trans (show v' = _ from H').symm | cases h
theorem ints_eq {E E' : Env F} : ∀ {l : List (AC F)} {vs vs' : List Value}, l.all AC.intB = true → All2 (AC.R E) l vs → All2 (AC.R E') l vs' → vs = vs'
  | [], _, _, _, H, H' => by cases H; cases H'; rfl
  | a :: l, _, _, h, H, H' => by
    cases H with
    | cons r H => cases H' with
      | cons r' H' =>
        simp only [List.all_cons, Bool.and_eq_true] at h
        rw [AC.intB_eq h.1 r r', ints_eq h.2 H H']
theorem ints_tok {ty : TypeId} {l : List (AC F)} (h : l.all AC.intB = true) : (Blk.tok ⟨ty, l⟩ : Option (Nat × Nat)) = none := by
  unfold Blk.tok
  split
  · rename_i n sz e
    simp only at e
    rw [e] at h
    cases h
  · rfl
/-- A closure: the specification is given the block's cells. -/
def capSp (ty : TypeId) (g : List (AV F) → List (AC F) → Option (AV F × List (Bool × Bool))) : FnSp F where
  blocks := fun args => match args.getLast? with
    | some (.w (.one (.ptr b 0))) => [b]
    | _ => []
  run := fun _ args bs => match bs, args.getLast? with
    | [blk], some (.w (.one (.ptr b 0))) => bif Nat.beq blk.ty ty && blk.cs.all AC.intB then match g args.dropLast blk.cs with
        | some (v, cd) => some ⟨v, [], cd⟩
        | none => none
      else none
    | _, _ => none
/-- The callee by itself: its block is slot 0. -/
def evCap (c : Ctx F) (fn : Func) (args : List (AV F)) (ty : TypeId) (cs : List (AC F)) (path : List Bool) : Option (AV F × List (Bool × Bool)) :=
  match evFn c 400 fn (args ++ [.w (.one (.ptr 0 0))]) [(0, ⟨ty, cs⟩)] 1 (.fix path) with
  | some r => match r.path with
    | .fix [] => match r.val, Ev.look 0 r.hp with
      | .w x, some blk => bif Nat.beq blk.ty ty then some (.tup [x, .agg blk.cs], r.cd) else none
      | _, _ => none
    | _ => none
  | none => none
theorem capSp_ok {P : Program} {I : Interp F} {c : Ctx F} (hC : CtxOk P I c) (hmix : P.follows .mixedOrders = true) {f : FuncId} {fn : Func} (hf : P.funcs[f]? = some fn) (hb : fn.body.isSome = true) (hL : LpsOk P I c.lps fn.ntmps (bodyOf fn))
    {ty : TypeId} {g : List (AV F) → List (AC F) → Option (AV F × List (Bool × Bool))}
    (h : ∀ args cs v cd, g args cs = some (v, cd) → (∀ p ∈ cd, p.1 = p.2) → args.all AV.flat = true ∧ v.flat = true ∧ Nat.ble (args.length + 1) fn.ntmps = true ∧
      ∃ path x cd', evCap c fn args ty cs path = some (.tup [x, .agg cs], cd') ∧ (∀ E u, (AV.w x).untip.R E u → v.R E u) ∧ ∀ p ∈ cd', p.1 = p.2) : (capSp ty g).ok P I f := by
  intro E hp w slot args us bs out dt hrun ha hbl hm hfr hc
  simp only [capSp] at hrun hbl
  split at hrun
  · rename_i blk b hlast
    rw [hlast] at hbl
    simp only at hbl
    cases hti : Nat.beq blk.ty ty && blk.cs.all AC.intB with
    | false => rw [hti] at hrun; cases hrun
    | true =>
    rw [hti] at hrun
    simp only [cond_true] at hrun
    rw [Bool.and_eq_true] at hti
    obtain ⟨hty, hint⟩ := hti
    have hty : blk.ty = ty := Nat.eq_of_beq_eq_true hty
    subst hty
    split at hrun
    · rename_i v cd hg
      cases hrun
      have hlk : Ev.look b hp = some blk := by
        simp only [looks] at hbl
        split at hbl
        · rename_i y hy
          cases hbl; exact hy
        · cases hbl
      have hargs : args = args.dropLast ++ [.w (.one (.ptr b 0))] := by
        have hne : args ≠ [] := fun e => by rw [e] at hlast; cases hlast
        have := List.dropLast_concat_getLast hne
        rw [List.getLast?_eq_some_getLast hne] at hlast
        rw [Option.some.inj hlast] at this
        exact this.symm
      rw [hargs] at ha
      obtain ⟨us', u, rfl, ha1, k, hk, rfl⟩ := all2_snoc ha
      simp only at hk
      obtain ⟨k', vs, hk', hcell, hcs⟩ := hm.hp b blk hlk (hm.plain hlk hk)
      rw [hk] at hk'; cases hk'
      obtain ⟨h1, h2, h3, path, y, cd', h4, h5, h6⟩ := h _ _ v cd hg hc
      generalize hE1 : (⟨fun i => if i = 0 then some k else none, fun _ _ => none, E.h, fun _ _ => none⟩ : Env F) = E1 at *
      have m0 : E1.m 0 = some k := by subst hE1; rfl
      have m1 : ∀ i, i ≠ 0 → E1.m i = none := fun i hi => by subst hE1; exact if_neg hi
      have q1 : ∀ i n, E1.q i n = none := fun i n => by subst hE1; rfl
      have r1 : ∀ i n, E1.r i n = none := fun i n => by subst hE1; rfl
      have eh : E1.h = E.h := by subst hE1; rfl
      have own1 : ∀ i j, E1.own i j → i = 0 ∧ j = k := fun i j H => by
        rcases H with H | ⟨_, _, H, _⟩
        · rcases Nat.eq_zero_or_pos i with e | e
          · subst e; rw [m0] at H; cases H; exact ⟨rfl, rfl⟩
          · rw [m1 i (by omega)] at H; cases H
        · rw [q1] at H; cases H
      have lk0 : ∀ (i : Nat) (x : Blk F), Ev.look i [(0, blk)] = some x → i = 0 ∧ x = blk := fun i x hx => by
        rw [look_cons] at hx
        by_cases e : 0 = i
        · rw [if_pos e] at hx; cases hx; exact ⟨e.symm, rfl⟩
        · rw [if_neg e] at hx; simp [Ev.look] at hx
      have tk : blk.tok = none := ints_tok hint
      have hm0 : Mem I ⟨w, E1.ran, Dt ⟨w, E.ran, dt⟩ E hp⟩ E1 [(0, blk)] w := by
        refine ⟨fun i x hx _ => ?_, fun i x n sz hx ht => ?_, fun i j _ n => q1 i n, fun i i' j H H' => (own1 i j H).1.trans (own1 i' j H').1.symm, fun i j H => ?_, fun i j q arr H => ?_, ⟨rfl, rfl, rfl, Nat.le_refl _, fun _ _ _ => rfl⟩, fun i j H => .inl ⟨i, H⟩, fun i j H => ?_, hm.bsz, fun q v hq => ?_, fun i n v _ _ H => ?_⟩
        · obtain ⟨rfl, rfl⟩ := lk0 i x hx
          exact ⟨k, vs, m0, hcell, all2_all (R := AC.R E) (S := AC.R E1) (p := AC.intB) (fun _ _ hfl r => AC.intB_R hfl r) hint hcs⟩
        · obtain ⟨rfl, rfl⟩ := lk0 i x hx
          rw [tk] at ht; cases ht
        · obtain ⟨rfl, rfl⟩ := own1 i j H
          exact hm.loc b _ (.inl hk)
        · rw [r1] at H; cases H
        · obtain ⟨rfl, rfl⟩ := own1 i j H
          exact hm.low b _ (.inl hk)
        · rw [eh] at hq
          refine I.hv_mono q _ _ w w v (hm.fv q v hq) (fun i o _ hd => ?_) (fun _ _ => .inl rfl)
          rcases hd with hd | ⟨i', hd⟩ | ⟨i', x, n, sz, v', hd, ht, _⟩
          · exact hd.1
          · rcases Nat.eq_zero_or_pos i' with e | e
            · subst e; rw [m0] at hd; cases hd; exact .inr (.inl ⟨b, hk⟩)
            · rw [m1 i' (by omega)] at hd; cases hd
          · obtain ⟨rfl, rfl⟩ := lk0 i' x hd
            rw [tk] at ht; cases ht
        · rw [q1] at H; cases H
      have hA : All2 (AV.R E1) (args.dropLast ++ [.w (.one (.ptr 0 0))]) (us' ++ [.pointer (some ⟨k, 0, none⟩)]) := by
        refine all2_snoc_mk ⟨k, m0, rfl⟩ (all2_all (R := AV.R E) (S := AV.R E1) (p := AV.flat) (fun _ _ hfl r => AV.flat_R (E := E) (E' := E1) (fun _ _ h => ?_) hfl r) h1 ha1)
        rw [eh]; exact h
      have hb' : fn.body = some (bodyOf fn) := by
        unfold bodyOf
        cases hfb : fn.body with
        | none => rw [hfb] at hb; cases hb
        | some c => rfl
      unfold evCap at h4
      split at h4
      · rename_i r hr
        split at h4
        · split at h4
          · rename_i x2 blk2 hv2 hl2
            cases hb2 : Nat.beq blk2.ty blk.ty with
            | false => rw [hb2] at h4; cases h4
            | true =>
            rw [hb2] at h4
            simp only [cond_true, Option.some.injEq, Prod.mk.injEq, AV.tup.injEq, List.cons.injEq, AW.agg.injEq, and_true] at h4
            obtain ⟨⟨rfl, e2⟩, rfl⟩ := h4
            have e3 : blk2.ty = blk.ty := Nat.eq_of_beq_eq_true hb2
            have hn : (args.dropLast ++ [(.w (.one (.ptr 0 0)) : AV F)]).length ≤ fn.ntmps := by
              rw [List.length_append]; exact Nat.le_of_ble_eq_true h3
            have hfr1 : Free 1 E1 := fun i hi => ⟨m1 i (by omega), fun j => r1 i j, fun n => q1 i n⟩
            refine (evF_calls hC hmix hf hb' hL hr h6 hn hA hm0 hfr1).mono ?_
            rintro e w' ⟨E', u1, q0, rfl, q2, q3⟩
            have hbel : Below w.heap.size w w' := ⟨q3.kept.os, q3.kept.tape, q3.kept.output, q3.kept.size, fun i hi => by
              by_cases ek : i = k
              · subst ek
                have tk2 : blk2.tok = none := by
                  have : blk2 = blk := by
                    cases blk2; cases blk
                    simp only at e2 e3
                    rw [e2, e3]
                  rw [this]; exact tk
                obtain ⟨k2, vs2, g1, g2, g3⟩ := q3.hp 0 blk2 hl2 tk2
                rw [q0.m _ _ m0] at g1; cases g1
                rw [e2] at g3
                rw [g2, hcell, e3, ints_eq hint g3 hcs]
              · exact q3.kept.block i hi fun ⟨b, hb⟩ => ek (own1 _ _ hb).2⟩
            rw [hv2] at q2
            refine ⟨E.addh E'.h, u1, But.addh _ _ _, rfl, AV.flat_R (E := E') (E' := E.addh E'.h) (fun _ _ h => .inr h) h2 (h5 _ _ (AV.untip_R q2)), (hm.below hbel).addh fun f v hv => I.hv_mono f _ _ w' w' v (q3.fv f v hv) (fun k o _ hd => .inl ⟨hd, ?_⟩) fun _ _ => .inl rfl⟩
            rcases hd with hd | ⟨b, hd⟩ | ⟨b, _, n, _, v, _, _, d3, d4, _⟩
            · exact hd.2
            · exact hm.loc b k (.inl hd)
            · exact hm.loc b k (.inr ⟨n, v, d3, d4⟩)
          · cases h4
        · cases h4
      · cases h4
    · cases hrun
  · cases hrun
end Go.Proofs.Ytoaoifiklnbknaa.Ev

