/-
  Loops that carry arrays under construction (and rows), beside local blocks.
  Conditions: those of each theorem.
-/
import Derived.Test.YtbnlpcmnkcaemaaDoorEv2
set_option linter.unusedVariables false
set_option linter.unusedSimpArgs false
namespace Go.Proofs.YtbnlpcmnkcaemaaDoor.Ev
open Go.RowKit
variable {F : Type}
variable {ds : List Deferred} {ro : Option Nat}

/-- The slot of a row's or an array's value. -/
def slotC : AC F → Option Nat
  | .tip b _ _ => some b
  | .wsl b _ _ _ _ => some b
  | .mpv b => some b
  | _ => none
/-- The same value at another slot. -/
def reC (s : Nat) : AC F → AC F
  | .tip _ n f => .tip s n f
  | .wsl _ sz off len cap => .wsl s sz off len cap
  | .mpv _ => .mpv s
  | x => x
theorem reC_re (s s' : Nat) (x : AC F) : reC s (reC s' x) = reC s x := by cases x <;> rfl
theorem reC_self {x : AC F} {b : Nat} (h : slotC x = some b) : reC b x = x := by cases x <;> simp only [slotC] at h <;> cases h <;> rfl
theorem reC_R {E E' : Env F} {x : AC F} {s s' : Nat} (hx : (slotC x).isSome = true) (hq : ∀ n, E'.q s' n = E.q s n) (hh : ∀ f v, E.h f v → E'.h f v) {v : Value} (H : (reC s x).R E v) : (reC s' x).R E' v := by
  cases x <;> simp only [slotC, Option.isSome_none, Bool.false_eq_true] at hx
  case tip b n f => exact ⟨hh _ _ H.1, by rw [hq]; exact H.2⟩
  case wsl b sz off len cap =>
    obtain ⟨k, c, c', h1, h2⟩ := H
    exact ⟨k, c, c', by rw [hq]; exact h1, h2⟩
  case mpv b =>
    obtain ⟨k, h1, h2⟩ := H
    exact ⟨k, by rw [hq]; exact h1, h2⟩
theorem slot_q {E : Env F} {x : AC F} {b : Nat} {v : Value} (h : slotC x = some b) (H : x.R E v) : ∃ i u, E.q b i = some u := by
  cases x <;> simp only [slotC] at h <;> cases h
  case tip n f => exact ⟨n, v, H.2⟩
  case wsl sz off len cap =>
    obtain ⟨k, c, c', h1, _⟩ := H
    exact ⟨0, _, h1⟩
  case mpv =>
    obtain ⟨k, h1, _⟩ := H
    exact ⟨0, _, h1⟩
/-- As LpDefR; rs: the temporaries that hold rows or arrays; behind the loop: temporary, place of the slot, value (its slot does not count). -/
structure LpDefA (σ F : Type) where
  ts : List Nat
  ps : List Nat
  rs : List Nat
  W : List Nat
  dec : List (AV F) → List (AC F) → List (Blk F) → Option σ
  fk : σ → Option Bool
  spec : σ → Bool → Option (Ex × List (Nat × AV F) × List (Nat × Nat × AC F) × List (Blk F) × List (Bool × Bool))
def arrs (tm : List (Nat × AV F)) : List Nat → Option (List (Nat × AC F))
  | [] => some []
  | t :: r => match look t tm with
    | some (.w (.one x)) => match slotC x with
      | some b => match arrs tm r with
        | some l => some ((b, x) :: l)
        | none => none
      | none => none
    | _ => none
def inA (l : List (Nat × Nat × AC F)) : List (Nat × AV F) := l.map fun e => (e.1, .w (.one (reC e.2.1 e.2.2)))
def outA (bs : List Nat) (l : List (Nat × Nat × AC F)) : List (Nat × AV F) := l.map fun e => (e.1, .w (.one (reC (bs.getD e.2.1 0) e.2.2)))
def LpDefA.sp {σ : Type} (d : LpDefA σ F) (safe : TypeId → Bool) : LpSp F where
  W := d.W
  fk := fun tm hp => match vals tm d.ts with
    | none => none
    | some vs => match ptrs tm d.ps with
      | none => none
      | some bp => match arrs tm d.rs with
        | none => none
        | some tr => match looks hp (bp ++ tr.map (·.1)) with
          | none => none
          | some ks => match d.dec vs (tr.map fun p => reC 0 p.2) ks with
            | none => none
            | some s => d.fk s
  run := fun tm hp β => match vals tm d.ts with
    | none => none
    | some vs => match ptrs tm d.ps with
      | none => none
      | some bp => match arrs tm d.rs with
        | none => none
        | some tr => bif apart (bp ++ tr.map (·.1)) then (match looks hp (bp ++ tr.map (·.1)) with
          | none => none
          | some ks => match d.dec vs (tr.map fun p => reC 0 p.2) ks with
            | none => none
            | some s => match d.spec s β with
              | none => none
              | some (ex, outs, rts, wb, cd) => bif okB safe ks wb && outs.all (fun e => memN e.1 d.W && e.2.flat) && rts.all (fun e => memN e.1 d.W && (Nat.blt e.2.1 (bp ++ tr.map (·.1)).length && (slotC e.2.2).isSome)) then
                  some (ex, outs ++ outA (bp ++ tr.map (·.1)) rts ++ ptrT d.ps bp, (bp ++ tr.map (·.1)).zip wb, cd) else none) else none
theorem arrs_look : ∀ {rs : List Nat} {tm : List (Nat × AV F)} {tr : List (Nat × AC F)}, arrs tm rs = some tr → rs.length = tr.length ∧ ∀ (j : Nat) (e : Nat × AC F), tr[j]? = some e → ∃ t, rs[j]? = some t ∧ look t tm = some (.w (.one e.2)) ∧ slotC e.2 = some e.1
  | [], tm, tr, h => by cases h; exact ⟨rfl, fun j e he => by simp at he⟩
  | t :: rs, tm, tr, h => by
    simp only [arrs] at h
    split at h
    · rename_i x hl
      split at h
      · rename_i b hb
        split at h
        · rename_i l htl
          cases h
          obtain ⟨g1, g2⟩ := arrs_look htl
          refine ⟨by simp [g1], fun j e he => ?_⟩
          cases j with
          | zero => simp at he; subst he; exact ⟨t, rfl, hl, hb⟩
          | succ j => simpa using g2 j e (by simpa using he)
        · cases h
      · cases h
    · cases h
theorem rowsA_look {bs : List Nat} {t : Nat} {y : AV F} : ∀ {l : List (Nat × Nat × AC F)}, look t (outA bs l) = some y → ∃ e ∈ l, y = .w (.one (reC (bs.getD e.2.1 0) e.2.2)) ∧ look t (inA l) = some (.w (.one (reC e.2.1 e.2.2)))
  | [], h => by cases h
  | e :: l, h => by
    simp only [outA, inA, List.map_cons, look_cons] at h ⊢
    by_cases q : e.1 = t
    · rw [if_pos q] at h; cases h
      exact ⟨e, List.mem_cons_self, rfl, if_pos q⟩
    · rw [if_neg q] at h
      obtain ⟨e', h1, h2, h3⟩ := rowsA_look h
      exact ⟨e', List.mem_cons_of_mem _ h1, h2, (if_neg q).trans h3⟩
theorem rowsA_none {bs : List Nat} {t : Nat} : ∀ {l : List (Nat × Nat × AC F)}, look t (outA bs l) = none → look t (inA l) = none
  | [], _ => rfl
  | e :: l, h => by
    simp only [outA, inA, List.map_cons, look_cons] at h ⊢
    by_cases q : e.1 = t
    · rw [if_pos q] at h; cases h
    · rw [if_neg q] at h ⊢; exact rowsA_none h
theorem lpA_ok {P : Program} {I : Interp F} {c : Ctx F} (hC : CtxOk P I c) (hmix : P.follows .mixedOrders = true) (hno : ∀ f w arr, ¬ I.holds f w arr) {nt : Nat} {pos : List Bool} {code0 x : Code} (hat : codeAt code0 pos = some (.loop x)) (hL : LpsOk P I c.lps nt code0)
    {σ : Type} {S : LpSt σ F} {step : σ → Nxt σ F} {d : LpDefA σ F} {safe : TypeId → Bool} (hsafe : ∀ t, safe t = true → I.safe t = true)
    (hW : (touch c.lps nt x (false :: pos)).all (fun i => memN i d.W) = true) (hps : (d.ps.map pT ++ d.ts).all (fun i => memN i d.W) = true)
    (hdec : ∀ vs tr ks s, vs.length = d.ts.length → tr.length = d.rs.length → d.dec vs tr ks = some s → ks.length = d.ps.length + d.rs.length → S.hp s = ks ∧
      ∀ e ∈ S.tm s, e ∈ d.ts.zip vs ∨ ∃ (j t : Nat) (x : AC F), d.rs[j]? = some t ∧ tr[j]? = some x ∧ e = (t, .w (.one (reC (d.ps.length + j) x))))
    (hSp : S.ps = d.ps)
    (hK : ∀ s e, e ∈ S.tm s → memN e.1 d.W = true)
    (hrd : ∀ s, (step s).isBad = false → ∀ rest, ∃ fuel path r, evC c fuel nt (false :: pos) x (S.tm s ++ (ptrN 0 S.ps ++ rest)) (numb 0 (S.hp s)) (d.ps.length + d.rs.length) path = some r ∧ (∀ p ∈ r.cd, p.1 = p.2) ∧ Gives S (d.ps.length + d.rs.length) r (step s))
    (hspec : ∀ s β ex outs rts wb cd, d.spec s β = some (ex, outs, rts, wb, cd) → (∀ b, d.fk s = some b → b = β) → (∀ p ∈ cd, p.1 = p.2) → ∃ n, runs step n s = some (ex, outs ++ inA rts, wb)) : LpOk P I nt x (d.sp safe) := by
  have inW : ∀ i, memN i d.W = false → memN i (touch c.lps nt x (false :: pos)) = false := fun i hi => by
    cases h : memN i (touch c.lps nt x (false :: pos)) with
    | false => rfl
    | true => have := (List.all_eq_true.1 hW) i (memN_iff.1 h); rw [hi] at this; cases this
  have psW : ∀ i ∈ d.ps, memN (pT i) d.W = true := fun i hi => (List.all_eq_true.1 hps) (pT i) (List.mem_append_left _ (List.mem_map_of_mem hi))
  refine ⟨fun tm hp β ex outs wb cd hrun e he => ?_, fun tm hp β ex outs wb cd hrun hfk hc ro ds E w0 a w Q ht hm hQ => ?_⟩
  · simp only [LpDefA.sp] at hrun ⊢
    split at hrun
    · cases hrun
    split at hrun
    · cases hrun
    rename_i bp hbp
    split at hrun
    · cases hrun
    rename_i tr htr
    generalize hbs : bp ++ tr.map (·.1) = bs at hrun
    cases hap : apart bs with
    | false => rw [hap] at hrun; cases hrun
    | true =>
      rw [hap] at hrun; simp only [cond_true] at hrun
      split at hrun
      · cases hrun
      split at hrun
      · cases hrun
      split at hrun
      · cases hrun
      rename_i ex' outs' rts' wb' cd' hsp
      generalize hok : (okB safe _ wb' && outs'.all (fun e => memN e.1 d.W && e.2.flat) && rts'.all (fun e => memN e.1 d.W && (Nat.blt e.2.1 bs.length && (slotC e.2.2).isSome))) = z at hrun
      cases z with
      | false => cases hrun
      | true =>
        simp only [cond_true] at hrun
        cases hrun
        simp only [Bool.and_eq_true] at hok
        rcases List.mem_append.1 he with he | he
        · rcases List.mem_append.1 he with he | he
          · have := (List.all_eq_true.1 hok.1.2) e he
            simp only [Bool.and_eq_true] at this
            exact this.1
          · obtain ⟨e', h1, rfl⟩ := List.mem_map.1 he
            have := (List.all_eq_true.1 hok.2) e' h1
            simp only [Bool.and_eq_true] at this
            exact this.1
        · obtain ⟨j, p, b, h1, _, rfl⟩ := ptrT_mem he
          exact psW p (List.mem_of_getElem? h1)
  · simp only [LpDefA.sp] at hrun hQ
    split at hrun
    · cases hrun
    rename_i vs hvs
    split at hrun
    · cases hrun
    rename_i bp hbp
    split at hrun
    · cases hrun
    rename_i tr htr
    generalize hbs : bp ++ tr.map (·.1) = bs at hrun
    cases hap : apart bs with
    | false => rw [hap] at hrun; cases hrun
    | true =>
    rw [hap] at hrun; simp only [cond_true] at hrun
    split at hrun
    · cases hrun
    rename_i ks hks
    split at hrun
    · cases hrun
    rename_i s hs
    split at hrun
    · cases hrun
    rename_i ex' outs' rts' wb' cd' hsp
    generalize hok : (okB safe ks wb' && outs'.all (fun e => memN e.1 d.W && e.2.flat) && rts'.all (fun e => memN e.1 d.W && (Nat.blt e.2.1 bs.length && (slotC e.2.2).isSome))) = z at hrun
    cases z with
    | false => cases hrun
    | true =>
    simp only [cond_true] at hrun
    cases hrun
    simp only [Bool.and_eq_true] at hok
    obtain ⟨ok1, ok2⟩ := okB_get hok.1.1
    have okF : ∀ e ∈ outs', memN e.1 d.W = true ∧ e.2.flat = true := fun e he => by have := (List.all_eq_true.1 hok.1.2) e he; simpa only [Bool.and_eq_true] using this
    have okR : ∀ e ∈ rts', memN e.1 d.W = true ∧ e.2.1 < bs.length ∧ (slotC e.2.2).isSome = true := fun e he => by
      have := (List.all_eq_true.1 hok.2) e he
      simp only [Bool.and_eq_true, Nat.blt_eq] at this
      exact this
    have hfs : ∀ b, d.fk s = some b → b = β := fun b hb => hfk b (by
      simp only [LpDefA.sp, hvs, hbp, htr, hbs, hks, hs]; exact hb)
    obtain ⟨n, hn⟩ := hspec s β ex outs' rts' wb' cd hsp hfs hc
    obtain ⟨pl1, pl2⟩ := ptrs_look hbp
    obtain ⟨tl1, tl2⟩ := arrs_look htr
    obtain ⟨kl1, kl2⟩ := looks_get hks
    have hbl : bs.length = d.ps.length + d.rs.length := by rw [← hbs]; simp [pl1, tl1]
    have okW : ∀ (j : Nat) (y : Blk F), wb'[j]? = some y → y.cs.all AC.flat = true := fun j y hy => by
      have hl : j < ks.length := by rw [ok1]; exact (List.getElem?_eq_some_iff.1 hy).1
      exact (ok2 j ks[j] y (List.getElem?_eq_getElem hl) hy).2.2.2
    have hvl : vs.length = d.ts.length := by
      have : ∀ {ts : List Nat} {vs : List (AV F)}, vals tm ts = some vs → vs.length = ts.length := by
        intro ts
        induction ts with
        | nil => intro vs h; cases h; rfl
        | cons t ts ih =>
          intro vs h
          simp only [vals] at h
          split at h
          · rename_i v hv
            cases hf : v.untip.flat with
            | false => rw [hf] at h; cases h
            | true =>
              rw [hf] at h; simp only [cond_true] at h
              split at h
              · rename_i l hl; cases h; simp [ih hl]
              · cases h
          · cases h
      exact this hvs
    obtain ⟨hhp, htm⟩ := hdec vs (tr.map fun p => reC 0 p.2) ks s hvl (by simp [tl1]) hs (by rw [← kl1, hbl])
    have bsP : ∀ {j b : Nat}, bp[j]? = some b → bs[j]? = some b := fun {j b} h => by
      rw [← hbs, List.getElem?_append_left (List.getElem?_eq_some_iff.1 h).1]; exact h
    have bsR : ∀ {j : Nat} {e : Nat × AC F}, tr[j]? = some e → bs[d.ps.length + j]? = some e.1 := fun {j e} h => by
      rw [← hbs, pl1, List.getElem?_append_right (by omega), Nat.add_sub_cancel_left, List.getElem?_map, h]; rfl
    -- of what kind a slot is
    have kind : ∀ (j b : Nat), bs[j]? = some b → (∃ k, E.m b = some k) ∨ ∃ i u, E.q b i = some u := fun j b hj => by
      rcases Nat.lt_or_ge j d.ps.length with q | q
      · obtain ⟨b', z1, z2⟩ := pl2 j d.ps[j] (List.getElem?_eq_getElem q)
        rw [bsP z1] at hj; cases hj
        obtain ⟨u, _, uR⟩ := ht.tm _ _ z2
        obtain ⟨k, u2, _⟩ := pV_R.1 uR
        exact .inl ⟨k, u2⟩
      · have hjl : j < d.ps.length + d.rs.length := by rw [← hbl]; exact (List.getElem?_eq_some_iff.1 hj).1
        have hjt : j - d.ps.length < tr.length := by rw [← tl1]; omega
        have he := List.getElem?_eq_getElem hjt
        have := bsR he
        rw [show d.ps.length + (j - d.ps.length) = j by omega, hj] at this
        obtain ⟨t, _, z2, z3⟩ := tl2 _ _ he
        obtain ⟨u, _, u2⟩ := ht.tm _ _ z2
        obtain ⟨i, v, hv⟩ := slot_q z3 u2
        exact .inr ⟨i, v, by rw [Option.some.inj this]; exact hv⟩
    -- the loop's own world
    have hT0 : Tms ds (E.lpq bs) nt (S.tm s ++ (ptrN 0 S.ps ++ restT d.W a nt)) a := by
      refine ⟨fun i v hv => ?_, ht.sz, ht.df⟩
      rw [look_append] at hv
      split at hv
      · rename_i y hy
        cases hv
        rcases htm _ (look_mem hy) with h | ⟨j, t, x, h1, h2, h3⟩
        · obtain ⟨y, z1, z0, z2⟩ := vals_look hvs _ h
          obtain ⟨u, u1, u2⟩ := ht.tm i _ z1
          replace u2 := AV.untip_R u2
          rw [z0] at u2
          exact ⟨u, u1, AV.flat_R (E := E) (E' := E.lpq bs) (fun _ _ h => h) z2 u2⟩
        · simp only [Prod.mk.injEq] at h3
          obtain ⟨rfl, rfl⟩ := h3
          rw [List.getElem?_map] at h2
          cases hte : tr[j]? with
          | none => rw [hte] at h2; cases h2
          | some e =>
            rw [hte] at h2
            simp only [Option.map_some, Option.some.injEq] at h2
            obtain ⟨t', z1, z2, z3⟩ := tl2 j e hte
            rw [h1] at z1; cases z1
            obtain ⟨u, u1, u2⟩ := ht.tm _ _ z2
            refine ⟨u, u1, ?_⟩
            rw [← h2, reC_re]
            exact reC_R (E := E) (s := e.1) (by rw [z3]; rfl) (fun n => Env.lpq_q (bsR hte) n) (fun _ _ h => h) (by rw [reC_self z3]; exact u2)
      rw [look_append] at hv
      split at hv
      · rename_i y hy
        cases hv
        obtain ⟨j, p, h1, h2⟩ := ptrN_mem (look_mem hy)
        rw [hSp] at h1
        obtain ⟨b, hb1, hb2⟩ := pl2 j p h1
        simp only [Prod.mk.injEq, Nat.zero_add] at h2
        obtain ⟨rfl, rfl⟩ := h2
        obtain ⟨u, u1, uR⟩ := ht.tm _ _ hb2
        obtain ⟨k, u2, u3⟩ := pV_R.1 uR
        exact ⟨u, u1, pV_R.2 ⟨k, by rw [Env.lpq_m (bsP hb1)]; exact u2, u3⟩⟩
      · obtain ⟨h1, h2, h3⟩ := restT_mem (look_mem hv)
        simp only at h1 h2 h3
        subst h3
        have hlt : i < a.tmps.size := by rw [ht.sz]; exact h1
        refine ⟨a.tmps.getD i undef, ?_, rfl⟩
        rw [Array.getD_eq_getD_getElem?, Array.getElem?_eq_getElem hlt]; rfl
    have hPk : ∀ i, memN i d.W = false → look i (ptrN 0 S.ps : List (Nat × AV F)) = none := fun i hi => look_none fun e he e' => by
      obtain ⟨j, p, h1, rfl⟩ := ptrN_mem he
      have := psW p (hSp ▸ List.mem_of_getElem? h1)
      simp only at e'
      rw [e', hi] at this; cases this
    have dirtX : ∀ {k o}, DirtX E hp bs k o → Dirt E hp k o := fun h => by
      rcases h with ⟨b, _, h⟩ | ⟨b, blk, i, sz, v, _, h⟩
      · exact .inl ⟨b, h⟩
      · exact .inr ⟨b, blk, i, sz, v, h⟩
    have dirtO : ∀ {k o}, DirtX E hp bs k o → ∃ b, b ∉ bs ∧ E.own b k := fun h => by
      rcases h with ⟨b, h1, h⟩ | ⟨b, _, i, _, v, h1, _, _, h3, h4, _⟩
      · exact ⟨b, h1, .inl h⟩
      · exact ⟨b, h1, .inr ⟨i, v, h3, h4⟩⟩
    have getB : ∀ b blk, look b (numb 0 (S.hp s)) = some blk → ∃ b', bs[b]? = some b' ∧ look b' hp = some blk := fun b blk hb => by
      rw [hhp, numb0_get] at hb
      have hlt : b < bs.length := by rw [kl1]; exact (List.getElem?_eq_some_iff.1 hb).1
      obtain ⟨k', g1, g2⟩ := kl2 b bs[b] (List.getElem?_eq_getElem hlt)
      rw [hb] at g1; cases g1
      exact ⟨bs[b], List.getElem?_eq_getElem hlt, g2⟩
    have hM0 : Mem I ⟨w, (E.lpq bs).ran, fun k o => w0.out k o ∨ DirtX E hp bs k o⟩ (E.lpq bs) (numb 0 (S.hp s)) w := by
      refine ⟨fun b blk hb hx => ?_, fun b blk i sz hb hx => ?_, fun i k h i' => ?_, fun i j k h1 h2 => ?_, fun i k h => ?_, fun k j f arr h => by (cases h), ⟨rfl, rfl, rfl, Nat.le_refl _, fun _ _ _ => rfl⟩, fun i k h => .inl ⟨i, h⟩, fun i k h => ?_, hm.bsz, fun f v hv => I.hv_mono f _ _ w w v (hm.fv f v hv) (fun k o _ hd => ?_) (fun _ _ => .inl rfl), fun b i v k o h1 h2 h3 => ?_⟩
      · obtain ⟨b', g1, g2⟩ := getB b blk hb
        obtain ⟨k, vs', z1, z2, z3⟩ := hm.hp b' blk g2 hx
        refine ⟨k, vs', by rw [Env.lpq_m g1]; exact z1, z2, ?_⟩
        rw [hhp, numb0_get] at hb
        have hwl : b < wb'.length := by rw [← ok1]; exact (List.getElem?_eq_some_iff.1 hb).1
        exact all2_all (fun _ _ => AC.flat_R (E := E) (E' := E.lpq bs) fun _ _ h => h) (ok2 b blk wb'[b] hb (List.getElem?_eq_getElem hwl)).2.2.1 z3
      · obtain ⟨b', g1, g2⟩ := getB b blk hb
        obtain ⟨t1, t2, t3, t4⟩ := hm.tok b' blk i sz g2 hx
        refine ⟨⟨t1.1, fun ks l hl => by
          obtain ⟨k', c', cur, q1, q2⟩ := t1.2 ks l hl
          exact ⟨k', c', cur, by rw [Env.lpq_q g1]; exact q1, q2⟩⟩, t2, fun m hm' => by rw [Env.lpq_q g1]; exact t3 m hm', ?_⟩
        rw [Env.lpq_q g1]; exact t4
      · obtain ⟨b, g1, g2⟩ := lpq_some h
        rw [Env.lpq_q g1]; exact hm.exc b k g2 i'
      · obtain ⟨b1, g1, g2⟩ := own_lpq h1
        obtain ⟨b2, q1, q2⟩ := own_lpq h2
        have := hm.inj b1 b2 k g2 q2
        subst this
        exact apart_inj hap i j b1 g1 q1
      · obtain ⟨b1, g1, g2⟩ := own_lpq h; exact hm.loc b1 k g2
      · obtain ⟨b1, g1, g2⟩ := own_lpq h; exact hm.low b1 k g2
      · rcases hd with ⟨hd | hd, _⟩ | ⟨b, hb⟩ | ⟨b, blk, i, sz, v, h1, h2, h3, h4⟩
        · exact .inl hd
        · exact .inr (dirtX hd)
        · obtain ⟨b1, g1, g2⟩ := lpq_some hb; exact .inr (.inl ⟨b1, g2⟩)
        · obtain ⟨b', g1, g2⟩ := getB b blk h1
          rw [Env.lpq_q g1] at h3
          exact .inr (.inr ⟨b', blk, i, sz, v, g2, h2, h3, h4⟩)
      · obtain ⟨b1, g1, g2⟩ := lpqq_some h1
        rcases h3.1 with h3 | h3
        · exact hm.apt b1 i v k o g2 h2 h3
        · obtain ⟨b2, q1, q2⟩ := dirtO h3
          have := hm.inj b2 b1 k q2 (.inr ⟨i, v, g2, h2⟩)
          subst this
          exact q1 (List.mem_of_getElem? g1)
    have hF0 : Free (d.ps.length + d.rs.length) (E.lpq bs) := fun i hi => by
      have hx : bs[i]? = none := List.getElem?_eq_none (by omega)
      exact ⟨by show (match bs[i]? with | some b => E.m b | .none => .none) = .none; rw [hx], fun _ => rfl, fun i' => by show (match bs[i]? with | some b => E.q b i' | .none => .none) = .none; rw [hx]⟩
    refine wpIn_loop_rounds n (rounds_ok hC hmix hat hL (S := S) (W := d.W) inW hrd hK (fun p hp => psW p (hSp ▸ hp)) (by rw [hSp]; omega) (fun e he => ⟨(restT_mem he).2.1, by rw [(restT_mem he).2.2]; rfl⟩) n s ex (outs' ++ inA rts') wb' hn (E.lpq bs) a w Q hT0 hM0 hF0 fun E' a' w' s1 s2 s2q s3 s4 => ?_)
    -- back to the outer world
    have low : ∀ {j b : Nat}, bs[j]? = some b → Nat.blt j (d.ps.length + d.rs.length) = true := fun {j b} h => by
      rw [Nat.blt_eq, ← hbl]; exact (List.getElem?_eq_some_iff.1 h).1
    have hmm : ∀ (j b k : Nat), bs[j]? = some b → E.m b = some k → E'.m j = some k := fun j b k hj hk => s2 j k (low hj) (by rw [Env.lpq_m hj]; exact hk)
    have hqq : ∀ (j b i : Nat) (v : Value), bs[j]? = some b → E.q b i = some v → E'.q j i = some v := fun j b i v hj hk => s2q j i v (low hj) (by rw [Env.lpq_q hj]; exact hk)
    have hin : ∀ {b : Nat}, b ∈ bs → ∃ j : Nat, bs[j]? = some b := fun h => List.mem_iff_getElem?.1 h
    have hle : E.le (E.lpb E' bs) := ⟨fun _ _ h => h, fun _ _ _ h => h, fun f v h => s1 f v h, fun b i v h => by
      by_cases hb : b ∈ bs
      · obtain ⟨j, hj⟩ := hin hb
        rw [lpb_in hap hj]; exact hqq j b i v hj h
      · rw [lpb_out hb]; exact h⟩
    have blocks : ∀ k, k < w.heap.size → (∀ b ∈ bs, ¬ E.own b k) → w'.heap[k]? = w.heap[k]? := fun k hk hne =>
      s4.kept.block k hk fun ⟨j, hj⟩ => by
        obtain ⟨b, g1, g2⟩ := own_lpq hj
        exact hne b (List.mem_of_getElem? g1) g2
    have oldB : ∀ b, b ∉ bs → ∀ k, E.own b k → w'.heap[k]? = w.heap[k]? := fun b hno' k hk =>
      blocks k (hm.loc b k hk) fun b' hb' hk' => hno' (by rw [hm.inj b b' k hk hk']; exact hb')
    have zipN : ∀ {b : Nat}, look b (bs.zip wb') = none → b ∉ bs := fun h => zip_none (by rw [kl1, ok1]) h
    have excB : ∀ (b k : Nat), E.m b = some k → ∀ i, (E.lpb E' bs).q b i = none := fun b k h i => by
      by_cases hb : b ∈ bs
      · obtain ⟨j, hj⟩ := hin hb
        rw [lpb_in hap hj]; exact s4.exc j k (hmm j b k hj h) i
      · rw [lpb_out hb]; exact hm.exc b k h i
    have own2 : ∀ {b k : Nat}, (E.lpb E' bs).own b k → (b ∉ bs ∧ E.own b k) ∨ ∃ j : Nat, bs[j]? = some b ∧ E'.own j k := fun {b k} h => by
      by_cases hb : b ∈ bs
      · obtain ⟨j, hj⟩ := hin hb
        refine .inr ⟨j, hj, ?_⟩
        rcases h with h | ⟨i, v, h1, h2⟩
        · exact .inl (hmm j b k hj h)
        · rw [lpb_in hap hj] at h1; exact .inr ⟨i, v, h1, h2⟩
      · refine .inl ⟨hb, ?_⟩
        rcases h with h | ⟨i, v, h1, h2⟩
        · exact .inl h
        · rw [lpb_out hb] at h1; exact .inr ⟨i, v, h1, h2⟩
    have inO : ∀ {j k : Nat}, E'.own j k → (∃ b, b ∈ bs ∧ E.own b k) ∨ w.heap.size ≤ k := fun h => by
      rcases s4.new _ _ h with ⟨i, h⟩ | h
      · obtain ⟨b, g1, g2⟩ := own_lpq h
        exact .inl ⟨b, List.mem_of_getElem? g1, g2⟩
      · exact .inr h
    refine hQ (E.lpb E' bs) a' w' hle rfl rfl (fun b hb i => ?_) ?_ ?_
    · by_cases hbb : b ∈ bs
      · obtain ⟨j, hj⟩ := hin hbb
        rcases kind j b hj with ⟨k, hk⟩ | ⟨i', u, hu⟩
        · exact excB b k hk i
        · rw [hb i'] at hu; cases hu
      · rw [lpb_out hbb]; exact hb i
    · refine ⟨fun i v hv => ?_, s3.sz, s3.df⟩
      rw [look_append] at hv
      split at hv
      · rename_i y hy
        cases hv
        rw [look_append] at hy
        split at hy
        · rename_i z hz
          cases hy
          rw [look_append] at hz
          split at hz
          · rename_i z' hz'
            cases hz
            obtain ⟨u, u1, u2⟩ := s3.tm i _ (by rw [look_append, look_append, hz'])
            exact ⟨u, u1, AV.flat_R (E := E') (E' := E.lpb E' bs) (fun _ _ h => h) (okF _ (look_mem hz')).2 u2⟩
          · rename_i hn'
            obtain ⟨e, e1, rfl, e3⟩ := rowsA_look hz
            obtain ⟨u, u1, u2⟩ := s3.tm i _ (by rw [look_append, look_append, hn']; simp only; rw [e3])
            have hj := List.getElem?_eq_getElem (okR e e1).2.1
            refine ⟨u, u1, ?_⟩
            have hg : bs.getD e.2.1 0 = bs[e.2.1]'(okR e e1).2.1 := by rw [List.getD_eq_getElem?_getD, hj]; rfl
            rw [hg]
            exact reC_R (E := E') (s := e.2.1) (okR e e1).2.2 (fun n => lpb_in hap hj n) (fun _ _ h => h) u2
        · rename_i hnone
          rw [look_append] at hnone
          have hnone' : look i (outs' ++ inA rts') = none := by
            rw [look_append]
            split at hnone
            · cases hnone
            · exact rowsA_none hnone
          obtain ⟨j, p, b, h1, h2, h3⟩ := ptrT_mem (look_mem hy)
          simp only [Prod.mk.injEq] at h3
          obtain ⟨rfl, rfl⟩ := h3
          have hap2 : ∃ j', d.ps[j']? = some p ∧ look (pT p) (ptrN 0 S.ps : List (Nat × AV F)) = some (pV p j') := by
            cases hq : look (pT p) (ptrN 0 S.ps : List (Nat × AV F)) with
            | none => exact absurd hq (fun hq => ptrN_none (t := p) hq (by rw [hSp]; exact List.mem_of_getElem? h1))
            | some y =>
              obtain ⟨j', p', z1, z2⟩ := ptrN_mem (look_mem hq)
              simp only [Prod.mk.injEq, Nat.zero_add] at z2
              obtain ⟨z2, rfl⟩ := z2
              rw [hSp] at z1
              obtain ⟨b1, y1, y2⟩ := pl2 j' p' z1
              obtain ⟨b2, y3, y4⟩ := pl2 j p h1
              rw [← z2, y4] at y2
              obtain ⟨rfl, _⟩ := pV_inj2 z2 (Option.some.inj y2)
              exact ⟨j', z1, rfl⟩
          obtain ⟨j', z1, z2⟩ := hap2
          obtain ⟨b', zb1, zb2⟩ := pl2 j' p z1
          obtain ⟨b2, zb3, zb4⟩ := pl2 j p h1
          rw [h2] at zb3; cases zb3
          rw [zb2] at zb4
          have zb5 := pV_inj (Option.some.inj zb4)
          subst zb5
          obtain ⟨u, u1, uR⟩ := s3.tm _ _ (by rw [look_append, hnone']; simp only; rw [look_append, z2])
          obtain ⟨k, u2, u3⟩ := pV_R.1 uR
          obtain ⟨u0, _, uR0⟩ := ht.tm _ _ zb2
          obtain ⟨k0, k1, _⟩ := pV_R.1 uR0
          have hE' := hmm j' b' k0 (bsP zb1) k1
          have hkk : k0 = k := by rw [hE'] at u2; exact Option.some.inj u2
          exact ⟨u, u1, pV_R.2 ⟨k, by rw [← hkk]; exact k1, u3⟩⟩
      · have hi := keep_keys (look_mem hv)
        rw [look_keep hi] at hv
        obtain ⟨u, u1, u2⟩ := ht.tm i v hv
        have hlt : i < nt := by rw [← ht.sz]; exact (Array.getElem?_eq_some_iff.1 u1).1
        have hno' : look i (outs' ++ inA rts') = none := look_none fun e he e' => by
          rcases List.mem_append.1 he with he | he
          · have := (okF e he).1
            rw [e', hi] at this; cases this
          · obtain ⟨e2, h1, rfl⟩ := List.mem_map.1 he
            have := (okR e2 h1).1
            simp only at e'
            rw [e', hi] at this; cases this
        obtain ⟨u', q1, q2⟩ := s3.tm i _ (by rw [look_append, hno']; simp only; rw [look_append, hPk i hi]; exact restT_look hi hlt)
        have : u' = u := by
          have : u' = a.tmps.getD i undef := q2
          rw [this, Array.getD_eq_getD_getElem?, u1]; rfl
        subst this
        exact ⟨u', q1, u2.mono hle⟩
    · refine ⟨fun b blk hb hx => ?_, fun b blk i sz hb hx => ?_, excB, fun b b' k h1 h2 => ?_, fun b k h => ?_, fun k j f arr h => ?_, ?_, fun b k h => ?_, fun b k h => ?_, Nat.le_trans hm.bsz s4.kept.size, fun f v hv => I.hv_mono f _ _ w' w' v (s4.fv f v hv) (fun k o hk hd => ?_) (fun _ _ => .inl rfl), fun b i v k o h1 h2 h3 => ?_⟩
      · rw [look_append] at hb
        split at hb
        · rename_i y hy
          cases hb
          obtain ⟨j, g1, g2⟩ := zip_look hy
          obtain ⟨k, vs', z1, z2, z3⟩ := s4.hp j blk (by rw [numb0_get]; exact g2) hx
          refine ⟨k, vs', ?_, z2, all2_all (fun _ _ => AC.flat_R (E := E') (E' := E.lpb E' bs) fun _ _ h => h) (okW j blk g2) z3⟩
          rcases kind j b g1 with ⟨k0, hk0⟩ | ⟨i', u, hu⟩
          · have := hmm j b k0 g1 hk0
            rw [z1] at this; cases this
            exact hk0
          · have := s4.exc j k z1 i'
            rw [hqq j b i' u g1 hu] at this; cases this
        · rename_i hno'
          obtain ⟨k, vs', z1, z2, z3⟩ := hm.hp b blk hb hx
          refine ⟨k, vs', z1, ?_, z3.mono fun _ _ => AC.R.mono hle⟩
          rw [oldB b (zipN hno') k (.inl z1)]
          exact z2
      · rw [look_append] at hb
        split at hb
        · rename_i y hy
          cases hb
          obtain ⟨j, g1, g2⟩ := zip_look hy
          obtain ⟨t1, t2, t3, t4⟩ := s4.tok j blk i sz (by rw [numb0_get]; exact g2) hx
          refine ⟨⟨t1.1, fun ks l hl => by
            obtain ⟨k', c', cur, q1, q2⟩ := t1.2 ks l hl
            exact ⟨k', c', cur, by rw [lpb_in hap g1]; exact q1, q2⟩⟩, t2, fun m hm' => by rw [lpb_in hap g1]; exact t3 m hm', ?_⟩
          rw [lpb_in hap g1]; exact t4
        · rename_i hno'
          exact (hm.tok b blk i sz hb hx).keep (fun m => lpb_out (zipN hno') m) (oldB b (zipN hno'))
      · have aux : ∀ {b b' : Nat}, b ∉ bs ∧ E.own b k → (∃ j : Nat, bs[j]? = some b' ∧ E'.own j k) → False := fun h g => by
          obtain ⟨j, _, g2⟩ := g
          rcases inO g2 with ⟨b1, q1, q2⟩ | q
          · exact h.1 (by rw [hm.inj _ _ k h.2 q2]; exact q1)
          · have := hm.loc _ k h.2; omega
        rcases own2 h1 with h | h <;> rcases own2 h2 with g | g
        · exact hm.inj b b' k h.2 g.2
        · exact (aux h g).elim
        · exact (aux g h).elim
        · obtain ⟨j, j1, j2⟩ := h
          obtain ⟨j', j3, j4⟩ := g
          have := s4.inj j j' k j2 j4
          subst this
          rw [j1] at j3; exact Option.some.inj j3
      · rcases own2 h with h | ⟨j, _, h⟩
        · exact Nat.lt_of_lt_of_le (hm.loc b k h.2) s4.kept.size
        · exact s4.loc j k h
      · exact absurd (hm.ext k j f arr h).1 (hno _ _ _)
      · refine ⟨s4.kept.os.trans hm.kept.os, s4.kept.tape.trans hm.kept.tape, s4.kept.output.trans hm.kept.output, Nat.le_trans hm.kept.size s4.kept.size, fun k hk ho => ?_⟩
        refine (blocks k (Nat.lt_of_lt_of_le hk hm.kept.size) fun b _ hb => ?_).trans (hm.kept.block k hk ho)
        rcases hm.new b k hb with h | h
        · exact ho h
        · omega
      · rcases own2 h with h | ⟨j, _, h⟩
        · exact hm.new b k h.2
        · rcases inO h with ⟨b1, _, q2⟩ | q
          · exact hm.new b1 k q2
          · exact .inr (Nat.le_trans hm.kept.size q)
      · rcases own2 h with h | ⟨j, _, h⟩
        · exact hm.low b k h.2
        · exact s4.low j k h
      · have outer : DirtX E hp bs k o → (w0.out k o ∨ DirtX E hp bs k o) ∧ k < w.heap.size := fun h => by
          obtain ⟨b, _, hb⟩ := dirtO h
          exact ⟨.inr h, hm.loc b k hb⟩
        rcases hd with hd | ⟨b, hb⟩ | ⟨b, blk, i, sz, u, h1, h2, h3, h4⟩
        · exact .inl ⟨.inl hd, Nat.lt_of_lt_of_le hd.2 hm.kept.size⟩
        · by_cases hbb : b ∈ bs
          · obtain ⟨j, hj⟩ := hin hbb
            exact .inr (.inl ⟨j, hmm j b k hj hb⟩)
          · exact .inl (outer (.inl ⟨b, hbb, hb⟩))
        · rw [look_append] at h1
          split at h1
          · rename_i y hy
            cases h1
            obtain ⟨j, g1, g2⟩ := zip_look hy
            rw [lpb_in hap g1] at h3
            exact .inr (.inr ⟨j, blk, i, sz, u, by rw [numb0_get]; exact g2, h2, h3, h4⟩)
          · rename_i hno'
            rw [lpb_out (zipN hno')] at h3
            exact .inl (outer (.inr ⟨b, blk, i, sz, u, zipN hno', h1, h2, h3, h4⟩))
      · by_cases hbb : b ∈ bs
        · obtain ⟨j, hj⟩ := hin hbb
          rw [lpb_in hap hj] at h1
          exact s4.apt j i v k o h1 h2 ⟨.inl h3, Nat.lt_of_lt_of_le h3.2 hm.kept.size⟩
        · rw [lpb_out hbb] at h1
          exact hm.apt b i v k o h1 h2 h3

/-! ### Callees that read an array under construction as a table -/
/-- An array's whole slice is a table. -/
theorem arr_tab {I : Interp F} {w0 : Start} {w : World} {E : Env F} {hp : List (Nat × Blk F)} (hm : Mem I w0 E hp w) {b : Nat} {ty : TypeId} {ks : List (Option IntKind)} {l : List (List Int)} (hlk : look b hp = some ⟨ty, [.arr ks l]⟩)
    {cap : Int} {v : Value} (h0 : (AC.wsl b ks.length 0 (lenT l) cap : AC F).R E v) : tabHv (fun _ _ => False) w v ks l := by
  obtain ⟨k, n0, cur, a1, a2, a3, a4, a5, a6, a7⟩ := hm.arr hlk
  obtain ⟨k', c0, c', z1, z2, z3, z4, z5, z6, rfl⟩ := h0
  rw [a1] at z1; cases z1
  have e : (lenT l).toNat = l.length := by unfold lenT; omega
  rw [e]
  refine ⟨_, c', rfl, by unfold lenT at *; omega, by omega, (fun h => by cases h), fun a ha => ?_⟩
  cases ha
  refine ⟨rfl, fun j hj o kd ho => ⟨fun h => h, ?_⟩⟩
  show w.cell? ⟨k, (0 : Int).toNat * ks.length + (j * ks.length + o), none⟩ = _
  rw [show (0 : Int).toNat * ks.length + (j * ks.length + o) = j * ks.length + o by simp, cell_heap (vs := cur.toList) (by simpa using a3)]
  have := a4 j hj o kd ho
  simpa using this
/-- A callee whose first argument is a whole array; it returns a plain value. -/
def arrFSp (ks : List (Option IntKind)) (g : List (List Int) → List (AV F) → Option (AV F × List (Bool × Bool))) : FnSp F where
  blocks := fun args => match args with
    | .w (.one (.wsl b _ _ _ _)) :: _ => [b]
    | _ => []
  run := fun _ args bs => match args, bs with
    | .w (.one (.wsl _ sz off len _)) :: r, [⟨_, [.arr ks' l]⟩] => match g l r with
      | some (v, cd) => bif decide (ks' = ks) && Nat.beq sz ks.length then some ⟨v, [], (decide (off = 0), true) :: (decide (len = lenT l), true) :: cd⟩ else none
      | none => none
    | _, _ => none
theorem arrFSp_ok {P : Program} {I : Interp F} {f : FuncId} {ks : List (Option IntKind)} {g : List (List Int) → List (AV F) → Option (AV F × List (Bool × Bool))}
    (h : ∀ l r v cd, g l r = some (v, cd) → (∀ p ∈ cd, p.1 = p.2) → ∀ (w : World) (s : Value), tabHv (fun _ _ => False) w s ks l → ∀ (E : Env F) (us : List Value), All2 (AV.R E) r us → ∃ u, v.val = some u ∧ Calls P f (s :: us).toArray w fun e w' => e = .returned u ∧ Below w.heap.size w w') : (arrFSp ks g).ok P I f := by
  intro E hp w slot args us bs out dt hrun ha hbl hm hfr hc
  simp only [arrFSp] at hrun hbl
  split at hrun
  · rename_i b sz off len cap r ty ks' l
    split at hrun
    · rename_i v cd hg
      generalize hz : (decide (ks' = ks) && Nat.beq sz ks.length) = z at hrun
      cases z with
      | false => cases hrun
      | true =>
        cases hrun
        simp only [Bool.and_eq_true, decide_eq_true_eq] at hz
        obtain ⟨rfl, hsz⟩ := hz
        obtain rfl := Nat.eq_of_beq_eq_true hsz
        cases ha with | cons h0 ha => ?_
        have c1 : off = 0 := of_decide_eq_true (hc (decide (off = 0), true) (by simp))
        have c2 : len = lenT l := of_decide_eq_true (hc (decide (len = lenT l), true) (by simp))
        subst c1 c2
        have ht := arr_tab hm (looks_one hbl) h0
        obtain ⟨u, hv, hcall⟩ := h l r v cd hg (fun p hp => hc p (by simp [hp])) w _ ht E _ ha
        refine hcall.mono ?_
        rintro e w' ⟨rfl, hB⟩
        exact ⟨E, u, But.refl _ _, rfl, AV.R_val hv, hm.below hB⟩
    · cases hrun
  · cases hrun
end Go.Proofs.YtbnlpcmnkcaemaaDoor.Ev

