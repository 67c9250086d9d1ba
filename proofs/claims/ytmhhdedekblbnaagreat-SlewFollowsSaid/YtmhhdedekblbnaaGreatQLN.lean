/-
 Loops that append to a nil slice in a cell of a local block: the row is the loop's own, and a fact behind it.
 Conditions: those of each theorem.
-/
import Derived.Test.YtmhhdedekblbnaaGreatQLT
set_option linter.unusedVariables false
set_option linter.unusedSimpArgs false
namespace Go.Proofs.YtmhhdedekblbnaaGreat.Ev
open Go.RowKit
variable {F : Type}
variable {ds : List Deferred} {ro : Option Nat}

structure LpDefN (σ F : Type) where
 ts : List Nat
 ps : List Nat
 rb : Nat
 rc : Nat
 rf : F
 ty : TypeId
 sz : Nat
 W : List Nat
 dec : List (AV F) -> List (Blk F) -> Option σ
 fk : σ -> Option Bool
 spec : σ -> Bool -> Option (Ex × List (Nat × AV F) × List (Blk F) × List (Bool × Bool))
def isNilC : AC F -> Bool
 | .lit (.slice .none 0 0) => true
 | _ => false
theorem isNil_eq {c : AC F} (h : isNilC c = true) : c = .lit (.slice .none 0 0) := by
 unfold isNilC at h
 split at h
 · rfl
 · cases h
def rowC (x : AC F) : List (AC F) -> Nat -> Option (List (AC F))
 | c :: r, 0 => bif isNilC c then some (x :: r) else none
 | c :: r, n + 1 => match rowC x r n with
   | some l => some (c :: l)
   | none => none
 | [], _ => none
def rowB (x : AC F) : List (Blk F) -> Nat -> Nat -> Option (List (Blk F))
 | b :: r, 0, o => match rowC x b.cs o with
   | some l => some (⟨b.ty, l⟩ :: r)
   | none => none
 | b :: r, n + 1, o => match rowB x r n o with
   | some l => some (b :: l)
   | none => none
 | [], _, _ => none
def AC.frz : AC F -> AC F
 | .tip _ _ f => .fv f
 | c => c
def Blk.frz (b : Blk F) : Blk F := ⟨b.ty, b.cs.map AC.frz⟩
def AC.tfo (m : Nat) : AC F -> Bool
 | .tip s _ _ => Nat.beq s m
 | c => c.flat
def okN (safe : TypeId -> Bool) (m : Nat) : List (Blk F) -> List (Blk F) -> Bool
 | x :: l, y :: k => Nat.beq x.ty y.ty && safe y.ty && x.cs.all AC.flat && y.cs.all (AC.tfo m) && okN safe m l k
 | [], [_] => true
 | _, _ => false
theorem okN_get {safe : TypeId -> Bool} {m : Nat} : ∀ {l k : List (Blk F)}, okN safe m l k = true -> k.length = l.length + 1 /\ ∀ (j : Nat) (x y : Blk F), l[j]? = some x -> k[j]? = some y -> x.ty = y.ty /\ safe y.ty = true /\ x.cs.all AC.flat = true /\ y.cs.all (AC.tfo m) = true
 | [], [_], _ => ⟨rfl, fun j x y h => by simp at h⟩
 | [], [], h => by cases h
 | [], _ :: _ :: _, h => by cases h
 | _ :: _, [], h => by cases h
 | a :: l, b :: k, h => by
   simp only [okN, Bool.and_eq_true] at h
   obtain ⟨g1, g2⟩ := okN_get h.2
   refine ⟨by simp [g1], fun j x y hx hy => ?_⟩
   cases j with
   | zero => simp at hx hy; subst hx; subst hy; exact ⟨Nat.eq_of_beq_eq_true h.1.1.1.1, h.1.1.1.2, h.1.1.2, h.1.2⟩
   | succ j => exact g2 j x y (by simpa using hx) (by simpa using hy)
theorem rowC_R {E E' : Env F} (hE : ∀ f v, E.h f v -> E'.h f v) {s : Nat} {f : F} (hf : E'.h f (.slice .none 0 0)) (hq : E'.q s 0 = some (.slice .none 0 0)) : ∀ {l k : List (AC F)} {o : Nat} {vs : List Value}, rowC (.tip s 0 f) l o = some k -> l.all AC.flat = true -> All2 (AC.R E) l vs -> All2 (AC.R E') k vs
 | [], k, o, vs, h, hl, H => by cases o <;> cases h
 | c :: l, k, 0, vs, h, hl, H => by
   simp only [List.all_cons, Bool.and_eq_true] at hl
   simp only [rowC] at h
   cases hc : isNilC c with
   | false => rw [hc] at h; cases h
   | true =>
     rw [hc] at h
     simp only [cond_true] at h
     cases h
     have := isNil_eq hc
     subst this
     cases H with | cons r H => ?_
     have r : _ = Value.slice .none 0 0 := r
     subst r
     exact .cons ⟨hf, hq⟩ (all2_all (fun _ _ => AC.flat_R hE) hl.2 H)
 | c :: l, k, o + 1, vs, h, hl, H => by
   simp only [List.all_cons, Bool.and_eq_true] at hl
   simp only [rowC] at h
   split at h
   · rename_i l' hl'
     cases h
     cases H with | cons r H => ?_
     exact .cons (AC.flat_R hE hl.1 r) (rowC_R hE hf hq hl' hl.2 H)
   · cases h
theorem rowB_get {x : AC F} : ∀ {l k : List (Blk F)} {n o : Nat}, rowB x l n o = some k -> l.length = k.length /\ ∀ (j : Nat) (y : Blk F), k[j]? = some y -> ∃ z, l[j]? = some z /\ z.ty = y.ty /\ (z = y \/ rowC x z.cs o = some y.cs)
 | [], k, n, o, h => by cases n <;> cases h
 | b :: l, k, 0, o, h => by
   simp only [rowB] at h
   split at h
   · rename_i l' hl'
     cases h
     refine ⟨by simp, fun j y hy => ?_⟩
     cases j with
     | zero => simp at hy; subst hy; exact ⟨b, by simp, rfl, .inr hl'⟩
     | succ j => exact ⟨y, by simpa using hy, rfl, .inl rfl⟩
   · cases h
 | b :: l, k, n + 1, o, h => by
   simp only [rowB] at h
   split at h
   · rename_i l' hl'
     cases h
     obtain ⟨g1, g2⟩ := rowB_get hl'
     refine ⟨by simp [g1], fun j y hy => ?_⟩
     cases j with
     | zero => simp at hy; subst hy; exact ⟨b, by simp, rfl, .inl rfl⟩
     | succ j => simpa using g2 j y (by simpa using hy)
   · cases h
theorem frz_tok {y : Blk F} : y.frz.tok = y.tok := by
 obtain ⟨t, cs⟩ := y
 unfold Blk.frz Blk.tok
 simp only
 cases cs with
 | nil => rfl
 | cons c r => cases r with
   | nil => cases c <;> rfl
   | cons d r => cases c <;> cases d <;> rfl
theorem frzC_R {E E' : Env F} (hE : ∀ f v, E.h f v -> E'.h f v) {m : Nat} : ∀ {l : List (AC F)} {vs : List Value}, l.all (AC.tfo m) = true -> All2 (AC.R E) l vs -> All2 (AC.R E') (l.map AC.frz) vs
 | [], vs, h, H => by cases H; exact .nil
 | c :: l, vs, h, H => by
   simp only [List.all_cons, Bool.and_eq_true] at h
   cases H with | cons r H => ?_
   refine .cons ?_ (frzC_R hE h.2 H)
   have h1 := h.1
   unfold AC.tfo at h1
   split at h1
   · exact hE _ _ r.1
   · rename_i n1
     have e : AC.frz c = c := by
       unfold AC.frz
       split
       · rename_i s n f; exact absurd rfl (n1 s n f)
       · rfl
     rw [e]
     exact AC.flat_R hE h1 r
def Env.lpn (E : Env F) (bs : List Nat) (rf : F) : Env F := ⟨fun i => match bs[i]? with | some b => E.m b | .none => .none, fun _ _ => .none, fun f v => E.h f v \/ (f = rf /\ v = .slice .none 0 0), fun i n => bif Nat.beq i bs.length && Nat.beq n 0 then some (.slice .none 0 0) else .none⟩
theorem Env.lpn_m {E : Env F} {bs : List Nat} {rf : F} {i b : Nat} (h : bs[i]? = some b) : (E.lpn bs rf).m i = E.m b := by
 show (match bs[i]? with | some b => E.m b | .none => .none) = _
 rw [h]
theorem lpn_some {E : Env F} {bs : List Nat} {rf : F} {i k : Nat} (h : (E.lpn bs rf).m i = some k) : ∃ b, bs[i]? = some b /\ E.m b = some k := by
 have h : (match bs[i]? with | some b => E.m b | .none => .none) = some k := h
 split at h
 · rename_i b hb; exact ⟨b, hb, h⟩
 · cases h
theorem lpn_q {E : Env F} {bs : List Nat} {rf : F} {i n : Nat} {v : Value} (h : (E.lpn bs rf).q i n = some v) : i = bs.length /\ n = 0 /\ v = .slice .none 0 0 := by
 have h : (bif Nat.beq i bs.length && Nat.beq n 0 then some (.slice .none 0 0) else .none) = some v := h
 cases e : Nat.beq i bs.length && Nat.beq n 0 with
 | false => rw [e] at h; cases h
 | true =>
   rw [e] at h
   simp only [Bool.and_eq_true] at e
   cases h
   exact ⟨Nat.eq_of_beq_eq_true e.1, Nat.eq_of_beq_eq_true e.2, rfl⟩
theorem own_lpn {E : Env F} {bs : List Nat} {rf : F} {i k : Nat} (h : (E.lpn bs rf).own i k) : ∃ b, bs[i]? = some b /\ E.m b = some k := by
 rcases h with h | ⟨n, v, h, h'⟩
 · exact lpn_some h
 · obtain ⟨_, _, rfl⟩ := lpn_q h; cases h'
def LpDefN.sp {σ : Type} (d : LpDefN σ F) (safe : TypeId -> Bool) : LpSp F where
 W := d.W
 fk := fun tm hp => match vals tm d.ts with
   | none => none
   | some vs => match ptrs tm d.ps with
     | none => none
     | some bs => match looks hp bs with
       | none => none
       | some k1 => match rowB (.tip bs.length 0 d.rf) k1 d.rb d.rc with
         | none => none
         | some ks => match d.dec vs (ks ++ [⟨d.ty, [.tok 0 d.sz]⟩]) with
           | none => none
           | some s => d.fk s
 run := fun tm hp β => match vals tm d.ts with
   | none => none
   | some vs => match ptrs tm d.ps with
     | none => none
     | some bs => bif apart bs then (match looks hp bs with
       | none => none
       | some k1 => match rowB (.tip bs.length 0 d.rf) k1 d.rb d.rc with
         | none => none
         | some ks => match d.dec vs (ks ++ [⟨d.ty, [.tok 0 d.sz]⟩]) with
           | none => none
           | some s => match d.spec s β with
             | none => none
             | some (ex, outs, wb, cd) => bif okN safe bs.length k1 wb && outs.all (fun e => memN e.1 d.W && e.2.flat) then
                 some (ex, outs ++ ptrT d.ps bs, bs.zip (wb.map Blk.frz), cd) else none) else none
theorem lpN_ok {P : Program} {I : Interp F} {c : Ctx F} (hC : CtxOk P I c) (hmix : P.follows .mixedOrders = true) (hno : ∀ f w arr, ¬ I.holds f w arr) {nt : Nat} {pos : List Bool} {code0 x : Code} (hat : codeAt code0 pos = some (.loop x)) (hL : LpsOk P I c.lps nt code0)
   {σ : Type} {S : LpSt σ F} {step : σ -> Nxt σ F} {d : LpDefN σ F} {safe : TypeId -> Bool} (hsafe : ∀ t, safe t = true -> I.safe t = true)
   (hW : (touch c.lps nt x (false :: pos)).all (fun i => memN i d.W) = true) (hps : (d.ps.map pT ++ d.ts).all (fun i => memN i d.W) = true)
   (hdec : ∀ vs ks s, vs.length = d.ts.length -> d.dec vs ks = some s -> ks.length = d.ps.length + 1 -> S.hp s = ks /\ ∀ e ∈ S.tm s, e ∈ d.ts.zip vs)
   (hSp : S.ps = d.ps) (hrf : ∀ D w, I.hv d.rf D w (.slice .none 0 0)) (hty : I.safe d.ty = true) (hsz : 0 < d.sz)
   (hK : ∀ s e, e ∈ S.tm s -> memN e.1 d.W = true)
   (hrd : ∀ s, (step s).isBad = false -> ∀ rest, ∃ fuel path r, evC c fuel nt (false :: pos) x (S.tm s ++ (ptrN 0 S.ps ++ rest)) (numb 0 (S.hp s)) (d.ps.length + 1) path = some r /\ (∀ p ∈ r.cd, p.1 = p.2) /\ GivesT S (d.ps.length + 1) r (step s))
   (hspec : ∀ s β ex outs wb cd, d.spec s β = some (ex, outs, wb, cd) -> (∀ b, d.fk s = some b -> b = β) -> (∀ p ∈ cd, p.1 = p.2) -> ∃ n, runs step n s = some (ex, outs, wb)) : LpOk P I nt x (d.sp safe) := by
 have inW : ∀ i, memN i d.W = false -> memN i (touch c.lps nt x (false :: pos)) = false := fun i hi => by
   cases h : memN i (touch c.lps nt x (false :: pos)) with
   | false => rfl
   | true => have := (List.all_eq_true.1 hW) i (memN_iff.1 h); rw [hi] at this; cases this
 have psW : ∀ i ∈ d.ps, memN (pT i) d.W = true := fun i hi => (List.all_eq_true.1 hps) (pT i) (List.mem_append_left _ (List.mem_map_of_mem hi))
 refine ⟨fun tm hp β ex outs wb cd hrun e he => ?_, fun tm hp β ex outs wb cd hrun hfk hc ro ds E w0 a w Q ht hm hQ => ?_⟩
 · simp only [LpDefN.sp] at hrun ⊢
   split at hrun
   · cases hrun
   split at hrun
   · cases hrun
   rename_i bs hbp
   cases hap : apart bs with
   | false => rw [hap] at hrun; cases hrun
   | true =>
     rw [hap] at hrun; simp only [cond_true] at hrun
     split at hrun
     · cases hrun
     split at hrun
     · cases hrun
     split at hrun
     · cases hrun
     split at hrun
     · cases hrun
     rename_i ex' outs' wb' cd' hsp
     generalize hok : (okN safe bs.length _ wb' && outs'.all (fun e => memN e.1 d.W && e.2.flat)) = z at hrun
     cases z with
     | false => cases hrun
     | true =>
       simp only [cond_true] at hrun
       cases hrun
       simp only [Bool.and_eq_true] at hok
       rcases List.mem_append.1 he with he | he
       · have := (List.all_eq_true.1 hok.2) e he
         simp only [Bool.and_eq_true] at this
         exact this.1
       · obtain ⟨j, p, b, h1, _, rfl⟩ := ptrT_mem he
         exact psW p (List.mem_of_getElem? h1)
 · simp only [LpDefN.sp] at hrun hQ
   split at hrun
   · cases hrun
   rename_i vs hvs
   split at hrun
   · cases hrun
   rename_i bs hbp
   cases hap : apart bs with
   | false => rw [hap] at hrun; cases hrun
   | true =>
   rw [hap] at hrun; simp only [cond_true] at hrun
   split at hrun
   · cases hrun
   rename_i k1 hks
   split at hrun
   · cases hrun
   rename_i ks hner
   split at hrun
   · cases hrun
   rename_i s hs
   split at hrun
   · cases hrun
   rename_i ex' outs' wb' cd' hsp
   generalize hok : (okN safe bs.length k1 wb' && outs'.all (fun e => memN e.1 d.W && e.2.flat)) = z at hrun
   cases z with
   | false => cases hrun
   | true =>
   simp only [cond_true] at hrun
   cases hrun
   simp only [Bool.and_eq_true] at hok
   obtain ⟨ok1, ok2⟩ := okN_get hok.1
   have okF : ∀ e ∈ outs', memN e.1 d.W = true /\ e.2.flat = true := fun e he => by have := (List.all_eq_true.1 hok.2) e he; simpa only [Bool.and_eq_true] using this
   have hfs : ∀ b, d.fk s = some b -> b = β := fun b hb => hfk b (by
     simp only [LpDefN.sp, hvs, hbp, hks, hner, hs]; exact hb)
   obtain ⟨n, hn⟩ := hspec s β ex outs' wb' cd hsp hfs hc
   obtain ⟨pl1, pl2⟩ := ptrs_look hbp
   obtain ⟨kl1', kl2'⟩ := looks_get hks
   obtain ⟨nl1, nl2⟩ := rowB_get hner
   have kl1 : bs.length = ks.length := by rw [kl1', nl1]
   have hbl : bs.length = d.ps.length := pl1.symm
   have okW : ∀ (j : Nat) (y : Blk F), j < bs.length -> wb'[j]? = some y -> y.cs.all (AC.tfo bs.length) = true := fun j y hl hy => by
     have hl : j < k1.length := by rw [<- kl1']; exact hl
     exact (ok2 j k1[j] y (List.getElem?_eq_getElem hl) hy).2.2.2
   have okX : ∀ (j : Nat) (x : Blk F), k1[j]? = some x -> x.cs.all AC.flat = true := fun j x hx => by
     have hl : j < wb'.length := by have := (List.getElem?_eq_some_iff.1 hx).1; omega
     exact (ok2 j x wb'[j] hx (List.getElem?_eq_getElem hl)).2.2.1
   have hvl : vs.length = d.ts.length := by
     have : ∀ {ts : List Nat} {vs : List (AV F)}, vals tm ts = some vs -> vs.length = ts.length := by
       intro ts
       induction ts with
       | nil => intro vs h; cases h; rfl
       | cons t ts ih =>
         intro vs h
         simp only [vals] at h
         split at h
         · rename_i v hv
           cases hf : v.untip.flat with
           | false => rw [hf] at h; cases h
           | true =>
             rw [hf] at h; simp only [cond_true] at h
             split at h
             · rename_i l hl; cases h; simp [ih hl]
             · cases h
         · cases h
     exact this hvs
   obtain ⟨hhp, htm⟩ := hdec vs _ s hvl hs (by rw [List.length_append, <- kl1, hbl]; rfl)
   have hT0 : Tms ds (E.lpn bs d.rf) nt (S.tm s ++ (ptrN 0 S.ps ++ restT d.W a nt)) a := by
     refine ⟨fun i v hv => ?_, ht.sz, ht.df⟩
     rw [look_append] at hv
     split at hv
     · rename_i y hy
       cases hv
       have h := htm _ (look_mem hy)
       obtain ⟨y, z1, z0, z2⟩ := vals_look hvs _ h
       obtain ⟨u, u1, u2⟩ := ht.tm i _ z1
       replace u2 := AV.untip_R u2
       rw [z0] at u2
       exact ⟨u, u1, AV.flat_R (E := E) (E' := E.lpn bs d.rf) (fun _ _ h => .inl h) z2 u2⟩
     rw [look_append] at hv
     split at hv
     · rename_i y hy
       cases hv
       obtain ⟨j, p, h1, h2⟩ := ptrN_mem (look_mem hy)
       rw [hSp] at h1
       obtain ⟨b, hb1, hb2⟩ := pl2 j p h1
       simp only [Prod.mk.injEq, Nat.zero_add] at h2
       obtain ⟨rfl, rfl⟩ := h2
       obtain ⟨u, u1, uR⟩ := ht.tm _ _ hb2
       obtain ⟨k, u2, u3⟩ := pV_R.1 uR
       exact ⟨u, u1, pV_R.2 ⟨k, by rw [Env.lpn_m hb1]; exact u2, u3⟩⟩
     · obtain ⟨h1, h2, h3⟩ := restT_mem (look_mem hv)
       simp only at h1 h2 h3
       subst h3
       have hlt : i < a.tmps.size := by rw [ht.sz]; exact h1
       refine ⟨a.tmps.getD i undef, ?_, rfl⟩
       rw [Array.getD_eq_getD_getElem?, Array.getElem?_eq_getElem hlt]; rfl
   have hPk : ∀ i, memN i d.W = false -> look i (ptrN 0 S.ps : List (Nat × AV F)) = none := fun i hi => look_none fun e he e' => by
     obtain ⟨j, p, h1, rfl⟩ := ptrN_mem he
     have := psW p (hSp ▸ List.mem_of_getElem? h1)
     simp only at e'
     rw [e', hi] at this; cases this
   have dirtX : ∀ {k o}, DirtX E hp bs k o -> Dirt E hp k o := fun h => by
     rcases h with ⟨b, _, h⟩ | ⟨b, blk, i, sz, v, _, h⟩
     · exact .inl ⟨b, h⟩
     · exact .inr ⟨b, blk, i, sz, v, h⟩
   have dirtO : ∀ {k o}, DirtX E hp bs k o -> ∃ b, b ∉ bs /\ E.own b k := fun h => by
     rcases h with ⟨b, h1, h⟩ | ⟨b, _, i, _, v, h1, _, _, h3, h4, _⟩
     · exact ⟨b, h1, .inl h⟩
     · exact ⟨b, h1, .inr ⟨i, v, h3, h4⟩⟩
   have getB : ∀ b blk, look b (numb 0 (S.hp s)) = some blk -> (∃ b' z, bs[b]? = some b' /\ look b' hp = some z /\ z.cs.all AC.flat = true /\ z.ty = blk.ty /\ (z = blk \/ rowC (.tip bs.length 0 d.rf) z.cs d.rc = some blk.cs)) \/ (b = bs.length /\ blk = ⟨d.ty, [.tok 0 d.sz]⟩) := fun b blk hb => by
     rw [hhp, numb0_get] at hb
     rcases Nat.lt_or_ge b ks.length with q | q
     · rw [List.getElem?_append_left q] at hb
       obtain ⟨z, z1, z2, z3⟩ := nl2 b blk hb
       have hlt : b < bs.length := by omega
       obtain ⟨k', g1, g2⟩ := kl2' b bs[b] (List.getElem?_eq_getElem hlt)
       rw [z1] at g1; cases g1
       exact .inl ⟨bs[b], z, List.getElem?_eq_getElem hlt, g2, okX b z z1, z2, z3⟩
     · rw [List.getElem?_append_right q] at hb
       have : b - ks.length = 0 := by
         have := (List.getElem?_eq_some_iff.1 hb).1
         simp only [List.length_singleton] at this
         omega
       rw [this] at hb
       cases hb
       exact .inr ⟨by omega, rfl⟩
   have plain : ∀ b' z, look b' hp = some z -> z.cs.all AC.flat = true -> (∃ j : Nat, bs[j]? = some b') -> z.tok = none := fun b' z hz _ ⟨j, hj⟩ => by
     have hl : j < d.ps.length := by rw [<- hbl]; exact (List.getElem?_eq_some_iff.1 hj).1
     obtain ⟨b2, z1, z2⟩ := pl2 j d.ps[j] (List.getElem?_eq_getElem hl)
     rw [hj] at z1; cases z1
     obtain ⟨u, _, uR⟩ := ht.tm _ _ z2
     obtain ⟨k, u2, _⟩ := pV_R.1 uR
     exact hm.plain hz u2
   have hM0 : Mem I ⟨w, (E.lpn bs d.rf).ran, fun k o => w0.out k o \/ DirtX E hp bs k o⟩ (E.lpn bs d.rf) (numb 0 (S.hp s)) w := by
     refine ⟨fun b blk hb hx => ?_, fun b blk i sz hb hx => ?_, fun i k h i' => ?_, fun i j k h1 h2 => ?_, fun i k h => ?_, fun k j f arr h => by (cases h), ⟨rfl, rfl, rfl, Nat.le_refl _, fun _ _ _ => rfl⟩, fun i k h => .inl ⟨i, h⟩, fun i k h => ?_, hm.bsz, fun f v hv => ?_, fun b i v k o h1 h2 h3 => ?_⟩
     · rcases getB b blk hb with ⟨b', z, g1, g2, g3, g4, g5⟩ | ⟨rfl, rfl⟩
       · obtain ⟨k, vs', z1, z2, z3⟩ := hm.hp b' z g2 (plain b' z g2 g3 ⟨b, g1⟩)
         refine ⟨k, vs', by rw [Env.lpn_m g1]; exact z1, by rw [<- g4]; exact z2, ?_⟩
         rcases g5 with rfl | g5
         · exact all2_all (fun _ _ => AC.flat_R (E := E) (E' := E.lpn bs d.rf) fun _ _ h => .inl h) g3 z3
         · refine rowC_R (E := E) (E' := E.lpn bs d.rf) (fun _ _ h => .inl h) (.inr ⟨rfl, rfl⟩) ?_ g5 g3 z3
           show (bif Nat.beq bs.length bs.length && Nat.beq 0 0 then some _ else _) = _
           rw [Nat.beq_refl]; rfl
       · cases hx
     · rcases getB b blk hb with ⟨b', z, g1, g2, g3, g4, g5⟩ | ⟨rfl, rfl⟩
       · exfalso
         have h0 := plain b' z g2 g3 ⟨b, g1⟩
         obtain ⟨k, vs', z1, z2, z3⟩ := hm.hp b' z g2 h0
         rcases g5 with rfl | g5
         · rw [h0] at hx; cases hx
         · have H := rowC_R (E := E) (E' := E.lpn bs d.rf) (fun _ _ h => .inl h) (.inr ⟨rfl, rfl⟩) (by show (bif Nat.beq bs.length bs.length && Nat.beq 0 0 then some _ else _) = _; rw [Nat.beq_refl]; rfl) g5 g3 z3
           rw [tok_none H] at hx; cases hx
       · cases hx
         refine ⟨⟨.inl hsz, fun v ks l h => by cases h⟩, hty, fun m hmm => ?_, .inl ⟨?_, rfl⟩⟩
         · cases e : (E.lpn bs d.rf).q bs.length m with
           | none => rfl
           | some v => have := (lpn_q e).2.1; omega
         · show (bif Nat.beq bs.length bs.length && Nat.beq 0 0 then some _ else _) = _
           rw [Nat.beq_refl]; rfl
     · cases e : (E.lpn bs d.rf).q i i' with
       | none => rfl
       | some v =>
         exfalso
         obtain ⟨b, g1, _⟩ := lpn_some h
         have := (lpn_q e).1
         have := (List.getElem?_eq_some_iff.1 g1).1
         omega
     · obtain ⟨b1, g1, g2⟩ := own_lpn h1
       obtain ⟨b2, q1, q2⟩ := own_lpn h2
       have := hm.inj b1 b2 k (.inl g2) (.inl q2)
       subst this
       exact apart_inj hap i j b1 g1 q1
     · obtain ⟨b1, g1, g2⟩ := own_lpn h; exact hm.loc b1 k (.inl g2)
     · obtain ⟨b1, g1, g2⟩ := own_lpn h; exact hm.low b1 k (.inl g2)
     · rcases hv with hv | ⟨rfl, rfl⟩
       · refine I.hv_mono f _ _ w w v (hm.fv f v hv) (fun k o _ hd => ?_) (fun _ _ => .inl rfl)
         rcases hd with ⟨hd | hd, _⟩ | ⟨b, hb⟩ | ⟨b, blk, i, sz, v, h1, h2, h3, h4⟩
         · exact .inl hd
         · exact .inr (dirtX hd)
         · obtain ⟨b1, g1, g2⟩ := lpn_some hb; exact .inr (.inl ⟨b1, g2⟩)
         · obtain ⟨_, _, rfl⟩ := lpn_q h3
           cases h4.1
       · exact hrf _ _
     · obtain ⟨_, _, rfl⟩ := lpn_q h1
       cases h2
   have hF0 : Free (d.ps.length + 1) (E.lpn bs d.rf) := fun i hi => by
     have hx : bs[i]? = none := List.getElem?_eq_none (by omega)
     refine ⟨by show (match bs[i]? with | some b => E.m b | .none => .none) = .none; rw [hx], fun _ => rfl, fun i' => ?_⟩
     cases e : (E.lpn bs d.rf).q i i' with
     | none => rfl
     | some v => have := (lpn_q e).1; omega
   refine wpIn_loop_rounds n (rounds_okT hC hmix hat hL (S := S) (W := d.W) inW hrd hK (fun p hp => psW p (hSp ▸ hp)) (by rw [hSp]; omega) (fun e he => ⟨(restT_mem he).2.1, by rw [(restT_mem he).2.2]; rfl⟩) n s ex outs' wb' hn (E.lpn bs d.rf) a w Q hT0 hM0 hF0 fun E' a' w' s1 s2 s2q s3 s4 => ?_)
   have low : ∀ {j b : Nat}, bs[j]? = some b -> Nat.blt j (d.ps.length + 1) = true := fun {j b} h => by
     rw [Nat.blt_eq]; have := (List.getElem?_eq_some_iff.1 h).1; omega
   have hmm : ∀ (j b k : Nat), bs[j]? = some b -> E.m b = some k -> E'.m j = some k := fun j b k hj hk => s2 j k (low hj) (by rw [Env.lpn_m hj]; exact hk)
   have hin : ∀ {b : Nat}, b ∈ bs -> ∃ j : Nat, bs[j]? = some b := fun h => List.mem_iff_getElem?.1 h
   have ptr : ∀ (j b : Nat), bs[j]? = some b -> ∃ k, E.m b = some k := fun j b hj => by
     have hl : j < d.ps.length := by rw [<- hbl]; exact (List.getElem?_eq_some_iff.1 hj).1
     obtain ⟨b2, z1, z2⟩ := pl2 j d.ps[j] (List.getElem?_eq_getElem hl)
     rw [hj] at z1; cases z1
     obtain ⟨u, _, uR⟩ := ht.tm _ _ z2
     obtain ⟨k, u2, _⟩ := pV_R.1 uR
     exact ⟨k, u2⟩
   have hle : E.le ⟨E.m, E.r, E'.h, E.q⟩ := ⟨fun _ _ h => h, fun _ _ _ h => h, fun f v h => s1 f v (.inl h), fun _ _ _ h => h⟩
   have blocks : ∀ k, k < w.heap.size -> (∀ b ∈ bs, ¬ E.own b k) -> w'.heap[k]? = w.heap[k]? := fun k hk hne =>
     s4.kept.block k hk fun ⟨j, hj⟩ => by
       obtain ⟨b, g1, g2⟩ := own_lpn hj
       exact hne b (List.mem_of_getElem? g1) (.inl g2)
   have oldB : ∀ b, b ∉ bs -> ∀ k, E.own b k -> w'.heap[k]? = w.heap[k]? := fun b hno' k hk =>
     blocks k (hm.loc b k hk) fun b' hb' hk' => hno' (by rw [hm.inj b b' k hk hk']; exact hb')
   have zl : bs.length <= (wb'.map Blk.frz).length := by rw [List.length_map, ok1, <- kl1']; omega
   have zipN : ∀ {b : Nat}, look b (bs.zip (wb'.map Blk.frz)) = none -> b ∉ bs := fun {b} h => by
     have e : bs.zip (wb'.map Blk.frz) = bs.zip ((wb'.map Blk.frz).take bs.length) := by
       rw [List.zip_eq_zip_take_min, Nat.min_eq_left zl, List.take_of_length_le (Nat.le_refl _)]
     rw [e] at h
     exact zip_none (by rw [List.length_take, Nat.min_eq_left zl]) h
   have zipG : ∀ {b : Nat} {y : Blk F}, look b (bs.zip (wb'.map Blk.frz)) = some y -> ∃ (j : Nat) (z : Blk F), bs[j]? = some b /\ wb'[j]? = some z /\ z.frz = y := fun h => by
     obtain ⟨j, g1, g2⟩ := zip_look h
     rw [List.getElem?_map] at g2
     cases hz : wb'[j]? with
     | none => rw [hz] at g2; cases g2
     | some z => rw [hz] at g2; exact ⟨j, z, g1, hz, Option.some.inj g2⟩
   refine hQ ⟨E.m, E.r, E'.h, E.q⟩ a' w' hle rfl rfl (fun b hb i => hb i) ?_ ?_
   · refine ⟨fun i v hv => ?_, s3.sz, s3.df⟩
     rw [look_append] at hv
     split at hv
     · rename_i y hy
       cases hv
       rw [look_append] at hy
       split at hy
       · rename_i z hz
         cases hy
         obtain ⟨u, u1, u2⟩ := s3.tm i _ (by rw [look_append, hz])
         exact ⟨u, u1, AV.flat_R (E := E') (E' := ⟨E.m, E.r, E'.h, E.q⟩) (fun _ _ h => h) (okF _ (look_mem hz)).2 u2⟩
       · rename_i hnone'
         obtain ⟨j, p, b, h1, h2, h3⟩ := ptrT_mem (look_mem hy)
         simp only [Prod.mk.injEq] at h3
         obtain ⟨rfl, rfl⟩ := h3
         have hap2 : ∃ j', d.ps[j']? = some p /\ look (pT p) (ptrN 0 S.ps : List (Nat × AV F)) = some (pV p j') := by
           cases hq : look (pT p) (ptrN 0 S.ps : List (Nat × AV F)) with
           | none => exact absurd hq (fun hq => ptrN_none (t := p) hq (by rw [hSp]; exact List.mem_of_getElem? h1))
           | some y =>
             obtain ⟨j', p', z1, z2⟩ := ptrN_mem (look_mem hq)
             simp only [Prod.mk.injEq, Nat.zero_add] at z2
             obtain ⟨z2, rfl⟩ := z2
             rw [hSp] at z1
             obtain ⟨b1, y1, y2⟩ := pl2 j' p' z1
             obtain ⟨b2, y3, y4⟩ := pl2 j p h1
             rw [<- z2, y4] at y2
             obtain ⟨rfl, _⟩ := pV_inj2 z2 (Option.some.inj y2)
             exact ⟨j', z1, rfl⟩
         obtain ⟨j', z1, z2⟩ := hap2
         obtain ⟨b', zb1, zb2⟩ := pl2 j' p z1
         obtain ⟨b2, zb3, zb4⟩ := pl2 j p h1
         rw [h2] at zb3; cases zb3
         rw [zb2] at zb4
         have zb5 := pV_inj (Option.some.inj zb4)
         subst zb5
         obtain ⟨u, u1, uR⟩ := s3.tm _ _ (by rw [look_append, hnone']; simp only; rw [look_append, z2])
         obtain ⟨k, u2, u3⟩ := pV_R.1 uR
         obtain ⟨u0, _, uR0⟩ := ht.tm _ _ zb2
         obtain ⟨k0, k1, _⟩ := pV_R.1 uR0
         have hE' := hmm j' b' k0 zb1 k1
         have hkk : k0 = k := by rw [hE'] at u2; exact Option.some.inj u2
         exact ⟨u, u1, pV_R.2 ⟨k, by rw [<- hkk]; exact k1, u3⟩⟩
     · have hi := keep_keys (look_mem hv)
       rw [look_keep hi] at hv
       obtain ⟨u, u1, u2⟩ := ht.tm i v hv
       have hlt : i < nt := by rw [<- ht.sz]; exact (Array.getElem?_eq_some_iff.1 u1).1
       have hno' : look i outs' = none := look_none fun e he e' => by
         have := (okF e he).1
         rw [e', hi] at this; cases this
       obtain ⟨u', q1, q2⟩ := s3.tm i _ (by rw [look_append, hno']; simp only; rw [look_append, hPk i hi]; exact restT_look hi hlt)
       have : u' = u := by
         have : u' = a.tmps.getD i undef := q2
         rw [this, Array.getD_eq_getD_getElem?, u1]; rfl
       subst this
       exact ⟨u', q1, u2.mono hle⟩
   · refine ⟨fun b blk hb hx => ?_, fun b blk i sz hb hx => ?_, hm.exc, hm.inj, fun b k h => Nat.lt_of_lt_of_le (hm.loc b k h) s4.kept.size, fun k j f arr h => ?_, ?_, hm.new, hm.low, s4.bsz, fun f v hv => I.hv_mono f _ _ w' w' v (s4.fv f v hv) (fun k o hk hd => ?_) (fun _ _ => .inl rfl), hm.apt⟩
     · rw [look_append] at hb
       split at hb
       · rename_i y hy
         cases hb
         obtain ⟨j, z, g1, g2, rfl⟩ := zipG hy
         obtain ⟨k0, hk0⟩ := ptr j b g1
         obtain ⟨k, vs', z1, z2, z3⟩ := s4.hp j z (by rw [numb0_get]; exact g2) (by rw [<- frz_tok]; exact hx)
         have := hmm j b k0 g1 hk0
         rw [z1] at this; cases this
         exact ⟨_, vs', hk0, z2, frzC_R (E := E') (E' := ⟨E.m, E.r, E'.h, E.q⟩) (fun _ _ h => h) (okW j z (List.getElem?_eq_some_iff.1 g1).1 g2) z3⟩
       · rename_i hno'
         obtain ⟨k, vs', z1, z2, z3⟩ := hm.hp b blk hb hx
         refine ⟨k, vs', z1, ?_, z3.mono fun _ _ => AC.R.mono hle⟩
         rw [oldB b (zipN hno') k (.inl z1)]
         exact z2
     · rw [look_append] at hb
       split at hb
       · rename_i y hy
         cases hb
         exfalso
         obtain ⟨j, z, g1, g2, rfl⟩ := zipG hy
         obtain ⟨k0, hk0⟩ := ptr j b g1
         rw [frz_tok] at hx
         have e1 := s4.tok j z i sz (by rw [numb0_get]; exact g2) hx
         have e2 := s4.exc j k0 (hmm j b k0 g1 hk0)
         rcases e1.2.2.2 with ⟨h, _⟩ | ⟨_, _, _, h, _⟩ | ⟨_, _, _, _, _, _, _, _, h, _⟩ | ⟨kk, ll, h⟩ | h
         · rw [e2] at h; cases h
         · rw [e2] at h; cases h
         · rw [e2] at h; cases h
         · obtain ⟨_, _, _, h, _⟩ := e1.1.2 _ kk ll h
           rw [e2] at h; cases h
         · exact absurd h (by unfold Dead; simp [e2])
       · rename_i hno'
         exact (hm.tok b blk i sz hb hx).keep (fun m => rfl) (oldB b (zipN hno'))
     · exact absurd (hm.ext k j f arr h).1 (hno _ _ _)
     · refine ⟨s4.kept.os.trans hm.kept.os, s4.kept.tape.trans hm.kept.tape, s4.kept.output.trans hm.kept.output, Nat.le_trans hm.kept.size s4.kept.size, fun k hk ho => ?_⟩
       refine (blocks k (Nat.lt_of_lt_of_le hk hm.kept.size) fun b _ hb => ?_).trans (hm.kept.block k hk ho)
       rcases hm.new b k hb with h | h
       · exact ho h
       · omega
     · have outer : DirtX E hp bs k o -> (w0.out k o \/ DirtX E hp bs k o) /\ k < w.heap.size := fun h => by
         obtain ⟨b, _, hb⟩ := dirtO h
         exact ⟨.inr h, hm.loc b k hb⟩
       rcases hd with hd | ⟨b, hb⟩ | ⟨b, blk, i, sz, u, h1, h2, h3, h4⟩
       · exact .inl ⟨.inl hd, Nat.lt_of_lt_of_le hd.2 hm.kept.size⟩
       · by_cases hbb : b ∈ bs
         · obtain ⟨j, hj⟩ := hin hbb
           exact .inr (.inl ⟨j, hmm j b k hj hb⟩)
         · exact .inl (outer (.inl ⟨b, hbb, hb⟩))
       · rw [look_append] at h1
         split at h1
         · rename_i y hy
           exfalso
           obtain ⟨j, z, g1, g2, rfl⟩ := zipG hy
           obtain ⟨k0, hk0⟩ := ptr j b g1
           rw [hm.exc b k0 hk0] at h3; cases h3
         · rename_i hno'
           exact .inl (outer (.inr ⟨b, blk, i, sz, u, zipN hno', h1, h2, h3, h4⟩))

end Go.Proofs.YtmhhdedekblbnaaGreat.Ev
