/-
 Loops whose local blocks hold rows and parts of arrays in their cells; callees that write the local blocks that they are handed.
 Conditions: those of each theorem.
-/
import Derived.Test.YtmhhdedekblbnaaGreatQLS
set_option linter.unusedVariables false
set_option linter.unusedSimpArgs false
namespace Go.Proofs.YtmhhdedekblbnaaGreat.Ev
open Go.RowKit
variable {F : Type}
variable {ds : List Deferred} {ro : Option Nat}

def AC.ner (bs : List Nat) : AC F -> Option (AC F)
 | .tip s n f => match idxOf s bs with | some j => some (.tip j n f) | none => none
 | .wsl s v sz off len cap => match idxOf s bs with | some j => some (.wsl j v sz off len cap) | none => none
 | c => bif c.flat then some c else none
def AC.tfl (m : Nat) : AC F -> Bool
 | .tip s n f => Nat.blt s m
 | .wsl s v sz off len cap => Nat.blt s m
 | c => c.flat
def nerC (bs : List Nat) : List (AC F) -> Option (List (AC F))
 | [] => some []
 | c :: r => match c.ner bs with
   | some d => match nerC bs r with
     | some l => some (d :: l)
     | none => none
   | none => none
def Blk.ner (bs : List Nat) (b : Blk F) : Option (Blk F) := match nerC bs b.cs with | some l => some ⟨b.ty, l⟩ | none => none
def okT (safe : TypeId -> Bool) (m : Nat) : List (Blk F) -> List (Blk F) -> Bool
 | x :: l, y :: k => Nat.beq x.ty y.ty && safe y.ty && y.cs.all (AC.tfl m) && okT safe m l k
 | [], [] => true
 | _, _ => false

def GivesT {σ : Type} (S : LpSt σ F) (m : Nat) (r : ResC F) : Nxt σ F -> Prop
 | .go s' => r.ex = .normal /\ (∀ e ∈ S.tm s' ++ ptrN 0 S.ps, look e.1 r.tm = some e.2) /\ (∀ e ∈ S.tm s', e.2.low m = true) /\ (S.hp s').length <= m /\ ∀ e ∈ numb 0 (S.hp s'), look e.1 r.hp = some e.2 /\ e.2.cs.all (AC.low m) = true
 | .out ex outs wb => r.ex = ex /\ ex.leaves = true /\ (∀ e ∈ outs ++ ptrN 0 S.ps, look e.1 r.tm = some e.2) /\ wb.length = m /\ ∀ e ∈ numb 0 wb, look e.1 r.hp = some e.2
 | .bad => False
theorem rounds_okT {P : Program} {I : Interp F} {c : Ctx F} (hC : CtxOk P I c) (hmix : P.follows .mixedOrders = true) {nt : Nat} {pos : List Bool} {code0 x : Code} (hat : codeAt code0 pos = some (.loop x)) (hL : LpsOk P I c.lps nt code0) {w0 : Start}
   {σ : Type} {S : LpSt σ F} {step : σ -> Nxt σ F} {m : Nat} {W : List Nat} (hW : ∀ i, memN i W = false -> memN i (touch c.lps nt x (false :: pos)) = false)
   (hrd : ∀ s, (step s).isBad = false -> ∀ rest, ∃ fuel path r, evC c fuel nt (false :: pos) x (S.tm s ++ (ptrN 0 S.ps ++ rest)) (numb 0 (S.hp s)) m path = some r /\ (∀ p ∈ r.cd, p.1 = p.2) /\ GivesT S m r (step s))
   (hK : ∀ s e, e ∈ S.tm s -> memN e.1 W = true) (hP : ∀ p ∈ S.ps, memN (pT p) W = true) (hm : S.ps.length <= m) {rest : List (Nat × AV F)} (hr : ∀ e ∈ rest, memN e.1 W = false /\ e.2.flat = true) :
   ∀ (n : Nat) (s : σ) (ex : Ex) (outs : List (Nat × AV F)) (wb : List (Blk F)), runs step n s = some (ex, outs, wb) -> ∀ (E : Env F) (a : Act) (w : World) (Q : Exit -> Act -> World -> Prop),
     Tms ds E nt (S.tm s ++ (ptrN 0 S.ps ++ rest)) a -> Mem I w0 E (numb 0 (S.hp s)) w -> Free m E ->
     (∀ E' a' w', (∀ f v, E.h f v -> E'.h f v) -> (∀ b k, Nat.blt b m = true -> E.m b = some k -> E'.m b = some k) -> (∀ b n v, Nat.blt b m = true -> E.q b n = some v -> E'.q b n = some v) -> Tms ds E' nt (outs ++ (ptrN 0 S.ps ++ rest)) a' -> Mem I w0 E' (numb 0 wb) w' -> Q ex.to a' w') -> Code.roundsIn (Fr ro) 0 P x Q n a w
 | 0, s, ex, outs, wb, h, E, a, w, Q, ht, hmm, hf, hQ => by cases h
 | n + 1, s, ex, outs, wb, h, E, a, w, Q, ht, hmm, hf, hQ => by
   have hPk : ∀ i, memN i W = false -> look i (ptrN 0 S.ps : List (Nat × AV F)) = none := fun i hi => look_none fun e he e' => by
     obtain ⟨j, p, h1, rfl⟩ := ptrN_mem he
     have := hP p (List.mem_of_getElem? h1)
     simp only at e'
     rw [e', hi] at this; cases this
   have hat' : codeAt code0 (false :: pos) = some x := by simp [codeAt, hat]
   rw [roundsIn_succ]
   cases hst : step s with
   | bad => simp only [runs, hst] at h; cases h
   | go s' =>
     simp only [runs, hst] at h
     obtain ⟨fuel, path, r, h1, h2, h3⟩ := hrd s (by rw [hst]; rfl) rest
     rw [hst] at h3
     obtain ⟨g1, g2, g2l, g3, g4⟩ := h3
     refine (evC_sound hC hmix fuel ro ds nt (false :: pos) code0 x hat' hL _ _ m path r h1 h2).1 E a w _ ht hmm hf fun E' a' w' q1 q2 q3 q4 => ?_
     rw [g1]
     have hnew : Tms ds (E'.cut m) nt (S.tm s' ++ (ptrN 0 S.ps ++ rest)) a' := by
       refine ⟨fun i v hv => ?_, q1.sz, q1.df⟩
       rw [look_append] at hv
       split at hv
       · rename_i y hy
         cases hv
         obtain ⟨u, u1, u2⟩ := q1.tm i _ (g2 _ (List.mem_append_left _ (look_mem hy)))
         exact ⟨u, u1, AV.low_R (g2l _ (look_mem hy)) u2⟩
       rw [look_append] at hv
       split at hv
       · rename_i y hy
         cases hv
         obtain ⟨u, u1, u2⟩ := q1.tm i _ (g2 _ (List.mem_append_right _ (look_mem hy)))
         exact ⟨u, u1, AV.low_R (ptrN_low hm (look_mem hy)) u2⟩
       · have hi := hr _ (look_mem hv)
         have hgrow := evC_grow (P := P) (I := I) (i := i) fuel nt (false :: pos) code0 x hat' hL _ _ m path r h1 (hW i hi.1)
         have hnone : look i (S.tm s) = none := look_none fun e he e' => by have := hK s e he; rw [e', hi.1] at this; cases this
         rw [look_append, hnone] at hgrow
         simp only at hgrow
         rw [look_append, hPk i hi.1] at hgrow
         simp only at hgrow
         obtain ⟨u, u1, u2⟩ := q1.tm i v (by rw [hgrow]; exact hv)
         exact ⟨u, u1, AV.flat_R (E := E') (E' := E'.cut m) (fun _ _ h => h) hi.2 u2⟩
     have hmem : Mem I w0 (E'.cut m) (numb 0 (S.hp s')) w' := q2.cut m fun b blk hb => by
       have hin := look_mem hb
       obtain ⟨z1, z2⟩ := g4 _ hin
       have := (numb_keys hin).2
       exact ⟨z1, by rw [Nat.blt_eq]; simp only at this; omega, z2⟩
     exact rounds_okT hC hmix hat hL hW hrd hK hP hm hr n s' ex outs wb h (E'.cut m) a' w' Q hnew hmem (E'.cut_free m) fun E'' a'' w'' s1 s2 s2q s3 s4 =>
       hQ E'' a'' w'' (fun f v hh => s1 f v (q4.h f v hh)) (fun b k hb hk => s2 b k hb (by rw [Env.cut_m hb]; exact q4.m b k hk)) (fun b i v hb hk => s2q b i v hb (by rw [Env.cut_q hb]; exact q4.q b i v hk)) s3 s4
   | out ex' outs' wb' =>
     simp only [runs, hst] at h
     cases h
     obtain ⟨fuel, path, r, h1, h2, h3⟩ := hrd s (by rw [hst]; rfl) rest
     rw [hst] at h3
     obtain ⟨g1, gx, g2, g3, g4⟩ := h3
     refine (evC_sound hC hmix fuel ro ds nt (false :: pos) code0 x hat' hL _ _ m path r h1 h2).1 E a w _ ht hmm hf fun E' a' w' q1 q2 q3 q4 => ?_
     have hnew : Tms ds E' nt (outs ++ (ptrN 0 S.ps ++ rest)) a' := by
       refine ⟨fun i v hv => ?_, q1.sz, q1.df⟩
       rw [look_append] at hv
       split at hv
       · rename_i y hy
         cases hv
         exact q1.tm i _ (g2 _ (List.mem_append_left _ (look_mem hy)))
       rw [look_append] at hv
       split at hv
       · rename_i y hy
         cases hv
         exact q1.tm i _ (g2 _ (List.mem_append_right _ (look_mem hy)))
       · have hi := hr _ (look_mem hv)
         have hgrow := evC_grow (P := P) (I := I) (i := i) fuel nt (false :: pos) code0 x hat' hL _ _ m path r h1 (hW i hi.1)
         have hnone : look i (S.tm s) = none := look_none fun e he e' => by have := hK s e he; rw [e', hi.1] at this; cases this
         rw [look_append, hnone] at hgrow
         simp only at hgrow
         rw [look_append, hPk i hi.1] at hgrow
         simp only at hgrow
         exact q1.tm i v (by rw [hgrow]; exact hv)
     have hsub : ∀ b blk, look b (numb 0 wb) = some blk -> look b r.hp = some blk := fun b blk hb => g4 _ (look_mem hb)
     have hmem : Mem I w0 E' (numb 0 wb) w' := ⟨fun b blk hb => q2.hp b blk (hsub b blk hb), fun b blk n sz hb => q2.tok b blk n sz (hsub b blk hb), q2.exc, q2.inj, q2.loc, q2.ext, q2.kept, q2.new, q2.low, q2.bsz,
       fun f v hv => I.hv_mono f _ _ w' w' v (q2.fv f v hv) (fun _ _ _ => Or.imp id fun hd => hd.imp id fun ⟨b, blk, n, sz, u, h1, h2⟩ => ⟨b, blk, n, sz, u, hsub b blk h1, h2⟩) (fun _ _ => .inl rfl), q2.apt⟩
     have := hQ E' a' w' q4.h (fun b k _ hk => q4.m b k hk) (fun b i v _ hk => q4.q b i v hk) hnew hmem
     rw [g1]
     cases ex with
     | normal => cases gx
     | exit id => exact this
     | ret => exact this
theorem round_outT {P : Program} {c : Ctx F} {nt : Nat} {pos : List Bool} {x : Code} {σ : Type} {S : LpSt σ F} {tm : List (Nat × AV F)} {bs : List (Blk F)} {m : Nat} {ts : List Nat} {path : List Bool} {vs : List (AV F)} {ks : List (Blk F)} {cd : List (Bool × Bool)} {ex : Ex} {outs : List (Nat × AV F)} (h : evView c nt pos x tm bs m ts path = some ((ex, vs, ks), cd)) (hx : ex.leaves = true) (hc : ∀ p ∈ cd, p.1 = p.2) (h1 : outs ++ ptrN 0 S.ps = ts.zip vs) :
   ∃ fuel path r, evC c fuel nt pos x tm (numb 0 bs) m path = some r /\ (∀ p ∈ r.cd, p.1 = p.2) /\ GivesT S m r (.out ex outs ks) := by
 obtain ⟨r, r1, r2, r3, r4, r5, r6⟩ := evView_r h
 exact ⟨400, .fix path, r, r1, by rw [r2]; exact hc, r3, hx, by rw [h1]; exact r4, r5, fun e he => r6 e he⟩

theorem Mem.calleeW {I : Interp F} {w : World} {E : Env F} {dt : Nat -> Nat -> Prop} {hp hp' : List (Nat × Blk F)} (hm : Mem I ⟨w, E.ran, dt⟩ E hp w) {w' : World} {g : F -> Value -> Prop}
   (hos : w'.os = w.os) (htape : w'.tape = w.tape) (hout : w'.output = w.output) (hsz : w.heap.size <= w'.heap.size)
   (hsl : ∀ b, look b hp' = look b hp \/ ∃ x y k vs', look b hp = some x /\ look b hp' = some y /\ x.tok = none /\ y.tok = none /\ E.m b = some k /\ w'.heap[k]? = some (.cells vs'.toArray y.ty (0, 0)) /\ All2 (AC.R (E.addh g)) y.cs vs')
   (hchg : ∀ j, j < w.heap.size -> w'.heap[j]? = w.heap[j]? \/ ∃ b x y vs', E.m b = some j /\ look b hp = some x /\ look b hp' = some y /\ x.tok = none /\ x.ty = y.ty /\ w'.heap[j]? = some (.cells vs'.toArray y.ty (0, 0)) /\ All2 (AC.R (E.addh g)) y.cs vs' /\ I.safe y.ty = true)
   (hg : ∀ f v, g f v -> I.hv f (Dt ⟨w, E.ran, dt⟩ E hp) w' v) : Mem I ⟨w, E.ran, dt⟩ (E.addh g) hp' w' := by
 have keep : ∀ j, j < w.heap.size -> (∀ b, E.m b ≠ some j) -> w'.heap[j]? = w.heap[j]? := fun j hj hn => by
   rcases hchg j hj with h | ⟨b, x, y, vs', h1, _⟩
   · exact h
   · exact absurd h1 (hn b)
 have was : ∀ k, k < w.heap.size -> w'.heap[k]? = w.heap[k]? \/ I.base <= k /\ ∃ c c' ty fr, w.heap[k]? = some (.cells c ty fr) /\ I.safe ty = true /\ w'.heap[k]? = some (.cells c' ty fr) /\ ∃ b, E.m b = some k := fun k hk => by
   rcases hchg k hk with h | ⟨b, x, y, vs', h1, h2, _, h3, ht, h4, h5, h6⟩
   · exact .inl h
   · obtain ⟨k', vs, g1, g2, g3⟩ := hm.hp b x h2 h3
     rw [h1] at g1; cases g1
     exact .inr ⟨hm.low b _ (.inl h1), _, _, _, _, g2, by rw [ht]; exact h6, by rw [ht]; exact h4, b, h1⟩
 have dirt : ∀ {k o}, Dirt E hp' k o -> Dirt E hp k o := fun h => by
   rcases h with h | ⟨b, blk, n, sz, v, h1, h2, h3⟩
   · exact .inl h
   · rcases hsl b with e | ⟨x, y, _, _, _, e2, _, e4, _⟩
     · exact .inr ⟨b, blk, n, sz, v, by rw [<- e]; exact h1, h2, h3⟩
     · rw [e2] at h1; cases h1
       rw [e4] at h2; cases h2
 refine ⟨fun b blk hb ht => ?_, fun b blk n sz hb ht => ?_, hm.exc, hm.inj, fun b k h => Nat.lt_of_lt_of_le (hm.loc b k h) hsz, fun k j f arr h => ?_, ⟨hos, htape, hout, hsz, fun k hk ho => keep k hk fun b h => ho ⟨b, .inl h⟩⟩, fun b k h => .inl ⟨b, h⟩, hm.low, hm.bsz.mono hsz (fun k hk => (was k (Nat.lt_of_lt_of_le hk hm.bsz.1)).elim id fun h => by have := h.1; omega), fun f v h => ?_, hm.apt⟩
 · rcases hsl b with e | ⟨x, y, k, vs', e1, e2, e3, e4, e5, e6, e7⟩
   · rw [e] at hb
     obtain ⟨k, vs, g1, g2, g3⟩ := hm.hp b blk hb ht
     rcases hchg k (hm.loc b k (.inl g1)) with h | ⟨b', x, y, vs', h1, h2, h2', h3, ht', h4, h5, h6⟩
     · exact ⟨k, vs, g1, by rw [h]; exact g2, g3.mono fun _ _ => AC.R.mono (But.addh 0 E g).le⟩
     · have e' := hm.inj b b' k (.inl g1) (.inl h1)
       subst e'
       rw [e, hb] at h2'; cases h2'
       exact ⟨k, vs', g1, h4, h5⟩
   · rw [e2] at hb; cases hb
     exact ⟨k, vs', e5, e6, e7⟩
 · rcases hsl b with e | ⟨x, y, k, vs', e1, e2, e3, e4, _⟩
   · rw [e] at hb
     refine (hm.tok b blk n sz hb ht).keep (fun _ => rfl) fun k hk => keep k (hm.loc b k hk) fun b' h => ?_
     have e := hm.inj b b' k hk (.inl h)
     subst e
     rcases hk with hk | ⟨n', v, hk, _⟩
     · have := hm.plain hb hk
       rw [ht] at this; cases this
     · rw [hm.exc b k h n'] at hk; cases hk
   · rw [e2] at hb; cases hb
     rw [e4] at ht; cases ht
 · obtain ⟨g1, g2⟩ := hm.ext k j f arr h
   refine ⟨I.mono f w _ arr g1 fun i hi => ?_, g2⟩
   rcases was i hi with h | ⟨h1, c, c', ty, fr, h2, h3, h4, _⟩
   · exact .inl h
   · exact .inr ⟨h1, c, c', ty, fr, h2, h3, h4⟩
 · rcases h with h | h
   · refine I.hv_mono f _ _ w w' v (hm.fv f v h) (fun _ _ _ hd => Or.imp id dirt hd) fun i hi => ?_
     rcases was i hi with h | ⟨h1, c, c', ty, fr, h2, h3, h4, b, hb⟩
     · exact .inl h
     · exact .inr ⟨h1, c, c', ty, fr, h2, h3, h4, fun o => .inr (.inr (.inl ⟨b, hb⟩))⟩
   · exact I.hv_mono f _ _ w' w' v (hg f v h) (fun _ _ _ hd => Or.imp id dirt hd) fun i hi => .inl rfl
def wrB : List (Blk F) -> List (List (AC F)) -> List (Blk F)
 | b :: r, cs :: l => ⟨b.ty, cs⟩ :: wrB r l
 | _, _ => []
theorem wrB_get : ∀ {bs : List (Blk F)} {css : List (List (AC F))}, bs.length = css.length -> (wrB bs css).length = bs.length /\ ∀ (i : Nat) (x : Blk F), bs[i]? = some x -> ∃ cs, css[i]? = some cs /\ (wrB bs css)[i]? = some ⟨x.ty, cs⟩
 | [], [], _ => ⟨rfl, fun i x h => by simp at h⟩
 | [], _ :: _, h => by cases h
 | _ :: _, [], h => by cases h
 | b :: bs, cs :: css, h => by
   obtain ⟨g1, g2⟩ := wrB_get (bs := bs) (css := css) (by simpa using h)
   refine ⟨by simp [wrB, g1], fun i x hx => ?_⟩
   cases i with
   | zero => simp at hx; subst hx; exact ⟨cs, by simp, by simp [wrB]⟩
   | succ i => simpa [wrB] using g2 i x (by simpa using hx)
theorem cellsAt_wr {hp : List (Nat × Blk F)} : ∀ {bs : List (Blk F)} {j : Nat} {css : List (List (AC F))}, cellsAt hp bs j = some (css.map AW.agg) -> bs.length = css.length /\ ∀ (i : Nat) (x : Blk F) (cs : List (AC F)), bs[i]? = some x -> css[i]? = some cs -> look (j + i) hp = some ⟨x.ty, cs⟩
 | [], j, css, h => by
   simp only [cellsAt, Option.some.injEq] at h
   cases css with
   | nil => exact ⟨rfl, fun i x cs h => by simp at h⟩
   | cons a b => simp at h
 | x :: r, j, css, h => by
   simp only [cellsAt] at h
   split at h
   · rename_i y hy
     cases hb : Nat.beq y.ty x.ty with
     | false => rw [hb] at h; cases h
     | true =>
       rw [hb] at h; simp only [cond_true] at h
       split at h
       · rename_i l hl
         cases css with
         | nil => simp at h
         | cons cs css =>
           simp only [List.map_cons, Option.some.injEq, List.cons.injEq, AW.agg.injEq] at h
           obtain ⟨h1, h2⟩ := h
           obtain ⟨g1, g2⟩ := cellsAt_wr (bs := r) (j := j + 1) (css := css) (by rw [hl, h2])
           refine ⟨by simp [g1], fun i x' cs' hx hc => ?_⟩
           cases i with
           | zero =>
             simp at hx hc; subst hx; subst hc
             have := Nat.eq_of_beq_eq_true hb
             rw [Nat.add_zero, hy]
             cases y
             simp only at h1 this
             rw [h1, this]
           | succ i =>
             have := g2 i x' cs' (by simpa using hx) (by simpa using hc)
             rw [<- this]; congr 1; omega
       · cases h
   · cases h
theorem locW_calls {P : Program} {I : Interp F} {c : Ctx F} (hC : CtxOk P I c) (hmix : P.follows .mixedOrders = true) {f : FuncId} {fn : Func} (hf : P.funcs[f]? = some fn) (hb : fn.body.isSome = true) (hL : LpsOk P I c.lps fn.ntmps (bodyOf fn))
   {args : List (AV F)} {us : List Value} {E : Env F} {hp : List (Nat × Blk F)} {w : World} {dt : Nat -> Nat -> Prop} {bs : List (Blk F)} (ha : All2 (AV.R E) args us) (hbl : looks hp (pts args) = some bs) (hm : Mem I ⟨w, E.ran, dt⟩ E hp w)
   (hfl : args.all okA = true) (hnd : nodupN (pts args) = true) (hso : ∀ (i : Nat) (b : Blk F), bs[i]? = some b -> b.cs.all AC.soB = true /\ I.safe b.ty = true) (hn : args.length <= fn.ntmps) {path : Pth} {r : ResF F} (hr : evFn c 400 fn (rel args 0) (numb 0 bs) bs.length path = some r) (hc : ∀ p ∈ r.cd, p.1 = p.2)
   {css : List (List (AC F))} (hcl : bs.length = css.length) (hcs : ∀ (i : Nat) (cs : List (AC F)), css[i]? = some cs -> cs.all AC.soB = true)
   (hwr : ∀ (i : Nat) (x : Blk F) (cs : List (AC F)), bs[i]? = some x -> css[i]? = some cs -> look i r.hp = some ⟨x.ty, cs⟩) :
   Calls P f us.toArray w fun e w' => ∃ E' u, e = .returned u /\ r.val.R E' u /\ Mem I ⟨w, E.ran, dt⟩ (E.addh E'.h) ((pts args).zip (wrB bs css) ++ hp) w' := by
 obtain ⟨hlen, hget⟩ := looks_at hbl
 generalize hE1 : (⟨fun i => match (pts args)[i]? with | some b => E.m b | none => none, fun _ _ => none, E.h, fun _ _ => none⟩ : Env F) = E1 at *
 have m1 : ∀ (i b : Nat), (pts args)[i]? = some b -> E1.m i = E.m b := fun i b h => by subst hE1; simp only [h]
 have m0 : ∀ i, bs.length <= i -> E1.m i = none := fun i hi => by
   subst hE1
   have : (pts args)[i]? = none := List.getElem?_eq_none (by omega)
   simp only [this]
 have mm : ∀ i k, E1.m i = some k -> ∃ b, (pts args)[i]? = some b /\ E.m b = some k := fun i k h => by
   cases hq : (pts args)[i]? with
   | none => subst hE1; simp only [hq] at h; cases h
   | some b => exact ⟨b, rfl, by rw [<- m1 i b hq]; exact h⟩
 have q1 : ∀ i n, E1.q i n = none := fun i n => by subst hE1; rfl
 have r1 : ∀ i n, E1.r i n = none := fun i n => by subst hE1; rfl
 have eh : E1.h = E.h := by subst hE1; rfl
 have own1 : ∀ i j, E1.own i j -> E1.m i = some j := fun i j H => by
   rcases H with H | ⟨_, _, H, _⟩
   · exact H
   · rw [q1] at H; cases H
 have blkAt : ∀ (i b : Nat), (pts args)[i]? = some b -> ∃ x, bs[i]? = some x /\ look b hp = some x := hget
 have lk : ∀ (i : Nat) (x : Blk F), look i (numb 0 bs) = some x -> bs[i]? = some x := fun i x h => by
   rw [numb_get] at h
   simpa using h
 have tk : ∀ (i : Nat) (x : Blk F), bs[i]? = some x -> x.tok = none := fun i x h => so_tok (hso i x h).1
 have hm0 : Mem I ⟨w, E1.ran, Dt ⟨w, E.ran, dt⟩ E hp⟩ E1 (numb 0 bs) w := by
   refine ⟨fun i x hx ht => ?_, fun i x n sz hx ht => ?_, fun i j _ n => q1 i n, fun i i' j H H' => ?_, fun i j H => ?_, fun i j q arr H => ?_, ⟨rfl, rfl, rfl, Nat.le_refl _, fun _ _ _ => rfl⟩, fun i j H => .inl ⟨i, H⟩, fun i j H => ?_, hm.bsz, fun q v hq => ?_, fun i n v _ _ H => ?_⟩
   · have hx := lk i x hx
     have hi : i < (pts args).length := by rw [<- hlen]; exact (List.getElem?_eq_some_iff.1 hx).1
     have hp1 : (pts args)[i]? = some (pts args)[i] := List.getElem?_eq_getElem hi
     obtain ⟨x', g1, g2⟩ := blkAt i _ hp1
     rw [hx] at g1; cases g1
     obtain ⟨k, vs, g3, g4, g5⟩ := hm.hp _ x g2 (tk i x hx)
     exact ⟨k, vs, by rw [m1 i _ hp1]; exact g3, g4, so_R (fun f v h => by rw [eh]; exact h) (hso i x hx).1 g5⟩
   · rw [tk i x (lk i x hx)] at ht; cases ht
   · obtain ⟨b, g1, g2⟩ := mm i j (own1 i j H)
     obtain ⟨b', g1', g2'⟩ := mm i' j (own1 i' j H')
     have e := hm.inj b b' j (.inl g2) (.inl g2')
     subst e
     exact nodup_inj hnd i i' g1 g1'
   · obtain ⟨b, _, g2⟩ := mm i j (own1 i j H)
     exact hm.loc b j (.inl g2)
   · rw [r1] at H; cases H
   · obtain ⟨b, _, g2⟩ := mm i j (own1 i j H)
     exact hm.low b j (.inl g2)
   · rw [eh] at hq
     refine I.hv_mono q _ _ w w v (hm.fv q v hq) (fun i o _ hd => ?_) (fun _ _ => .inl rfl)
     rcases hd with hd | ⟨i', hd⟩ | ⟨i', x, n, sz, v', hd, ht, _⟩
     · exact hd.1
     · obtain ⟨b, _, g2⟩ := mm i' i hd
       exact .inr (.inl ⟨b, g2⟩)
     · rw [tk i' x (lk i' x hd)] at ht; cases ht
   · rw [q1] at H; cases H
 have hA : All2 (AV.R E1) (rel args 0) us := rel_R (fun f v h => by rw [eh]; exact h) ha hfl fun i b hi => by rw [Nat.zero_add]; exact m1 i b hi
 have hb' : fn.body = some (bodyOf fn) := by
   unfold bodyOf
   cases hfb : fn.body with
   | none => rw [hfb] at hb; cases hb
   | some c => rfl
 have hfr1 : Free bs.length E1 := fun i hi => ⟨m0 i hi, fun j => r1 i j, fun n => q1 i n⟩
 refine (evF_calls hC hmix hf hb' hL hr hc (by rw [rel_len]; exact hn) hA hm0 hfr1).mono ?_
 rintro e w' ⟨E', u1, q0, rfl, q2, q3⟩
 obtain ⟨wl, wg⟩ := wrB_get hcl
 refine ⟨E', u1, rfl, q2, ?_⟩
 refine hm.calleeW (g := E'.h) q3.kept.os q3.kept.tape q3.kept.output q3.kept.size (fun b => ?_) (fun j hj => ?_) fun f v hv => I.hv_mono f _ _ w' w' v (q3.fv f v hv) (fun k o _ hd => .inl ⟨hd, ?_⟩) fun _ _ => .inl rfl
 · rw [look_append]
   split
   · rename_i y hy
     obtain ⟨i, g1, g2⟩ := zip_look hy
     obtain ⟨x, g3, g4⟩ := blkAt i b g1
     obtain ⟨cs, g5, g6⟩ := wg i x g3
     rw [g2] at g6; cases g6
     obtain ⟨k0, vs0, v1, _⟩ := hm.hp b x g4 (tk i x g3)
     have s0 := q0.m _ _ ((m1 i b g1).trans v1)
     have hso' := hcs i cs g5
     obtain ⟨k2, vs2, s1, s2, s3⟩ := q3.hp i ⟨x.ty, cs⟩ (hwr i x cs g3 g5) (so_tok hso')
     rw [s0] at s1; cases s1
     exact .inr ⟨x, _, _, vs2, g4, rfl, tk i x g3, so_tok hso', v1, s2, so_R (E' := E.addh E'.h) (fun f v h => (.inr h : E.h f v \/ E'.h f v)) hso' s3⟩
   · exact .inl rfl
 · by_cases ho : E1.ran j
   · obtain ⟨i, hi⟩ := ho
     obtain ⟨b, g1, g2⟩ := mm i j (own1 i j hi)
     obtain ⟨x, g3, g4⟩ := blkAt i b g1
     obtain ⟨cs, g5, g6⟩ := wg i x g3
     have hso' := hcs i cs g5
     obtain ⟨k2, vs2, s1, s2, s3⟩ := q3.hp i ⟨x.ty, cs⟩ (hwr i x cs g3 g5) (so_tok hso')
     rw [q0.m _ _ (own1 i j hi)] at s1; cases s1
     have hlk : look b ((pts args).zip (wrB bs css) ++ hp) = some ⟨x.ty, cs⟩ := by
       rw [look_append]
       split
       · rename_i y hy
         obtain ⟨i', y1, y2⟩ := zip_look hy
         have := nodup_inj hnd i i' g1 y1
         subst this
         rw [g6] at y2; exact y2.symm
       · rename_i hn'
         exact absurd (List.mem_of_getElem? g1) (zip_none (by rw [wl, hlen]) hn')
     exact .inr ⟨b, x, _, vs2, g2, g4, hlk, tk i x g3, rfl, s2, so_R (E' := E.addh E'.h) (fun f v h => (.inr h : E.h f v \/ E'.h f v)) hso' s3, (hso i x g3).2⟩
   · exact .inl (q3.kept.block j hj ho)
 · rcases hd with hd | ⟨b, hd⟩ | ⟨b, _, n, _, v, _, _, d3, d4, _⟩
   · exact hd.2
   · exact hm.loc b k (.inl hd)
   · exact hm.loc b k (.inr ⟨n, v, d3, d4⟩)
def locWSp (c : Ctx F) (g : List (AV F) -> List (Blk F) -> Option (AV F × List (List (AC F)) × List (Bool × Bool))) : FnSp F where
 blocks := pts
 run := fun _ args bs => bif locB c args bs then match g (rel args 0) bs with
     | some (v, css, cd) => bif css.all (fun cs => cs.all AC.soB) then some ⟨v, (pts args).zip (wrB bs css), cd⟩ else none
     | none => none
   else none
theorem locWSp_ok {P : Program} {I : Interp F} {c : Ctx F} (hC : CtxOk P I c) (hmix : P.follows .mixedOrders = true) {f : FuncId} {fn : Func} (hf : P.funcs[f]? = some fn) (hb : fn.body.isSome = true) (hL : LpsOk P I c.lps fn.ntmps (bodyOf fn))
   {c' : Ctx F} (hsf : c'.safe = c.safe) {g : List (AV F) -> List (Blk F) -> Option (AV F × List (List (AC F)) × List (Bool × Bool))}
   (h : ∀ args bs v css cd, g args bs = some (v, css, cd) -> (∀ p ∈ cd, p.1 = p.2) -> v.flat = true /\ Nat.ble args.length fn.ntmps = true /\
     ∃ path x cd', evLoc c fn args bs path = some (.tup (x :: css.map AW.agg), cd') /\ (∀ E u, (AV.w x).untip.R E u -> v.R E u) /\ ∀ p ∈ cd', p.1 = p.2) : (locWSp c' g).ok P I f := by
 intro E hp w slot args us bs out dt hrun ha hbl hm hfr hc
 simp only [locWSp] at hrun hbl
 cases hl : locB c' args bs with
 | false => rw [hl] at hrun; cases hrun
 | true =>
   rw [hl] at hrun; simp only [cond_true] at hrun
   have hl : locB c args bs = true := by unfold locB at hl ⊢; rw [<- hsf]; exact hl
   split at hrun
   · rename_i v css cd hg
     cases hal : css.all (fun cs => cs.all AC.soB) with
     | false => rw [hal] at hrun; cases hrun
     | true =>
     rw [hal] at hrun; simp only [cond_true] at hrun
     cases hrun
     obtain ⟨a1, a2, a3⟩ := locB_ok hC hl
     obtain ⟨h1, h2, path, y, cd', h4, h5, h6⟩ := h _ _ v css cd hg hc
     unfold evLoc at h4
     split at h4
     · rename_i r hr
       split at h4
       · split at h4
         · rename_i x2 l2 hv2 hl2
           simp only [Option.some.injEq, Prod.mk.injEq, AV.tup.injEq, List.cons.injEq] at h4
           obtain ⟨⟨rfl, e2⟩, rfl⟩ := h4
           obtain ⟨w1, w2⟩ := cellsAt_wr (j := 0) (css := css) (by rw [hl2, e2])
           refine (locW_calls hC hmix hf hb hL ha hbl hm a1 a2 a3 (by have := Nat.le_of_ble_eq_true h2; rw [rel_len] at this; exact this) hr h6 w1 (fun i cs hi => (List.all_eq_true.1 hal) cs (List.mem_of_getElem? hi)) fun i x cs hi hj => by have := w2 i x cs hi hj; rwa [Nat.zero_add] at this).mono ?_
           rintro e w' ⟨E', u, rfl, q2, q3⟩
           rw [hv2] at q2
           exact ⟨E.addh E'.h, u, But.addh _ _ _, rfl, AV.flat_R (E := E') (E' := E.addh E'.h) (fun _ _ h => .inr h) h1 (h5 _ _ (AV.untip_R q2)), q3⟩
         · cases h4
       · cases h4
     · cases h4
   · cases hrun
end Go.Proofs.YtmhhdedekblbnaaGreat.Ev
