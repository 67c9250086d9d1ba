/-
 The evaluator: regions in the text's order and in whatever order, code, calls; a path through the code and what it takes for true.
 Conditions: those of each theorem.
-/
import Derived.Test.YtmhhdedekblbnaaGreatQEv1
set_option linter.unusedVariables false
set_option linter.unusedSimpArgs false
namespace Go.Proofs.YtmhhdedekblbnaaGreat.Ev
open Go.RowKit
variable {F : Type}
variable {ds : List Deferred} {ro : Option Nat}


structure Rec (F : Type) where
 dst : Option Nat
 slot : Nat
 rt : List Nat
 rb : List Nat
 out : Out F
def tmpsOf : List Operand -> List Nat
 | [] => []
 | .tmp t :: r => t :: tmpsOf r
 | _ :: r => tmpsOf r
def gtmp (ops : List Oper) (j : Nat) : Option Nat := match ops[j]? with | some o => o.dst | none => none
def untipC : AC F -> AC F
 | .tip _ _ f => .fv f
 | x => x
def isTip : AC F -> Bool
 | .tip _ _ _ => true
 | _ => false
def untip : AV F -> AV F
 | .w (.one (.tip _ _ f)) => .w (.one (.fv f))
 | .w (.agg cs) => bif cs.any isTip then .w (.agg (cs.map untipC)) else .w (.agg cs)
 | x => x
def untips : List (AV F) -> List (AV F)
 | [] => []
 | x :: l => untip x :: untips l
def soft (op : Op) (vs : List (AV F)) : List (AV F) :=
 match op with
 | .move _ => vs
 | .assign _ => vs
 | .pick _ _ _ => vs
 | .store _ _ _ => vs
 | .box _ _ => vs
 | .build _ _ => vs
 | .field _ _ _ => vs
 | .call k => match k.callee with
   | .builtin .append => vs
   | _ => untips vs
 | _ => untips vs
theorem untipC_R {E : Env F} {x : AC F} {u : Value} (h : x.R E u) : (untipC x).R E u := by
 unfold untipC
 split
 · exact (h : _ /\ _).1
 · exact h
theorem untipCs_R {E : Env F} {xs : List (AC F)} {us : List Value} (h : All2 (AC.R E) xs us) : All2 (AC.R E) (xs.map untipC) us := by
 induction h with
 | nil => exact .nil
 | cons r _ ih => exact .cons (untipC_R r) ih
theorem untip_R {E : Env F} {x : AV F} {u : Value} (h : x.R E u) : (untip x).R E u := by
 unfold untip
 split
 · exact (h : _ /\ _).1
 · rename_i cs
   cases cs.any isTip with
   | false => exact h
   | true =>
     obtain ⟨vs, rfl, h2⟩ := h
     exact ⟨vs, rfl, untipCs_R h2⟩
 · exact h
theorem untips_R {E : Env F} {xs : List (AV F)} {us : List Value} (h : All2 (AV.R E) xs us) : All2 (AV.R E) (untips xs) us := by
 induction h with
 | nil => exact .nil
 | cons r _ ih => exact .cons (untip_R r) ih
theorem soft_R {E : Env F} {op : Op} {xs : List (AV F)} {us : List Value} (h : All2 (AV.R E) xs us) : All2 (AV.R E) (soft op xs) us := by
 unfold soft
 split
 · exact h
 · exact h
 · exact h
 · exact h
 · exact h
 · exact h
 · exact h
 · split
   · exact h
   · exact untips_R h
 · exact untips_R h
def evRun (c : Ctx F) (β : Bool) (slot : Nat) (tm : List (Nat × AV F)) (hp : List (Nat × Blk F)) (o : Oper) (ts : List Nat) (cd : List (Bool × Bool)) : Option (Rec F) :=
 match opnds tm (opersAt β o.op) with
 | some vs => match looks hp (blocksOf c o.op (soft o.op vs)) with
   | some bs => match evCore c β slot o.type o.op (soft o.op vs) bs with
     | some out => some ⟨o.dst, slot, ts ++ tmpsOf (opersAt β o.op), blocksOf c o.op (soft o.op vs), ⟨out.val, out.wr, cd ++ out.cd⟩⟩
     | none => none
   | none => none
 | none => none
def isUn : AV F -> Bool
 | .w (.one (.lit (.tuple _))) => true
 | _ => false
theorem isUn_R {E : Env F} {v : AV F} (h : isUn v = true) {u : Value} (H : v.R E u) : ∃ l, u = .tuple l := by
 unfold isUn at h
 split at h
 · exact ⟨_, H⟩
 · cases h
def evO (c : Ctx F) (ops : List Oper) (βg βc : Bool) (slot : Nat) (tm : List (Nat × AV F)) (hp : List (Nat × Blk F)) (o : Oper) : Option (Rec F) :=
 match o.guard with
 | none => evRun c βc slot tm hp o [] []
 | some (j, want) => match gtmp ops j with
   | some t => match look t tm with
     | some v => match asB v with
       | some b => bif (bif want then βg else !βg) then evRun c βc slot tm hp o [t] [(b, βg)] else
           some ⟨o.dst, slot, [t], [], ⟨.w (.one (.lit undef)), [], [(b, βg)]⟩⟩
       | none => bif isUn v then some ⟨o.dst, slot, [t], [], ⟨.w (.one (.lit undef)), [], []⟩⟩ else none
     | none => none
   | none => none
def Rec.tm (r : Rec F) (tm : List (Nat × AV F)) : List (Nat × AV F) := match r.dst with | some d => (d, r.out.val) :: tm | none => tm
def Rec.hp (r : Rec F) (hp : List (Nat × Blk F)) : List (Nat × Blk F) := r.out.wr ++ hp
def dstOk (nt : Nat) : Option Nat -> Bool
 | some d => Nat.blt d nt
 | none => true

theorem run_sound {P : Program} {I : Interp F} {c : Ctx F} (hC : CtxOk P I c) {β : Bool} {slot nt : Nat} {o : Oper} {ts : List Nat} {cd : List (Bool × Bool)} {r : Rec F}
   {E : Env F} {tm : List (Nat × AV F)} {hp : List (Nat × Blk F)} (h : evRun c β slot tm hp o ts cd = some r) {a : Act} {w0 : Start} {w : World} (ht : Tms ds E nt tm a) (hm : Mem I w0 E hp w)
   (hs : Fresh slot E) (hc : ∀ p ∈ r.out.cd, p.1 = p.2) {K : Act -> World -> Prop} {Q : Exit -> Act -> World -> Prop}
   (hK : ∀ E' w' u, But slot E E' -> r.out.val.R E' u -> Mem I w0 E' (r.hp hp) w' -> K (a.put o.dst u) w') : o.wpIn (Fr ro) 0 P a w K Q := by
 unfold evRun at h
 split at h
 · rename_i vs hvs
   split at h
   · rename_i bs hbs
     split at h
     · rename_i out hout
       cases h
       exact core_sound (nt := nt) (tm := tm) hC hout hm (soft_R (opnds_R ht hvs)) hbs hs (fun p hp => hc p (List.mem_append_right _ hp)) hK
     · cases h
   · cases h
 · cases h
theorem yielded_look {E : Env F} {nt : Nat} {tm : List (Nat × AV F)} {a : Act} (ht : Tms ds E nt tm a) {ops : Array Oper} {j t : Nat} (hj : gtmp ops.toList j = some t) {v : AV F} (hl : look t tm = some v) {b : Bool} (hb : asB v = some b) : yielded ops a.tmps j = some b := by
 have h1 : (ops[j]?).bind (·.dst) = some t := by
   unfold gtmp at hj
   split at hj
   · rename_i o ho
     rw [Array.getElem?_toList] at ho
     simp [ho, hj]
   · cases hj
 obtain ⟨u, g1, g2⟩ := ht.tm t v hl
 unfold yielded
 rw [h1]
 simp only [Option.bind_some, g1, asB_R hb g2]
theorem evO_dst {c : Ctx F} {ops : List Oper} {βg βc : Bool} {slot : Nat} {tm : List (Nat × AV F)} {hp : List (Nat × Blk F)} {o : Oper} {r : Rec F} (h : evO c ops βg βc slot tm hp o = some r) : r.dst = o.dst /\ r.slot = slot := by
 have run : ∀ {ts cd}, evRun c βc slot tm hp o ts cd = some r -> r.dst = o.dst /\ r.slot = slot := fun h => by
   unfold evRun at h
   repeat' split at h
   all_goals cases h
   exact ⟨rfl, rfl⟩
 unfold evO at h
 cases hg : o.guard with
 | none => rw [hg] at h; exact run h
 | some p =>
   obtain ⟨j, want⟩ := p
   rw [hg] at h
   simp only at h
   split at h
   · split at h
     · split at h
       · generalize (bif want then βg else !βg) = x at h
         cases x
         · cases h; exact ⟨rfl, rfl⟩
         · exact run h
       · rename_i v _ _ _
         cases hu : isUn v with
         | false => rw [hu] at h; cases h
         | true => rw [hu] at h; cases h; exact ⟨rfl, rfl⟩
     · cases h
   · cases h
theorem op_sound {P : Program} {I : Interp F} {c : Ctx F} (hC : CtxOk P I c) {ops : Array Oper} {βg βc : Bool} {slot nt i : Nat} {o : Oper} (hi : ops[i]? = some o) {r : Rec F}
   {E : Env F} {tm : List (Nat × AV F)} {hp : List (Nat × Blk F)} (h : evO c ops.toList βg βc slot tm hp o = some r) {a : Act} {w0 : Start} {w : World} (ht : Tms ds E nt tm a) (hm : Mem I w0 E hp w)
   (hs : Fresh slot E) (hc : ∀ p ∈ r.out.cd, p.1 = p.2) {K : Act -> World -> Prop} {Q : Exit -> Act -> World -> Prop}
   (hK : ∀ E' w' u, But slot E E' -> r.out.val.R E' u -> Mem I w0 E' (r.hp hp) w' -> K (a.put o.dst u) w') : wpOpIn (Fr ro) 0 P ops Q i K a w := by
 unfold wpOpIn
 simp only [hi]
 unfold evO at h
 split at h
 · rename_i hg
   rw [if_pos (by simp [Region.wanted, hg])]
   exact run_sound hC h ht hm hs hc hK
 · rename_i j want hg
   split at h
   · rename_i t hj
     split at h
     · rename_i v hl
       split at h
       · rename_i b hb
         have hy := yielded_look ht hj hl hb
         have hw : Region.wanted o (yielded ops a.tmps) = (b == want) := by
           unfold Region.wanted
           rw [hg]
           simp only [hy]
           cases b <;> cases want <;> rfl
         cases hz : (bif want then βg else !βg) with
         | true =>
           rw [hz] at h; simp only [cond_true] at h
           have hb1 : b = βg := by
             have hh := h
             unfold evRun at hh
             split at hh
             · split at hh
               · split at hh
                 · cases hh; exact hc (b, βg) (by simp)
                 · cases hh
               · cases hh
             · cases hh
           rw [if_pos (by rw [hw, hb1]; cases want <;> cases βg <;> first | rfl | cases hz)]
           exact run_sound hC h ht hm hs hc hK
         | false =>
           rw [hz] at h; cases h
           have hb1 : b = βg := hc (b, βg) (by simp)
           rw [if_neg (by rw [hw, hb1]; cases want <;> cases βg <;> first | (intro e; cases e; done) | cases hz)]
           exact ⟨fun _ _ => trivial, hK E w undef (But.refl slot E) rfl hm⟩
       · cases hu : isUn v with
         | false => rw [hu] at h; cases h
         | true =>
           rw [hu] at h; cases h
           obtain ⟨u, g1, g2⟩ := ht.tm t v hl
           obtain ⟨l, rfl⟩ := isUn_R hu g2
           have h1 : (ops[j]?).bind (·.dst) = some t := by
             unfold gtmp at hj
             split at hj
             · rename_i o' ho
               rw [Array.getElem?_toList] at ho
               simp [ho, hj]
             · cases hj
           have hw : Region.wanted o (yielded ops a.tmps) = false := by
             unfold Region.wanted yielded
             rw [hg]
             simp only [h1, Option.bind_some, g1]
             rfl
           rw [if_neg (by rw [hw]; simp)]
           exact ⟨fun _ _ => trivial, hK E w undef (But.refl slot E) rfl hm⟩
     · cases h
   · cases h

inductive Pth where
 | fix (l : List Bool)
 | auto (log : List Bool)
def Pth.next (v : AV F) : Pth -> Option (Bool × Pth)
 | .fix (b :: r) => some (b, .fix r)
 | .fix [] => none
 | .auto log => match asB v with
   | some b => some (b, .auto (b :: log))
   | none => none

structure Res (F : Type) where
 tm : List (Nat × AV F)
 hp : List (Nat × Blk F)
 path : Pth
 cd : List (Bool × Bool)
 recs : List (Rec F)
abbrev Memo := List (Nat × Bool) × List (Nat × Nat)
def rootOf (al : List (Nat × Nat)) (t : Nat) : Nat := match look t al with | some r => r | none => t
def pickB (tm : List (Nat × AV F)) (memo : Memo) (t : Nat) (path : Pth) : Option (Bool × Memo × Pth) :=
 match look t tm with
 | some (.w (.one (.yes b))) => some (b, memo, path)
 | some (.w (.one (.lit _))) => some (false, memo, path)
 | some v => match look (rootOf memo.2 t) memo.1 with
   | some b => some (b, memo, path)
   | none => match path.next v with
     | some (b, r) => some (b, ((rootOf memo.2 t, b) :: memo.1, memo.2), r)
     | none => none
 | none => none
def moved (memo : Memo) (o : Oper) : Memo :=
 match o.op with
 | .move (.tmp x) => match o.dst with
   | some d => (memo.1, (d, rootOf memo.2 x) :: memo.2)
   | none => memo
 | _ => memo
def pickG (ops : List Oper) (tm : List (Nat × AV F)) (memo : Memo) (path : Pth) (o : Oper) : Option (Bool × Memo × Pth) :=
 match o.guard with
 | none => some (true, memo, path)
 | some (j, _) => match gtmp ops j with
   | some t => pickB tm memo t path
   | none => none
def wants (ops : List Oper) (tm : List (Nat × AV F)) (o : Oper) (βg : Bool) : Bool :=
 match o.guard with
 | none => true
 | some (j, want) => match gtmp ops j with
   | some t => match look t tm with
     | some v => bif isUn v then false else bif want then βg else !βg
     | none => false
   | none => false
def pickC (tm : List (Nat × AV F)) (memo : Memo) (path : Pth) (o : Oper) (w : Bool) : Option (Bool × Memo × Pth) :=
 bif w then (match o.op with
   | .pick (.tmp t) _ _ => pickB tm memo t path
   | _ => some (true, memo, path)) else some (true, memo, path)
def evSeq (c : Ctx F) (nt : Nat) (ops : List Oper) : List Oper -> Nat -> List (Nat × AV F) -> List (Nat × Blk F) -> Memo -> Pth -> Option (Res F)
 | [], _, tm, hp, _, path => some ⟨tm, hp, path, [], []⟩
 | o :: l, slot, tm, hp, memo, path =>
   match pickG ops tm memo path o with
   | none => none
   | some (βg, memo, path) => match pickC tm memo path o (wants ops tm o βg) with
     | none => none
     | some (βc, memo, path) => match evO c ops βg βc slot tm hp o with
       | none => none
       | some r => bif dstOk nt r.dst then
           match evSeq c nt ops l (slot + 1) (r.tm tm) (r.hp hp) (moved memo o) path with
           | none => none
           | some res => some ⟨res.tm, res.hp, res.path, r.out.cd ++ res.cd, r :: res.recs⟩
         else none
def Free (s : Nat) (E : Env F) : Prop := ∀ b, s <= b -> Fresh b E
theorem Free.fresh {s : Nat} {E : Env F} (h : Free s E) : Fresh s E := h s (Nat.le_refl _)
theorem Free.but {s : Nat} {E E' : Env F} (h : Free s E) (hb : But s E E') : Free (s + 1) E' := fun b hbs =>
 ⟨by rw [hb.m b (by omega)]; exact (h b (by omega)).1, fun j => by rw [hb.r b (by omega)]; exact (h b (by omega)).2.1 j, hb.q b (by omega) (h b (by omega)).2.2⟩
theorem Tms.apply {E : Env F} {nt : Nat} {tm : List (Nat × AV F)} {a : Act} (H : Tms ds E nt tm a) {r : Rec F} (hd : dstOk nt r.dst = true) {u : Value} (hv : r.out.val.R E u) : Tms ds E nt (r.tm tm) (a.put r.dst u) := by
 unfold Rec.tm
 cases h : r.dst with
 | none => exact H
 | some d =>
   rw [h] at hd
   exact H.put (by rw [<- Nat.blt_eq]; exact hd) hv
theorem evSeq_cons {c : Ctx F} {nt : Nat} {ops : List Oper} {o : Oper} {l : List Oper} {slot : Nat} {tm : List (Nat × AV F)} {hp : List (Nat × Blk F)} {memo : Memo} {path : Pth} {res : Res F}
   (h : evSeq c nt ops (o :: l) slot tm hp memo path = some res) : ∃ βg βc memo' path' r res', evO c ops βg βc slot tm hp o = some r /\ dstOk nt r.dst = true /\
     evSeq c nt ops l (slot + 1) (r.tm tm) (r.hp hp) memo' path' = some res' /\ res = ⟨res'.tm, res'.hp, res'.path, r.out.cd ++ res'.cd, r :: res'.recs⟩ := by
 unfold evSeq at h
 split at h
 · cases h
 · split at h
   · cases h
   · split at h
     · cases h
     · rename_i r hr
       cases hd : dstOk nt r.dst with
       | false => rw [hd] at h; cases h
       | true =>
         rw [hd] at h; simp only [cond_true] at h
         split at h
         · cases h
         · rename_i res' hres
           cases h
           exact ⟨_, _, _, _, r, res', hr, hd, hres, rfl⟩

def ap {α : Type} (w : Rec F -> List (Nat × α)) (D : Nat -> Bool) : List (Rec F) -> Nat -> List (Nat × α) -> List (Nat × α)
 | [], _, b => b
 | r :: rs, i, b => ap w D rs (i + 1) (bif D i then w r ++ b else b)
def wT (r : Rec F) : List (Nat × AV F) := match r.dst with | some d => [(d, r.out.val)] | none => []
def wH (r : Rec F) : List (Nat × Blk F) := r.out.wr
theorem rec_tm (r : Rec F) (tm : List (Nat × AV F)) : r.tm tm = wT r ++ tm := by unfold Rec.tm wT; cases r.dst <;> rfl
theorem look_append {α : Type} (t : Nat) (l m : List (Nat × α)) : look t (l ++ m) = match look t l with | some v => some v | none => look t m := by
 induction l with
 | nil => rfl
 | cons p l ih =>
   obtain ⟨j, v⟩ := p
   rw [List.cons_append, look_cons, look_cons, ih]
   by_cases h : j = t
   · simp [h]
   · simp [h]
theorem ap_congr {α : Type} {w : Rec F -> List (Nat × α)} {D D' : Nat -> Bool} {t : Nat} : ∀ (recs : List (Rec F)) (i : Nat) (b b' : List (Nat × α)), look t b = look t b' ->
   (∀ k r, recs[k]? = some r -> look t (w r) ≠ none -> D (i + k) = D' (i + k)) -> look t (ap w D recs i b) = look t (ap w D' recs i b')
 | [], i, b, b', h, _ => h
 | r :: rs, i, b, b', h, hd => by
   simp only [ap]
   refine ap_congr rs (i + 1) _ _ ?_ (fun k r' hk hw => by have := hd (k + 1) r' (by simpa using hk) hw; simpa [Nat.add_assoc, Nat.add_comm 1 k] using this)
   by_cases hw : look t (w r) = none
   · have e : ∀ x : Bool, ∀ b, look t (bif x then w r ++ b else b) = look t b := fun x b => by
       cases x
       · rfl
       · simp only [cond_true, look_append, hw]
     rw [e, e, h]
   · have := hd 0 r (by simp) hw
     simp only [Nat.add_zero] at this
     rw [this]
     cases D' i
     · exact h
     · simp only [cond_true, look_append, h]
theorem ap_keep {α : Type} {w : Rec F -> List (Nat × α)} {D : Nat -> Bool} {t : Nat} (recs : List (Rec F)) (i : Nat) (b : List (Nat × α)) (hd : ∀ k r, recs[k]? = some r -> D (i + k) = true -> look t (w r) = none) : look t (ap w D recs i b) = look t b := by
 induction recs generalizing i b with
 | nil => rfl
 | cons r rs ih =>
   simp only [ap]
   rw [ih (i + 1) _ (fun k r' hk hw => hd (k + 1) r' (by simpa using hk) (by simpa [Nat.add_assoc, Nat.add_comm 1 k] using hw))]
   cases hD : D i with
   | false => rfl
   | true => simp only [cond_true, look_append, hd 0 r (by simp) (by simpa using hD)]
theorem ap_last {α : Type} {w : Rec F -> List (Nat × α)} {D : Nat -> Bool} {t : Nat} {v : α} : ∀ (recs : List (Rec F)) (i j : Nat) (r : Rec F) (b : List (Nat × α)), recs[j]? = some r -> look t (w r) = some v -> D (i + j) = true ->
   (∀ k r', recs[k]? = some r' -> j < k -> look t (w r') ≠ none -> D (i + k) = false) -> look t (ap w D recs i b) = some v
 | [], i, j, r, b, h, _, _, _ => by simp at h
 | q :: rs, i, 0, r, b, h, hw, hD, hk => by
   simp at h; subst h
   simp only [ap]
   rw [ap_keep rs (i + 1) _ (fun k r' hk' hd => by
     by_cases e : look t (w r') = none
     · exact e
     · have := hk (k + 1) r' (by simpa using hk') (by omega) e
       rw [Nat.add_assoc, Nat.add_comm 1 k] at hd
       rw [hd] at this; cases this)]
   rw [show D i = true from hD]
   simp only [cond_true, look_append, hw]
 | q :: rs, i, j + 1, r, b, h, hw, hD, hk => by
   simp only [ap]
   exact ap_last rs (i + 1) j r _ (by simpa using h) hw (by rw [Nat.add_assoc, Nat.add_comm 1 j]; exact hD)
     (fun k r' hk' hlt hw' => by have := hk (k + 1) r' (by simpa using hk') (by omega) hw'; rw [Nat.add_assoc, Nat.add_comm 1 k]; exact this)


theorem opnds_congr {tm tm' : List (Nat × AV F)} : ∀ (xs : List Operand), (∀ t ∈ tmpsOf xs, look t tm' = look t tm) -> opnds tm' xs = opnds tm xs
 | [], _ => rfl
 | x :: r, h => by
   have hx : opnd tm' x = opnd tm x := by
     cases x with
     | tmp t => exact h t (by simp [tmpsOf])
     | _ => rfl
   have hr : opnds tm' r = opnds tm r := opnds_congr r fun t ht => h t (by cases x <;> simp [tmpsOf, ht])
   simp only [opnds, hx, hr]
theorem looks_congr {α : Type} {hp hp' : List (Nat × α)} : ∀ (bs : List Nat), (∀ b ∈ bs, look b hp' = look b hp) -> looks hp' bs = looks hp bs
 | [], _ => rfl
 | b :: r, h => by
   simp only [looks, h b (by simp), looks_congr r fun x hx => h x (by simp [hx])]
theorem evRun_frame {c : Ctx F} {β : Bool} {slot : Nat} {tm tm' : List (Nat × AV F)} {hp hp' : List (Nat × Blk F)} {o : Oper} {ts : List Nat} {cd : List (Bool × Bool)} {r : Rec F} (h : evRun c β slot tm hp o ts cd = some r)
   (ht : ∀ t ∈ r.rt, look t tm' = look t tm) (hb : ∀ b ∈ r.rb, look b hp' = look b hp) : evRun c β slot tm' hp' o ts cd = some r := by
 unfold evRun at h ⊢
 split at h
 · rename_i vs hvs
   split at h
   · rename_i bs hbs
     split at h
     · rename_i out hout
       cases h
       rw [opnds_congr _ (fun t h => ht t (by simp [h])), hvs]
       simp only
       rw [looks_congr _ (fun b h => hb b h), hbs]
       simp only [hout]
     · cases h
   · cases h
 · cases h
theorem evO_frame {c : Ctx F} {ops : List Oper} {βg βc : Bool} {slot : Nat} {tm tm' : List (Nat × AV F)} {hp hp' : List (Nat × Blk F)} {o : Oper} {r : Rec F} (h : evO c ops βg βc slot tm hp o = some r)
   (ht : ∀ t ∈ r.rt, look t tm' = look t tm) (hb : ∀ b ∈ r.rb, look b hp' = look b hp) : evO c ops βg βc slot tm' hp' o = some r := by
 unfold evO at h ⊢
 cases hg : o.guard with
 | none => rw [hg] at h; exact evRun_frame h ht hb
 | some p =>
   obtain ⟨j, want⟩ := p
   rw [hg] at h
   simp only at h ⊢
   split at h
   · rename_i t hj
     split at h
     · rename_i v hl
       split at h
       · rename_i b hab
         have key : look t tm' = look t tm := by
           refine ht t ?_
           cases hx : (bif want then βg else !βg) with
           | true =>
             rw [hx] at h; simp only [cond_true] at h
             unfold evRun at h
             repeat' split at h
             all_goals cases h
             simp
           | false => rw [hx] at h; cases h; simp
         rw [key, hl]
         simp only [hab]
         cases hx : (bif want then βg else !βg) with
         | true => rw [hx] at h; exact evRun_frame h ht hb
         | false => rw [hx] at h; exact h
       · rename_i hab
         cases hu : isUn v with
         | false => rw [hu] at h; cases h
         | true =>
           rw [hu] at h; cases h
           rw [ht t (by simp), hl]
           simp only [hab, hu, cond_true]
     · cases h
   · cases h

theorem evSeq_get {c : Ctx F} {nt : Nat} {ops : List Oper} : ∀ (l : List Oper) (slot : Nat) (tm : List (Nat × AV F)) (hp : List (Nat × Blk F)) (memo : Memo) (path : Pth) (res : Res F), evSeq c nt ops l slot tm hp memo path = some res ->
   res.recs.length = l.length /\ (∀ i, res.tm = ap wT (fun _ => true) res.recs i tm /\ res.hp = ap wH (fun _ => true) res.recs i hp) /\
   ∀ j o, l[j]? = some o -> ∃ r βg βc, res.recs[j]? = some r /\ dstOk nt r.dst = true /\ (∀ p ∈ r.out.cd, p ∈ res.cd) /\
     ∀ i, evO c ops βg βc (slot + j) (ap wT (fun k => Nat.blt k (i + j)) res.recs i tm) (ap wH (fun k => Nat.blt k (i + j)) res.recs i hp) o = some r
 | [], slot, tm, hp, memo, path, res, h => by
   cases h
   exact ⟨rfl, fun _ => ⟨rfl, rfl⟩, fun j o h => by simp at h⟩
 | o :: l, slot, tm, hp, memo, path, res, h => by
   obtain ⟨βg, βc, memo', path', r, res', h1, h2, h3, rfl⟩ := evSeq_cons h
   obtain ⟨g1, g2, g3⟩ := evSeq_get l (slot + 1) _ _ memo' path' res' h3
   refine ⟨by simp [g1], fun i => ?_, fun j o' hj => ?_⟩
   · have := g2 (i + 1)
     rw [rec_tm] at this
     exact this
   · cases j with
     | zero =>
       simp at hj; subst hj
       refine ⟨r, βg, βc, by simp, h2, fun p hp => List.mem_append_left _ hp, fun i => ?_⟩
       have e1 : ∀ {α : Type} (w : Rec F -> List (Nat × α)) (b : List (Nat × α)) (t : Nat), look t (ap w (fun k => Nat.blt k (i + 0)) (r :: res'.recs) i b) = look t b := fun w b t =>
         ap_keep _ _ _ fun k r' _ hd => by
           rw [Nat.blt_eq] at hd; omega
       exact evO_frame (by simpa using h1) (fun t _ => e1 _ _ t) (fun b _ => e1 _ _ b)
     | succ j =>
       obtain ⟨r', βg', βc', q1, q2, q3, q4⟩ := g3 j o' (by simpa using hj)
       refine ⟨r', βg', βc', by simpa using q1, q2, fun p hp => List.mem_append_right _ (q3 p hp), fun i => ?_⟩
       have := q4 (i + 1)
       have hb : Nat.blt i (i + (j + 1)) = true := by rw [Nat.blt_eq]; omega
       simp only [ap, hb, cond_true]
       rw [rec_tm] at this
       rw [show slot + (j + 1) = slot + 1 + j by omega, show i + (j + 1) = i + 1 + j by omega]
       exact this


def orE (M : List Nat) : List Edge -> Nat
 | [] => 0
 | e :: r => bif Region.binds .any e then (2 ^ e.on ||| M.getD e.on 0) ||| orE M r else orE M r
def masks : List Oper -> List Nat -> List Nat
 | [], acc => acc
 | o :: r, acc => masks r (acc ++ [orE acc o.after.toList])
def lowE (j : Nat) (l : List Edge) : Bool := l.all fun e => !Region.binds .any e || Nat.blt e.on j
def chkM (M : List Nat) : List Nat -> List Oper -> Nat -> Bool
 | [], [], _ => true
 | m :: ms, o :: os, j => Nat.beq m (orE M o.after.toList) && lowE j o.after.toList && chkM M ms os (j + 1)
 | _, _, _ => false
theorem chkM_get {M : List Nat} : ∀ (ms : List Nat) (os : List Oper) (i : Nat), chkM M ms os i = true -> ms.length = os.length /\ ∀ j o, os[j]? = some o -> ∃ m, ms[j]? = some m /\ m = orE M o.after.toList /\ lowE (i + j) o.after.toList = true
 | [], [], i, _ => ⟨rfl, fun j o h => by simp at h⟩
 | [], _ :: _, _, h => by cases h
 | _ :: _, [], _, h => by cases h
 | m :: ms, o :: os, i, h => by
   simp only [chkM, Bool.and_eq_true] at h
   obtain ⟨g1, g2⟩ := chkM_get ms os (i + 1) h.2
   refine ⟨by simp [g1], fun j o' hj => ?_⟩
   cases j with
   | zero => simp at hj; subst hj; exact ⟨m, by simp, Nat.eq_of_beq_eq_true h.1.1, h.1.2⟩
   | succ j =>
     obtain ⟨m', q1, q2, q3⟩ := g2 j o' (by simpa using hj)
     exact ⟨m', by simpa using q1, q2, by rw [show i + (j + 1) = i + 1 + j by omega]; exact q3⟩
theorem orE_bit {M : List Nat} {i : Nat} : ∀ (l : List Edge), (orE M l).testBit i = true -> ∃ e ∈ l, Region.binds .any e = true /\ (i = e.on \/ (M.getD e.on 0).testBit i = true)
 | [], h => by simp [orE] at h
 | e :: r, h => by
   simp only [orE] at h
   cases hb : Region.binds .any e with
   | false =>
     rw [hb] at h
     obtain ⟨e', h1, h2⟩ := orE_bit r h
     exact ⟨e', List.mem_cons_of_mem _ h1, h2⟩
   | true =>
     rw [hb] at h
     simp only [cond_true, Nat.testBit_or, Bool.or_eq_true] at h
     rcases h with (h | h) | h
     · refine ⟨e, List.mem_cons_self, hb, .inl ?_⟩
       rw [Nat.testBit_two_pow] at h
       exact (by simpa using h : e.on = i).symm
     · exact ⟨e, List.mem_cons_self, hb, .inr h⟩
     · obtain ⟨e', h1, h2⟩ := orE_bit r h
       exact ⟨e', List.mem_cons_of_mem _ h1, h2⟩
theorem anc_in {M : List Nat} {ops : List Oper} (hM : chkM M M ops 0 = true) {D : Nat -> Bool} (hD : ∀ j o, ops[j]? = some o -> D j = true -> ∀ e ∈ o.after.toList, Region.binds .any e = true -> D e.on = true) :
   ∀ (j : Nat) (o : Oper), ops[j]? = some o -> (∀ e ∈ o.after.toList, Region.binds .any e = true -> D e.on = true) -> ∀ i, (M.getD j 0).testBit i = true -> D i = true := by
 obtain ⟨hlen, hget⟩ := chkM_get M ops 0 hM
 intro j
 induction j using Nat.strongRecOn with
 | _ j ih =>
   intro o ho hw i hi
   obtain ⟨m, h1, h2, h3⟩ := hget j o ho
   rw [List.getD_eq_getElem?_getD, h1, Option.getD_some, h2] at hi
   obtain ⟨e, he, hb, hor⟩ := orE_bit _ hi
   have hDe := hw e he hb
   rcases hor with rfl | hor
   · exact hDe
   · have hlt : e.on < j := by
       have := (List.all_eq_true.1 h3) e he
       simp only [hb, Bool.not_true, Bool.false_or, Nat.zero_add] at this
       rw [Nat.blt_eq] at this; exact this
     have hjlt : j < ops.length := (List.getElem?_eq_some_iff.1 ho).1
     have hoe : ops[e.on]? = some (ops[e.on]'(by omega)) := List.getElem?_eq_getElem (by omega)
     exact ih e.on hlt _ hoe (hD e.on _ hoe hDe) i hor

def disj (l k : List Nat) : Bool := l.all fun x => !(k.any fun y => Nat.beq x y)
theorem disj_spec {l k : List Nat} (h : disj l k = true) {x : Nat} (hx : x ∈ l) : x ∉ k := fun hk => by
 have h1 := (List.all_eq_true.1 h) x hx
 simp only [Bool.not_eq_true'] at h1
 have : k.any (fun y => Nat.beq x y) = true := List.any_eq_true.2 ⟨x, hk, by simp⟩
 rw [this] at h1; cases h1
def keys {α : Type} (l : List (Nat × α)) : List Nat := l.map (·.1)
theorem look_keys {α : Type} {t : Nat} {l : List (Nat × α)} (h : look t l ≠ none) : t ∈ keys l := by
 induction l with
 | nil => exact absurd rfl h
 | cons p l ih =>
   obtain ⟨j, v⟩ := p
   rw [look_cons] at h
   by_cases e : j = t
   · subst e; exact List.mem_cons_self
   · rw [if_neg e] at h; exact List.mem_cons_of_mem _ (ih h)
def sep (x y : Rec F) : Bool :=
 disj (keys (wT x)) y.rt && disj (keys (wT x)) (keys (wT y)) && disj (keys (wT y)) x.rt && disj (keys (wH x)) y.rb && disj (keys (wH x)) (keys (wH y)) && disj (keys (wH y)) x.rb
def sepRow (M : List Nat) (y : Rec F) (my : Nat) : List (Rec F) -> Nat -> Bool
 | [], _ => true
 | x :: rs, i => (my.testBit i || sep x y) && sepRow M y my rs (i + 1)
def sepAll (M : List Nat) (all : List (Rec F)) : List (Rec F) -> Nat -> Bool
 | [], _ => true
 | y :: rs, j => sepRow M y (M.getD j 0) (all.take j) 0 && sepAll M all rs (j + 1)
theorem sepRow_get {M : List Nat} {y : Rec F} {my : Nat} : ∀ (rs : List (Rec F)) (i : Nat), sepRow M y my rs i = true -> ∀ k x, rs[k]? = some x -> my.testBit (i + k) = true \/ sep x y = true
 | [], i, _, k, x, h => by simp at h
 | z :: rs, i, h, k, x, hk => by
   simp only [sepRow, Bool.and_eq_true, Bool.or_eq_true] at h
   cases k with
   | zero => simp at hk; subst hk; exact h.1
   | succ k =>
     have := sepRow_get rs (i + 1) h.2 k x (by simpa using hk)
     rw [show i + (k + 1) = i + 1 + k by omega]; exact this
theorem sepAll_get {M : List Nat} {all : List (Rec F)} : ∀ (rs : List (Rec F)) (i : Nat), sepAll M all rs i = true -> ∀ k y, rs[k]? = some y -> ∀ h x, all[h]? = some x -> h < i + k -> (M.getD (i + k) 0).testBit h = true \/ sep x y = true
 | [], i, _, k, y, hk => by simp at hk
 | z :: rs, i, h, k, y, hk => by
   simp only [sepAll, Bool.and_eq_true] at h
   intro g x hg hlt
   cases k with
   | zero =>
     simp at hk; subst hk
     have := sepRow_get _ 0 h.1 g x (by rw [List.getElem?_take, if_pos (by simpa using hlt)]; exact hg)
     simpa using this
   | succ k =>
     have := sepAll_get rs (i + 1) h.2 k y (by simpa using hk) g x hg (by omega)
     rw [show i + (k + 1) = i + 1 + k by omega]; exact this
def indep (ops : List Oper) (recs : List (Rec F)) : Bool := let M := masks ops []; chkM M M ops 0 && sepAll M recs recs 0

theorem filter_lt (p : Nat -> Bool) (j : Nat) : ∀ (l : List Nat), j ∈ l -> p j = true -> (l.filter fun i => p i && !(i == j)).length < (l.filter p).length
 | [], h, _ => by cases h
 | x :: l, h, hp => by
   have le : (l.filter fun i => p i && !(i == j)).length <= (l.filter p).length := by
     clear h
     induction l with
     | nil => simp
     | cons y l ih =>
       simp only [List.filter_cons]
       cases p y <;> cases (y == j) <;> simp <;> omega
   by_cases e : x = j
   · subst e
     simp only [List.filter_cons, hp, beq_self_eq_true, Bool.not_true, Bool.and_false, Bool.false_eq_true, if_false, if_true, List.length_cons]
     omega
   · have hm : j ∈ l := by
       rcases List.mem_cons.1 h with h | h
       · exact absurd h.symm e
       · exact h
     have ih := filter_lt p j l hm hp
     have hx : (x == j) = false := by simp [e]
     simp only [List.filter_cons, hx, Bool.not_false, Bool.and_true]
     cases p x <;> simp <;> omega

theorem getD_set {listed : Array Bool} {j : Nat} (hj : j < listed.size) (i : Nat) : (listed.setIfInBounds j true).getD i false = (listed.getD i false || (i == j)) := by
 by_cases e : i = j
 · subst e
   simp [Array.getD_eq_getD_getElem?, hj]
 · have : (i == j) = false := by simp [e]
   simp [Array.getD_eq_getD_getElem?, Array.getElem?_setIfInBounds_ne (Ne.symm e), this]
theorem ap_step {α : Type} {w : Rec F -> List (Nat × α)} {D D' : Nat -> Bool} {recs : List (Rec F)} {j : Nat} {r : Rec F} (hr : recs[j]? = some r) (hD' : ∀ i, D' i = (D i || (i == j)))
   (hk : ∀ k x, recs[k]? = some x -> j < k -> D k = true -> ∀ t, look t (w r) ≠ none -> look t (w x) = none) (b : List (Nat × α)) (t : Nat) : look t (ap w D' recs 0 b) = look t (w r ++ ap w D recs 0 b) := by
 rw [look_append]
 cases hw : look t (w r) with
 | some v =>
   refine ap_last recs 0 j r b hr hw (by rw [hD']; simp) fun k x hx hlt hwx => ?_
   rw [hD', Nat.zero_add]
   have e : (k == j) = false := by simp; omega
   rw [e, Bool.or_false]
   cases hd : D k with
   | false => rfl
   | true => exact absurd (hk k x hx hlt hd t (by rw [hw]; simp)) hwx
 | none =>
   refine ap_congr recs 0 b b rfl fun k x hx hwx => ?_
   rw [hD', Nat.zero_add]
   have e : (k == j) = false := by
     simp only [beq_eq_false_iff_ne]
     intro e
     subst e
     rw [hr] at hx; cases hx
     exact hwx hw
   rw [e, Bool.or_false]

theorem drawn_sound {P : Program} {I : Interp F} {c : Ctx F} (hC : CtxOk P I c) (hmix : P.follows .mixedOrders = true) {id nt slot : Nat} {ops : Array Oper} {tm : List (Nat × AV F)} {hp : List (Nat × Blk F)} {memo : Memo} {path : Pth} {res : Res F}
   (h : evSeq c nt ops.toList ops.toList slot tm hp memo path = some res) (hi : indep ops.toList res.recs = true) {E : Env F} {a : Act} {w0 : Start} {w : World} (ht : Tms ds E nt tm a) (hm : Mem I w0 E hp w) (hf : Free slot E)
   (hc : ∀ p ∈ res.cd, p.1 = p.2) {Q : Exit -> Act -> World -> Prop}
   (hQ : ∀ E' a' w', Tms ds E' nt res.tm a' -> Mem I w0 E' res.hp w' -> Free (slot + ops.size) E' -> E.le E' -> Q .normal a' w') : (Code.region id ops true).wpIn (Fr ro) 0 P Q a w := by
 refine wpIn_region_any hmix ?_
 obtain ⟨hlen, hfin, hget⟩ := evSeq_get _ _ _ _ _ _ _ h
 have hlen' : res.recs.length = ops.size := by simpa using hlen
 simp only [indep, Bool.and_eq_true] at hi
 obtain ⟨hM, hsep⟩ := hi
 have hlow := (chkM_get _ _ _ hM).2
 have anc := fun {D : Nat -> Bool} hD => anc_in (D := D) hM hD
 have sepg := sepAll_get _ _ hsep
 simp only [Nat.zero_add] at sepg
 have key : ∀ (fuel : Nat) (listed : Array Bool) (a : Act) (w : World) (E' : Env F), listed.size = ops.size ->
     (∀ j o, ops.toList[j]? = some o -> listed.getD j false = true -> ∀ e ∈ o.after.toList, Region.binds .any e = true -> listed.getD e.on false = true) ->
     E.le E' -> Tms ds E' nt (ap wT (fun i => listed.getD i false) res.recs 0 tm) a -> Mem I w0 E' (ap wH (fun i => listed.getD i false) res.recs 0 hp) w ->
     (∀ b, slot <= b -> (∀ i, listed.getD i false = true -> b ≠ slot + i) -> Fresh b E') ->
     ((List.range ops.size).filter fun i => !listed.getD i false).length <= fuel -> wpAnyIn (Fr ro) 0 P .any ops Q fuel listed a w := by
   intro fuel
   induction fuel with
   | zero =>
     intro listed a w E' hsz hcl hle hT hMm hfr hn
     have hall : ∀ i, i < ops.size -> listed.getD i false = true := fun i hi => by
       cases hd : listed.getD i false with
       | true => rfl
       | false =>
         have : i ∈ (List.range ops.size).filter fun i => !listed.getD i false := List.mem_filter.2 ⟨List.mem_range.2 hi, by simp [hd]⟩
         have h0 := List.length_pos_of_mem this
         omega
     refine ⟨?_, ?_⟩
     · cases hr : Region.ready .any ops listed with
       | nil => rfl
       | cons x xs =>
         have hx : x ∈ Region.ready .any ops listed := by rw [hr]; exact List.mem_cons_self
         obtain ⟨h1, o, h2, _⟩ := mem_ready.1 hx
         have hlt := (Array.getElem?_eq_some_iff.1 h2).1
         have h3 := hall x hlt
         rw [Array.getD_eq_getD_getElem?, Array.getElem?_eq_getElem (by omega)] at h1 h3
         simp at h1 h3
         rw [h1] at h3; cases h3
     · have e1 : ∀ t, look t res.tm = look t (ap wT (fun i => listed.getD i false) res.recs 0 tm) := fun t => by
         rw [(hfin 0).1]
         refine ap_congr _ 0 _ _ rfl fun k r hk _ => ?_
         rw [Nat.zero_add]; exact (hall k (by rw [<- hlen']; exact (List.getElem?_eq_some_iff.1 hk).1)).symm
       have e2 : ∀ t, look t res.hp = look t (ap wH (fun i => listed.getD i false) res.recs 0 hp) := fun t => by
         rw [(hfin 0).2]
         refine ap_congr _ 0 _ _ rfl fun k r hk _ => ?_
         rw [Nat.zero_add]; exact (hall k (by rw [<- hlen']; exact (List.getElem?_eq_some_iff.1 hk).1)).symm
       refine hQ E' a w (hT.congr e1) (hMm.congr e2) (fun b hb => hfr b (by omega) fun i hi e => ?_) hle
       have : i < ops.size := by
         rcases Nat.lt_or_ge i ops.size with h | h
         · exact h
         · rw [Array.getD_eq_getD_getElem?, Array.getElem?_eq_none (by omega)] at hi; simp at hi
       omega
   | succ fuel ih =>
     intro listed a w E' hsz hcl hle hT hMm hfr hn
     refine ⟨fun hr => ?_, fun j hj => ?_⟩
     · -- none may come up: all have come up
       have hall : ∀ i, i < ops.size -> listed.getD i false = true := fun i => by
         induction i using Nat.strongRecOn with
         | _ i ihi =>
           intro hi
           cases hd : listed.getD i false with
           | true => rfl
           | false =>
             have hm' : i ∈ Region.ready .any ops listed := by
               refine mem_ready.2 ⟨?_, ops[i], Array.getElem?_eq_getElem hi, fun e he hb => ?_⟩
               · rw [Array.getD_eq_getD_getElem?, Array.getElem?_eq_getElem (by omega)] at hd ⊢; simpa using hd
               · obtain ⟨m, _, _, hlo⟩ := hlow i ops[i] (by rw [Array.getElem?_toList]; exact Array.getElem?_eq_getElem hi)
                 have := (List.all_eq_true.1 hlo) e (by simpa using he)
                 simp only [hb, Bool.not_true, Bool.false_or, Nat.zero_add] at this
                 rw [Nat.blt_eq] at this
                 exact ihi e.on this (by omega)
             rw [hr] at hm'; cases hm'
       have e1 : ∀ t, look t res.tm = look t (ap wT (fun i => listed.getD i false) res.recs 0 tm) := fun t => by
         rw [(hfin 0).1]
         refine ap_congr _ 0 _ _ rfl fun k r hk _ => ?_
         rw [Nat.zero_add]; exact (hall k (by rw [<- hlen']; exact (List.getElem?_eq_some_iff.1 hk).1)).symm
       have e2 : ∀ t, look t res.hp = look t (ap wH (fun i => listed.getD i false) res.recs 0 hp) := fun t => by
         rw [(hfin 0).2]
         refine ap_congr _ 0 _ _ rfl fun k r hk _ => ?_
         rw [Nat.zero_add]; exact (hall k (by rw [<- hlen']; exact (List.getElem?_eq_some_iff.1 hk).1)).symm
       refine hQ E' a w (hT.congr e1) (hMm.congr e2) (fun b hb => hfr b (by omega) fun i hi e => ?_) hle
       have : i < ops.size := by
         rcases Nat.lt_or_ge i ops.size with h | h
         · exact h
         · rw [Array.getD_eq_getD_getElem?, Array.getElem?_eq_none (by omega)] at hi; simp at hi
       omega
     · obtain ⟨h1, o, h2, h3⟩ := mem_ready.1 hj
       have hlt := (Array.getElem?_eq_some_iff.1 h2).1
       have hDj : listed.getD j false = false := by
         rw [Array.getD_eq_getD_getElem?, Array.getElem?_eq_getElem (by omega)] at h1 ⊢; simpa using h1
       have ho : ops.toList[j]? = some o := by rw [Array.getElem?_toList]; exact h2
       obtain ⟨r, βg, βc, q1, q2, q3, q4⟩ := hget j o ho
       have q4 := q4 0
       simp only [Nat.zero_add] at q4
       have hw : ∀ e ∈ o.after.toList, Region.binds .any e = true -> listed.getD e.on false = true := fun e he hb => h3 e (by simpa using he) hb
       have ancj := anc (D := fun i => listed.getD i false) hcl j o ho hw
       have later : ∀ k x, res.recs[k]? = some x -> j < k -> listed.getD k false = true -> sep r x = true := fun k x hx hlt' hd => by
         rcases sepg k x hx j r q1 hlt' with hb | hs
         · have hk : k < ops.size := by rw [<- hlen']; exact (List.getElem?_eq_some_iff.1 hx).1
           have hok : ops.toList[k]? = some ops[k] := by rw [Array.getElem?_toList]; exact Array.getElem?_eq_getElem hk
           have := anc (D := fun i => listed.getD i false) hcl k ops[k] hok (hcl k _ hok hd) j hb
           rw [hDj] at this; cases this
         · exact hs
       have earlier : ∀ k x, res.recs[k]? = some x -> k < j -> listed.getD k false = false -> sep x r = true := fun k x hx hlt' hd => by
         rcases sepg j r q1 k x hx hlt' with hb | hs
         · have := ancj k hb
           rw [hd] at this; cases this
         · exact hs
       have agree : ∀ {α : Type} (wr : Rec F -> List (Nat × α)) (reads : Rec F -> List Nat) (b : List (Nat × α)),
           (∀ x y, sep x y = true -> disj (keys (wr x)) (reads y) = true /\ disj (keys (wr y)) (reads x) = true) -> ∀ t ∈ reads r,
           look t (ap wr (fun i => listed.getD i false) res.recs 0 b) = look t (ap wr (fun k => Nat.blt k j) res.recs 0 b) := fun wr reads b hs t ht => by
         refine ap_congr _ 0 _ _ rfl fun k x hx hwx => ?_
         rw [Nat.zero_add]
         have hkey := look_keys hwx
         rcases Nat.lt_trichotomy k j with hk | hk | hk
         · have : Nat.blt k j = true := by rw [Nat.blt_eq]; exact hk
           rw [this]
           cases hd : listed.getD k false with
           | true => rfl
           | false => exact absurd ht (disj_spec (hs x r (earlier k x hx hk hd)).1 hkey)
         · subst hk
           have : Nat.blt k k = false := by
             cases hb : Nat.blt k k with
             | false => rfl
             | true => rw [Nat.blt_eq] at hb; omega
           rw [this]; exact hDj
         · have : Nat.blt k j = false := by
             cases hb : Nat.blt k j with
             | false => rfl
             | true => rw [Nat.blt_eq] at hb; omega
           rw [this]
           cases hd : listed.getD k false with
           | false => rfl
           | true => exact absurd ht (disj_spec (hs r x (later k x hx hk hd)).2 hkey)
       have hev := evO_frame q4 (agree wT Rec.rt tm fun x y hs => by simp only [sep, Bool.and_eq_true] at hs; exact ⟨hs.1.1.1.1.1, hs.1.1.1.2⟩)
         (agree wH Rec.rb hp fun x y hs => by simp only [sep, Bool.and_eq_true] at hs; exact ⟨hs.1.1.2, hs.2⟩)
       refine op_sound hC h2 hev hT hMm (hfr _ (by omega) fun i hi e => ?_) (fun p hp => hc p (q3 p hp)) fun E'' w' u hb hv hm' => ?_
       · have : i = j := by omega
         subst this
         rw [hDj] at hi; cases hi
       · have hD' : ∀ i, (listed.setIfInBounds j true).getD i false = (listed.getD i false || (i == j)) := getD_set (by omega)
         have hdst := (evO_dst q4).1
         have s1 : ∀ t, look t (ap wT (fun i => (listed.setIfInBounds j true).getD i false) res.recs 0 tm) = look t (r.tm (ap wT (fun i => listed.getD i false) res.recs 0 tm)) := fun t => by
           rw [rec_tm]
           refine ap_step q1 hD' (fun k x hx hk hd t ht => ?_) tm t
           have hs := later k x hx hk hd
           simp only [sep, Bool.and_eq_true] at hs
           cases hl : look t (wT x) with
           | none => rfl
           | some v => exact absurd (look_keys (by rw [hl]; simp)) (disj_spec hs.1.1.1.1.2 (look_keys ht))
         have s2 : ∀ t, look t (ap wH (fun i => (listed.setIfInBounds j true).getD i false) res.recs 0 hp) = look t (r.hp (ap wH (fun i => listed.getD i false) res.recs 0 hp)) := fun t => by
           refine ap_step q1 hD' (fun k x hx hk hd t ht => ?_) hp t
           have hs := later k x hx hk hd
           simp only [sep, Bool.and_eq_true] at hs
           cases hl : look t (wH x) with
           | none => rfl
           | some v => exact absurd (look_keys (by rw [hl]; simp)) (disj_spec hs.1.2 (look_keys ht))
         refine ih _ _ w' E'' (by simp [hsz]) (fun k o' hk hd e he hb' => ?_) (hle.trans hb.le) (((hdst ▸ (hT.mono hb.le).apply q2 hv : Tms ds E'' nt _ (a.put o.dst u))).congr s1) (hm'.congr s2) (fun b hbs hne => ?_) ?_
         · rw [hD'] at hd ⊢
           simp only [Bool.or_eq_true] at hd ⊢
           rcases hd with hd | hd
           · exact .inl (hcl k o' hk hd e he hb')
           · have : k = j := by simpa using hd
             subst this
             rw [ho] at hk; cases hk
             exact .inl (hw e he hb')
         · have hbj : b ≠ slot + j := hne j (by rw [hD']; simp)
           have hold := hfr b hbs fun i hi => hne i (by rw [hD', hi]; rfl)
           exact ⟨by rw [hb.m b hbj]; exact hold.1, fun i => by rw [hb.r b hbj]; exact hold.2.1 i, hb.q b hbj hold.2.2⟩
         · have hlt2 := filter_lt (fun i => !listed.getD i false) j (List.range ops.size) (List.mem_range.2 hlt) (by simp [hDj])
           have heq : (List.range ops.size).filter (fun i => !(listed.setIfInBounds j true).getD i false) = (List.range ops.size).filter (fun i => (!listed.getD i false) && !(i == j)) := by
             refine List.filter_congr fun i _ => ?_
             rw [hD', Bool.not_or]
           rw [heq]
           omega
 have hnone : ∀ i, (Array.replicate ops.size false).getD i false = false := fun i => by
   rw [Array.getD_eq_getD_getElem?]
   cases hx : (Array.replicate ops.size false)[i]? with
   | none => rfl
   | some b =>
     have := (Array.getElem?_eq_some_iff.1 hx)
     simp at this
     simp [this.2]
 refine key ops.size _ a _ E (by simp) (fun j o _ hd => by rw [hnone] at hd; cases hd) (.refl E) (ht.congr fun t => ?_) (hm.draw.congr fun t => ?_) (fun b hb _ => hf b hb) ?_
 · exact ap_keep _ _ _ fun k r _ hd => by rw [hnone] at hd; cases hd
 · exact ap_keep _ _ _ fun k r _ hd => by rw [hnone] at hd; cases hd
 · exact Nat.le_trans (List.length_filter_le _ _) (by simp)


def argsT : List (AV F) -> Nat -> List (Nat × AV F)
 | [], _ => []
 | v :: r, i => (i, v) :: argsT r (i + 1)
def loadOf (c : Ctx F) (t : TypeId) (hp : List (Nat × Blk F)) (x : AV F) : Option (AV F) :=
 match x with
 | .w (.one (.ptr b o)) => match look b hp with
   | some blk => match c.T t with
     | some i => bif i.aggB then (bif Nat.ble (o + i.size) blk.cs.length then some (.w (.agg ((blk.cs.drop o).take i.size))) else none) else
       match blk.cs[o]? with
       | some x => some (.w (.one x))
       | none => none
     | none => none
   | none => none
 | _ => none
def resOf (c : Ctx F) (tm : List (Nat × AV F)) (hp : List (Nat × Blk F)) : ResultVar -> Option (AW F)
 | .tmp t => match look t tm with
   | some (.w x) => some x
   | _ => none
 | .cell a t => match look a tm with
   | some x => match loadOf c t hp x with
     | some (.w y) => some y
     | _ => none
   | none => none
def ressOf (c : Ctx F) (tm : List (Nat × AV F)) (hp : List (Nat × Blk F)) : List ResultVar -> Option (List (AW F))
 | [] => some []
 | x :: r => match resOf c tm hp x with
   | some v => match ressOf c tm hp r with
     | some l => some (v :: l)
     | none => none
   | none => none
def oneOrAll : List (AW F) -> AV F
 | [x] => .w x
 | l => .tup l
structure ResF (F : Type) where
 val : AV F
 hp : List (Nat × Blk F)
 nx : Nat
 path : Pth
 cd : List (Bool × Bool)
theorem loadOf_R {P : Program} {I : Interp F} {c : Ctx F} (hT : TabOk P c.T) {t : TypeId} {hp : List (Nat × Blk F)} {x v : AV F} (h : loadOf c t hp x = some v) {E : Env F} {w0 : Start} {w : World} (hm : Mem I w0 E hp w) {u : Value} (hx : x.R E u) :
   ∃ r, (do loadVar t (<- asAddr u) : Sem Value).run P w = .ok r w /\ v.R E r := by
 unfold loadOf at h
 split at h
 · rename_i b o
   split at h
   · rename_i blk hl
     obtain ⟨k, g1, rfl⟩ := hx
     obtain ⟨k', ws, g1', g2, g3⟩ := hm.hp b blk hl (hm.plain hl g1)
     rw [g1] at g1'; cases g1'
     have hlen := g3.length
     have conv : ∀ {r}, (Instr.loadAt t (.pointer (some ⟨k, o, none⟩))).run P w = .ok r w -> (do loadVar t (<- asAddr (.pointer (some ⟨k, o, none⟩))) : Sem Value).run P w = .ok r w := fun h => by
       simp only [Instr.loadAt, Instr.sureAddr, Sem.run_bind, Sem.run_pure, Result.andThen_ok] at h
       simp only [asAddr, Sem.run_bind, Sem.run_pure, Result.andThen_ok, h]
     split at h
     · rename_i i hi
       cases ha : i.aggB with
       | true =>
         rw [ha] at h; simp only [cond_true] at h
         cases hz : Nat.ble (o + i.size) blk.cs.length with
         | false => rw [hz] at h; cases h
         | true =>
           rw [hz] at h; cases h
           have hle := Nat.le_of_ble_eq_true hz
           have hrun := load_R (P := P) (o := o) hT hi g2 (fun _ => by omega) (fun e => by rw [ha] at e; cases e)
           rw [ha, if_pos rfl] at hrun
           exact ⟨_, conv hrun, _, rfl, g3.take_drop o i.size⟩
       | false =>
         rw [ha] at h; simp only [cond_false] at h
         split at h
         · rename_i y hy
           cases h
           obtain ⟨v, q1, q2⟩ := g3.get o y hy
           have hlt : o < ws.length := (List.getElem?_eq_some_iff.1 q1).1
           have hrun := load_R (P := P) (o := o) hT hi g2 (fun e => by rw [ha] at e; cases e) (fun _ => hlt)
           rw [ha, if_neg (by simp)] at hrun
           refine ⟨_, conv hrun, ?_⟩
           rw [List.getD_eq_getElem?_getD, q1]; exact q2
         · cases h
     · cases h
   · cases h
 · cases h
theorem resOf_R {P : Program} {I : Interp F} {c : Ctx F} (hT : TabOk P c.T) {nt : Nat} {tm : List (Nat × AV F)} {hp : List (Nat × Blk F)} {rv : ResultVar} {v : AW F} (h : resOf c tm hp rv = some v) {E : Env F} {a : Act} {w0 : Start} {w : World} (ht : Tms ds E nt tm a) (hm : Mem I w0 E hp w) :
   ∃ r, (match rv with | .tmp t => pure (a.tmps.getD t undef) | .cell x t => do loadVar t (<- asAddr (a.tmps.getD x undef)) : Sem Value).run P w = .ok r w /\ v.R E r := by
 cases rv with
 | tmp t =>
   simp only [resOf] at h
   split at h
   · rename_i x hx
     cases h
     obtain ⟨u, h1, h2⟩ := ht.tm t _ hx
     exact ⟨u, by simp [h1], h2⟩
   · cases h
 | cell x t =>
   simp only [resOf] at h
   split at h
   · rename_i y hy
     split at h
     · rename_i z hz
       cases h
       obtain ⟨u, h1, h2⟩ := ht.tm x _ hy
       obtain ⟨r, q1, q2⟩ := loadOf_R (P := P) hT hz hm h2
       have e : a.tmps.getD x undef = u := by rw [Array.getD_eq_getD_getElem?, h1]; rfl
       simp only [e]
       exact ⟨r, q1, q2⟩
     · cases h
   · cases h
theorem ressOf_R {P : Program} {I : Interp F} {c : Ctx F} (hT : TabOk P c.T) {nt : Nat} {tm : List (Nat × AV F)} {hp : List (Nat × Blk F)} {E : Env F} {a : Act} {w0 : Start} {w : World} (ht : Tms ds E nt tm a) (hm : Mem I w0 E hp w) : ∀ {rs : List ResultVar} {l : List (AW F)}, ressOf c tm hp rs = some l ->
   ∃ us, (rs.mapM fun (rv : ResultVar) => (match rv with | .tmp t => pure (a.tmps.getD t undef) | .cell x t => do loadVar t (<- asAddr (a.tmps.getD x undef)) : Sem Value)).run P w = .ok us w /\ All2 (AW.R E) l us
 | [], l, h => by cases h; exact ⟨[], rfl, .nil⟩
 | rv :: rs, l, h => by
   simp only [ressOf] at h
   split at h
   · rename_i v hv
     split at h
     · rename_i l' hl
       cases h
       obtain ⟨u, h1, h2⟩ := resOf_R (P := P) hT hv ht hm
       obtain ⟨us, h3, h4⟩ := ressOf_R hT ht hm hl
       refine ⟨u :: us, ?_, .cons h2 h4⟩
       rw [List.mapM_cons]
       simp only [Sem.run_bind, h1, h3, Result.andThen_ok, Sem.run_pure]
     · cases h
   · cases h
theorem oneOrAll_R {E : Env F} {l : List (AW F)} {us : List Value} (h : All2 (AW.R E) l us) : (oneOrAll l).R E (if h : us.toArray.size = 1 then us.toArray[0] else .tuple us.toArray) := by
 cases h with
 | nil => exact ⟨[], rfl, .nil⟩
 | cons r h =>
   cases h with
   | nil => exact r
   | cons s h =>
     rw [dif_neg (by simp)]
     exact ⟨_, rfl, .cons r (.cons s h)⟩
theorem argsT_get {E : Env F} : ∀ {args : List (AV F)} {us : List Value} (i : Nat), All2 (AV.R E) args us -> ∀ j v, look j (argsT args i) = some v -> i <= j /\ ∃ u, us[j - i]? = some u /\ v.R E u
 | [], us, i, h, j, v, hl => by simp [argsT, look] at hl
 | x :: args, us, i, h, j, v, hl => by
   cases h with
   | cons r h =>
     simp only [argsT] at hl
     rw [look_cons] at hl
     by_cases e : i = j
     · subst e
       rw [if_pos rfl] at hl; cases hl
       exact ⟨Nat.le_refl _, _, by simp, r⟩
     · rw [if_neg e] at hl
       obtain ⟨h1, u, h2, h3⟩ := argsT_get (i + 1) h j v hl
       refine ⟨by omega, u, ?_, h3⟩
       rw [show j - i = (j - (i + 1)) + 1 by omega]
       simpa using h2

theorem calls_of_ev {P : Program} {I : Interp F} {c : Ctx F} (hT : TabOk P c.T) {f : FuncId} {fn : Func} {code : Code} (hf : P.funcs[f]? = some fn) (hb : fn.body = some code)
   {args : List (AV F)} {us : List Value} {E : Env F} {w : World} {w0 : Start} {tm' : List (Nat × AV F)} {hp' : List (Nat × Blk F)} {nx' : Nat} {l : List (AW F)} (hn : args.length <= fn.ntmps) (ha : All2 (AV.R E) args us)
   (hl : ressOf c tm' hp' fn.results.toList = some l)
   (hw : ∀ (a : Act) (Q : Exit -> Act -> World -> Prop), Tms [] E fn.ntmps (argsT args 0) a -> (∀ E' a' w', Tms [] E' fn.ntmps tm' a' -> Mem I w0 E' hp' w' -> Free nx' E' -> E.le E' -> Q .normal a' w' /\ Q .ret a' w') -> code.wpIn (Fr none) 0 P Q a w) :
   Calls P f us.toArray w fun e w' => ∃ E' u, E.le E' /\ e = .returned u /\ (oneOrAll l).R E' u /\ Mem I w0 E' hp' w' /\ Free nx' E' := by
 have hlen := ha.length
 refine calls_of_wp hf hb ((wpIn_wide (n := 0)).1 ?_)
 show Code.wpIn (Fr none) 0 P code _ _ w
 have ht : Tms [] E fn.ntmps (argsT args 0) { tmps := us.toArray ++ Array.replicate (fn.ntmps - us.toArray.size) undef, defers := [] } := by
   refine ⟨fun j v hj => ?_, by simp; omega, rfl⟩
   obtain ⟨_, u, g1, g2⟩ := argsT_get 0 ha j v hj
   refine ⟨u, ?_, g2⟩
   have hlt : j < us.length := (List.getElem?_eq_some_iff.1 g1).1
   rw [Array.getElem?_append_left (by simpa using hlt)]
   simpa using g1
 refine hw _ _ ht fun E' a' w' q1 q2 q3 q4 => ?_
 obtain ⟨vs, s1, s2⟩ := ressOf_R (P := P) hT q1 q2 hl
 have hres : (results fn a'.tmps).run P w' = .ok (if h : vs.toArray.size = 1 then vs.toArray[0] else .tuple vs.toArray) w' := by
   unfold results
   rw [Array.mapM_eq_mapM_toList]
   simp only [Sem.run_bind, Sem.run_map]
   have s1' : (List.mapM (fun (x : ResultVar) => (match x with | .tmp t => pure (a'.tmps.getD t undef) | .cell a t => do loadVar t (<- asAddr (a'.tmps.getD a undef)) : Sem Value)) fn.results.toList).run P w' = .ok vs w' := s1
   erw [s1']
   rfl
 have hpost : a'.defers = [] /\ ∃ v, (results fn a'.tmps).run P w' = .ok v w' /\ ∃ E' u, E.le E' /\ Ending.returned v = .returned u /\ (oneOrAll l).R E' u /\ Mem I w0 E' hp' w' /\ Free nx' E' :=
   ⟨q1.df, _, hres, E', _, q4, rfl, oneOrAll_R s2, q2, q3⟩
 exact ⟨hpost, hpost⟩


structure ResI (F : Type) where
 tm : List (Nat × AV F)
 hp : List (Nat × Blk F)
 nx : Nat
 path : Pth
 cd : List (Bool × Bool)
abbrev Enter (F : Type) := FuncId -> List (AV F) -> List (Nat × Blk F) -> Nat -> Pth -> Option (ResF F)
def inlOf (c : Ctx F) (tm : List (Nat × AV F)) (o : Oper) (w : Bool) : Option (FuncId × List (AV F)) :=
 bif w then match o.op with
   | .call k => match k.callee with
     | .value x => match opnd tm x with
       | some (.w (.one (.fnc f caps))) => match c.L f with
         | some _ => none
         | none => match opnds tm k.args.toList with
           | some vs => some (f, vs ++ caps.map fun p => .w (.one (.ptr p.1 p.2)))
           | none => none
       | _ => none
     | _ => none
   | _ => none
 else none
def guardCd (ops : List Oper) (tm : List (Nat × AV F)) (o : Oper) (βg : Bool) : Option (List (Bool × Bool)) :=
 match o.guard with
 | none => some []
 | some (j, _) => match gtmp ops j with
   | some t => match look t tm with
     | some v => match asB v with
       | some b => some [(b, βg)]
       | none => none
     | none => none
   | none => none
def putT (d : Option Nat) (v : AV F) (tm : List (Nat × AV F)) : List (Nat × AV F) := match d with | some d => (d, v) :: tm | none => tm
def evSeqI (c : Ctx F) (I : Enter F) (nt : Nat) (ops : List Oper) : List Oper -> Nat -> List (Nat × AV F) -> List (Nat × Blk F) -> Memo -> Pth -> Option (ResI F)
 | [], nx, tm, hp, _, path => some ⟨tm, hp, nx, path, []⟩
 | o :: l, nx, tm, hp, memo, path =>
   match pickG ops tm memo path o with
   | none => none
   | some (βg, memo, path) => match inlOf c tm o (wants ops tm o βg) with
     | some (f, args) => match guardCd ops tm o βg with
       | none => none
       | some cd0 => match I f args hp nx path with
         | none => none
         | some r => bif dstOk nt o.dst then
             match evSeqI c I nt ops l r.nx (putT o.dst r.val tm) r.hp (moved memo o) r.path with
             | none => none
             | some res => some ⟨res.tm, res.hp, res.nx, res.path, cd0 ++ (r.cd ++ res.cd)⟩
           else none
     | none => match pickC tm memo path o (wants ops tm o βg) with
       | none => none
       | some (βc, memo, path) => match evO c ops βg βc nx tm hp o with
         | none => none
         | some r => bif dstOk nt r.dst then
             match evSeqI c I nt ops l (nx + 1) (r.tm tm) (r.hp hp) (moved memo o) path with
             | none => none
             | some res => some ⟨res.tm, res.hp, res.nx, res.path, r.out.cd ++ res.cd⟩
           else none
def EnterOk (P : Program) (I : Interp F) (w0 : Start) (en : Enter F) : Prop :=
 ∀ f args hp nx path r, en f args hp nx path = some r -> (∀ p ∈ r.cd, p.1 = p.2) -> (∀ args w, (callFunc f args).run P w = .ok (.enter f args) w) /\
   ∀ (E : Env F) (us : List Value) (w : World), All2 (AV.R E) args us -> Mem I w0 E hp w -> Free nx E ->
     Calls P f us.toArray w fun e w' => ∃ E' u, E.le E' /\ e = .returned u /\ r.val.R E' u /\ Mem I w0 E' r.hp w' /\ Free r.nx E'
theorem Tms.putT {E : Env F} {nt : Nat} {tm : List (Nat × AV F)} {a : Act} (H : Tms ds E nt tm a) {d : Option Nat} (hd : dstOk nt d = true) {v : AV F} {u : Value} (hv : v.R E u) : Tms ds E nt (putT d v tm) (a.put d u) := by
 cases d with
 | none => exact H
 | some d => exact H.put (by rw [<- Nat.blt_eq]; exact hd) hv
theorem wanted_of {E : Env F} {nt : Nat} {tm : List (Nat × AV F)} {a : Act} (ht : Tms ds E nt tm a) {ops : Array Oper} {o : Oper} {βg : Bool} {cd0 : List (Bool × Bool)} (hw : wants ops.toList tm o βg = true) (hg : guardCd ops.toList tm o βg = some cd0) (hc : ∀ p ∈ cd0, p.1 = p.2) :
   Region.wanted o (yielded ops a.tmps) = true := by
 unfold wants at hw
 unfold guardCd at hg
 cases hgu : o.guard with
 | none => simp [Region.wanted, hgu]
 | some p =>
   obtain ⟨j, want⟩ := p
   rw [hgu] at hw hg
   simp only at hw hg
   split at hg
   · rename_i t hj
     split at hg
     · rename_i v hl
       split at hg
       · rename_i b hb
         cases hg
         have hb1 : b = βg := hc (b, βg) (by simp)
         have hy := yielded_look ht hj hl hb
         rw [hj] at hw
         simp only [hl] at hw
         have hun : isUn v = false := by
           cases hu : isUn v with
           | false => rfl
           | true =>
             unfold isUn at hu
             split at hu
             · simp [asB] at hb
             · cases hu
         rw [hun] at hw
         simp only [cond_false] at hw
         unfold Region.wanted
         rw [hgu]
         simp only [hy, hb1]
         cases want <;> cases βg <;> first | rfl | cases hw
       · cases hg
     · cases hg
   · cases hg
theorem inl_sound {P : Program} {I : Interp F} {c : Ctx F} {en : Enter F} {w0 : Start} (hen : EnterOk P I w0 en) {nt : Nat} {ops : Array Oper} {βg : Bool} {i nx : Nat} {o : Oper} (hi : ops[i]? = some o) {f : FuncId} {args : List (AV F)} {cd0 : List (Bool × Bool)} {path : Pth} {r : ResF F}
   {E : Env F} {tm : List (Nat × AV F)} {hp : List (Nat × Blk F)} (h1 : inlOf c tm o (wants ops.toList tm o βg) = some (f, args)) (h2 : guardCd ops.toList tm o βg = some cd0) (h3 : en f args hp nx path = some r) {a : Act} {w : World} (ht : Tms ds E nt tm a) (hm : Mem I w0 E hp w)
   (hf : Free nx E) (hc0 : ∀ p ∈ cd0, p.1 = p.2) (hc : ∀ p ∈ r.cd, p.1 = p.2) {K : Act -> World -> Prop} {Q : Exit -> Act -> World -> Prop}
   (hK : ∀ E' w' u, E.le E' -> r.val.R E' u -> Mem I w0 E' r.hp w' -> Free r.nx E' -> K (a.put o.dst u) w') : wpOpIn (Fr ro) 0 P ops Q i K a w := by
 unfold wpOpIn
 simp only [hi]
 cases hw : wants ops.toList tm o βg with
 | false => rw [hw] at h1; cases h1
 | true =>
   rw [if_pos (wanted_of ht hw h2 hc0)]
   rw [hw] at h1
   simp only [inlOf, cond_true] at h1
   split at h1
   · rename_i k hk
     split at h1
     · rename_i x hx
       split at h1
       · rename_i fi caps hfx
         split at h1
         · cases h1
         · split at h1
           · rename_i vs hvs
             cases h1
             obtain ⟨hcf, hcall⟩ := hen _ _ _ _ _ _ h3 hc
             obtain ⟨us, hfe, hus⟩ := opnd_R ht hfx
             have hR := opnds_R ht hvs
             have hcall := hcall E (k.args.toList.map a.eval ++ us) w (hR.append (caps_R hus)) hm hf
             have hrun : (execOp a.eval o).run P w = .ok (.enter f (k.args.toList.map a.eval ++ us).toArray) w := by
               obtain ⟨dst, op, ty, pos, after, guard⟩ := o
               simp only at hk
               subst hk
               simp only [execOp, resolve, hx, hfe, Deferred.ofValue, Sem.run_bind, Sem.run_pure, Result.andThen_ok, invoke, hcf]
               simp
             refine wp_enter hrun hcall ?_
             rintro e w' ⟨E', u, g1, rfl, g3, g4, g5⟩
             exact ⟨u, rfl, hK E' w' u g1 g3 g4 g5⟩
           · cases h1
       · cases h1
     · cases h1
   · cases h1
theorem seqI_sound {P : Program} {I : Interp F} {c : Ctx F} (hC : CtxOk P I c) {nt : Nat} {ops : Array Oper} {w0 : Start} {en : Enter F} (hen : EnterOk P I w0 en) {Q : Exit -> Act -> World -> Prop} :
   ∀ (l : List Oper) (i nx : Nat) (tm : List (Nat × AV F)) (hp : List (Nat × Blk F)) (memo : Memo) (path : Pth) (res : ResI F) (E : Env F) (a : Act) (w : World),
     (∀ j, l[j]? = ops[i + j]?) -> evSeqI c en nt ops.toList l nx tm hp memo path = some res -> Tms ds E nt tm a -> Mem I w0 E hp w -> Free nx E -> (∀ p ∈ res.cd, p.1 = p.2) ->
     (∀ E' a' w', Tms ds E' nt res.tm a' -> Mem I w0 E' res.hp w' -> Free res.nx E' -> E.le E' -> Q .normal a' w') -> wpOpsIn (Fr ro) 0 P ops Q (List.range' i l.length) a w
 | [], i, nx, tm, hp, memo, path, res, E, a, w, hl, h, ht, hm, hf, hc, hQ => by
   cases h
   exact hQ E a w ht hm hf (.refl E)
 | o :: l, i, nx, tm, hp, memo, path, res, E, a, w, hl, h, ht, hm, hf, hc, hQ => by
   have hi : ops[i]? = some o := by simpa using (hl 0).symm
   have hl' : ∀ j, l[j]? = ops[i + 1 + j]? := fun j => by have := hl (j + 1); simpa [Nat.add_assoc, Nat.add_comm 1 j] using this
   rw [List.length_cons, List.range'_succ, wpOpsIn_cons]
   unfold evSeqI at h
   split at h
   · cases h
   · rename_i βg memo1 path1 hpg
     split at h
     · rename_i f args hinl
       split at h
       · cases h
       · rename_i cd0 hcd
         split at h
         · cases h
         · rename_i r hr
           cases hd : dstOk nt o.dst with
           | false => rw [hd] at h; cases h
           | true =>
             rw [hd] at h; simp only [cond_true] at h
             split at h
             · cases h
             · rename_i res' hres
               cases h
               refine inl_sound hen hi hinl hcd hr ht hm hf (fun p hp => hc p (List.mem_append_left _ hp)) (fun p hp => hc p (List.mem_append_right _ (List.mem_append_left _ hp))) fun E' w' u hle hv hm' hf' => ?_
               exact seqI_sound hC hen l (i + 1) r.nx _ _ _ _ res' E' _ w' hl' hres ((ht.mono hle).putT hd hv) hm' hf' (fun p hp => hc p (List.mem_append_right _ (List.mem_append_right _ hp)))
                 fun E'' a' w'' q1 q2 q3 q4 => hQ E'' a' w'' q1 q2 q3 (hle.trans q4)
     · split at h
       · cases h
       · split at h
         · cases h
         · rename_i r hr
           cases hd : dstOk nt r.dst with
           | false => rw [hd] at h; cases h
           | true =>
             rw [hd] at h; simp only [cond_true] at h
             split at h
             · cases h
             · rename_i res' hres
               cases h
               refine op_sound hC hi hr ht hm hf.fresh (fun p hp => hc p (List.mem_append_left _ hp)) fun E' w' u hb hv hm' => ?_
               have hdst := (evO_dst hr).1
               exact seqI_sound hC hen l (i + 1) (nx + 1) _ _ _ _ res' E' _ w' hl' hres (hdst ▸ (ht.mono hb.le).apply hd hv) hm' (hf.but hb) (fun p hp => hc p (List.mem_append_right _ hp))
                 fun E'' a' w'' q1 q2 q3 q4 => hQ E'' a' w'' q1 q2 q3 (hb.le.trans q4)


structure ResC (F : Type) where
 ex : Ex
 tm : List (Nat × AV F)
 hp : List (Nat × Blk F)
 nx : Nat
 path : Pth
 cd : List (Bool × Bool)
def decide1 (v : AV F) (path : Pth) : Option (Bool × Bool × Pth) :=
 match v with
 | .w (.one (.yes b)) => some (b, b, path)
 | .w (.one (.bool b)) => match path.next v with
   | some (β, r) => some (b, β, r)
   | none => none
 | _ => none
def Ex.out (id : Nat) : Ex -> Ex
 | .exit j => bif Nat.beq j id then .normal else .exit j
 | e => e
def evC (c : Ctx F) : Nat -> Nat -> List Bool -> Code -> List (Nat × AV F) -> List (Nat × Blk F) -> Nat -> Pth -> Option (ResC F)
 | 0, _, _, _, _, _, _, _ => none
 | n + 1, nt, pos, code, tm, hp, nx, path =>
   match code with
   | .skip => some ⟨.normal, tm, hp, nx, path, []⟩
   | .exit id => some ⟨.exit id, tm, hp, nx, path, []⟩
   | .ret => some ⟨.ret, tm, hp, nx, path, []⟩
   | .region _ ops draw => bif draw then
       match evSeq c nt ops.toList ops.toList nx tm hp ([], []) path with
       | some res => bif indep ops.toList res.recs then some ⟨.normal, res.tm, res.hp, nx + ops.toList.length, res.path, res.cd⟩ else none
       | none => none
     else
       match evSeqI c (fun f args hp nx path => match c.fns f with
         | some fn => bif Nat.ble args.length fn.ntmps then
             match evC c n fn.ntmps [] (bodyOf fn) (argsT args 0) hp nx path with
             | some r => match r.ex with
               | .exit _ => none
               | _ => match ressOf c r.tm r.hp fn.results.toList with
                 | some l => some ⟨oneOrAll l, r.hp, r.nx, r.path, r.cd⟩
                 | none => none
             | none => none
           else none
         | none => none) nt ops.toList ops.toList nx tm hp ([], []) path with
       | some res => some ⟨.normal, res.tm, res.hp, res.nx, res.path, res.cd⟩
       | none => none
   | .seq x y => match evC c n nt (false :: pos) x tm hp nx path with
     | some r => match r.ex with
       | .normal => match evC c n nt (true :: pos) y r.tm r.hp r.nx r.path with
         | some r' => some ⟨r'.ex, r'.tm, r'.hp, r'.nx, r'.path, r.cd ++ r'.cd⟩
         | none => none
       | _ => some r
     | none => none
   | .cond x y z => match opnd tm x with
     | some v => match decide1 v path with
       | some (b, β, path) => match evC c n nt ((!β) :: pos) (bif β then y else z) tm hp nx path with
         | some r => some ⟨r.ex, r.tm, r.hp, r.nx, r.path, (b, β) :: r.cd⟩
         | none => none
       | none => none
     | none => none
   | .block id x => match evC c n nt (false :: pos) x tm hp nx path with
     | some r => some ⟨r.ex.out id, r.tm, r.hp, r.nx, r.path, r.cd⟩
     | none => none
   | .loop x => match lookLp c.lps nt pos with
     | some sp => match sp.fk tm hp with
       | none => match sp.run tm hp true with
         | some (ex, outs, wb, cd) => some ⟨ex, outs ++ keepT sp.W tm, wb ++ hp, nx, path, cd⟩
         | none => none
       | some b => match path.next (.w (.one (.bool b)) : AV F) with
         | some (β, path) => match sp.run tm hp β with
           | some (ex, outs, wb, cd) => some ⟨ex, outs ++ keepT sp.W tm, wb ++ hp, nx, path, (b, β) :: cd⟩
           | none => none
         | none => none
     | none => match evC c n nt (false :: pos) x tm hp nx path with
       | some r => match r.ex with
         | .normal => match evC c n nt pos (.loop x) r.tm r.hp r.nx r.path with
           | some r' => some ⟨r'.ex, r'.tm, r'.hp, r'.nx, r'.path, r.cd ++ r'.cd⟩
           | none => none
         | _ => some r
       | none => none
   | _ => none

def Post (ds : List Deferred) (I : Interp F) (w0 : Start) (nt : Nat) (r : ResC F) (E : Env F) (Q : Exit -> Act -> World -> Prop) : Prop :=
 ∀ E' a' w', Tms ds E' nt r.tm a' -> Mem I w0 E' r.hp w' -> Free r.nx E' -> E.le E' -> Q r.ex.to a' w'
theorem evC_sound {P : Program} {I : Interp F} {c : Ctx F} (hC : CtxOk P I c) (hmix : P.follows .mixedOrders = true) {w0 : Start} : ∀ (n : Nat) (ro : Option Nat) (ds : List Deferred) (nt : Nat) (pos : List Bool) (code0 code : Code) (_ : codeAt code0 pos = some code) (_ : LpsOk P I c.lps nt code0) (tm : List (Nat × AV F)) (hp : List (Nat × Blk F)) (nx : Nat) (path : Pth) (r : ResC F),
   evC c n nt pos code tm hp nx path = some r -> (∀ p ∈ r.cd, p.1 = p.2) ->
   (∀ (E : Env F) (a : Act) (w : World) (Q : Exit -> Act -> World -> Prop), Tms ds E nt tm a -> Mem I w0 E hp w -> Free nx E -> Post ds I w0 nt r E Q -> code.wpIn (Fr ro) 0 P Q a w) /\
   (∀ x, code = .loop x -> lookLp c.lps nt pos = none -> ∃ k, ∀ (E : Env F) (a : Act) (w : World) (Q : Exit -> Act -> World -> Prop), Tms ds E nt tm a -> Mem I w0 E hp w -> Free nx E -> Post ds I w0 nt r E Q -> Code.roundsIn (Fr ro) 0 P x Q k a w)
 | 0, ro, ds, nt, pos, code0, code, hat, hL, tm, hp, nx, path, r, h, _ => by cases h
 | n + 1, ro, ds, nt, pos, code0, code, hat, hL, tm, hp, nx, path, r, h, hc => by
   have ihc := evC_sound hC hmix (w0 := w0) n none []
   have ih0 := evC_sound hC hmix (w0 := w0) n ro ds
   have ih := fun pos code (hat : codeAt code0 pos = some code) => ih0 nt pos code0 code hat hL
   have hen : EnterOk P I w0 (fun f args hp nx path => match c.fns f with
         | some fn => bif Nat.ble args.length fn.ntmps then
             match evC c n fn.ntmps [] (bodyOf fn) (argsT args 0) hp nx path with
             | some r => match r.ex with
               | .exit _ => none
               | _ => match ressOf c r.tm r.hp fn.results.toList with
                 | some l => some ⟨oneOrAll l, r.hp, r.nx, r.path, r.cd⟩
                 | none => none
             | none => none
           else none
         | none => none) := by
     intro f args hp1 nx1 path1 r1 h1 hc1
     simp only at h1
     split at h1
     · rename_i fn hfn
       obtain ⟨g1, g2, g3, g4⟩ := hC.fns f fn hfn
       cases hbl : Nat.ble args.length fn.ntmps with
       | false => rw [hbl] at h1; cases h1
       | true =>
         rw [hbl] at h1; simp only [cond_true] at h1
         split at h1
         · rename_i r2 h2
           have hne : ∀ id, r2.ex ≠ .exit id := fun id e => by rw [e] at h1; cases h1
           have h3 : ∃ l, ressOf c r2.tm r2.hp fn.results.toList = some l /\ r1 = ⟨oneOrAll l, r2.hp, r2.nx, r2.path, r2.cd⟩ := by
             split at h1
             · cases h1
             · split at h1
               · rename_i l hl; cases h1; exact ⟨l, hl, rfl⟩
               · cases h1
           obtain ⟨l, hl, rfl⟩ := h3
           have hb' : fn.body = some (bodyOf fn) := by
             unfold bodyOf
             cases hfb : fn.body with
             | none => rw [hfb] at g2; cases g2
             | some c => rfl
           refine ⟨g3, fun E us w ha hm hf => ?_⟩
           refine calls_of_ev hC.tab g1 hb' (Nat.le_of_ble_eq_true hbl) ha hl fun a Q ht hq => ?_
           refine (ihc fn.ntmps [] (bodyOf fn) (bodyOf fn) rfl g4 _ hp1 nx1 path1 r2 h2 hc1).1 E a w Q ht hm hf fun E' a' w' q1 q2 q3 q4 => ?_
           obtain ⟨z1, z2⟩ := hq E' a' w' q1 q2 q3 q4
           cases he : r2.ex with
           | normal => exact z1
           | ret => exact z2
           | exit id => exact absurd he (hne id)
         · cases h1
     · cases h1
   have noloop : (∀ x, code ≠ .loop x) -> (∀ (E : Env F) (a : Act) (w : World) (Q : Exit -> Act -> World -> Prop), Tms ds E nt tm a -> Mem I w0 E hp w -> Free nx E -> Post ds I w0 nt r E Q -> code.wpIn (Fr ro) 0 P Q a w) -> _ := fun hn hw => (⟨hw, fun x e _ => absurd e (hn x)⟩ :
     (∀ (E : Env F) (a : Act) (w : World) (Q : Exit -> Act -> World -> Prop), Tms ds E nt tm a -> Mem I w0 E hp w -> Free nx E -> Post ds I w0 nt r E Q -> code.wpIn (Fr ro) 0 P Q a w) /\
     (∀ x, code = .loop x -> lookLp c.lps nt pos = none -> ∃ k, ∀ (E : Env F) (a : Act) (w : World) (Q : Exit -> Act -> World -> Prop), Tms ds E nt tm a -> Mem I w0 E hp w -> Free nx E -> Post ds I w0 nt r E Q -> Code.roundsIn (Fr ro) 0 P x Q k a w))
   cases code <;> simp only [evC] at h <;> try (cases h; done)
   case skip =>
     cases h
     exact noloop (fun x e => by cases e) fun E a w Q ht hm hf hQ => wpIn_skip (hQ E a w ht hm hf (.refl E))
   case exit id =>
     cases h
     exact noloop (fun x e => by cases e) fun E a w Q ht hm hf hQ => wpIn_exit (hQ E a w ht hm hf (.refl E))
   case ret =>
     cases h
     exact noloop (fun x e => by cases e) fun E a w Q ht hm hf hQ => wpIn_ret (hQ E a w ht hm hf (.refl E))
   case region id ops draw =>
     refine noloop (fun x e => by cases e) fun E a w Q ht hm hf hQ => ?_
     cases draw with
     | true =>
       simp only [cond_true] at h
       split at h
       · rename_i res hres
         cases hi : indep ops.toList res.recs with
         | false => rw [hi] at h; cases h
         | true =>
           rw [hi] at h; cases h
           refine drawn_sound hC hmix hres hi ht hm hf hc fun E' a' w' q1 q2 q3 q4 => hQ E' a' w' q1 q2 ?_ q4
           simpa using q3
       · cases h
     | false =>
       simp only [cond_false] at h
       split at h
       · rename_i res hres
         cases h
         refine wpIn_region ?_
         have := seqI_sound (ro := ro) hC hen (ops := ops) (Q := Q) ops.toList 0 nx tm hp ([], []) path res E a w (fun j => by simp) hres ht hm hf hc (fun E' a' w' q1 q2 q3 q4 => hQ E' a' w' q1 q2 q3 q4)
         rw [List.range_eq_range']
         simpa using this
       · cases h
   case seq x y =>
     refine noloop (fun x e => by cases e) fun E a w Q ht hm hf hQ => ?_
     split at h
     · rename_i r1 h1
       cases he : r1.ex with
       | normal =>
         rw [he] at h
         simp only at h
         split at h
         · rename_i r2 h2
           cases h
           refine wpIn_seq ((ih (false :: pos) x (by simp [codeAt, hat]) tm hp nx path r1 h1 fun p hp => hc p (List.mem_append_left _ hp)).1 E a w _ ht hm hf fun E' a' w' q1 q2 q3 q4 => ?_)
           rw [he]
           exact (ih (true :: pos) y (by simp [codeAt, hat]) _ _ _ _ r2 h2 fun p hp => hc p (List.mem_append_right _ hp)).1 E' a' w' Q q1 q2 q3 fun E'' a'' w'' s1 s2 s3 s4 => hQ E'' a'' w'' s1 s2 s3 (q4.trans s4)
         · cases h
       | exit id =>
         rw [he] at h; cases h
         refine wpIn_seq ((ih (false :: pos) x (by simp [codeAt, hat]) tm hp nx path r h1 hc).1 E a w _ ht hm hf fun E' a' w' q1 q2 q3 q4 => ?_)
         have := hQ E' a' w' q1 q2 q3 q4
         rw [he] at this ⊢
         exact this
       | ret =>
         rw [he] at h; cases h
         refine wpIn_seq ((ih (false :: pos) x (by simp [codeAt, hat]) tm hp nx path r h1 hc).1 E a w _ ht hm hf fun E' a' w' q1 q2 q3 q4 => ?_)
         have := hQ E' a' w' q1 q2 q3 q4
         rw [he] at this ⊢
         exact this
     · cases h
   case cond x y z =>
     refine noloop (fun x e => by cases e) fun E a w Q ht hm hf hQ => ?_
     split at h
     · rename_i v hv
       split at h
       · rename_i b β path' hd
         split at h
         · rename_i r1 h1
           cases h
           have hb : b = β := hc (b, β) (by simp)
           have hv' : asB v = some b := by
             unfold decide1 at hd
             split at hd
             · cases hd; rfl
             · split at hd
               · cases hd; rfl
               · cases hd
             · cases hd
           have hR := asB_R hv' (opnd_R ht hv)
           refine wpIn_cond (t := b) hR ?_
           have e : (if b = true then y else z) = (bif β then y else z) := by rw [hb]; cases β <;> rfl
           rw [e]
           exact (ih ((!β) :: pos) _ (by cases β <;> simp [codeAt, hat]) tm hp nx path' r1 h1 fun p hp => hc p (by simp [hp])).1 E a w Q ht hm hf hQ
         · cases h
       · cases h
     · cases h
   case block id x =>
     refine noloop (fun x e => by cases e) fun E a w Q ht hm hf hQ => ?_
     split at h
     · rename_i r1 h1
       cases h
       refine wpIn_block ((ih (false :: pos) x (by simp [codeAt, hat]) tm hp nx path r1 h1 hc).1 E a w _ ht hm hf fun E' a' w' q1 q2 q3 q4 => ?_)
       have := hQ E' a' w' q1 q2 q3 q4
       simp only at this
       cases he : r1.ex with
       | normal => rw [he] at this; exact this
       | ret => rw [he] at this; exact this
       | exit j =>
         rw [he] at this
         simp only [Ex.out] at this
         show Exit.inBlock id Q (.exit j) a' w'
         simp only [Exit.inBlock]
         by_cases e : j = id
         · subst e
           simp at this
           rw [if_pos rfl]; exact this
         · have hb : Nat.beq j id = false := by
             cases hb : Nat.beq j id with
             | false => rfl
             | true => exact absurd (Nat.eq_of_beq_eq_true hb) e
           rw [hb] at this
           rw [if_neg e]; exact this
     · cases h
   case loop x =>
     cases hlp : lookLp c.lps nt pos with
     | some sp =>
       rw [hlp] at h
       simp only at h
       refine ⟨fun E a w Q ht hm hf hQ => ?_, fun y _ e => by cases e⟩
       split at h
       · rename_i hfk
         split at h
         · rename_i ex outs wb cd hrun
           cases h
           exact (hL pos sp hlp x hat).run tm hp true ex outs wb cd hrun (fun b hb => by rw [hfk] at hb; cases hb) hc ro ds E w0 a w Q ht hm fun E' a' w' q1 q2 q3 qq q4 q5 => hQ E' a' w' q4 q5 (fun b hb => ⟨by rw [q2]; exact (hf b hb).1, fun j => by rw [q3]; exact (hf b hb).2.1 j, qq b (hf b hb).2.2⟩) q1
         · cases h
       rename_i b0 hfk
       split at h
       · rename_i β path' hnx
         split at h
         · rename_i ex outs wb cd hrun
           cases h
           exact (hL pos sp hlp x hat).run tm hp β ex outs wb cd hrun (fun b hb => by rw [hfk] at hb; cases hb; exact hc (b0, β) List.mem_cons_self) (fun p hp => hc p (List.mem_cons_of_mem _ hp)) ro ds E w0 a w Q ht hm fun E' a' w' q1 q2 q3 qq q4 q5 => hQ E' a' w' q4 q5 (fun b hb => ⟨by rw [q2]; exact (hf b hb).1, fun j => by rw [q3]; exact (hf b hb).2.1 j, qq b (hf b hb).2.2⟩) q1
         · cases h
       · cases h
     | none =>
     rw [hlp] at h
     simp only at h
     have key : ∃ k, ∀ (E : Env F) (a : Act) (w : World) (Q : Exit -> Act -> World -> Prop), Tms ds E nt tm a -> Mem I w0 E hp w -> Free nx E -> Post ds I w0 nt r E Q -> Code.roundsIn (Fr ro) 0 P x Q k a w := by
       split at h
       · rename_i r1 h1
         cases he : r1.ex with
         | normal =>
           rw [he] at h
           simp only at h
           split at h
           · rename_i r2 h2
             cases h
             obtain ⟨k, hk⟩ := (ih pos (.loop x) hat _ _ _ _ r2 h2 fun p hp => hc p (List.mem_append_right _ hp)).2 x rfl hlp
             refine ⟨k + 1, fun E a w Q ht hm hf hQ => ?_⟩
             rw [roundsIn_succ]
             refine (ih (false :: pos) x (by simp [codeAt, hat]) tm hp nx path r1 h1 fun p hp => hc p (List.mem_append_left _ hp)).1 E a w _ ht hm hf fun E' a' w' q1 q2 q3 q4 => ?_
             rw [he]
             exact hk E' a' w' Q q1 q2 q3 fun E'' a'' w'' s1 s2 s3 s4 => hQ E'' a'' w'' s1 s2 s3 (q4.trans s4)
           · cases h
         | exit id =>
           rw [he] at h; cases h
           refine ⟨1, fun E a w Q ht hm hf hQ => ?_⟩
           rw [roundsIn_succ]
           refine (ih (false :: pos) x (by simp [codeAt, hat]) tm hp nx path r h1 hc).1 E a w _ ht hm hf fun E' a' w' q1 q2 q3 q4 => ?_
           have := hQ E' a' w' q1 q2 q3 q4
           rw [he] at this ⊢
           exact this
         | ret =>
           rw [he] at h; cases h
           refine ⟨1, fun E a w Q ht hm hf hQ => ?_⟩
           rw [roundsIn_succ]
           refine (ih (false :: pos) x (by simp [codeAt, hat]) tm hp nx path r h1 hc).1 E a w _ ht hm hf fun E' a' w' q1 q2 q3 q4 => ?_
           have := hQ E' a' w' q1 q2 q3 q4
           rw [he] at this ⊢
           exact this
       · cases h
     refine ⟨fun E a w Q ht hm hf hQ => ?_, fun y e _ => by cases e; exact key⟩
     obtain ⟨k, hk⟩ := key
     exact wpIn_loop_rounds k (hk E a w Q ht hm hf hQ)


def evF (c : Ctx F) (fuel nt : Nat) (code : Code) (rs : List ResultVar) (args : List (AV F)) (hp : List (Nat × Blk F)) (nx : Nat) (path : Pth) : Option (ResF F) :=
 match evC c fuel nt [] code (argsT args 0) hp nx path with
 | some r => match r.ex with
   | .exit _ => none
   | _ => match ressOf c r.tm r.hp rs with
     | some l => some ⟨oneOrAll l, r.hp, r.nx, r.path, r.cd⟩
     | none => none
 | none => none

theorem evF_calls {P : Program} {I : Interp F} {c : Ctx F} (hC : CtxOk P I c) (hmix : P.follows .mixedOrders = true) {f : FuncId} {fn : Func} {code : Code} (hf : P.funcs[f]? = some fn) (hb : fn.body = some code) (hL : LpsOk P I c.lps fn.ntmps code)
   {fuel nx : Nat} {args : List (AV F)} {hp : List (Nat × Blk F)} {path : Pth} {r : ResF F} (h : evF c fuel fn.ntmps code fn.results.toList args hp nx path = some r) (hc : ∀ p ∈ r.cd, p.1 = p.2)
   {E : Env F} {us : List Value} {w : World} (hn : args.length <= fn.ntmps) (ha : All2 (AV.R E) args us) {dt : Nat -> Nat -> Prop} (hm : Mem I ⟨w, E.ran, dt⟩ E hp w) (hfr : Free nx E) :
   Calls P f us.toArray w fun e w' => ∃ E' u, E.le E' /\ e = .returned u /\ r.val.R E' u /\ Mem I ⟨w, E.ran, dt⟩ E' r.hp w' := by
 unfold evF at h
 split at h
 · rename_i r1 h1
   have hne : ∀ id, r1.ex ≠ .exit id := fun id e => by rw [e] at h; cases h
   have h2 : ∃ l, ressOf c r1.tm r1.hp fn.results.toList = some l /\ r = ⟨oneOrAll l, r1.hp, r1.nx, r1.path, r1.cd⟩ := by
     split at h
     · cases h
     · split at h
       · rename_i l hl; cases h; exact ⟨l, hl, rfl⟩
       · cases h
   obtain ⟨l, hl, rfl⟩ := h2
   refine (calls_of_ev (I := I) (w0 := ⟨w, E.ran, dt⟩) (nx' := r1.nx) hC.tab hf hb hn ha hl fun a Q ht hq => ?_).mono ?_
   · refine (evC_sound hC hmix fuel none [] fn.ntmps [] code code rfl hL _ hp nx path r1 h1 hc).1 E a w Q ht hm hfr fun E' a' w' q1 q2 q3 q4 => ?_
     obtain ⟨z1, z2⟩ := hq E' a' w' q1 q2 q3 q4
     cases he : r1.ex with
     | normal => exact z1
     | ret => exact z2
     | exit id => exact absurd he (hne id)
   · rintro e w' ⟨E', u, g1, g2, g3, g4, g5⟩
     exact ⟨E', u, g1, g2, g3, g4⟩
 · cases h


def AC.val : AC F -> Option Value
 | .int k n => some (.int k n)
 | .bool b => some (.bool b)
 | .yes b => some (.bool b)
 | .lit v => some v
 | _ => none
def ACs.val : List (AC F) -> Option (List Value)
 | [] => some []
 | c :: r => match c.val with
   | some v => match ACs.val r with
     | some l => some (v :: l)
     | none => none
   | none => none
def AW.val : AW F -> Option Value
 | .one c => c.val
 | .agg cs => match ACs.val cs with
   | some l => some (.agg l.toArray)
   | none => none
def AWs.val : List (AW F) -> Option (List Value)
 | [] => some []
 | c :: r => match c.val with
   | some v => match AWs.val r with
     | some l => some (v :: l)
     | none => none
   | none => none
def AV.val : AV F -> Option Value
 | .w x => x.val
 | .tup l => match AWs.val l with
   | some l => some (.tuple l.toArray)
   | none => none
theorem AC.val_R {E : Env F} {c : AC F} {v u : Value} (h : c.val = some v) (H : c.R E u) : u = v := by
 cases c <;> simp only [AC.val] at h <;> cases h <;> exact H
theorem ACs.val_R {E : Env F} : ∀ {cs : List (AC F)} {l us : List Value}, ACs.val cs = some l -> All2 (AC.R E) cs us -> us = l
 | [], l, us, h, H => by cases h; cases H; rfl
 | c :: r, l, us, h, H => by
   cases H with
   | cons q H =>
     simp only [ACs.val] at h
     split at h
     · rename_i v hv
       split at h
       · rename_i l' hl
         cases h
         rw [AC.val_R hv q, ACs.val_R hl H]
       · cases h
     · cases h
theorem AW.val_R {E : Env F} {c : AW F} {v u : Value} (h : c.val = some v) (H : c.R E u) : u = v := by
 cases c with
 | one c => exact AC.val_R h H
 | agg cs =>
   simp only [AW.val] at h
   split at h
   · rename_i l hl
     cases h
     obtain ⟨us, rfl, h2⟩ := H
     rw [ACs.val_R hl h2]
   · cases h
theorem AWs.val_R {E : Env F} : ∀ {cs : List (AW F)} {l us : List Value}, AWs.val cs = some l -> All2 (AW.R E) cs us -> us = l
 | [], l, us, h, H => by cases h; cases H; rfl
 | c :: r, l, us, h, H => by
   cases H with
   | cons q H =>
     simp only [AWs.val] at h
     split at h
     · rename_i v hv
       split at h
       · rename_i l' hl
         cases h
         rw [AW.val_R hv q, AWs.val_R hl H]
       · cases h
     · cases h
theorem AV.val_R {E : Env F} {c : AV F} {v u : Value} (h : c.val = some v) (H : c.R E u) : u = v := by
 cases c with
 | w x => exact AW.val_R h H
 | tup l =>
   simp only [AV.val] at h
   split at h
   · rename_i l' hl
     cases h
     obtain ⟨us, rfl, h2⟩ := H
     rw [AWs.val_R hl h2]
   · cases h
def Env.none : Env F := ⟨fun _ => .none, fun _ _ => .none, fun _ _ => False, fun _ _ => .none⟩
theorem own_none {b k : Nat} (h : (Env.none : Env F).own b k) : False := by
 rcases h with h | ⟨_, _, h, _⟩ <;> cases h
theorem Mem.start (I : Interp F) (dt : Nat -> Nat -> Prop) (w : World) (hI : I.base <= w.heap.size) (hJ : I.inv w := by trivial) : Mem I ⟨w, (Env.none : Env F).ran, dt⟩ (Env.none : Env F) [] w where
 hp := fun b blk h => by simp [look] at h
 tok := fun b blk n sz h => by simp [look] at h
 exc := fun _ _ _ _ => rfl
 inj := fun b b' k h => (own_none h).elim
 loc := fun b k h => (own_none h).elim
 ext := fun k j f arr h => by cases h
 kept := ⟨rfl, rfl, rfl, Nat.le_refl _, fun _ _ _ => rfl⟩
 new := fun b k h => (own_none h).elim
 low := fun b k h => (own_none h).elim
 bsz := ⟨hI, hJ⟩
 fv := fun f v h => h.elim
 apt := fun b n v k o h => by cases h
theorem free_none : Free 0 (Env.none : Env F) := fun b _ => ⟨rfl, fun _ => rfl, fun _ => rfl⟩
theorem evF_plain {P : Program} {I : Interp F} {c : Ctx F} (hC : CtxOk P I c) (hmix : P.follows .mixedOrders = true) {f : FuncId} {fn : Func} {code : Code} (hf : P.funcs[f]? = some fn) (hb : fn.body = some code) (hL : LpsOk P I c.lps fn.ntmps code)
   {fuel : Nat} {args : List (AV F)} {us : List Value} {path : Pth} {r : ResF F} {v : Value} (h : evF c fuel fn.ntmps code fn.results.toList args [] 0 path = some r) (hn : Nat.ble args.length fn.ntmps = true)
   (ha : All2 (AV.R Env.none) args us) (hv : r.val.val = some v) (w : World) (hI : I.base <= w.heap.size) (hc : ∀ p ∈ r.cd, p.1 = p.2) (hJ : I.inv w := by trivial) : Calls P f us.toArray w fun e w' => e = .returned v /\ Below w.heap.size w w' := by
 refine (evF_calls hC hmix hf hb hL h hc (Nat.le_of_ble_eq_true hn) ha (Mem.start I (fun _ _ => False) w hI hJ) free_none).mono ?_
 rintro e w' ⟨E', u, _, rfl, h2, h3⟩
 refine ⟨by rw [AV.val_R hv h2], h3.kept.os, h3.kept.tape, h3.kept.output, h3.kept.size, fun k hk => h3.kept.block k hk fun ⟨b, hb⟩ => own_none hb⟩


def tabOf (P : Program) (t : Nat) : Option TyI :=
 match P.info? t with
 | some i => match i.zero with
   | some z => match P.underlying t with
     | some d => some ⟨i.size, i.bytes, z, d⟩
     | none => none
   | none => none
 | none => none
theorem tabB_ok (P : Program) : TabB P (tabOf P) := fun t i h => by
 unfold tabOf at h
 split at h
 · rename_i info hi
   split at h
   · split at h
     · cases h; rw [hi]; rfl
     · cases h
   · cases h
 · cases h
theorem tabOf_ok (P : Program) : TabOk P (tabOf P) := fun t i h => by
 unfold tabOf at h
 split at h
 · rename_i info hi
   split at h
   · rename_i z hz
     split at h
     · rename_i d hd
       cases h
       exact ⟨by rw [hi]; rfl, by rw [hi]; exact hz, hd⟩
     · cases h
   · cases h
 · cases h
def evFn (c : Ctx F) (fuel : Nat) (fn : Func) (args : List (AV F)) (hp : List (Nat × Blk F)) (nx : Nat) (path : Pth) : Option (ResF F) := evF c fuel fn.ntmps (bodyOf fn) fn.results.toList args hp nx path
def lib1 (l : List (Nat × FnSp F)) (f : Nat) : Option (FnSp F) := look f l
theorem lib1_nil (P : Program) (I : Interp F) : LibOk P I (lib1 []) := fun f sp h => by cases h
theorem lib1_cons {P : Program} {I : Interp F} {l : List (Nat × FnSp F)} {f : Nat} {sp : FnSp F} (hok : sp.ok P I f) (hfn : ∀ args w, (callFunc f args).run P w = .ok (.enter f args) w) (h : LibOk P I (lib1 l)) : LibOk P I (lib1 ((f, sp) :: l)) := fun g sp' hg => by
 unfold lib1 at hg
 rw [look_cons] at hg
 by_cases e : f = g
 · subst e
   rw [if_pos rfl] at hg; cases hg
   exact .inl ⟨hok, hfn⟩
 · rw [if_neg e] at hg
   exact h g sp' hg
def plain (g : List (AV F) -> Option (AV F × List (Bool × Bool))) : FnSp F where
 blocks := fun _ => []
 run := fun _ args _ => match g args with
   | some (v, cd) => some ⟨v, [], cd⟩
   | none => none
theorem plain_ok {P : Program} {I : Interp F} {f : FuncId} {g : List (AV F) -> Option (AV F × List (Bool × Bool))}
   (h : ∀ args v cd, g args = some (v, cd) -> (∀ p ∈ cd, p.1 = p.2) -> ∃ u us, v.val = some u /\ (∀ E vs, All2 (AV.R E) args vs -> vs = us) /\ (∀ E, v.R E u) /\ ∀ w, Calls P f us.toArray w fun e w' => e = .returned u /\ Below w.heap.size w w') : (plain g).ok P I f := by
 intro E hp w slot args us bs out dt hrun ha hb hm hf hc
 simp only [plain] at hrun
 split at hrun
 · rename_i v cd hg
   cases hrun
   obtain ⟨u, us', h1, h2, h3, h4⟩ := h args v cd hg hc
   rw [h2 E us ha]
   refine (h4 w).mono ?_
   rintro e w' ⟨rfl, hbel⟩
   exact ⟨E, u, But.refl slot E, rfl, h3 E, hm.below hbel⟩
 · cases hrun
theorem lps_nil {P : Program} {I : Interp F} {nt : Nat} {code : Code} : LpsOk P I [] nt code := fun pos sp h => by cases h
def evR (c : Ctx F) (fn : Func) (args : List (AV F)) (path : List Bool) : Option (AV F × List (Bool × Bool)) :=
 match evFn c 400 fn args [] 0 (.fix path) with
 | some r => match r.path with
   | .fix [] => some (r.val, r.cd)
   | _ => none
 | none => none
theorem cd_nil : ∀ p ∈ ([] : List (Bool × Bool)), p.1 = p.2 := fun p h => by cases h
theorem cd_cons {x y : Bool} {l : List (Bool × Bool)} (h : x = y) (hl : ∀ p ∈ l, p.1 = p.2) : ∀ p ∈ (x, y) :: l, p.1 = p.2 := fun p hp => by
 rcases List.mem_cons.1 hp with rfl | hp
 · exact h
 · exact hl p hp
theorem evR_calls {P : Program} {I : Interp F} {c : Ctx F} (hC : CtxOk P I c) (hmix : P.follows .mixedOrders = true) {f : FuncId} {fn : Func} (hf : P.funcs[f]? = some fn) (hb : fn.body.isSome = true) (hL : LpsOk P I c.lps fn.ntmps (bodyOf fn))
   {args : List (AV F)} {us : List Value} {path : List Bool} {x : AV F} {cd : List (Bool × Bool)} {v : Value} (h : evR c fn args path = some (x, cd)) (hn : Nat.ble args.length fn.ntmps = true)
   (ha : All2 (AV.R Env.none) args us) (hv : x.val = some v) (w : World) (hI : I.base <= w.heap.size) (hc : ∀ p ∈ cd, p.1 = p.2) (hJ : I.inv w := by trivial) : Calls P f us.toArray w fun e w' => e = .returned v /\ Below w.heap.size w w' := by
 unfold evR at h
 split at h
 · rename_i r hr
   split at h
   · cases h
     have hb' : fn.body = some (bodyOf fn) := by
       unfold bodyOf
       cases hfb : fn.body with
       | none => rw [hfb] at hb; cases hb
       | some c => rfl
     exact evF_plain hC hmix hf hb' hL hr hn ha hv w hI hc hJ
   · cases h
 · cases h


def Pl (P : Program) (f : FuncId) (us : List Value) (v : Value) : Prop := ∀ w, Calls P f us.toArray w fun e w' => e = .returned v /\ Below w.heap.size w w'
theorem Pl.same {P : Program} {f : FuncId} {us : List Value} {v : Value} (h : ∀ w, Calls P f us.toArray w fun e w' => e = .returned v /\ w = w') : Pl P f us v := fun w =>
 (h w).mono fun _ _ ⟨h1, h2⟩ => ⟨h1, h2 ▸ Below.refl _ _⟩
def AV.get (x : AV F) : Value := match x.val with | some v => v | none => undef
theorem AC.R_val {E : Env F} {c : AC F} {v : Value} (h : c.val = some v) : c.R E v := by
 cases c <;> simp only [AC.val] at h <;> cases h <;> rfl
theorem ACs.R_val {E : Env F} : ∀ {cs : List (AC F)} {l : List Value}, ACs.val cs = some l -> All2 (AC.R E) cs l
 | [], l, h => by cases h; exact .nil
 | c :: r, l, h => by
   simp only [ACs.val] at h
   split at h
   · rename_i v hv
     split at h
     · rename_i l' hl
       cases h
       exact .cons (AC.R_val hv) (ACs.R_val hl)
     · cases h
   · cases h
theorem AW.R_val {E : Env F} {c : AW F} {v : Value} (h : c.val = some v) : c.R E v := by
 cases c with
 | one c => exact AC.R_val h
 | agg cs =>
   simp only [AW.val] at h
   split at h
   · rename_i l hl
     cases h
     exact ⟨l, rfl, ACs.R_val hl⟩
   · cases h
theorem AWs.R_val {E : Env F} : ∀ {cs : List (AW F)} {l : List Value}, AWs.val cs = some l -> All2 (AW.R E) cs l
 | [], l, h => by cases h; exact .nil
 | c :: r, l, h => by
   simp only [AWs.val] at h
   split at h
   · rename_i v hv
     split at h
     · rename_i l' hl
       cases h
       exact .cons (AW.R_val hv) (AWs.R_val hl)
     · cases h
   · cases h
theorem AV.R_val {E : Env F} {x : AV F} {v : Value} (h : x.val = some v) : x.R E v := by
 cases x with
 | w x => exact AW.R_val h
 | tup l =>
   simp only [AV.val] at h
   split at h
   · rename_i l' hl
     cases h
     exact ⟨l', rfl, AWs.R_val hl⟩
   · cases h
theorem AV.get_val {x : AV F} {v : Value} (h : x.val = some v) : x.get = v := by unfold AV.get; rw [h]
theorem pl_node {P : Program} {f : FuncId} {us : List Value} {c : Bool} {A B : AV F} (hA : c = true -> Pl P f us A.get) (hB : c = false -> Pl P f us B.get) : Pl P f us (AV.get (bif c then A else B)) := by
 cases c
 · exact hB rfl
 · exact hA rfl
theorem pl_leaf {P : Program} {I : Interp F} (hI : I.base = 0) {c : Ctx F} (hC : CtxOk P I c) (hmix : P.follows .mixedOrders = true) {f : FuncId} {fn : Func} (hf : P.funcs[f]? = some fn) (hb : fn.body.isSome = true)
   {args : List (AV F)} {us : List Value} {path : List Bool} {x : AV F} {cd : List (Bool × Bool)} (h : evR c fn args path = some (x, cd)) (hn : Nat.ble args.length fn.ntmps = true)
   (ha : All2 (AV.R Env.none) args us) (hv : x.val.isSome = true) (hc : ∀ p ∈ cd, p.1 = p.2) (hL : LpsOk P I c.lps fn.ntmps (bodyOf fn) := by exact lps_nil) (hJ : ∀ w, I.inv w := by intro w; trivial) : Pl P f us x.get := fun w => by
 cases hx : x.val with
 | none => rw [hx] at hv; cases hv
 | some v => rw [AV.get_val hx]; exact evR_calls hC hmix hf hb hL h hn ha hx w (by omega) hc (hJ w)

structure Dec (F : Type) (α : Type) where
 dec : AV F -> Option α
 enc : α -> Value
 ok : ∀ x a, dec x = some a -> x.val = some (enc a)
def dInt (k : IntKind) : Dec F Int where
 dec := fun x => match x with
   | .w (.one (.int k' n)) => bif decide (k' = k) then some n else none
   | _ => none
 enc := fun n => .int k n
 ok := fun x a h => by
   split at h
   · rename_i k' n
     by_cases e : k' = k
     · subst e; simp at h; subst h; rfl
     · simp [e] at h
   · cases h
def aInt (k : IntKind) (n : Int) : AV F := .w (.one (.int k n))
def aBool (b : Bool) : AV F := .w (.one (.bool b))

def sp0 (r : AV F) : FnSp F := plain fun args => match args with
 | [] => some (r, [])
 | _ => none
def sp1 {α : Type} (d : Dec F α) (r : α -> AV F) (cd : α -> List (Bool × Bool)) : FnSp F := plain fun args => match args with
 | [x] => match d.dec x with
   | some a => some (r a, cd a)
   | none => none
 | _ => none
def sp2 {α β : Type} (d : Dec F α) (e : Dec F β) (r : α -> β -> AV F) (cd : α -> β -> List (Bool × Bool)) : FnSp F := plain fun args => match args with
 | [x, y] => match d.dec x with
   | some a => match e.dec y with
     | some b => some (r a b, cd a b)
     | none => none
   | none => none
 | _ => none
def sp3 {α β γ : Type} (d : Dec F α) (e : Dec F β) (g : Dec F γ) (r : α -> β -> γ -> AV F) (cd : α -> β -> γ -> List (Bool × Bool)) : FnSp F := plain fun args => match args with
 | [x, y, z] => match d.dec x with
   | some a => match e.dec y with
     | some b => match g.dec z with
       | some c => some (r a b c, cd a b c)
       | none => none
     | none => none
   | none => none
 | _ => none
theorem all2_val {E : Env F} : ∀ {args : List (AV F)} {us vs : List Value}, All2 (fun (x : AV F) u => x.val = some u) args us -> All2 (AV.R E) args vs -> vs = us
 | [], us, vs, h, H => by cases h; cases H; rfl
 | x :: r, us, vs, h, H => by
   cases h with
   | cons h1 h => cases H with
     | cons q H => rw [AV.val_R h1 q, all2_val h H]
theorem plain_ok' {P : Program} {I : Interp F} {f : FuncId} {g : List (AV F) -> Option (AV F × List (Bool × Bool))}
   (h : ∀ args v cd, g args = some (v, cd) -> (∀ p ∈ cd, p.1 = p.2) -> ∃ us u, All2 (fun (x : AV F) u => x.val = some u) args us /\ v.val = some u /\ Pl P f us u) : (plain g).ok P I f :=
 plain_ok fun args v cd hg hc => by
   obtain ⟨us, u, h1, h2, h3⟩ := h args v cd hg hc
   exact ⟨u, us, h2, fun E vs H => all2_val h1 H, fun E => AV.R_val h2, h3⟩
theorem sp0_ok {P : Program} {I : Interp F} {f : FuncId} {r : AV F} {u : Value} (hr : r.val = some u) (h : Pl P f [] u) : (sp0 r).ok P I f := plain_ok' fun args v cd hg hc => by
 split at hg
 · cases hg; exact ⟨[], u, .nil, hr, h⟩
 · cases hg
theorem sp1_ok {P : Program} {I : Interp F} {f : FuncId} {α : Type} {d : Dec F α} {r : α -> AV F} {cd : α -> List (Bool × Bool)} (h : ∀ a, (∀ p ∈ cd a, p.1 = p.2) -> ∃ u, (r a).val = some u /\ Pl P f [d.enc a] u) : (sp1 d r cd).ok P I f := plain_ok' fun args v cd' hg hc => by
 split at hg
 · rename_i x
   split at hg
   · rename_i a ha
     cases hg
     obtain ⟨u, h1, h2⟩ := h a hc
     exact ⟨_, u, .cons (d.ok _ _ ha) .nil, h1, h2⟩
   · cases hg
 · cases hg
theorem sp2_ok {P : Program} {I : Interp F} {f : FuncId} {α β : Type} {d : Dec F α} {e : Dec F β} {r : α -> β -> AV F} {cd : α -> β -> List (Bool × Bool)} (h : ∀ a b, (∀ p ∈ cd a b, p.1 = p.2) -> ∃ u, (r a b).val = some u /\ Pl P f [d.enc a, e.enc b] u) : (sp2 d e r cd).ok P I f := plain_ok' fun args v cd' hg hc => by
 split at hg
 · rename_i x y
   split at hg
   · rename_i a ha
     split at hg
     · rename_i b hb
       cases hg
       obtain ⟨u, h1, h2⟩ := h a b hc
       exact ⟨_, u, .cons (d.ok _ _ ha) (.cons (e.ok _ _ hb) .nil), h1, h2⟩
     · cases hg
   · cases hg
 · cases hg
theorem sp3_ok {P : Program} {I : Interp F} {f : FuncId} {α β γ : Type} {d : Dec F α} {e : Dec F β} {g : Dec F γ} {r : α -> β -> γ -> AV F} {cd : α -> β -> γ -> List (Bool × Bool)} (h : ∀ a b c, (∀ p ∈ cd a b c, p.1 = p.2) -> ∃ u, (r a b c).val = some u /\ Pl P f [d.enc a, e.enc b, g.enc c] u) : (sp3 d e g r cd).ok P I f := plain_ok' fun args v cd' hg hc => by
 split at hg
 · rename_i x y z
   split at hg
   · rename_i a ha
     split at hg
     · rename_i b hb
       split at hg
       · rename_i c' hc'
         cases hg
         obtain ⟨u, h1, h2⟩ := h a b c' hc
         exact ⟨_, u, .cons (d.ok _ _ ha) (.cons (e.ok _ _ hb) (.cons (g.ok _ _ hc') .nil)), h1, h2⟩
       · cases hg
     · cases hg
   · cases hg
 · cases hg
def ctxOf (P : Program) (I : Interp F) (eqs : TypeId -> Bool) (l : List (Nat × FnSp F)) : Ctx F := ⟨tabOf P, lib1 l, I.safe, eqs, I.slen, I.sget, I.vlen, I.vesz, I.vget, I.vsub, I.vapp, I.nil, I.maps, fun _ => none, [], I.vrow, I.deref, I.mkp, I.nilp⟩
theorem ctxOf_ok {P : Program} {I : Interp F} {eqs : TypeId -> Bool} {l : List (Nat × FnSp F)} (hl : LibOk P I (lib1 l)) (he : EqOk P (tabOf P) eqs) : CtxOk P I (ctxOf P I eqs l) := ⟨tabOf_ok P, hl, fun _ h => h, he, rfl, rfl, rfl, rfl, rfl, rfl, rfl, rfl, fun h => h, tabB_ok P, (fun _ _ h => by cases h), rfl, rfl, rfl, rfl⟩
def ctxIn (P : Program) (I : Interp F) (eqs : TypeId -> Bool) (l : List (Nat × FnSp F)) (fs : List (Nat × Func)) : Ctx F := ⟨tabOf P, lib1 l, I.safe, eqs, I.slen, I.sget, I.vlen, I.vesz, I.vget, I.vsub, I.vapp, I.nil, I.maps, fun f => look f fs, [], I.vrow, I.deref, I.mkp, I.nilp⟩
def ctxLp (P : Program) (I : Interp F) (eqs : TypeId -> Bool) (l : List (Nat × FnSp F)) (fs : List (Nat × Func)) (lps : Lps F) : Ctx F := ⟨tabOf P, lib1 l, I.safe, eqs, I.slen, I.sget, I.vlen, I.vesz, I.vget, I.vsub, I.vapp, I.nil, I.maps, fun f => look f fs, lps, I.vrow, I.deref, I.mkp, I.nilp⟩
def FnsOk (P : Program) (fs : List (Nat × Func)) : Prop := ∀ f fn, look f fs = some fn -> P.funcs[f]? = some fn /\ fn.body.isSome = true /\ ∀ args w, (callFunc f args).run P w = .ok (.enter f args) w
theorem fns_nil (P : Program) : FnsOk P [] := fun f fn h => by cases h
theorem fns_cons {P : Program} {f : Nat} {fn : Func} {fs : List (Nat × Func)} (h1 : P.funcs[f]? = some fn) (h2 : fn.body.isSome = true) (h3 : ∀ args w, (callFunc f args).run P w = .ok (.enter f args) w) (h : FnsOk P fs) : FnsOk P ((f, fn) :: fs) := fun g gn hg => by
 rw [look_cons] at hg
 by_cases e : f = g
 · subst e
   rw [if_pos rfl] at hg; cases hg
   exact ⟨h1, h2, h3⟩
 · rw [if_neg e] at hg
   exact h g gn hg
theorem ctxIn_ok {P : Program} {I : Interp F} {eqs : TypeId -> Bool} {l : List (Nat × FnSp F)} {fs : List (Nat × Func)} (hl : LibOk P I (lib1 l)) (he : EqOk P (tabOf P) eqs) (hf : FnsOk P fs) : CtxOk P I (ctxIn P I eqs l fs) := ⟨tabOf_ok P, hl, fun _ h => h, he, rfl, rfl, rfl, rfl, rfl, rfl, rfl, rfl, fun h => h, tabB_ok P, fun f fn h => ⟨(hf f fn h).1, (hf f fn h).2.1, (hf f fn h).2.2, lps_nil⟩, rfl, rfl, rfl, rfl⟩
theorem ctxLp_ok {P : Program} {I : Interp F} {eqs : TypeId -> Bool} {l : List (Nat × FnSp F)} {fs : List (Nat × Func)} {lps : Lps F} (hl : LibOk P I (lib1 l)) (he : EqOk P (tabOf P) eqs) (hf : FnsOk P fs) (hp : ∀ f fn, look f fs = some fn -> LpsOk P I lps fn.ntmps (bodyOf fn)) : CtxOk P I (ctxLp P I eqs l fs lps) := ⟨tabOf_ok P, hl, fun _ h => h, he, rfl, rfl, rfl, rfl, rfl, rfl, rfl, rfl, fun h => h, tabB_ok P, fun f fn h => ⟨(hf f fn h).1, (hf f fn h).2.1, (hf f fn h).2.2, hp f fn h⟩, rfl, rfl, rfl, rfl⟩
theorem eq_none (P : Program) : EqOk P (tabOf P) (fun _ => false) := fun t i fs _ _ h => by cases h
theorem vsEq_cut : ∀ (m : Nat) {xs ys : List Value} {b : Bool}, vsEq xs ys = some b -> ∃ p q, vsEq (xs.take m) (ys.take m) = some p /\ vsEq (xs.drop m) (ys.drop m) = some q /\ b = (p && q)
 | 0, xs, ys, b, h => ⟨true, b, rfl, h, by simp⟩
 | m + 1, [], [], b, h => by cases h; exact ⟨true, true, rfl, rfl, rfl⟩
 | m + 1, [], _ :: _, b, h => by cases h
 | m + 1, _ :: _, [], b, h => by cases h
 | m + 1, x :: xs, y :: ys, b, h => by
   simp only [vsEq] at h
   split at h
   · rename_i p q hp hq
     cases h
     obtain ⟨p', q', h1, h2, rfl⟩ := vsEq_cut m hq
     refine ⟨p && p', q', ?_, h2, by rw [Bool.and_assoc]⟩
     simp only [List.take_succ_cons, vsEq, hp, h1]
   · cases h
theorem vsEq_len : ∀ {xs ys : List Value} {b : Bool}, vsEq xs ys = some b -> xs.length = ys.length
 | [], [], b, h => rfl
 | [], _ :: _, b, h => by cases h
 | _ :: _, [], b, h => by cases h
 | x :: xs, y :: ys, b, h => by
   simp only [vsEq] at h
   split at h
   · rename_i p q hp hq
     simp [vsEq_len hq]
   · cases h
theorem eqFields_run {P : Program} {T : Nat -> Option TyI} (hT : TabOk P T) {eqs : TypeId -> Bool} (he0 : ∀ t, eqs t = true -> P.stoodInHeld t = false /\ ((P.fieldsOf t).toList.all fun f => decide (f.name ≠ "_")) = true) {w : World} :
   ∀ (n d : Nat) (fs : List Field) (j : Nat) (xs ys : List Value) (b : Bool) (X Y : Array Value), n <= d -> fitsV T eqs n fs j xs = true -> vsEq xs ys = some b ->
   X.toList.drop j = xs -> Y.toList.drop j = ys -> (∀ f ∈ fs, f.name ≠ "_") -> (Op.eqFields (d + 1) X Y fs).run P w = .ok b w
 | 0, d, fs, j, xs, ys, b, X, Y, hd, hf, he, hX, hY, hn => by cases hf
 | n + 1, d, [], j, xs, ys, b, X, Y, hd, hf, he, hX, hY, hn => by
   cases xs with
   | nil => cases ys with
     | nil => cases he; rfl
     | cons => cases he
   | cons => cases hf
 | n + 1, 0, f :: fs, j, xs, ys, b, X, Y, hd, hf, he, hX, hY, hn => by omega
 | n + 1, d + 1, f :: fs, j, xs, ys, b, X, Y, hd, hf, he, hX, hY, hn => by
   simp only [fitsV] at hf
   split at hf
   · rename_i ti hTf
     have hu := (hT f.type ti hTf).2.2
     split at hf
     · rename_i gs hgs
       simp only [Bool.and_eq_true] at hf
       obtain ⟨ho, hq, hsz, hin, hout⟩ := hf
       have ho := Nat.eq_of_beq_eq_true ho
       have hsz := Nat.le_of_ble_eq_true hsz
       have hlen := vsEq_len he
       obtain ⟨p, q, hp, hq', rfl⟩ := vsEq_cut ti.size he
       have hagg : (isAgg f.type).run P w = .ok true w := by
         rw [run_agg hT hTf]
         unfold TyI.aggB
         rw [hgs]
       have hpart : ∀ (Z : Array Value) (zs : List Value), Z.toList.drop j = zs -> (part f.type Z f.offset).run P w = .ok (.agg (zs.take ti.size).toArray) w := fun Z zs hz => by
         simp only [part, Sem.run_bind, hagg, Result.andThen_ok, if_true, run_size hT hTf, Sem.run_pure]
         congr 2
         apply Array.ext'
         rw [ho, Array.toList_extract]
         simp only [List.extract_eq_take_drop, Nat.add_sub_cancel_left, hz]
       have hu' : P.underlying f.type = some (.struct gs) := hgs ▸ hu
       have hfo : P.fieldsOf f.type = gs := by unfold Program.fieldsOf; rw [hu']
       have heq : (Op.equalIn (d + 1 + 1) f.type (.agg (xs.take ti.size).toArray) (.agg (ys.take ti.size).toArray)).run P w = .ok p w := by
         rw [run_equalIn_struct (P := P) w (d + 1) f.type _ _ (by rw [hfo]; exact hu') (he0 _ hq).1, hfo]
         refine eqFields_run hT he0 n d gs.toList 0 _ _ p _ _ (by omega) hin hp rfl rfl fun g hg => ?_
         have := (he0 _ hq).2
         rw [hfo] at this
         exact of_decide_eq_true ((List.all_eq_true.1 this) g hg)
       have ih := eqFields_run (w := w) hT he0 n (d + 1) fs (j + ti.size) _ _ q X Y (by omega) hout hq' (by rw [<- hX, List.drop_drop]) (by rw [<- hY, List.drop_drop]) (fun g hg => hn g (by simp [hg]))
       simp only [Op.eqFields, if_pos (hn f (by simp)), Sem.run_bind, hpart X xs hX, hpart Y ys hY, heq, Result.andThen_ok, Sem.run_ite]
       cases p with
       | true => simp only [Bool.not_true, Bool.false_eq_true, if_false, Bool.true_and]; exact ih
       | false => simp
     · split at hf
       · rename_i x xs'
         simp only [Bool.and_eq_true] at hf
         obtain ⟨ho, hk, hf⟩ := hf
         have ho := Nat.eq_of_beq_eq_true ho
         cases ys with
         | nil => cases he
         | cons y ys =>
           have get : ∀ (Z : Array Value) (z : Value) (zs : List Value), Z.toList.drop j = z :: zs -> Z[f.offset]? = some z := fun Z z zs hz => by
             rw [ho, <- Array.getElem?_toList]
             have := congrArg (fun l : List Value => l[0]?) hz
             simpa using this
           have hx0 := get X x xs' hX
           have hy0 := get Y y ys hY
           have nxt : ∀ (Z : Array Value) (z : Value) (zs : List Value), Z.toList.drop j = z :: zs -> Z.toList.drop (j + 1) = zs := fun Z z zs hz => by
             have := congrArg List.tail hz
             simpa using this
           simp only [vsEq] at he
           split at he
           · rename_i p q hp hq
             cases he
             have ih := eqFields_run (w := w) hT he0 n (d + 1) fs (j + 1) xs' ys q X Y (by omega) hf hq (nxt X x xs' hX) (nxt Y y ys hY) (fun g hg => hn g (by simp [hg]))
             have hagg : (isAgg f.type).run P w = .ok false w := by
               rw [run_agg hT hTf]
               simp only [kindV] at hk
               unfold TyI.aggB
               split at hk
               · rename_i hd; rw [hd]
               · rename_i hd; rw [hd]
               · cases hk
             have part1 : (part f.type X f.offset).run P w = .ok x w := by simp [part, hagg, hx0]
             have part2 : (part f.type Y f.offset).run P w = .ok y w := by simp [part, hagg, hy0]
             have heq : (Op.equalIn (d + 1 + 1) f.type x y).run P w = .ok p w := by
               simp only [kindV] at hk
               split at hk
               · rename_i k k' n hd
                 have hkk : k = k' := of_decide_eq_true hk
                 subst hkk
                 cases y <;> simp only [vsEq, vEq] at hp <;> try cases hp
                 rename_i k2 n2
                 split at hp
                 · rename_i e; cases hp; subst e
                   simp only [Op.equalIn, Sem.run_bind, run_underlying hu, hd, Result.andThen_ok, if_true, Sem.run_pure]
                 · cases hp
               · rename_i b1 hd
                 cases y <;> simp only [vsEq, vEq] at hp <;> try cases hp
                 simp only [Op.equalIn, Sem.run_bind, run_underlying hu, hd, Result.andThen_ok, Sem.run_pure]
               · cases hk
             simp only [Op.eqFields, if_pos (hn f (by simp)), Sem.run_bind, part1, part2, heq, Result.andThen_ok, Sem.run_ite]
             cases p with
             | true => simp only [Bool.not_true, Bool.false_eq_true, if_false, Bool.true_and]; exact ih
             | false => simp
           · cases he
       · cases hf
   · cases hf
theorem eq_of {P : Program} {eqs : TypeId -> Bool} (h : ∀ t, eqs t = true -> P.stoodInHeld t = false /\ P.eqGuardType P.depth t = false /\ ((P.fieldsOf t).toList.all fun f => decide (f.name ≠ "_")) = true) : EqOk P (tabOf P) eqs := fun t i fs hi hfs he xs ys b x y w hf hv => by
 obtain ⟨h1, h2, h3⟩ := h t he
 have hu : P.underlying t = some (.struct fs) := hfs ▸ (tabOf_ok P t i hi).2.2
 have hfo : P.fieldsOf t = fs := by unfold Program.fieldsOf; rw [hu]
 have hu' : P.underlying t = some (.struct (P.fieldsOf t)) := by rw [hfo]; exact hu
 refine ⟨fun op hop => ?_, ?_⟩
 · exact run_eqGuard_agg w op t x y _ _ h2
 · have := run_equalIn_struct (P := P) w 9999 t xs.toArray ys.toArray hu' h1
   show (Op.equalIn 10000 t _ _).run P w = _
   rw [this, hfo]
   refine eqFields_run (tabOf_ok P) (fun t ht => ⟨(h t ht).1, (h t ht).2.2⟩) 64 9998 fs.toList 0 xs ys b _ _ (by omega) hf hv rfl rfl fun f hf' => ?_
   rw [hfo] at h3
   exact of_decide_eq_true ((List.all_eq_true.1 h3) f hf')
theorem all2_R {E : Env F} : ∀ {args : List (AV F)} {us : List Value}, All2 (fun (x : AV F) u => x.val = some u) args us -> All2 (AV.R E) args us
 | [], us, h => by cases h; exact .nil
 | x :: r, us, h => by
   cases h with
   | cons h1 h => exact .cons (AV.R_val h1) (all2_R h)


def pickL (l : List (Bool × Bool)) : List Nat -> List (Bool × Bool)
 | [] => []
 | i :: r => match l[i]? with
   | some x => x :: pickL l r
   | none => pickL l r
theorem pickL_ok {l : List (Bool × Bool)} (h : ∀ p ∈ l, p.1 = p.2) : ∀ (is : List Nat), ∀ p ∈ pickL l is, p.1 = p.2
 | [], p, hp => by cases hp
 | i :: r, p, hp => by
   unfold pickL at hp
   split at hp
   · rename_i x hx
     rcases List.mem_cons.1 hp with rfl | hp
     · exact h _ (List.mem_of_getElem? hx)
     · exact pickL_ok h r p hp
   · exact pickL_ok h r p hp

def Interp.rows (I : Interp F) (nl : TypeId -> Option F) (h : ∀ t g D w, nl t = some g -> I.hv g D w (.slice none 0 0)) : Interp F := { I with nil := nl, nil_ok := h }
theorem Mem.rows {I : Interp F} {nl : TypeId -> Option F} {h : ∀ t g D w, nl t = some g -> I.hv g D w (.slice none 0 0)} {w0 : Start} {w : World} {E : Env F} {hp : List (Nat × Blk F)} : Mem (I.rows nl h) w0 E hp w ↔ Mem I w0 E hp w :=
 ⟨fun H => ⟨H.hp, H.tok, H.exc, H.inj, H.loc, H.ext, H.kept, H.new, H.low, H.bsz, H.fv, H.apt⟩, fun H => ⟨H.hp, H.tok, H.exc, H.inj, H.loc, H.ext, H.kept, H.new, H.low, H.bsz, H.fv, H.apt⟩⟩
theorem FnSp.ok.rows {P : Program} {I : Interp F} {nl : TypeId -> Option F} {h : ∀ t g D w, nl t = some g -> I.hv g D w (.slice none 0 0)} {f : FuncId} {sp : FnSp F} (H : sp.ok P I f) : sp.ok P (I.rows nl h) f :=
 fun E hp w slot args us bs out dt h1 h2 h3 h4 h5 h6 => (H E hp w slot args us bs out dt h1 h2 h3 (Mem.rows.1 h4) h5 h6).mono fun e w' ⟨E', u, g1, g2, g3, g4⟩ => ⟨E', u, g1, g2, g3, Mem.rows.2 g4⟩
theorem LibOk.rows {P : Program} {I : Interp F} {nl : TypeId -> Option F} {h : ∀ t g D w, nl t = some g -> I.hv g D w (.slice none 0 0)} {L : Nat -> Option (FnSp F)} (H : LibOk P I L) : LibOk P (I.rows nl h) L := fun f sp hf => (H f sp hf).imp (fun h => ⟨h.1.rows, h.2⟩) id

theorem cellKeepT {D : Nat -> Nat -> Prop} {w w' : World} {base : Nat} {safe : TypeId -> Bool} (hk : ∀ k, k < w.heap.size -> w'.heap[k]? = w.heap[k]? \/ base <= k /\ ∃ c c' ty fr, w.heap[k]? = some (.cells c ty fr) /\ safe ty = true /\ w'.heap[k]? = some (.cells c' ty fr) /\ ∀ o, c'[o]? = c[o]? \/ D k o)
   {k o : Nat} {u : Value} (h : w.cell? ⟨k, o, none⟩ = some u) (hd : ¬ D k o) : k < w.heap.size /\ w'.cell? ⟨k, o, none⟩ = some u := by
 have hlt : k < w.heap.size := by
   rcases Nat.lt_or_ge k w.heap.size with q | q
   · exact q
   · simp [World.cell?, Array.getElem?_eq_none q] at h
 refine ⟨hlt, ?_⟩
 rcases hk k hlt with e | ⟨_, c, c', ty, fr, q1, _, q3, q4⟩
 · rw [<- h]; exact World.cell?_of_block e
 · simp only [World.cell?, q1] at h
   simp only [World.cell?, q3]
   rcases q4 o with q | q
   · rw [q]; exact h
   · exact absurd q hd

theorem tabHv.keep {D D' : Nat -> Nat -> Prop} {w w' : World} {v : Value} {ks : List (Option IntKind)} {l : List (List Int)} {base : Nat} {safe : TypeId -> Bool} (h : tabHv D w v ks l) (hD : ∀ k o, k < w.heap.size -> D' k o -> D k o)
   (hk : ∀ k, k < w.heap.size -> w'.heap[k]? = w.heap[k]? \/ base <= k /\ ∃ c c' ty fr, w.heap[k]? = some (.cells c ty fr) /\ safe ty = true /\ w'.heap[k]? = some (.cells c' ty fr) /\ ∀ o, c'[o]? = c[o]? \/ D k o) : tabHv D' w' v ks l := by
 obtain ⟨p, cap, h1, h2, h3, h4, h5⟩ := h
 refine ⟨p, cap, h1, h2, h3, h4, fun a ha => ⟨(h5 a ha).1, fun j hj o k ho => ?_⟩⟩
 obtain ⟨g1, g2⟩ := (h5 a ha).2 j hj o k ho
 obtain ⟨q1, q2⟩ := cellKeepT hk g2 g1
 exact ⟨fun hd => g1 (hD _ _ q1 hd), q2⟩
theorem tabHv.mapped {D : Nat -> Nat -> Prop} {w w' : World} {v : Value} {ks : List (Option IntKind)} {l : List (List Int)} {k : Nat} {es : Array MapEntry} {c : Nat} (h : tabHv D w v ks l) (hk : w.heap[k]? = some (.map es c))
   (hne : ∀ j, j < w.heap.size -> j ≠ k -> w'.heap[j]? = w.heap[j]?) : tabHv D w' v ks l := by
 obtain ⟨p, cap, h1, h2, h3, h4, h5⟩ := h
 refine ⟨p, cap, h1, h2, h3, h4, fun a ha => ⟨(h5 a ha).1, fun j hj o k' ho => ?_⟩⟩
 obtain ⟨g1, g2⟩ := (h5 a ha).2 j hj o k' ho
 refine ⟨g1, ?_⟩
 have hne' : a.block ≠ k := fun e => by
   unfold World.cell? at g2
   simp only [e, hk] at g2
   cases g2
 have hlt : a.block < w.heap.size := by
   unfold World.cell? at g2
   simp only at g2
   cases hb : w.heap[a.block]? with
   | none => rw [hb] at g2; cases g2
   | some x => exact (Array.getElem?_eq_some_iff.1 hb).1
 rw [<- g2]
 unfold World.cell?
 simp only [hne a.block hlt hne']
theorem tabHv.sub {D : Nat -> Nat -> Prop} {w : World} {v : Value} {ks : List (Option IntKind)} {l : List (List Int)} (h : tabHv D w v ks l) {a b : Int} (h0 : 0 <= a) (h1 : a <= b) (h2 : b <= lenT l) :
   ∃ p m cap, v = .slice p m cap /\ lenT l = (m : Int) /\ b <= (cap : Int) /\ tabHv D w (.slice (if cap = a.toNat then p else p.map (·.add (a.toNat * ks.length))) (b.toNat - a.toNat) (cap - a.toNat)) ks ((l.take b.toNat).drop a.toNat) := by
 obtain ⟨p, cap, rfl, g2, g3, g4, g5⟩ := h
 unfold lenT at h2 ⊢
 have hl : ((l.take b.toNat).drop a.toNat).length = b.toNat - a.toNat := by simp only [List.length_drop, List.length_take]; omega
 refine ⟨p, l.length, cap, rfl, rfl, by omega, _, cap - a.toNat, by rw [hl], by rw [hl]; omega, by omega, fun hp => ?_, fun ad had => ?_⟩
 · rw [hl]
   split at hp
   · omega
   · cases p with
     | none => have := g4 rfl; omega
     | some q => cases hp
 · split at had
   · obtain ⟨e1, _⟩ := g5 ad had
     exact ⟨e1, fun j hj => by rw [hl] at hj; omega⟩
   · cases p with
     | none => cases had
     | some q =>
       obtain ⟨e1, e2⟩ := g5 q rfl
       rw [e1] at had
       simp only [Option.map_some, Addr.add_lit, Option.some.injEq] at had
       subst had
       refine ⟨rfl, fun j hj o k ho => ?_⟩
       rw [hl] at hj
       obtain ⟨r1, r2⟩ := e2 (a.toNat + j) (by omega) o k ho
       simp only [Nat.add_mul, Nat.add_assoc] at r1 r2 ⊢
       refine ⟨r1, r2.trans ?_⟩
       congr 3
       simp only [List.getD_eq_getElem?_getD, List.getElem?_drop, List.getElem?_take]
       rw [if_pos (by omega)]
def rowsOf (ks : List (Option IntKind)) : Nat -> List (AC F) -> Option (List (List Int))
 | 0, [] => some []
 | 0, _ => none
 | m + 1, xs => match rowOf ks xs with
   | some (r, rest) => match rowsOf ks m rest with
     | some l => some (r :: l)
     | none => none
   | none => none
theorem bool_10 (b : Bool) : decide ((bif b then (1 : Int) else 0) = 1) = b := by cases b <;> rfl
theorem rowOf_get {hv : F -> World -> Value -> Prop} {w : World} : ∀ {ks : List (Option IntKind)} {xs rest : List (AC F)} {r : List Int} {us : List Value}, rowOf ks xs = some (r, rest) -> All2 (fun x u => isCell u = true /\ x.is hv w u) xs us ->
   r.length = ks.length /\ xs.length = ks.length + rest.length /\ All2 (fun x u => isCell u = true /\ x.is hv w u) rest (us.drop ks.length) /\ ∀ o k, ks[o]? = some k -> us[o]? = some (kdV k (r.getD o 0))
 | [], xs, rest, r, us, h, H => by
   cases h
   exact ⟨rfl, by simp, by simpa using H, fun o k h => by simp at h⟩
 | some k :: ks, xs, rest, r, us, h, H => by
   unfold rowOf at h
   split at h
   · cases ‹_ :: _ = []›
   · rename_i k0 ks0 k' x xs0 e
     cases e
     split at h
     · rename_i hk
       split at h
       · rename_i r0 rest0 h0
         cases h
         cases H with
         | cons q H =>
           obtain ⟨g1, g2, g3, g4⟩ := rowOf_get h0 H
           simp only [Bool.and_eq_true, Bool.not_eq_true'] at hk
           obtain rfl := of_decide_eq_true hk.1
           refine ⟨by simp [g1], by simp only [List.length_cons, g2]; omega, by simpa using g3, fun o k2 ho => ?_⟩
           cases o with
           | zero =>
             simp only [List.getElem?_cons_zero, Option.some.injEq] at ho
             subst ho
             have := q.2
             simp only [AC.is, AC.lv, Option.some.injEq] at this
             simp [kdV_int hk.2, <- this]
           | succ o => simpa using g4 o k2 (by simpa using ho)
       · cases h
     · cases h
   · rename_i ks0 z xs0 e
     cases e
     split at h
     · rename_i r0 rest0 h0
       cases h
       cases H with
       | cons q H =>
         obtain ⟨g1, g2, g3, g4⟩ := rowOf_get h0 H
         refine ⟨by simp [g1], by simp only [List.length_cons, g2]; omega, by simpa using g3, fun o k2 ho => ?_⟩
         cases o with
         | zero =>
           simp only [List.getElem?_cons_zero, Option.some.injEq] at ho
           subst ho
           have := q.2
           simp only [AC.is, AC.lv, Option.some.injEq] at this
           simp only [kdV, List.getElem?_cons_zero, List.getD_cons_zero, dec_enc, this]
         | succ o => simpa using g4 o k2 (by simpa using ho)
     · cases h
   · cases ‹_ = (none : Option IntKind) :: _›
   · cases ‹_ = (none : Option IntKind) :: _›
   · cases h
 | none :: ks, xs, rest, r, us, h, H => by
   unfold rowOf at h
   split at h
   · cases ‹_ :: _ = []›
   · cases ‹(none : Option IntKind) :: _ = _›
   · cases ‹(none : Option IntKind) :: _ = _›
   · rename_i ks0 b xs0 e
     cases e
     split at h
     · rename_i r0 rest0 h0
       cases h
       cases H with
       | cons q H =>
         obtain ⟨g1, g2, g3, g4⟩ := rowOf_get h0 H
         refine ⟨by simp [g1], by simp only [List.length_cons, g2]; omega, by simpa using g3, fun o k2 ho => ?_⟩
         cases o with
         | zero =>
           simp only [List.getElem?_cons_zero, Option.some.injEq] at ho
           subst ho
           have := q.2
           simp only [AC.is, AC.lv, Option.some.injEq] at this
           simp only [kdV, List.getElem?_cons_zero, List.getD_cons_zero, bool_10, this]
         | succ o => simpa using g4 o k2 (by simpa using ho)
     · cases h
   · rename_i ks0 b xs0 e
     cases e
     split at h
     · rename_i r0 rest0 h0
       cases h
       cases H with
       | cons q H =>
         obtain ⟨g1, g2, g3, g4⟩ := rowOf_get h0 H
         refine ⟨by simp [g1], by simp only [List.length_cons, g2]; omega, by simpa using g3, fun o k2 ho => ?_⟩
         cases o with
         | zero =>
           simp only [List.getElem?_cons_zero, Option.some.injEq] at ho
           subst ho
           have := q.2
           simp only [AC.is, AC.lv, Option.some.injEq] at this
           simp only [kdV, List.getElem?_cons_zero, List.getD_cons_zero, bool_10, this]
         | succ o => simpa using g4 o k2 (by simpa using ho)
     · cases h
   · cases h
theorem rowsOf_get {hv : F -> World -> Value -> Prop} {w : World} {ks : List (Option IntKind)} : ∀ {m : Nat} {xs : List (AC F)} {l : List (List Int)} {us : List Value}, rowsOf ks m xs = some l -> All2 (fun x u => isCell u = true /\ x.is hv w u) xs us ->
   l.length = m /\ xs.length = m * ks.length /\ ∀ j, j < m -> ∀ o k, ks[o]? = some k -> us[j * ks.length + o]? = some (kdV k ((l.getD j []).getD o 0))
 | 0, xs, l, us, h, H => by
   unfold rowsOf at h
   split at h
   · cases h; exact ⟨rfl, by simp, fun j hj => by omega⟩
   · cases h
   · cases ‹0 = _ + 1›
 | m + 1, xs, l, us, h, H => by
   simp only [rowsOf] at h
   split at h
   · rename_i r rest h0
     split at h
     · rename_i l0 hl
       cases h
       obtain ⟨g1, g2, g3, g4⟩ := rowOf_get h0 H
       obtain ⟨q1, q2, q3⟩ := rowsOf_get hl g3
       refine ⟨by simp [q1], by rw [g2, q2, Nat.add_mul]; omega, fun j hj o k ho => ?_⟩
       cases j with
       | zero => simpa using g4 o k ho
       | succ j =>
         have := q3 j (by omega) o k ho
         rw [List.getElem?_drop] at this
         rw [show (j + 1) * ks.length + o = ks.length + (j * ks.length + o) by rw [Nat.add_mul]; omega]
         simpa using this
     · cases h
   · cases h
theorem nil_tab (ks : List (Option IntKind)) (D : Nat -> Nat -> Prop) (w : World) : tabHv D w (.slice none 0 0) ks [] := ⟨none, 0, rfl, Nat.le_refl _, by unfold maxLen; omega, fun _ => rfl, fun a ha => by cases ha⟩


def getI (l : List Int) (i : Int) : Int := l.getD i.toNat 0
def lenI (l : List Int) : Int := l.length


def touch (lps : Lps F) (nt : Nat) : Code -> List Bool -> List Nat
 | .region _ ops _, _ => dstOps ops.toList
 | .seq x y, pos => touch lps nt x (false :: pos) ++ touch lps nt y (true :: pos)
 | .cond _ x y, pos => touch lps nt x (false :: pos) ++ touch lps nt y (true :: pos)
 | .block _ x, pos => touch lps nt x (false :: pos)
 | .loop x, pos => match lookLp lps nt pos with
   | some sp => sp.W
   | none => touch lps nt x (false :: pos)
 | _, _ => []
theorem memN_iff {i : Nat} {l : List Nat} : memN i l = true ↔ i ∈ l := by
 unfold memN
 rw [List.any_eq_true]
 exact ⟨fun ⟨x, h1, h2⟩ => by rw [<- Nat.eq_of_beq_eq_true h2]; exact h1, fun h => ⟨i, h, Nat.beq_refl i⟩⟩
theorem memN_append {i : Nat} {l k : List Nat} (h : memN i (l ++ k) = false) : memN i l = false /\ memN i k = false := by
 unfold memN at h ⊢
 rw [List.any_append, Bool.or_eq_false_iff] at h
 exact h
theorem look_mem {α : Type} {i : Nat} {v : α} : ∀ {l : List (Nat × α)}, look i l = some v -> (i, v) ∈ l
 | [], h => by cases h
 | (j, x) :: l, h => by
   rw [look_cons] at h
   by_cases e : j = i
   · rw [if_pos e] at h; cases h; subst e; exact List.mem_cons_self
   · rw [if_neg e] at h; exact List.mem_cons_of_mem _ (look_mem h)
theorem look_none {α : Type} {i : Nat} : ∀ {l : List (Nat × α)}, (∀ e ∈ l, e.1 ≠ i) -> look i l = none
 | [], _ => rfl
 | (j, x) :: l, h => by
   rw [look_cons, if_neg (h (j, x) List.mem_cons_self)]
   exact look_none fun e he => h e (List.mem_cons_of_mem _ he)
theorem look_keep {W : List Nat} {i : Nat} (hi : memN i W = false) : ∀ (tm : List (Nat × AV F)), look i (keepT W tm) = look i tm
 | [] => rfl
 | (j, x) :: l => by
   unfold keepT
   rw [List.filter_cons]
   have ih := look_keep hi l
   unfold keepT at ih
   by_cases e : j = i
   · subst e
     simp only [hi, Bool.not_false, if_true, look_cons]
   · rw [look_cons, if_neg e]
     cases memN j W with
     | true => simpa using ih
     | false => simp only [Bool.not_false, if_true, look_cons, if_neg e]; exact ih
theorem keep_keys {W : List Nat} {tm : List (Nat × AV F)} {e : Nat × AV F} (h : e ∈ keepT W tm) : memN e.1 W = false := by
 unfold keepT at h
 have := (List.mem_filter.1 h).2
 simpa using this
theorem dst_grow {o : Oper} {l : List Oper} {i : Nat} (h : memN i (dstOps (o :: l)) = false) : o.dst ≠ some i /\ memN i (dstOps l) = false := by
 simp only [dstOps] at h
 split at h
 · rename_i d hd
   unfold memN at h ⊢
   simp only [List.any_cons, Bool.or_eq_false_iff] at h
   refine ⟨fun e => ?_, h.2⟩
   rw [hd] at e; cases e
   simp at h
 · rename_i hd
   exact ⟨fun e => (by rw [hd] at e; cases e), h⟩
theorem recTm_grow {r : Rec F} {i : Nat} {tm : List (Nat × AV F)} (h : r.dst ≠ some i) : look i (r.tm tm) = look i tm := by
 unfold Rec.tm
 split
 · rename_i d hd
   rw [look_cons, if_neg fun e => h (by rw [hd, e])]
 · rfl
theorem putT_grow {d : Option Nat} {v : AV F} {i : Nat} {tm : List (Nat × AV F)} (h : d ≠ some i) : look i (putT d v tm) = look i tm := by
 unfold putT
 split
 · rename_i d
   rw [look_cons, if_neg fun e => h (by rw [e])]
 · rfl
theorem evSeq_grow {c : Ctx F} {nt : Nat} {ops : List Oper} {i : Nat} : ∀ (l : List Oper) (slot : Nat) (tm : List (Nat × AV F)) (hp : List (Nat × Blk F)) (memo : Memo) (path : Pth) (res : Res F),
   evSeq c nt ops l slot tm hp memo path = some res -> memN i (dstOps l) = false -> look i res.tm = look i tm
 | [], slot, tm, hp, memo, path, res, h, _ => by cases h; rfl
 | o :: l, slot, tm, hp, memo, path, res, h, hi => by
   obtain ⟨βg, βc, memo', path', r, res', h1, h2, h3, rfl⟩ := evSeq_cons h
   obtain ⟨g1, g2⟩ := dst_grow hi
   have := evSeq_grow l _ _ _ _ _ res' h3 g2
   rw [this, recTm_grow (by rw [(evO_dst h1).1]; exact g1)]
theorem evSeqI_grow {c : Ctx F} {en : Enter F} {nt : Nat} {ops : List Oper} {i : Nat} : ∀ (l : List Oper) (nx : Nat) (tm : List (Nat × AV F)) (hp : List (Nat × Blk F)) (memo : Memo) (path : Pth) (res : ResI F),
   evSeqI c en nt ops l nx tm hp memo path = some res -> memN i (dstOps l) = false -> look i res.tm = look i tm
 | [], nx, tm, hp, memo, path, res, h, _ => by cases h; rfl
 | o :: l, nx, tm, hp, memo, path, res, h, hi => by
   obtain ⟨g1, g2⟩ := dst_grow hi
   unfold evSeqI at h
   split at h
   · cases h
   · split at h
     · split at h
       · cases h
       · split at h
         · cases h
         · rename_i r hr
           cases hd : dstOk nt o.dst with
           | false => rw [hd] at h; cases h
           | true =>
             rw [hd] at h; simp only [cond_true] at h
             split at h
             · cases h
             · rename_i res' hres
               cases h
               rw [evSeqI_grow l _ _ _ _ _ res' hres g2, putT_grow g1]
     · split at h
       · cases h
       · split at h
         · cases h
         · rename_i r hr
           cases hd : dstOk nt r.dst with
           | false => rw [hd] at h; cases h
           | true =>
             rw [hd] at h; simp only [cond_true] at h
             split at h
             · cases h
             · rename_i res' hres
               cases h
               rw [evSeqI_grow l _ _ _ _ _ res' hres g2, recTm_grow (by rw [(evO_dst hr).1]; exact g1)]
theorem evC_grow {P : Program} {I : Interp F} {c : Ctx F} {i : Nat} : ∀ (n nt : Nat) (pos : List Bool) (code0 code : Code) (_ : codeAt code0 pos = some code) (_ : LpsOk P I c.lps nt code0) (tm : List (Nat × AV F)) (hp : List (Nat × Blk F)) (nx : Nat) (path : Pth) (r : ResC F),
   evC c n nt pos code tm hp nx path = some r -> memN i (touch c.lps nt code pos) = false -> look i r.tm = look i tm
 | 0, nt, pos, code0, code, hat, hL, tm, hp, nx, path, r, h, _ => by cases h
 | n + 1, nt, pos, code0, code, hat, hL, tm, hp, nx, path, r, h, hi => by
   have ih := fun pos code (hat : codeAt code0 pos = some code) => evC_grow (P := P) (I := I) (c := c) (i := i) n nt pos code0 code hat hL
   cases code <;> simp only [evC] at h <;> try (cases h; done)
   case skip => cases h; rfl
   case exit id => cases h; rfl
   case ret => cases h; rfl
   case region id ops draw =>
     cases draw with
     | true =>
       simp only [cond_true] at h
       split at h
       · rename_i res hres
         cases hin : indep ops.toList res.recs with
         | false => rw [hin] at h; cases h
         | true => rw [hin] at h; cases h; exact evSeq_grow _ _ _ _ _ _ _ hres hi
       · cases h
     | false =>
       simp only [cond_false] at h
       split at h
       · rename_i res hres
         cases h
         exact evSeqI_grow _ _ _ _ _ _ _ hres hi
       · cases h
   case seq x y =>
     obtain ⟨hx, hy⟩ := memN_append (by simpa only [touch] using hi)
     split at h
     · rename_i r1 h1
       have e1 := ih (false :: pos) x (by simp [codeAt, hat]) _ _ _ _ r1 h1 hx
       split at h
       · split at h
         · rename_i r2 h2
           cases h
           exact (ih (true :: pos) y (by simp [codeAt, hat]) _ _ _ _ r2 h2 hy).trans e1
         · cases h
       · cases h; exact e1
     · cases h
   case cond x y z =>
     obtain ⟨hx, hy⟩ := memN_append (by simpa only [touch] using hi)
     split at h
     · split at h
       · rename_i b β path' hd
         split at h
         · rename_i r1 h1
           cases h
           refine ih ((!β) :: pos) _ (by cases β <;> simp [codeAt, hat]) _ _ _ _ r1 h1 ?_
           cases β
           · exact hy
           · exact hx
         · cases h
       · cases h
     · cases h
   case block id x =>
     split at h
     · rename_i r1 h1
       cases h
       exact ih (false :: pos) x (by simp [codeAt, hat]) _ _ _ _ r1 h1 (by simpa only [touch] using hi)
     · cases h
   case loop x =>
     cases hlp : lookLp c.lps nt pos with
     | some sp =>
       rw [hlp] at h
       simp only at h
       have hi' : memN i sp.W = false := by simpa only [touch, hlp] using hi
       split at h
       · split at h
         · rename_i ex outs wb cd hrun
           cases h
           have hk := (hL pos sp hlp x hat).keys _ _ _ _ _ _ _ hrun
           rw [look_append, look_none fun e he e' => by have := hk e he; rw [e', hi'] at this; cases this]
           exact look_keep hi' tm
         · cases h
       split at h
       · split at h
         · rename_i ex outs wb cd hrun
           cases h
           have hk := (hL pos sp hlp x hat).keys _ _ _ _ _ _ _ hrun
           rw [look_append, look_none fun e he e' => by have := hk e he; rw [e', hi'] at this; cases this]
           exact look_keep hi' tm
         · cases h
       · cases h
     | none =>
       rw [hlp] at h
       simp only at h
       have hi' : memN i (touch c.lps nt x (false :: pos)) = false := by simpa only [touch, hlp] using hi
       split at h
       · rename_i r1 h1
         have e1 := ih (false :: pos) x (by simp [codeAt, hat]) _ _ _ _ r1 h1 hi'
         split at h
         · split at h
           · rename_i r2 h2
             cases h
             exact (ih pos (.loop x) hat _ _ _ _ r2 h2 hi).trans e1
           · cases h
         · cases h; exact e1
       · cases h


def AC.flat : AC F -> Bool
 | .ptr _ _ => false
 | .slc _ _ _ _ => false
 | .ext _ _ _ _ => false
 | .xel _ _ _ _ => false
 | .fnc _ caps => caps.isEmpty
 | .tip _ _ _ => false
 | .wsl _ _ _ _ _ _ => false
 | .mpv _ => false
 | .wel _ _ _ _ _ => false
 | _ => true
def AW.flat : AW F -> Bool
 | .one c => c.flat
 | .agg cs => cs.all AC.flat
def AV.flat : AV F -> Bool
 | .w x => x.flat
 | .tup l => l.all AW.flat
def AC.low (m : Nat) : AC F -> Bool
 | .ptr b _ => Nat.blt b m
 | .slc b _ _ _ => Nat.blt b m
 | .ext _ _ _ _ => false
 | .xel _ _ _ _ => false
 | .fnc _ caps => caps.all fun p => Nat.blt p.1 m
 | .tip s _ _ => Nat.blt s m
 | .wsl b _ _ _ _ _ => Nat.blt b m
 | .mpv b => Nat.blt b m
 | .wel b _ _ _ _ => Nat.blt b m
 | _ => true
def AW.low (m : Nat) : AW F -> Bool
 | .one c => c.low m
 | .agg cs => cs.all (AC.low m)
def AV.low (m : Nat) : AV F -> Bool
 | .w x => x.low m
 | .tup l => l.all (AW.low m)
theorem all2_all {α β : Type} {R S : α -> β -> Prop} {p : α -> Bool} (h : ∀ a b, p a = true -> R a b -> S a b) : ∀ {l : List α} {k : List β}, l.all p = true -> All2 R l k -> All2 S l k
 | [], _, _, H => by cases H; exact .nil
 | a :: l, _, hp, H => by
   cases H with
   | cons r H =>
     simp only [List.all_cons, Bool.and_eq_true] at hp
     exact .cons (h _ _ hp.1 r) (all2_all h hp.2 H)
theorem AC.flat_R {E E' : Env F} (h : ∀ f v, E.h f v -> E'.h f v) {c : AC F} {v : Value} (hf : c.flat = true) (H : c.R E v) : c.R E' v := by
 cases c <;> simp only [AC.flat] at hf <;> try (cases hf; done)
 case fnc f caps =>
   have : caps = [] := by simpa using hf
   subst this
   obtain ⟨us, h1, h2⟩ := H
   cases h2
   exact ⟨[], h1, .nil⟩
 case fv f => exact h _ _ H
 case fel f i k o => obtain ⟨b, off, n, c, h1, h2⟩ := H; exact ⟨b, off, n, c, h _ _ h1, h2⟩
 all_goals exact H
theorem AW.flat_R {E E' : Env F} (h : ∀ f v, E.h f v -> E'.h f v) {c : AW F} {v : Value} (hf : c.flat = true) (H : c.R E v) : c.R E' v := by
 cases c with
 | one c => exact AC.flat_R h hf H
 | agg cs => obtain ⟨vs, rfl, h2⟩ := H; exact ⟨vs, rfl, all2_all (fun _ _ => AC.flat_R h) hf h2⟩
theorem AV.flat_R {E E' : Env F} (h : ∀ f v, E.h f v -> E'.h f v) {c : AV F} {v : Value} (hf : c.flat = true) (H : c.R E v) : c.R E' v := by
 cases c with
 | w x => exact AW.flat_R h hf H
 | tup l => obtain ⟨vs, rfl, h2⟩ := H; exact ⟨vs, rfl, all2_all (fun _ _ => AW.flat_R h) hf h2⟩
def Env.cut (E : Env F) (m : Nat) : Env F := ⟨fun b => bif Nat.blt b m then E.m b else .none, fun _ _ => .none, E.h, fun b n => bif Nat.blt b m then E.q b n else .none⟩
theorem Env.cut_q {E : Env F} {m b : Nat} (h : Nat.blt b m = true) (n : Nat) : (E.cut m).q b n = E.q b n := by show (bif Nat.blt b m then E.q b n else .none) = _; rw [h]; rfl
theorem cutq_some {E : Env F} {m b n : Nat} {v : Value} (h : (E.cut m).q b n = some v) : Nat.blt b m = true /\ E.q b n = some v := by
 have h : (bif Nat.blt b m then E.q b n else .none) = some v := h
 cases hb : Nat.blt b m with
 | false => rw [hb] at h; cases h
 | true => rw [hb] at h; exact ⟨rfl, h⟩
theorem Env.cut_m {E : Env F} {m b : Nat} (h : Nat.blt b m = true) : (E.cut m).m b = E.m b := by show (bif Nat.blt b m then E.m b else .none) = _; rw [h]; rfl
theorem cut_some {E : Env F} {m b k : Nat} (h : (E.cut m).m b = some k) : Nat.blt b m = true /\ E.m b = some k := by
 have h : (bif Nat.blt b m then E.m b else .none) = some k := h
 cases hb : Nat.blt b m with
 | false => rw [hb] at h; cases h
 | true => rw [hb] at h; exact ⟨rfl, h⟩
theorem AC.low_R {E : Env F} {m : Nat} {c : AC F} {v : Value} (hf : c.low m = true) (H : c.R E v) : c.R (E.cut m) v := by
 cases c <;> simp only [AC.low] at hf <;> try (cases hf; done)
 case ptr b o => obtain ⟨k, h1, h2⟩ := H; exact ⟨k, by rw [Env.cut_m hf]; exact h1, h2⟩
 case slc b o l cap => obtain ⟨k, h1, h2⟩ := H; exact ⟨k, by rw [Env.cut_m hf]; exact h1, h2⟩
 case tip s n f => exact ⟨H.1, by rw [Env.cut_q hf]; exact H.2⟩
 case wsl b v0 sz off len cap => obtain ⟨k, c, c', h1, h2⟩ := H; exact ⟨k, c, c', by rw [Env.cut_q hf]; exact h1, h2⟩
 case mpv b => obtain ⟨k, h1, h2⟩ := H; exact ⟨k, by rw [Env.cut_q hf]; exact h1, h2⟩
 case wel b v0 sz e o => obtain ⟨k, c, h1, h2⟩ := H; exact ⟨k, c, by rw [Env.cut_q hf]; exact h1, h2⟩
 case fnc f caps =>
   obtain ⟨us, h1, h2⟩ := H
   exact ⟨us, h1, all2_all (fun p u hp ⟨k, g1, g2⟩ => ⟨k, by rw [Env.cut_m hp]; exact g1, g2⟩) hf h2⟩
 all_goals exact H
theorem AW.low_R {E : Env F} {m : Nat} {c : AW F} {v : Value} (hf : c.low m = true) (H : c.R E v) : c.R (E.cut m) v := by
 cases c with
 | one c => exact AC.low_R hf H
 | agg cs => obtain ⟨vs, rfl, h2⟩ := H; exact ⟨vs, rfl, all2_all (fun _ _ => AC.low_R) hf h2⟩
theorem AV.low_R {E : Env F} {m : Nat} {c : AV F} {v : Value} (hf : c.low m = true) (H : c.R E v) : c.R (E.cut m) v := by
 cases c with
 | w x => exact AW.low_R hf H
 | tup l => obtain ⟨vs, rfl, h2⟩ := H; exact ⟨vs, rfl, all2_all (fun _ _ => AW.low_R) hf h2⟩
theorem own_cut {E : Env F} {m b k : Nat} (h : (E.cut m).own b k) : E.own b k := by
 rcases h with h | ⟨n, v, h1, h2⟩
 · exact .inl (cut_some h).2
 · exact .inr ⟨n, v, (cutq_some h1).2, h2⟩
theorem Dirt.cut {E : Env F} {m : Nat} {hp hp' : List (Nat × Blk F)} (h : ∀ b blk, look b hp' = some blk -> look b hp = some blk) {k o : Nat} (H : Dirt (E.cut m) hp' k o) : Dirt E hp k o := by
 rcases H with ⟨b, hb⟩ | ⟨b, blk, n, sz, v, h1, h2, h3, h4⟩
 · exact .inl ⟨b, (cut_some hb).2⟩
 · exact .inr ⟨b, blk, n, sz, v, h b blk h1, h2, (cutq_some h3).2, h4⟩
theorem Mem.cut {I : Interp F} {w0 : Start} {w : World} {E : Env F} {hp hp' : List (Nat × Blk F)} (H : Mem I w0 E hp w) (m : Nat) (h : ∀ b blk, look b hp' = some blk -> look b hp = some blk /\ Nat.blt b m = true /\ blk.cs.all (AC.low m) = true) : Mem I w0 (E.cut m) hp' w where
 hp := fun b blk hb ht => by
   obtain ⟨h1, h2, h3⟩ := h b blk hb
   obtain ⟨k, vs, g1, g2, g3⟩ := H.hp b blk h1 ht
   exact ⟨k, vs, by rw [Env.cut_m h2]; exact g1, g2, all2_all (fun _ _ => AC.low_R) h3 g3⟩
 tok := fun b blk n sz hb ht => by
   obtain ⟨h1, h2, _⟩ := h b blk hb
   exact (H.tok b blk n sz h1 ht).keep (fun i => Env.cut_q h2 i) fun _ _ => rfl
 exc := fun b k h n => by
   obtain ⟨h1, h2⟩ := cut_some h
   rw [Env.cut_q h1]; exact H.exc b k h2 n
 inj := fun b b' k h1 h2 => H.inj b b' k (own_cut h1) (own_cut h2)
 loc := fun b k h => H.loc b k (own_cut h)
 ext := fun k j f arr h => by cases h
 kept := H.kept
 new := fun b k h => H.new b k (own_cut h)
 low := fun b k h => H.low b k (own_cut h)
 bsz := H.bsz
 fv := fun f v hv => I.hv_mono f _ _ w w v (H.fv f v hv) (fun _ _ _ => Or.imp id (Dirt.cut fun b blk hb => (h b blk hb).1)) fun _ _ => .inl rfl
 apt := fun b n v k o h1 => H.apt b n v k o (cutq_some h1).2
theorem Env.cut_free (E : Env F) (m : Nat) : Free m (E.cut m) := fun b hb => by
 have hx : Nat.blt b m = false := by
   cases h : Nat.blt b m with
   | false => rfl
   | true => rw [Nat.blt_eq] at h; omega
 exact ⟨by show (bif Nat.blt b m then E.m b else .none) = .none; rw [hx]; rfl, fun _ => rfl, fun n => by show (bif Nat.blt b m then E.q b n else .none) = .none; rw [hx]; rfl⟩

inductive Nxt (σ F : Type) where
 | go (s : σ)
 | out (ex : Ex) (outs : List (Nat × AV F)) (wb : List (Blk F))
 | bad
def Nxt.isBad {σ : Type} : Nxt σ F -> Bool | .bad => true | _ => false
def numb {α : Type} : Nat -> List α -> List (Nat × α)
 | _, [] => []
 | i, x :: l => (i, x) :: numb (i + 1) l
structure LpSt (σ F : Type) where
 ps : List Nat
 tm : σ -> List (Nat × AV F)
 hp : σ -> List (Blk F)
def pT (p : Nat) : Nat := p % 65536
def pV (p i : Nat) : AV F := match p / 65536 with
 | 0 => .w (.one (.ptr i 0))
 | f + 1 => bif Nat.blt f 4294967296 then .w (.one (.fnc f [(i, 0)])) else .w (.one (.slc i 0 (f - 4294967296) (f - 4294967296)))
def pU (p k : Nat) : Value := match p / 65536 with
 | 0 => .pointer (some ⟨k, 0, none⟩)
 | f + 1 => bif Nat.blt f 4294967296 then .func (.func f) #[] #[.pointer (some ⟨k, 0, none⟩)] else .slice (some ⟨k, 0, none⟩) (f - 4294967296) (f - 4294967296)
theorem pV_R {E : Env F} {p b : Nat} {u : Value} : (pV p b : AV F).R E u ↔ ∃ k, E.m b = some k /\ u = pU p k := by
 unfold pV pU
 cases p / 65536 with
 | zero => exact Iff.rfl
 | succ f =>
   simp only
   cases Nat.blt f 4294967296 with
   | false => exact Iff.rfl
   | true =>
     simp only [cond_true]
     constructor
     · rintro ⟨us, rfl, h⟩
       cases h with
       | cons r h =>
         cases h
         obtain ⟨k, h1, rfl⟩ := r
         exact ⟨k, h1, rfl⟩
     · rintro ⟨k, h1, rfl⟩
       exact ⟨[.pointer (some ⟨k, 0, none⟩)], rfl, .cons ⟨k, h1, rfl⟩ .nil⟩
theorem pV_inj {p b c : Nat} (h : (pV p b : AV F) = pV p c) : b = c := by
 unfold pV at h
 cases hq : p / 65536 with
 | zero => rw [hq] at h; simpa using h
 | succ f =>
   rw [hq] at h
   simp only at h
   cases hb : Nat.blt f 4294967296 with
   | false => rw [hb] at h; simpa using h
   | true => rw [hb] at h; simpa using h
theorem pV_low {p b m : Nat} (h : Nat.blt b m = true) : (pV p b : AV F).low m = true := by
 unfold pV
 cases p / 65536 with
 | zero => exact h
 | succ f =>
   simp only
   cases Nat.blt f 4294967296 with
   | false => exact h
   | true => simp [AV.low, AW.low, AC.low, h]
def ptrN : Nat -> List Nat -> List (Nat × AV F)
 | _, [] => []
 | i, p :: r => (pT p, pV p i) :: ptrN (i + 1) r
theorem ptrN_mem : ∀ {ps : List Nat} {i : Nat} {e : Nat × AV F}, e ∈ (ptrN i ps : List (Nat × AV F)) -> ∃ j p : Nat, ps[j]? = some p /\ e = (pT p, pV p (i + j))
 | [], i, e, h => by cases h
 | p :: ps, i, e, h => by
   rcases List.mem_cons.1 h with rfl | h
   · exact ⟨0, p, rfl, rfl⟩
   · obtain ⟨j, p', h1, h2⟩ := ptrN_mem h
     exact ⟨j + 1, p', by simpa using h1, by rw [h2, show i + 1 + j = i + (j + 1) by omega]⟩
theorem ptrN_low {ps : List Nat} {m : Nat} (h : ps.length <= m) {e : Nat × AV F} (he : e ∈ (ptrN 0 ps : List (Nat × AV F))) : e.2.low m = true := by
 obtain ⟨j, p, h1, rfl⟩ := ptrN_mem he
 refine pV_low ?_
 rw [Nat.blt_eq]
 have := (List.getElem?_eq_some_iff.1 h1).1
 omega
def Ex.leaves : Ex -> Bool | .normal => false | _ => true
def Gives {σ : Type} (S : LpSt σ F) (m : Nat) (r : ResC F) : Nxt σ F -> Prop
 | .go s' => r.ex = .normal /\ (∀ e ∈ S.tm s' ++ ptrN 0 S.ps, look e.1 r.tm = some e.2) /\ (∀ e ∈ S.tm s', e.2.low m = true) /\ (S.hp s').length <= m /\ ∀ e ∈ numb 0 (S.hp s'), look e.1 r.hp = some e.2 /\ e.2.cs.all (AC.low m) = true
 | .out ex outs wb => r.ex = ex /\ ex.leaves = true /\ (∀ e ∈ outs ++ ptrN 0 S.ps, look e.1 r.tm = some e.2) /\ wb.length = m /\ ∀ e ∈ numb 0 wb, look e.1 r.hp = some e.2 /\ e.2.cs.all AC.flat = true
 | .bad => False
def runs {σ : Type} (step : σ -> Nxt σ F) : Nat -> σ -> Option (Ex × List (Nat × AV F) × List (Blk F))
 | 0, _ => none
 | n + 1, s => match step s with
   | .go s' => runs step n s'
   | .out ex outs wb => some (ex, outs, wb)
   | .bad => none
theorem numb_keys {α : Type} : ∀ {l : List α} {i : Nat} {e : Nat × α}, e ∈ numb i l -> i <= e.1 /\ e.1 < i + l.length
 | [], i, e, h => by cases h
 | x :: l, i, e, h => by
   rcases List.mem_cons.1 h with rfl | h
   · simp
   · have := numb_keys h
     simp only [List.length_cons]; omega
theorem rounds_ok {P : Program} {I : Interp F} {c : Ctx F} (hC : CtxOk P I c) (hmix : P.follows .mixedOrders = true) {nt : Nat} {pos : List Bool} {code0 x : Code} (hat : codeAt code0 pos = some (.loop x)) (hL : LpsOk P I c.lps nt code0) {w0 : Start}
   {σ : Type} {S : LpSt σ F} {step : σ -> Nxt σ F} {m : Nat} {W : List Nat} (hW : ∀ i, memN i W = false -> memN i (touch c.lps nt x (false :: pos)) = false)
   (hrd : ∀ s, (step s).isBad = false -> ∀ rest, ∃ fuel path r, evC c fuel nt (false :: pos) x (S.tm s ++ (ptrN 0 S.ps ++ rest)) (numb 0 (S.hp s)) m path = some r /\ (∀ p ∈ r.cd, p.1 = p.2) /\ Gives S m r (step s))
   (hK : ∀ s e, e ∈ S.tm s -> memN e.1 W = true) (hP : ∀ p ∈ S.ps, memN (pT p) W = true) (hm : S.ps.length <= m) {rest : List (Nat × AV F)} (hr : ∀ e ∈ rest, memN e.1 W = false /\ e.2.flat = true) :
   ∀ (n : Nat) (s : σ) (ex : Ex) (outs : List (Nat × AV F)) (wb : List (Blk F)), runs step n s = some (ex, outs, wb) -> ∀ (E : Env F) (a : Act) (w : World) (Q : Exit -> Act -> World -> Prop),
     Tms ds E nt (S.tm s ++ (ptrN 0 S.ps ++ rest)) a -> Mem I w0 E (numb 0 (S.hp s)) w -> Free m E ->
     (∀ E' a' w', (∀ f v, E.h f v -> E'.h f v) -> (∀ b k, Nat.blt b m = true -> E.m b = some k -> E'.m b = some k) -> (∀ b n v, Nat.blt b m = true -> E.q b n = some v -> E'.q b n = some v) -> Tms ds E' nt (outs ++ (ptrN 0 S.ps ++ rest)) a' -> Mem I w0 E' (numb 0 wb) w' -> Q ex.to a' w') -> Code.roundsIn (Fr ro) 0 P x Q n a w
 | 0, s, ex, outs, wb, h, E, a, w, Q, ht, hmm, hf, hQ => by cases h
 | n + 1, s, ex, outs, wb, h, E, a, w, Q, ht, hmm, hf, hQ => by
   have hPk : ∀ i, memN i W = false -> look i (ptrN 0 S.ps : List (Nat × AV F)) = none := fun i hi => look_none fun e he e' => by
     obtain ⟨j, p, h1, rfl⟩ := ptrN_mem he
     have := hP p (List.mem_of_getElem? h1)
     simp only at e'
     rw [e', hi] at this; cases this
   have hat' : codeAt code0 (false :: pos) = some x := by simp [codeAt, hat]
   rw [roundsIn_succ]
   cases hst : step s with
   | bad => simp only [runs, hst] at h; cases h
   | go s' =>
     simp only [runs, hst] at h
     obtain ⟨fuel, path, r, h1, h2, h3⟩ := hrd s (by rw [hst]; rfl) rest
     rw [hst] at h3
     obtain ⟨g1, g2, g2l, g3, g4⟩ := h3
     refine (evC_sound hC hmix fuel ro ds nt (false :: pos) code0 x hat' hL _ _ m path r h1 h2).1 E a w _ ht hmm hf fun E' a' w' q1 q2 q3 q4 => ?_
     rw [g1]
     have hnew : Tms ds (E'.cut m) nt (S.tm s' ++ (ptrN 0 S.ps ++ rest)) a' := by
       refine ⟨fun i v hv => ?_, q1.sz, q1.df⟩
       rw [look_append] at hv
       split at hv
       · rename_i y hy
         cases hv
         obtain ⟨u, u1, u2⟩ := q1.tm i _ (g2 _ (List.mem_append_left _ (look_mem hy)))
         exact ⟨u, u1, AV.low_R (g2l _ (look_mem hy)) u2⟩
       rw [look_append] at hv
       split at hv
       · rename_i y hy
         cases hv
         obtain ⟨u, u1, u2⟩ := q1.tm i _ (g2 _ (List.mem_append_right _ (look_mem hy)))
         exact ⟨u, u1, AV.low_R (ptrN_low hm (look_mem hy)) u2⟩
       · have hi := hr _ (look_mem hv)
         have hgrow := evC_grow (P := P) (I := I) (i := i) fuel nt (false :: pos) code0 x hat' hL _ _ m path r h1 (hW i hi.1)
         have hnone : look i (S.tm s) = none := look_none fun e he e' => by have := hK s e he; rw [e', hi.1] at this; cases this
         rw [look_append, hnone] at hgrow
         simp only at hgrow
         rw [look_append, hPk i hi.1] at hgrow
         simp only at hgrow
         obtain ⟨u, u1, u2⟩ := q1.tm i v (by rw [hgrow]; exact hv)
         exact ⟨u, u1, AV.flat_R (E := E') (E' := E'.cut m) (fun _ _ h => h) hi.2 u2⟩
     have hmem : Mem I w0 (E'.cut m) (numb 0 (S.hp s')) w' := q2.cut m fun b blk hb => by
       have hin := look_mem hb
       obtain ⟨z1, z2⟩ := g4 _ hin
       have := (numb_keys hin).2
       exact ⟨z1, by rw [Nat.blt_eq]; simp only at this; omega, z2⟩
     exact rounds_ok hC hmix hat hL hW hrd hK hP hm hr n s' ex outs wb h (E'.cut m) a' w' Q hnew hmem (E'.cut_free m) fun E'' a'' w'' s1 s2 s2q s3 s4 =>
       hQ E'' a'' w'' (fun f v hh => s1 f v (q4.h f v hh)) (fun b k hb hk => s2 b k hb (by rw [Env.cut_m hb]; exact q4.m b k hk)) (fun b i v hb hk => s2q b i v hb (by rw [Env.cut_q hb]; exact q4.q b i v hk)) s3 s4
   | out ex' outs' wb' =>
     simp only [runs, hst] at h
     cases h
     obtain ⟨fuel, path, r, h1, h2, h3⟩ := hrd s (by rw [hst]; rfl) rest
     rw [hst] at h3
     obtain ⟨g1, gx, g2, g3, g4⟩ := h3
     refine (evC_sound hC hmix fuel ro ds nt (false :: pos) code0 x hat' hL _ _ m path r h1 h2).1 E a w _ ht hmm hf fun E' a' w' q1 q2 q3 q4 => ?_
     have hnew : Tms ds E' nt (outs ++ (ptrN 0 S.ps ++ rest)) a' := by
       refine ⟨fun i v hv => ?_, q1.sz, q1.df⟩
       rw [look_append] at hv
       split at hv
       · rename_i y hy
         cases hv
         exact q1.tm i _ (g2 _ (List.mem_append_left _ (look_mem hy)))
       rw [look_append] at hv
       split at hv
       · rename_i y hy
         cases hv
         exact q1.tm i _ (g2 _ (List.mem_append_right _ (look_mem hy)))
       · have hi := hr _ (look_mem hv)
         have hgrow := evC_grow (P := P) (I := I) (i := i) fuel nt (false :: pos) code0 x hat' hL _ _ m path r h1 (hW i hi.1)
         have hnone : look i (S.tm s) = none := look_none fun e he e' => by have := hK s e he; rw [e', hi.1] at this; cases this
         rw [look_append, hnone] at hgrow
         simp only at hgrow
         rw [look_append, hPk i hi.1] at hgrow
         simp only at hgrow
         exact q1.tm i v (by rw [hgrow]; exact hv)
     have hsub : ∀ b blk, look b (numb 0 wb) = some blk -> look b r.hp = some blk := fun b blk hb => (g4 _ (look_mem hb)).1
     have hmem : Mem I w0 E' (numb 0 wb) w' := ⟨fun b blk hb => q2.hp b blk (hsub b blk hb), fun b blk n sz hb => q2.tok b blk n sz (hsub b blk hb), q2.exc, q2.inj, q2.loc, q2.ext, q2.kept, q2.new, q2.low, q2.bsz,
       fun f v hv => I.hv_mono f _ _ w' w' v (q2.fv f v hv) (fun _ _ _ => Or.imp id fun hd => hd.imp id fun ⟨b, blk, n, sz, u, h1, h2⟩ => ⟨b, blk, n, sz, u, hsub b blk h1, h2⟩) (fun _ _ => .inl rfl), q2.apt⟩
     have := hQ E' a' w' q4.h (fun b k _ hk => q4.m b k hk) (fun b i v _ hk => q4.q b i v hk) hnew hmem
     rw [g1]
     cases ex with
     | normal => cases gx
     | exit id => exact this
     | ret => exact this


def AW.untip : AW F -> AW F
 | .one (.tip _ _ f) => .one (.fv f)
 | .agg cs => .agg (cs.map untipC)
 | x => x
def AV.untip : AV F -> AV F
 | .w x => .w x.untip
 | .tup l => .tup (l.map AW.untip)
theorem AW.untip_R {E : Env F} {x : AW F} {u : Value} (h : x.R E u) : x.untip.R E u := by
 unfold AW.untip
 split
 · exact (h : _ /\ _).1
 · obtain ⟨vs, rfl, h2⟩ := h
   exact ⟨vs, rfl, untipCs_R h2⟩
 · exact h
theorem AWs.untip_R {E : Env F} {l : List (AW F)} {us : List Value} (h : All2 (AW.R E) l us) : All2 (AW.R E) (l.map AW.untip) us := by
 induction h with
 | nil => exact .nil
 | cons r _ ih => exact .cons (AW.untip_R r) ih
theorem AV.untip_R {E : Env F} {x : AV F} {u : Value} (h : x.R E u) : x.untip.R E u := by
 cases x with
 | w x => exact AW.untip_R h
 | tup l =>
   obtain ⟨vs, rfl, h2⟩ := h
   exact ⟨vs, rfl, AWs.untip_R h2⟩
structure LpDef (σ F : Type) where
 ts : List Nat
 ps : List Nat
 W : List Nat
 dec : List (AV F) -> List (Blk F) -> Option σ
 spec : σ -> Option (Ex × List (Nat × AV F) × List (Blk F) × List (Bool × Bool))
def vals (tm : List (Nat × AV F)) : List Nat -> Option (List (AV F))
 | [] => some []
 | t :: r => match look t tm with
   | some v => bif v.untip.flat then (match vals tm r with
     | some l => some (v.untip :: l)
     | none => none) else none
   | none => none
def pB (p : Nat) (x : AV F) : Option Nat := match p / 65536, x with
 | 0, .w (.one (.ptr b 0)) => some b
 | f + 1, .w (.one (.fnc g [(b, 0)])) => bif Nat.beq f g && Nat.blt f 4294967296 then some b else none
 | f + 1, .w (.one (.slc b 0 n m)) => bif Nat.beq f (4294967296 + n) && Nat.beq n m then some b else none
 | _, _ => none
theorem pB_eq {p : Nat} {x : AV F} {b : Nat} (h : pB p x = some b) : x = pV p b := by
 unfold pB at h
 unfold pV
 split at h
 · rename_i hq; rw [hq]; cases h; rfl
 · rename_i f g b' hq
   rw [hq]
   cases hb : Nat.beq f g && Nat.blt f 4294967296 with
   | false => rw [hb] at h; cases h
   | true =>
     rw [hb] at h; cases h
     simp only [Bool.and_eq_true] at hb
     simp only
     rw [hb.2, Nat.eq_of_beq_eq_true hb.1]; rfl
 · rename_i f b' n m hq
   rw [hq]
   cases hb : Nat.beq f (4294967296 + n) && Nat.beq n m with
   | false => rw [hb] at h; cases h
   | true =>
     rw [hb] at h; cases h
     simp only [Bool.and_eq_true] at hb
     have e1 := Nat.eq_of_beq_eq_true hb.1
     have e2 := Nat.eq_of_beq_eq_true hb.2
     subst e2
     subst e1
     have e3 : Nat.blt (4294967296 + n) 4294967296 = false := by
       cases hq : Nat.blt (4294967296 + n) 4294967296 with
       | false => rfl
       | true => rw [Nat.blt_eq] at hq; omega
     simp only
     rw [e3, Nat.add_sub_cancel_left]; rfl
 · cases h
def ptrs (tm : List (Nat × AV F)) : List Nat -> Option (List Nat)
 | [] => some []
 | t :: r => match look (pT t) tm with
   | some x => match pB t x with
     | some b => match ptrs tm r with
       | some l => some (b :: l)
       | none => none
     | none => none
   | none => none
def apart : List Nat -> Bool
 | [] => true
 | b :: r => !memN b r && apart r
def ptrT : List Nat -> List Nat -> List (Nat × AV F)
 | p :: ps, b :: bs => (pT p, pV p b) :: ptrT ps bs
 | _, _ => []
def okB (safe : TypeId -> Bool) : List (Blk F) -> List (Blk F) -> Bool
 | x :: l, y :: k => Nat.beq x.ty y.ty && safe y.ty && x.cs.all AC.flat && y.cs.all AC.flat && okB safe l k
 | [], [] => true
 | _, _ => false
def LpDef.sp {σ : Type} (d : LpDef σ F) (safe : TypeId -> Bool) : LpSp F where
 W := d.W
 fk := fun _ _ => none
 run := fun tm hp _ => match vals tm d.ts with
   | none => none
   | some vs => match ptrs tm d.ps with
     | none => none
     | some bs => bif apart bs then (match looks hp bs with
       | none => none
       | some ks => match d.dec vs ks with
         | none => none
         | some s => match d.spec s with
           | none => none
           | some (ex, outs, wb, cd) => bif okB safe ks wb && outs.all (fun e => memN e.1 d.W && e.2.flat) then some (ex, outs ++ ptrT d.ps bs, bs.zip wb, cd) else none) else none
theorem vals_look : ∀ {ts : List Nat} {tm : List (Nat × AV F)} {vs : List (AV F)}, vals tm ts = some vs -> ∀ e ∈ ts.zip vs, ∃ y, look e.1 tm = some y /\ y.untip = e.2 /\ e.2.flat = true
 | [], tm, vs, h, e, he => by simp at he
 | t :: ts, tm, vs, h, e, he => by
   simp only [vals] at h
   split at h
   · rename_i v hv
     cases hf : v.untip.flat with
     | false => rw [hf] at h; cases h
     | true =>
       rw [hf] at h; simp only [cond_true] at h
       split at h
       · rename_i l hl
         cases h
         rw [List.zip_cons_cons] at he
         rcases List.mem_cons.1 he with rfl | he
         · exact ⟨v, hv, rfl, hf⟩
         · exact vals_look hl e he
       · cases h
   · cases h
theorem ptrs_look : ∀ {ps : List Nat} {tm : List (Nat × AV F)} {bs : List Nat}, ptrs tm ps = some bs -> ps.length = bs.length /\ ∀ (j p : Nat), ps[j]? = some p -> ∃ b, bs[j]? = some b /\ look (pT p) tm = some (pV p b)
 | [], tm, bs, h => by cases h; exact ⟨rfl, fun j p h => by simp at h⟩
 | t :: ps, tm, bs, h => by
   simp only [ptrs] at h
   split at h
   · rename_i x hx
     split at h
     · rename_i b hb
       split at h
       · rename_i l hl
         cases h
         obtain ⟨h1, h2⟩ := ptrs_look hl
         refine ⟨by simp [h1], fun j p hj => ?_⟩
         cases j with
         | zero => simp at hj; subst hj; exact ⟨b, by simp, by rw [hx, pB_eq hb]⟩
         | succ j => simpa using h2 j p (by simpa using hj)
       · cases h
     · cases h
   · cases h
theorem pV_inj2 {p p' b b' : Nat} (h : pT p = pT p') (e : (pV p b : AV F) = pV p' b') : p = p' /\ b = b' := by
 unfold pT at h
 have hd : p / 65536 = p' / 65536 := by
   unfold pV at e
   cases hq : p / 65536 with
   | zero => cases hq' : p' / 65536 with
     | zero => rfl
     | succ f' =>
       rw [hq, hq'] at e
       simp only at e
       cases hb : Nat.blt f' 4294967296 <;> rw [hb] at e <;> simp at e
   | succ f => cases hq' : p' / 65536 with
     | zero =>
       rw [hq, hq'] at e
       simp only at e
       cases hb : Nat.blt f 4294967296 <;> rw [hb] at e <;> simp at e
     | succ f' =>
       rw [hq, hq'] at e
       simp only at e
       cases hb : Nat.blt f 4294967296 with
       | true => cases hb' : Nat.blt f' 4294967296 with
         | true => rw [hb, hb'] at e; simp at e; rw [e.1]
         | false => rw [hb, hb'] at e; simp at e
       | false => cases hb' : Nat.blt f' 4294967296 with
         | true => rw [hb, hb'] at e; simp at e
         | false =>
           rw [hb, hb'] at e; simp at e
           have h1 : ¬ f < 4294967296 := fun h => by rw [<- Nat.blt_eq, hb] at h; cases h
           have h2 : ¬ f' < 4294967296 := fun h => by rw [<- Nat.blt_eq, hb'] at h; cases h
           omega
 have : p = p' := by omega
 subst this
 exact ⟨rfl, pV_inj e⟩
theorem ptrT_mem : ∀ {ps bs : List Nat} {e : Nat × AV F}, e ∈ (ptrT ps bs : List (Nat × AV F)) -> ∃ j p b : Nat, ps[j]? = some p /\ bs[j]? = some b /\ e = (pT p, pV p b)
 | [], bs, e, h => by cases bs <;> cases h
 | p :: ps, [], e, h => by cases h
 | p :: ps, b :: bs, e, h => by
   rcases List.mem_cons.1 h with rfl | h
   · exact ⟨0, p, b, rfl, rfl, rfl⟩
   · obtain ⟨j, p', b', h1, h2, h3⟩ := ptrT_mem h
     exact ⟨j + 1, p', b', by simpa using h1, by simpa using h2, h3⟩
theorem apart_inj : ∀ {bs : List Nat}, apart bs = true -> ∀ (i j b : Nat), bs[i]? = some b -> bs[j]? = some b -> i = j
 | [], _, i, j, b, h, _ => by simp at h
 | c :: bs, h, i, j, b, hi, hj => by
   simp only [apart, Bool.and_eq_true, Bool.not_eq_true'] at h
   have hc : c ∉ bs := fun hm => by rw [memN_iff.2 hm] at h; cases h.1
   cases i with
   | zero =>
     cases j with
     | zero => rfl
     | succ j => simp at hi hj; subst hi; exact absurd (List.mem_of_getElem? hj) hc
   | succ i =>
     cases j with
     | zero => simp at hi hj; subst hj; exact absurd (List.mem_of_getElem? hi) hc
     | succ j => rw [apart_inj h.2 i j b (by simpa using hi) (by simpa using hj)]
theorem looks_get {α : Type} {hp : List (Nat × α)} : ∀ {bs : List Nat} {ks : List α}, looks hp bs = some ks -> bs.length = ks.length /\ ∀ (j b : Nat), bs[j]? = some b -> ∃ k, ks[j]? = some k /\ look b hp = some k
 | [], ks, h => by cases h; exact ⟨rfl, fun j b h => by simp at h⟩
 | b :: bs, ks, h => by
   simp only [looks] at h
   split at h
   · rename_i x hx
     split at h
     · rename_i l hl
       cases h
       obtain ⟨h1, h2⟩ := looks_get hl
       refine ⟨by simp [h1], fun j c hj => ?_⟩
       cases j with
       | zero => simp at hj; subst hj; exact ⟨x, by simp, hx⟩
       | succ j => simpa using h2 j c (by simpa using hj)
     · cases h
   · cases h
theorem numb_get {α : Type} : ∀ {l : List α} {i j : Nat}, look j (numb i l) = if i <= j then l[j - i]? else none
 | [], i, j => by simp [numb, look]
 | x :: l, i, j => by
   show look j ((i, x) :: numb (i + 1) l) = _
   rw [look_cons]
   by_cases e : i = j
   · subst e; simp
   · rw [if_neg e, numb_get]
     by_cases h : i <= j
     · rw [if_pos h, if_pos (by omega), show j - i = (j - (i + 1)) + 1 by omega]; simp
     · rw [if_neg h, if_neg (by omega)]
theorem numb0_get {α : Type} {l : List α} {j : Nat} : look j (numb 0 l) = l[j]? := by rw [numb_get]; simp
theorem zip_look {α : Type} : ∀ {bs : List Nat} {ks : List α} {b : Nat} {x : α}, look b (bs.zip ks) = some x -> ∃ j : Nat, bs[j]? = some b /\ ks[j]? = some x
 | [], ks, b, x, h => by simp [look] at h
 | c :: bs, [], b, x, h => by simp [look] at h
 | c :: bs, k :: ks, b, x, h => by
   rw [List.zip_cons_cons, look_cons] at h
   by_cases e : c = b
   · rw [if_pos e] at h; cases h; exact ⟨0, by simp [e], by simp⟩
   · rw [if_neg e] at h
     obtain ⟨j, h1, h2⟩ := zip_look h
     exact ⟨j + 1, by simpa using h1, by simpa using h2⟩
theorem zip_none {α : Type} : ∀ {bs : List Nat} {ks : List α} {b : Nat}, bs.length = ks.length -> look b (bs.zip ks) = none -> b ∉ bs
 | [], ks, b, _, _, h => by cases h
 | c :: bs, [], b, hl, _, _ => by cases hl
 | c :: bs, k :: ks, b, hl, h, hm => by
   rw [List.zip_cons_cons, look_cons] at h
   by_cases e : c = b
   · rw [if_pos e] at h; cases h
   · rw [if_neg e] at h
     rcases List.mem_cons.1 hm with rfl | hm
     · exact e rfl
     · exact zip_none (by simpa using hl) h hm
theorem okB_get {safe : TypeId -> Bool} : ∀ {l k : List (Blk F)}, okB safe l k = true -> l.length = k.length /\ ∀ (j : Nat) (x y : Blk F), l[j]? = some x -> k[j]? = some y -> x.ty = y.ty /\ safe y.ty = true /\ x.cs.all AC.flat = true /\ y.cs.all AC.flat = true
 | [], [], _ => ⟨rfl, fun j x y h => by simp at h⟩
 | [], _ :: _, h => by cases h
 | _ :: _, [], h => by cases h
 | a :: l, b :: k, h => by
   simp only [okB, Bool.and_eq_true] at h
   obtain ⟨g1, g2⟩ := okB_get h.2
   refine ⟨by simp [g1], fun j x y hx hy => ?_⟩
   cases j with
   | zero => simp at hx hy; subst hx; subst hy; exact ⟨Nat.eq_of_beq_eq_true h.1.1.1.1, h.1.1.1.2, h.1.1.2, h.1.2⟩
   | succ j => exact g2 j x y (by simpa using hx) (by simpa using hy)
def restT (W : List Nat) (a : Act) : Nat -> List (Nat × AV F)
 | 0 => []
 | n + 1 => bif memN n W then restT W a n else (n, .w (.one (.lit (a.tmps.getD n undef)))) :: restT W a n
theorem restT_mem {W : List Nat} {a : Act} : ∀ {n : Nat} {e : Nat × AV F}, e ∈ (restT W a n : List (Nat × AV F)) -> e.1 < n /\ memN e.1 W = false /\ e.2 = .w (.one (.lit (a.tmps.getD e.1 undef)))
 | 0, e, h => by cases h
 | n + 1, e, h => by
   unfold restT at h
   cases hm : memN n W with
   | true =>
     rw [hm] at h
     obtain ⟨h1, h2⟩ := restT_mem h
     exact ⟨by omega, h2⟩
   | false =>
     rw [hm] at h
     rcases List.mem_cons.1 h with rfl | h
     · exact ⟨by simp, hm, rfl⟩
     · obtain ⟨h1, h2⟩ := restT_mem h
       exact ⟨by omega, h2⟩
theorem restT_look {W : List Nat} {a : Act} {i : Nat} (hi : memN i W = false) : ∀ {n : Nat}, i < n -> look i (restT W a n : List (Nat × AV F)) = some (.w (.one (.lit (a.tmps.getD i undef))))
 | 0, h => by omega
 | n + 1, h => by
   unfold restT
   by_cases e : n = i
   · subst e
     rw [hi]
     show look n ((n, _) :: _) = _
     rw [look_cons, if_pos rfl]
   · have ih := restT_look (a := a) hi (n := n) (by omega)
     cases memN n W with
     | true => exact ih
     | false =>
       show look i ((n, _) :: _) = _
       rw [look_cons, if_neg e]; exact ih
theorem ptrN_none : ∀ {ps : List Nat} {i t : Nat}, look (pT t) (ptrN i ps : List (Nat × AV F)) = none -> t ∉ ps
 | [], i, t, _, h => by cases h
 | p :: ps, i, t, h, hm => by
   simp only [ptrN] at h
   rw [look_cons] at h
   by_cases e : pT p = pT t
   · rw [if_pos e] at h; cases h
   · rw [if_neg e] at h
     rcases List.mem_cons.1 hm with rfl | hm
     · exact e rfl
     · exact ptrN_none h hm
def Env.lp (E : Env F) (bs : List Nat) : Env F := ⟨fun i => match bs[i]? with | some b => E.m b | .none => .none, fun _ _ => .none, E.h, fun _ _ => .none⟩
theorem Env.lp_m {E : Env F} {bs : List Nat} {i b : Nat} (h : bs[i]? = some b) : (E.lp bs).m i = E.m b := by
 show (match bs[i]? with | some b => E.m b | .none => .none) = _
 rw [h]
theorem lp_some {E : Env F} {bs : List Nat} {i k : Nat} (h : (E.lp bs).m i = some k) : ∃ b, bs[i]? = some b /\ E.m b = some k := by
 have h : (match bs[i]? with | some b => E.m b | .none => .none) = some k := h
 split at h
 · rename_i b hb; exact ⟨b, hb, h⟩
 · cases h

theorem own_lp {E : Env F} {bs : List Nat} {i k : Nat} (h : (E.lp bs).own i k) : ∃ b, bs[i]? = some b /\ E.m b = some k := by
 rcases h with h | ⟨_, _, h, _⟩
 · exact lp_some h
 · cases h
theorem lp_ok {P : Program} {I : Interp F} {c : Ctx F} (hC : CtxOk P I c) (hmix : P.follows .mixedOrders = true) {nt : Nat} {pos : List Bool} {code0 x : Code} (hat : codeAt code0 pos = some (.loop x)) (hL : LpsOk P I c.lps nt code0)
   {σ : Type} {S : LpSt σ F} {step : σ -> Nxt σ F} {d : LpDef σ F} {safe : TypeId -> Bool} (hsafe : ∀ t, safe t = true -> I.safe t = true)
   (hW : (touch c.lps nt x (false :: pos)).all (fun i => memN i d.W) = true) (hps : (d.ps.map pT ++ d.ts).all (fun i => memN i d.W) = true)
   (hdec : ∀ vs ks s, vs.length = d.ts.length -> d.dec vs ks = some s -> ks.length = d.ps.length -> S.hp s = ks /\ ∀ e ∈ S.tm s, e ∈ d.ts.zip vs)
   (hSp : S.ps = d.ps)
   (hK : ∀ s e, e ∈ S.tm s -> memN e.1 d.W = true)
   (hrd : ∀ s, (step s).isBad = false -> ∀ rest, ∃ fuel path r, evC c fuel nt (false :: pos) x (S.tm s ++ (ptrN 0 S.ps ++ rest)) (numb 0 (S.hp s)) d.ps.length path = some r /\ (∀ p ∈ r.cd, p.1 = p.2) /\ Gives S d.ps.length r (step s))
   (hspec : ∀ s ex outs wb cd, d.spec s = some (ex, outs, wb, cd) -> (∀ p ∈ cd, p.1 = p.2) -> ∃ n, runs step n s = some (ex, outs, wb)) : LpOk P I nt x (d.sp safe) := by
 have inW : ∀ i, memN i d.W = false -> memN i (touch c.lps nt x (false :: pos)) = false := fun i hi => by
   cases h : memN i (touch c.lps nt x (false :: pos)) with
   | false => rfl
   | true => have := (List.all_eq_true.1 hW) i (memN_iff.1 h); rw [hi] at this; cases this
 have psW : ∀ i ∈ d.ps, memN (pT i) d.W = true := fun i hi => (List.all_eq_true.1 hps) (pT i) (List.mem_append_left _ (List.mem_map_of_mem hi))
 refine ⟨fun tm hp β ex outs wb cd hrun e he => ?_, fun tm hp β ex outs wb cd hrun _ hc ro ds E w0 a w Q ht hm hQ => ?_⟩
 · simp only [LpDef.sp] at hrun ⊢
   split at hrun
   · cases hrun
   split at hrun
   · cases hrun
   rename_i bs hbs
   cases hap : apart bs with
   | false => rw [hap] at hrun; cases hrun
   | true =>
     rw [hap] at hrun; simp only [cond_true] at hrun
     split at hrun
     · cases hrun
     split at hrun
     · cases hrun
     split at hrun
     · cases hrun
     rename_i ex' outs' wb' cd' hsp
     cases hok : okB safe _ wb' && outs'.all (fun e => memN e.1 d.W && e.2.flat) with
     | false => rw [hok] at hrun; cases hrun
     | true =>
       rw [hok] at hrun; simp only [cond_true] at hrun
       cases hrun
       simp only [Bool.and_eq_true] at hok
       rcases List.mem_append.1 he with he | he
       · have := (List.all_eq_true.1 hok.2) e he
         simp only [Bool.and_eq_true] at this
         exact this.1
       · obtain ⟨j, p, b, h1, _, rfl⟩ := ptrT_mem he
         exact psW p (List.mem_of_getElem? h1)
 · simp only [LpDef.sp] at hrun hQ
   split at hrun
   · cases hrun
   rename_i vs hvs
   split at hrun
   · cases hrun
   rename_i bs hbs
   cases hap : apart bs with
   | false => rw [hap] at hrun; cases hrun
   | true =>
   rw [hap] at hrun; simp only [cond_true] at hrun
   split at hrun
   · cases hrun
   rename_i ks hks
   split at hrun
   · cases hrun
   rename_i s hs
   split at hrun
   · cases hrun
   rename_i ex' outs' wb' cd' hsp
   cases hok : okB safe ks wb' && outs'.all (fun e => memN e.1 d.W && e.2.flat) with
   | false => rw [hok] at hrun; cases hrun
   | true =>
   rw [hok] at hrun; simp only [cond_true] at hrun
   cases hrun
   simp only [Bool.and_eq_true] at hok
   obtain ⟨ok1, ok2⟩ := okB_get hok.1
   have okW : ∀ (j : Nat) (y : Blk F), wb'[j]? = some y -> y.cs.all AC.flat = true := fun j y hy => by
     have hl : j < ks.length := by rw [ok1]; exact (List.getElem?_eq_some_iff.1 hy).1
     exact (ok2 j ks[j] y (List.getElem?_eq_getElem hl) hy).2.2.2
   have okF : ∀ e ∈ outs', e.2.flat = true := fun e he => by have := (List.all_eq_true.1 hok.2) e he; simp only [Bool.and_eq_true] at this; exact this.2
   obtain ⟨n, hn⟩ := hspec s ex outs' wb' cd hsp hc
   obtain ⟨pl1, pl2⟩ := ptrs_look hbs
   obtain ⟨kl1, kl2⟩ := looks_get hks
   have hvl : vs.length = d.ts.length := by
     have : ∀ {ts : List Nat} {vs : List (AV F)}, vals tm ts = some vs -> vs.length = ts.length := by
       intro ts
       induction ts with
       | nil => intro vs h; cases h; rfl
       | cons t ts ih =>
         intro vs h
         simp only [vals] at h
         split at h
         · rename_i v hv
           cases hf : v.untip.flat with
           | false => rw [hf] at h; cases h
           | true =>
             rw [hf] at h; simp only [cond_true] at h
             split at h
             · rename_i l hl; cases h; simp [ih hl]
             · cases h
         · cases h
     exact this hvs
   obtain ⟨hhp, htm⟩ := hdec vs ks s hvl hs (by rw [<- kl1, <- pl1])
   have hlen : ks.length = d.ps.length := by rw [<- kl1, <- pl1]
   have hT0 : Tms ds (E.lp bs) nt (S.tm s ++ (ptrN 0 S.ps ++ restT d.W a nt)) a := by
     refine ⟨fun i v hv => ?_, ht.sz, ht.df⟩
     rw [look_append] at hv
     split at hv
     · rename_i y hy
       cases hv
       obtain ⟨y, z1, z0, z2⟩ := vals_look hvs _ (htm _ (look_mem hy))
       obtain ⟨u, u1, u2⟩ := ht.tm i _ z1
       replace u2 := AV.untip_R u2
       rw [z0] at u2
       exact ⟨u, u1, AV.flat_R (E := E) (E' := E.lp bs) (fun _ _ h => h) z2 u2⟩
     rw [look_append] at hv
     split at hv
     · rename_i y hy
       cases hv
       obtain ⟨j, p, h1, h2⟩ := ptrN_mem (look_mem hy)
       rw [hSp] at h1
       obtain ⟨b, hb1, hb2⟩ := pl2 j p h1
       simp only [Prod.mk.injEq, Nat.zero_add] at h2
       obtain ⟨rfl, rfl⟩ := h2
       obtain ⟨u, u1, uR⟩ := ht.tm _ _ hb2
       obtain ⟨k, u2, u3⟩ := pV_R.1 uR
       exact ⟨u, u1, pV_R.2 ⟨k, by rw [Env.lp_m hb1]; exact u2, u3⟩⟩
     · obtain ⟨h1, h2, h3⟩ := restT_mem (look_mem hv)
       simp only at h1 h2 h3
       subst h3
       have hlt : i < a.tmps.size := by rw [ht.sz]; exact h1
       refine ⟨a.tmps.getD i undef, ?_, rfl⟩
       rw [Array.getD_eq_getD_getElem?, Array.getElem?_eq_getElem hlt]; rfl
   have hPk : ∀ i, memN i d.W = false -> look i (ptrN 0 S.ps : List (Nat × AV F)) = none := fun i hi => look_none fun e he e' => by
     obtain ⟨j, p, h1, rfl⟩ := ptrN_mem he
     have := psW p (hSp ▸ List.mem_of_getElem? h1)
     simp only at e'
     rw [e', hi] at this; cases this
   have hbm : ∀ (j b : Nat), bs[j]? = some b -> ∃ k, E.m b = some k := fun j b hj => by
     have hjl : j < d.ps.length := by rw [pl1]; exact (List.getElem?_eq_some_iff.1 hj).1
     obtain ⟨b', z1, z2⟩ := pl2 j d.ps[j] (List.getElem?_eq_getElem hjl)
     rw [hj] at z1; cases z1
     obtain ⟨u, _, uR⟩ := ht.tm _ _ z2
     obtain ⟨k, u2, _⟩ := pV_R.1 uR
     exact ⟨k, u2⟩
   have plainB : ∀ (j b : Nat) (x : Blk F), bs[j]? = some b -> look b hp = some x -> x.tok = none := fun j b x hj hx => by
     obtain ⟨k, hk⟩ := hbm j b hj
     exact hm.plain hx hk
   have hM0 : Mem I ⟨w, (E.lp bs).ran, Dt w0 E hp⟩ (E.lp bs) (numb 0 (S.hp s)) w := by
     have getB : ∀ b blk, look b (numb 0 (S.hp s)) = some blk -> ∃ b', bs[b]? = some b' /\ look b' hp = some blk := fun b blk hb => by
       rw [hhp, numb0_get] at hb
       have hbl : b < bs.length := by rw [kl1]; exact (List.getElem?_eq_some_iff.1 hb).1
       obtain ⟨k', g1, g2⟩ := kl2 b bs[b] (List.getElem?_eq_getElem hbl)
       rw [hb] at g1; cases g1
       exact ⟨bs[b], List.getElem?_eq_getElem hbl, g2⟩
     refine ⟨fun b blk hb _ => ?_, fun b blk n sz hb ht => ?_, fun _ _ _ _ => rfl, fun i j k h1 h2 => ?_, fun i k h => ?_, fun k j f arr h => by (cases h), ⟨rfl, rfl, rfl, Nat.le_refl _, fun _ _ _ => rfl⟩, fun i k h => .inl ⟨i, h⟩, fun i k h => ?_, hm.bsz, fun f v hv => I.hv_mono f _ _ w w v (hm.fv f v hv) (fun k o _ hd => ?_) (fun _ _ => .inl rfl), fun _ _ _ _ _ h => by cases h⟩
     · rw [hhp, numb0_get] at hb
       have hbl : b < bs.length := by rw [kl1]; exact (List.getElem?_eq_some_iff.1 hb).1
       obtain ⟨k', g1, g2⟩ := kl2 b bs[b] (List.getElem?_eq_getElem hbl)
       rw [hb] at g1; cases g1
       obtain ⟨k, vs', z1, z2, z3⟩ := hm.hp _ _ g2 (plainB b _ blk (List.getElem?_eq_getElem hbl) g2)
       refine ⟨k, vs', by rw [Env.lp_m (List.getElem?_eq_getElem hbl)]; exact z1, z2, ?_⟩
       have hwl : b < wb'.length := by rw [<- ok1, <- kl1]; exact hbl
       exact all2_all (fun _ _ => AC.flat_R (E := E) (E' := E.lp bs) fun _ _ h => h) (ok2 b blk wb'[b] hb (List.getElem?_eq_getElem hwl)).2.2.1 z3
     · obtain ⟨b', g1, g2⟩ := getB b blk hb
       rw [plainB b b' blk g1 g2] at ht; cases ht
     · obtain ⟨b1, g1, g2⟩ := own_lp h1
       obtain ⟨b2, q1, q2⟩ := own_lp h2
       have := hm.inj b1 b2 k (.inl g2) (.inl q2)
       subst this
       exact apart_inj hap i j b1 g1 q1
     · obtain ⟨b1, g1, g2⟩ := own_lp h; exact hm.loc b1 k (.inl g2)
     · obtain ⟨b1, g1, g2⟩ := own_lp h; exact hm.low b1 k (.inl g2)
     · rcases hd with hd | ⟨b, hb⟩ | ⟨_, _, _, _, _, _, _, h3, _⟩
       · exact hd.1
       · obtain ⟨b1, g1, g2⟩ := lp_some hb; exact .inr (.inl ⟨b1, g2⟩)
       · cases h3
   have hF0 : Free d.ps.length (E.lp bs) := fun i hi => ⟨by
     show (match bs[i]? with | some b => E.m b | .none => .none) = .none
     rw [List.getElem?_eq_none (by omega)], fun _ => rfl, fun _ => rfl⟩
   refine wpIn_loop_rounds n (rounds_ok hC hmix hat hL (S := S) (W := d.W) inW hrd hK (fun p hp => psW p (hSp ▸ hp)) (by rw [hSp]; exact Nat.le_refl _) (fun e he => ⟨(restT_mem he).2.1, by rw [(restT_mem he).2.2]; rfl⟩) n s ex outs' wb' hn (E.lp bs) a w Q hT0 hM0 hF0 fun E' a' w' s1 s2 _ s3 s4 => ?_)
   have hle : E.le { E with h := E'.h } := ⟨fun _ _ h => h, fun _ _ _ h => h, fun f v h => s1 f v h, fun _ _ _ h => h⟩
   have hmm : ∀ j b k, bs[j]? = some b -> E.m b = some k -> E'.m j = some k := fun j b k hj hk => by
     have hjl : j < d.ps.length := by rw [pl1]; exact (List.getElem?_eq_some_iff.1 hj).1
     exact s2 j k (by rw [Nat.blt_eq]; exact hjl) (by rw [Env.lp_m hj]; exact hk)
   have blocks : ∀ k, k < w.heap.size -> (∀ j b, bs[j]? = some b -> E.m b ≠ some k) -> w'.heap[k]? = w.heap[k]? := fun k hk hne =>
     s4.kept.block k hk fun ⟨j, hj⟩ => by
       obtain ⟨b, g1, g2⟩ := own_lp hj
       exact hne j b g1 g2
   refine hQ { E with h := E'.h } a' w' hle rfl rfl (fun _ h => h) ?_ ?_
   · refine ⟨fun i v hv => ?_, s3.sz, s3.df⟩
     rw [look_append] at hv
     split at hv
     · rename_i y hy
       cases hv
       rw [look_append] at hy
       split at hy
       · rename_i z hz
         cases hy
         obtain ⟨u, u1, u2⟩ := s3.tm i _ (by rw [look_append, hz])
         exact ⟨u, u1, AV.flat_R (E := E') (E' := { E with h := E'.h }) (fun _ _ h => h) (okF _ (look_mem hz)) u2⟩
       · rename_i hnone
         obtain ⟨j, p, b, h1, h2, h3⟩ := ptrT_mem (look_mem hy)
         simp only [Prod.mk.injEq] at h3
         obtain ⟨rfl, rfl⟩ := h3
         have hap2 : ∃ j', d.ps[j']? = some p /\ look (pT p) (ptrN 0 S.ps : List (Nat × AV F)) = some (pV p j') := by
           cases hq : look (pT p) (ptrN 0 S.ps : List (Nat × AV F)) with
           | none => exact absurd hq (fun hq => ptrN_none (t := p) hq (by rw [hSp]; exact List.mem_of_getElem? h1))
           | some y =>
             obtain ⟨j', p', z1, z2⟩ := ptrN_mem (look_mem hq)
             simp only [Prod.mk.injEq, Nat.zero_add] at z2
             obtain ⟨z2, rfl⟩ := z2
             rw [hSp] at z1
             obtain ⟨b1, y1, y2⟩ := pl2 j' p' z1
             obtain ⟨b2, y3, y4⟩ := pl2 j p h1
             rw [<- z2, y4] at y2
             obtain ⟨rfl, _⟩ := pV_inj2 z2 (Option.some.inj y2)
             exact ⟨j', z1, rfl⟩
         obtain ⟨j', z1, z2⟩ := hap2
         obtain ⟨b', zb1, zb2⟩ := pl2 j' p z1
         obtain ⟨b2, zb3, zb4⟩ := pl2 j p h1
         rw [h2] at zb3; cases zb3
         rw [zb2] at zb4
         have zb5 := pV_inj (Option.some.inj zb4)
         subst zb5
         obtain ⟨u, u1, uR⟩ := s3.tm _ _ (by rw [look_append, hnone]; simp only; rw [look_append, z2])
         obtain ⟨k, u2, u3⟩ := pV_R.1 uR
         obtain ⟨u0, _, uR0⟩ := ht.tm _ _ zb2
         obtain ⟨k0, k1, _⟩ := pV_R.1 uR0
         have hE' := hmm j' b' k0 zb1 k1
         have hkk : k0 = k := by rw [hE'] at u2; exact Option.some.inj u2
         exact ⟨u, u1, pV_R.2 ⟨k, by rw [<- hkk]; exact k1, u3⟩⟩
     · have hi := keep_keys (look_mem hv)
       rw [look_keep hi] at hv
       obtain ⟨u, u1, u2⟩ := ht.tm i v hv
       have hlt : i < nt := by rw [<- ht.sz]; exact (Array.getElem?_eq_some_iff.1 u1).1
       have hno : look i outs' = none := look_none fun e he e' => by
         have := (List.all_eq_true.1 hok.2) e he
         simp only [Bool.and_eq_true] at this
         rw [e'] at this; rw [hi] at this; cases this.1
       obtain ⟨u', q1, q2⟩ := s3.tm i _ (by rw [look_append, hno]; simp only; rw [look_append, hPk i hi]; exact restT_look hi hlt)
       have : u' = u := by
         have : u' = a.tmps.getD i undef := q2
         rw [this, Array.getD_eq_getD_getElem?, u1]; rfl
       subst this
       exact ⟨u', q1, u2.mono hle⟩
   · have inE' : ∀ (j b : Nat), bs[j]? = some b -> ∃ k, E.m b = some k /\ E'.m j = some k := fun j b hj => by
       obtain ⟨k, hk⟩ := hbm j b hj
       exact ⟨k, hk, hmm j b k hj hk⟩
     have plainW : ∀ (j b : Nat) (y : Blk F), bs[j]? = some b -> wb'[j]? = some y -> y.tok = none := fun j b y hj hy => by
       obtain ⟨k, _, hk⟩ := inE' j b hj
       exact s4.plain (b := j) (by rw [numb0_get]; exact hy) hk
     have oldB : ∀ b, look b (bs.zip wb') = none -> ∀ k, E.own b k -> w'.heap[k]? = w.heap[k]? := fun b hno k hk =>
       blocks k (hm.loc b k hk) fun j b' hj hk' => by
         have := hm.inj b' b k (.inl hk') hk
         subst this
         exact zip_none (by rw [kl1, ok1]) hno (List.mem_of_getElem? hj)
     refine ⟨fun b blk hb hx => ?_, fun b blk n sz hb hx => ?_, hm.exc, hm.inj, fun b k h => Nat.lt_of_lt_of_le (hm.loc b k h) s4.kept.size, fun k j f arr h => ?_, ?_, hm.new, hm.low, s4.bsz, fun f v hv => I.hv_mono f _ _ w' w' v (s4.fv f v hv) (fun k o _ hd => ?_) (fun _ _ => .inl rfl), hm.apt⟩
     · rw [look_append] at hb
       split at hb
       · rename_i y hy
         cases hb
         obtain ⟨j, g1, g2⟩ := zip_look hy
         obtain ⟨k, vs', z1, z2, z3⟩ := s4.hp j blk (by rw [numb0_get]; exact g2) hx
         have hkl : j < ks.length := by rw [ok1]; exact (List.getElem?_eq_some_iff.1 g2).1
         obtain ⟨x0, q1, q2⟩ := kl2 j b g1
         obtain ⟨k0, _, y1, _, _⟩ := hm.hp b x0 q2 (plainB j b x0 g1 q2)
         have := hmm j b k0 g1 y1
         rw [z1] at this; cases this
         exact ⟨k, vs', y1, z2, all2_all (fun _ _ => AC.flat_R (E := E') (E' := { E with h := E'.h }) fun _ _ h => h) (okW j blk g2) z3⟩
       · rename_i hno
         obtain ⟨k, vs', z1, z2, z3⟩ := hm.hp b blk hb hx
         refine ⟨k, vs', z1, ?_, z3.mono fun _ _ => AC.R.mono hle⟩
         rw [oldB b hno k (.inl z1)]
         exact z2
     · rw [look_append] at hb
       split at hb
       · rename_i y hy
         cases hb
         obtain ⟨j, g1, g2⟩ := zip_look hy
         rw [plainW j b blk g1 g2] at hx; cases hx
       · rename_i hno
         exact (hm.tok b blk n sz hb hx).keep (fun _ => rfl) (oldB b hno)
     · obtain ⟨g1, g2⟩ := hm.ext k j f arr h
       refine ⟨I.mono f w _ arr g1 fun i hi => ?_, g2⟩
       by_cases hown : ∃ (j : Nat) (b : Nat), bs[j]? = some b /\ E.m b = some i
       · obtain ⟨j, b, hj, hk⟩ := hown
         obtain ⟨x0, q1, q2⟩ := kl2 j b hj
         obtain ⟨k0, vs0, y1, y2, _⟩ := hm.hp b x0 q2 (plainB j b x0 hj q2)
         rw [hk] at y1; cases y1
         have hwl : j < wb'.length := by rw [<- ok1]; exact (List.getElem?_eq_some_iff.1 q1).1
         obtain ⟨k1, vs1, z1, z2, _⟩ := s4.hp j wb'[j] (by rw [numb0_get]; exact List.getElem?_eq_getElem hwl) (plainW j b _ hj (List.getElem?_eq_getElem hwl))
         have hik := hmm j b i hj hk
         rw [z1] at hik
         have hik : k1 = i := Option.some.inj hik
         obtain ⟨t1, t2, _⟩ := ok2 j x0 wb'[j] q1 (List.getElem?_eq_getElem hwl)
         exact .inr ⟨hm.low b i (.inl hk), _, _, _, _, y2, hsafe _ (t1 ▸ t2), by rw [t1, <- hik]; exact z2⟩
       · exact .inl (blocks i hi fun j b hj hk => hown ⟨j, b, hj, hk⟩)
     · refine ⟨s4.kept.os.trans hm.kept.os, s4.kept.tape.trans hm.kept.tape, s4.kept.output.trans hm.kept.output, Nat.le_trans hm.kept.size s4.kept.size, fun k hk ho => ?_⟩
       refine (blocks k (Nat.lt_of_lt_of_le hk hm.kept.size) fun j b hj hb => ?_).trans (hm.kept.block k hk ho)
       rcases hm.new b k (.inl hb) with h | h
       · exact ho h
       · omega
     · have lt1 : ∀ {k o}, Dirt E hp k o -> k < w.heap.size := fun h => by
         rcases h with ⟨b, hb⟩ | ⟨b, _, n, _, u, _, _, h3, h4, _⟩
         · exact hm.loc b _ (.inl hb)
         · exact hm.loc b _ (.inr ⟨n, u, h3, h4⟩)
       rcases hd with hd | ⟨b, hb⟩ | ⟨b, blk, n, sz, u, h1, h2, h3⟩
       · exact .inl ⟨.inl hd, Nat.lt_of_lt_of_le hd.2 hm.kept.size⟩
       · exact .inl ⟨.inr (.inl ⟨b, hb⟩), hm.loc b _ (.inl hb)⟩
       · rw [look_append] at h1
         split at h1
         · rename_i y hy
           cases h1
           obtain ⟨j, g1, g2⟩ := zip_look hy
           rw [plainW j b blk g1 g2] at h2; cases h2
         · exact .inl ⟨.inr (.inr ⟨b, blk, n, sz, u, h1, h2, h3⟩), lt1 (.inr ⟨b, blk, n, sz, u, h1, h2, h3⟩)⟩


def lookT (tm : List (Nat × AV F)) : List Nat -> Option (List (AV F))
 | [] => some []
 | t :: r => match look t tm with
   | some v => match lookT tm r with
     | some l => some (v :: l)
     | none => none
   | none => none
def evView (c : Ctx F) (nt : Nat) (pos : List Bool) (x : Code) (tm : List (Nat × AV F)) (bs : List (Blk F)) (m : Nat) (ts : List Nat) (path : List Bool) : Option ((Ex × List (AV F) × List (Blk F)) × List (Bool × Bool)) :=
 match evC c 400 nt pos x tm (numb 0 bs) m (.fix path) with
 | some r => match r.path with
   | .fix [] => match lookT r.tm ts with
     | some vs => match looks r.hp (List.range m) with
       | some ks => some ((r.ex, vs, ks), r.cd)
       | none => none
     | none => none
   | _ => none
 | none => none
theorem lookT_zip : ∀ {ts : List Nat} {tm : List (Nat × AV F)} {vs : List (AV F)}, lookT tm ts = some vs -> ∀ e ∈ ts.zip vs, look e.1 tm = some e.2
 | [], tm, vs, h, e, he => by simp at he
 | t :: ts, tm, vs, h, e, he => by
   simp only [lookT] at h
   split at h
   · rename_i v hv
     split at h
     · rename_i l hl
       cases h
       rw [List.zip_cons_cons] at he
       rcases List.mem_cons.1 he with rfl | he
       · exact hv
       · exact lookT_zip hl e he
     · cases h
   · cases h
theorem numb_mem {α : Type} : ∀ {l : List α} {k : Nat} {e : Nat × α}, e ∈ numb k l -> l[e.1 - k]? = some e.2 /\ k <= e.1
 | [], k, e, h => by cases h
 | x :: l, k, e, h => by
   rcases List.mem_cons.1 h with rfl | h
   · simp
   · obtain ⟨h1, h2⟩ := numb_mem h
     exact ⟨by rw [show e.1 - k = (e.1 - (k + 1)) + 1 by omega]; simpa using h1, by omega⟩
theorem looks_range {hp : List (Nat × Blk F)} {m : Nat} {ks : List (Blk F)} (h : looks hp (List.range m) = some ks) : ks.length = m /\ ∀ e ∈ numb 0 ks, look e.1 hp = some e.2 := by
 obtain ⟨h1, h2⟩ := looks_get h
 rw [List.length_range] at h1
 refine ⟨h1.symm, fun e he => ?_⟩
 have hk := (numb_keys he).2
 have hm := (numb_mem he).1
 simp only [Nat.sub_zero] at hm
 obtain ⟨k, q1, q2⟩ := h2 e.1 e.1 (by rw [List.getElem?_range (by omega)])
 rw [hm] at q1; cases q1
 exact q2
section
variable {c : Ctx F} {nt : Nat} {pos : List Bool} {x : Code} {tm : List (Nat × AV F)} {bs : List (Blk F)} {m : Nat} {ts : List Nat} {path : List Bool} {σ : Type} {S : LpSt σ F} {vs : List (AV F)} {ks : List (Blk F)} {cd : List (Bool × Bool)}
theorem evView_r {ex : Ex} (h : evView c nt pos x tm bs m ts path = some ((ex, vs, ks), cd)) : ∃ r, evC c 400 nt pos x tm (numb 0 bs) m (.fix path) = some r /\ r.cd = cd /\ r.ex = ex /\ (∀ e ∈ ts.zip vs, look e.1 r.tm = some e.2) /\ ks.length = m /\ ∀ e ∈ numb 0 ks, look e.1 r.hp = some e.2 := by
 unfold evView at h
 split at h
 · rename_i r hr
   split at h
   · split at h
     · rename_i vs' hvs
       split at h
       · rename_i ks' hks
         cases h
         obtain ⟨g1, g2⟩ := looks_range hks
         exact ⟨r, hr, rfl, rfl, lookT_zip hvs, g1, g2⟩
       · cases h
     · cases h
   · cases h
 · cases h
theorem lows {m : Nat} {ks : List (Blk F)} (h : ks.all (fun b => b.cs.all (AC.low m)) = true) {e : Nat × Blk F} (he : e ∈ numb 0 ks) : e.2.cs.all (AC.low m) = true :=
 (List.all_eq_true.1 h) _ (List.mem_of_getElem? (numb_mem he).1)
theorem flats {ks : List (Blk F)} (h : ks.all (fun b => b.cs.all AC.flat) = true) {e : Nat × Blk F} (he : e ∈ numb 0 ks) : e.2.cs.all AC.flat = true :=
 (List.all_eq_true.1 h) _ (List.mem_of_getElem? (numb_mem he).1)
theorem round_go {s' : σ} (h : evView c nt pos x tm bs m ts path = some ((.normal, vs, ks), cd)) (hc : ∀ p ∈ cd, p.1 = p.2) (h1 : S.tm s' ++ ptrN 0 S.ps = ts.zip vs) (h2 : S.hp s' = ks) (h3 : (S.tm s').all (fun e => e.2.low m) = true) (h4 : ks.all (fun b => b.cs.all (AC.low m)) = true) :
   ∃ fuel path r, evC c fuel nt pos x tm (numb 0 bs) m path = some r /\ (∀ p ∈ r.cd, p.1 = p.2) /\ Gives S m r (.go s') := by
 obtain ⟨r, r1, r2, r3, r4, r5, r6⟩ := evView_r h
 refine ⟨400, .fix path, r, r1, by rw [r2]; exact hc, r3, by rw [h1]; exact r4, fun e he => (List.all_eq_true.1 h3) e he, by rw [h2, r5]; exact Nat.le_refl _, fun e he => ?_⟩
 rw [h2] at he
 exact ⟨r6 e he, lows h4 he⟩
theorem round_out {ex : Ex} {outs : List (Nat × AV F)} (h : evView c nt pos x tm bs m ts path = some ((ex, vs, ks), cd)) (hx : ex.leaves = true) (hc : ∀ p ∈ cd, p.1 = p.2) (h1 : outs ++ ptrN 0 S.ps = ts.zip vs) (h3 : outs.all (fun e => e.2.flat) = true) (h4 : ks.all (fun b => b.cs.all AC.flat) = true) :
   ∃ fuel path r, evC c fuel nt pos x tm (numb 0 bs) m path = some r /\ (∀ p ∈ r.cd, p.1 = p.2) /\ Gives S m r (.out ex outs ks) := by
 obtain ⟨r, r1, r2, r3, r4, r5, r6⟩ := evView_r h
 exact ⟨400, .fix path, r, r1, by rw [r2]; exact hc, r3, hx, by rw [h1]; exact r4, r5, fun e he => ⟨r6 e he, flats h4 he⟩⟩
end

theorem lps_cons {P : Program} {I : Interp F} {l : Lps F} {nt nt0 : Nat} {pos0 : List Bool} {sp : LpSp F} {code : Code} (h : nt = nt0 -> ∀ x, codeAt code pos0 = some (.loop x) -> LpOk P I nt x sp) (hl : LpsOk P I l nt code) : LpsOk P I (((nt0, pos0), sp) :: l) nt code := fun pos sp' hlk x hx => by
 simp only [lookLp] at hlk
 cases hb : Nat.beq nt0 nt && beqP pos0 pos with
 | true =>
   rw [hb] at hlk
   simp only [Bool.and_eq_true] at hb
   cases hlk
   obtain rfl := beqP_eq hb.2
   exact h (Nat.eq_of_beq_eq_true hb.1).symm x hx
 | false => rw [hb] at hlk; exact hl pos sp' hlk x hx
theorem loopAt_eq {code x : Code} {pos : List Bool} (h : codeAt code pos = some (.loop x)) : loopAt code pos = x := by unfold loopAt; rw [h]


structure LpDefR (σ F : Type) where
 ts : List Nat
 ps : List Nat
 rs : List Nat
 W : List Nat
 dec : List (AV F) -> List (Nat × F) -> List (Blk F) -> Option σ
 fk : σ -> Option Bool
 spec : σ -> Bool -> Option (Ex × List (Nat × AV F) × List (Nat × Nat × Nat × F) × List (Blk F) × List (Bool × Bool))
def tips (tm : List (Nat × AV F)) : List Nat -> Option (List (Nat × Nat × F))
 | [] => some []
 | t :: r => match look t tm with
   | some (.w (.one (.tip b n f))) => match tips tm r with
     | some l => some ((b, n, f) :: l)
     | none => none
   | _ => none
def inR (l : List (Nat × Nat × Nat × F)) : List (Nat × AV F) := l.map fun e => (e.1, .w (.one (.tip e.2.1 e.2.2.1 e.2.2.2)))
def outR (bs : List Nat) (l : List (Nat × Nat × Nat × F)) : List (Nat × AV F) := l.map fun e => (e.1, .w (.one (.tip (bs.getD e.2.1 0) e.2.2.1 e.2.2.2)))
def LpDefR.sp {σ : Type} (d : LpDefR σ F) (safe : TypeId -> Bool) : LpSp F where
 W := d.W
 fk := fun tm hp => match vals tm d.ts with
   | none => none
   | some vs => match ptrs tm d.ps with
     | none => none
     | some bp => match tips tm d.rs with
       | none => none
       | some tr => match looks hp (bp ++ tr.map (·.1)) with
         | none => none
         | some ks => match d.dec vs (tr.map (·.2)) ks with
           | none => none
           | some s => d.fk s
 run := fun tm hp β => match vals tm d.ts with
   | none => none
   | some vs => match ptrs tm d.ps with
     | none => none
     | some bp => match tips tm d.rs with
       | none => none
       | some tr => bif apart (bp ++ tr.map (·.1)) then (match looks hp (bp ++ tr.map (·.1)) with
         | none => none
         | some ks => match d.dec vs (tr.map (·.2)) ks with
           | none => none
           | some s => match d.spec s β with
             | none => none
             | some (ex, outs, rts, wb, cd) => bif okB safe ks wb && outs.all (fun e => memN e.1 d.W && e.2.flat) && rts.all (fun e => memN e.1 d.W && Nat.blt e.2.1 (bp ++ tr.map (·.1)).length) then
                 some (ex, outs ++ outR (bp ++ tr.map (·.1)) rts ++ ptrT d.ps bp, (bp ++ tr.map (·.1)).zip wb, cd) else none) else none
theorem tips_look : ∀ {rs : List Nat} {tm : List (Nat × AV F)} {tr : List (Nat × Nat × F)}, tips tm rs = some tr -> rs.length = tr.length /\ ∀ (j : Nat) (e : Nat × Nat × F), tr[j]? = some e -> ∃ t, rs[j]? = some t /\ look t tm = some (.w (.one (.tip e.1 e.2.1 e.2.2)))
 | [], tm, tr, h => by cases h; exact ⟨rfl, fun j e he => by simp at he⟩
 | t :: rs, tm, tr, h => by
   simp only [tips] at h
   split at h
   · rename_i b n f hl
     split at h
     · rename_i l htl
       cases h
       obtain ⟨g1, g2⟩ := tips_look htl
       refine ⟨by simp [g1], fun j e he => ?_⟩
       cases j with
       | zero => simp at he; subst he; exact ⟨t, rfl, hl⟩
       | succ j => simpa using g2 j e (by simpa using he)
     · cases h
   · cases h
theorem rows_look {bs : List Nat} {t : Nat} {y : AV F} : ∀ {l : List (Nat × Nat × Nat × F)}, look t (outR bs l) = some y -> ∃ e ∈ l, y = .w (.one (.tip (bs.getD e.2.1 0) e.2.2.1 e.2.2.2)) /\ look t (inR l) = some (.w (.one (.tip e.2.1 e.2.2.1 e.2.2.2)))
 | [], h => by cases h
 | e :: l, h => by
   simp only [outR, inR, List.map_cons, look_cons] at h ⊢
   by_cases q : e.1 = t
   · rw [if_pos q] at h; cases h
     exact ⟨e, List.mem_cons_self, rfl, if_pos q⟩
   · rw [if_neg q] at h
     obtain ⟨e', h1, h2, h3⟩ := rows_look h
     exact ⟨e', List.mem_cons_of_mem _ h1, h2, (if_neg q).trans h3⟩
theorem rows_none {bs : List Nat} {t : Nat} : ∀ {l : List (Nat × Nat × Nat × F)}, look t (outR bs l) = none -> look t (inR l) = none
 | [], _ => rfl
 | e :: l, h => by
   simp only [outR, inR, List.map_cons, look_cons] at h ⊢
   by_cases q : e.1 = t
   · rw [if_pos q] at h; cases h
   · rw [if_neg q] at h ⊢; exact rows_none h
def Env.lpq (E : Env F) (bs : List Nat) : Env F := ⟨fun i => match bs[i]? with | some b => E.m b | .none => .none, fun _ _ => .none, E.h, fun i n => match bs[i]? with | some b => E.q b n | .none => .none⟩
theorem Env.lpq_m {E : Env F} {bs : List Nat} {i b : Nat} (h : bs[i]? = some b) : (E.lpq bs).m i = E.m b := by
 show (match bs[i]? with | some b => E.m b | .none => .none) = _
 rw [h]
theorem Env.lpq_q {E : Env F} {bs : List Nat} {i b : Nat} (h : bs[i]? = some b) (n : Nat) : (E.lpq bs).q i n = E.q b n := by
 show (match bs[i]? with | some b => E.q b n | .none => .none) = _
 rw [h]
theorem lpq_some {E : Env F} {bs : List Nat} {i k : Nat} (h : (E.lpq bs).m i = some k) : ∃ b, bs[i]? = some b /\ E.m b = some k := by
 have h : (match bs[i]? with | some b => E.m b | .none => .none) = some k := h
 split at h
 · rename_i b hb; exact ⟨b, hb, h⟩
 · cases h
theorem lpqq_some {E : Env F} {bs : List Nat} {i n : Nat} {v : Value} (h : (E.lpq bs).q i n = some v) : ∃ b, bs[i]? = some b /\ E.q b n = some v := by
 have h : (match bs[i]? with | some b => E.q b n | .none => .none) = some v := h
 split at h
 · rename_i b hb; exact ⟨b, hb, h⟩
 · cases h
theorem own_lpq {E : Env F} {bs : List Nat} {i k : Nat} (h : (E.lpq bs).own i k) : ∃ b, bs[i]? = some b /\ E.own b k := by
 rcases h with h | ⟨n, v, h, h'⟩
 · obtain ⟨b, g1, g2⟩ := lpq_some h; exact ⟨b, g1, .inl g2⟩
 · obtain ⟨b, g1, g2⟩ := lpqq_some h; exact ⟨b, g1, .inr ⟨n, v, g2, h'⟩⟩
def DirtX (E : Env F) (hp : List (Nat × Blk F)) (bs : List Nat) (k o : Nat) : Prop :=
 (∃ b, b ∉ bs /\ E.m b = some k) \/ ∃ b blk n sz v, b ∉ bs /\ look b hp = some blk /\ blk.tok = some (n, sz) /\ E.q b n = some v /\ blkOf v = some k /\ blk.lo <= o
def idxOf (b : Nat) : List Nat -> Option Nat
 | [] => none
 | c :: r => bif Nat.beq c b then some 0 else match idxOf b r with
   | some j => some (j + 1)
   | none => none
theorem idx_some {b : Nat} : ∀ {bs : List Nat} {j : Nat}, idxOf b bs = some j -> bs[j]? = some b
 | [], j, h => by cases h
 | c :: r, j, h => by
   simp only [idxOf] at h
   cases hb : Nat.beq c b with
   | true => rw [hb] at h; cases h; simp [Nat.eq_of_beq_eq_true hb]
   | false =>
     rw [hb] at h; simp only [cond_false] at h
     split at h
     · rename_i i hi; cases h; simpa using idx_some hi
     · cases h
theorem idx_none {b : Nat} : ∀ {bs : List Nat}, idxOf b bs = none -> b ∉ bs
 | [], _ => by simp
 | c :: r, h => by
   simp only [idxOf] at h
   cases hb : Nat.beq c b with
   | true => rw [hb] at h; cases h
   | false =>
     rw [hb] at h; simp only [cond_false] at h
     split at h
     · cases h
     · rename_i hi
       intro hm
       rcases List.mem_cons.1 hm with rfl | hm
       · simp at hb
       · exact idx_none hi hm
def Env.lpb (E E' : Env F) (bs : List Nat) : Env F := ⟨E.m, E.r, E'.h, fun b n => match idxOf b bs with | .some j => E'.q j n | .none => E.q b n⟩
theorem lpb_in {E E' : Env F} {bs : List Nat} (ha : apart bs = true) {j b : Nat} (h : bs[j]? = some b) (n : Nat) : (E.lpb E' bs).q b n = E'.q j n := by
 show (match idxOf b bs with | some j => E'.q j n | none => E.q b n) = _
 cases hi : idxOf b bs with
 | none => exact absurd (List.mem_of_getElem? h) (idx_none hi)
 | some j' => simp only; rw [apart_inj ha j' j b (idx_some hi) h]
theorem lpb_out {E E' : Env F} {bs : List Nat} {b : Nat} (h : b ∉ bs) (n : Nat) : (E.lpb E' bs).q b n = E.q b n := by
 show (match idxOf b bs with | some j => E'.q j n | none => E.q b n) = _
 cases hi : idxOf b bs with
 | none => rfl
 | some j' => exact absurd (List.mem_of_getElem? (idx_some hi)) h
theorem lpR_ok {P : Program} {I : Interp F} {c : Ctx F} (hC : CtxOk P I c) (hmix : P.follows .mixedOrders = true) (hno : ∀ f w arr, ¬ I.holds f w arr) {nt : Nat} {pos : List Bool} {code0 x : Code} (hat : codeAt code0 pos = some (.loop x)) (hL : LpsOk P I c.lps nt code0)
   {σ : Type} {S : LpSt σ F} {step : σ -> Nxt σ F} {d : LpDefR σ F} {safe : TypeId -> Bool} (hsafe : ∀ t, safe t = true -> I.safe t = true)
   (hW : (touch c.lps nt x (false :: pos)).all (fun i => memN i d.W) = true) (hps : (d.ps.map pT ++ d.ts).all (fun i => memN i d.W) = true)
   (hdec : ∀ vs tr ks s, vs.length = d.ts.length -> tr.length = d.rs.length -> d.dec vs tr ks = some s -> ks.length = d.ps.length + d.rs.length -> S.hp s = ks /\
     ∀ e ∈ S.tm s, e ∈ d.ts.zip vs \/ ∃ (j t n : Nat) (f : F), d.rs[j]? = some t /\ tr[j]? = some (n, f) /\ e = (t, .w (.one (.tip (d.ps.length + j) n f))))
   (hSp : S.ps = d.ps)
   (hK : ∀ s e, e ∈ S.tm s -> memN e.1 d.W = true)
   (hrd : ∀ s, (step s).isBad = false -> ∀ rest, ∃ fuel path r, evC c fuel nt (false :: pos) x (S.tm s ++ (ptrN 0 S.ps ++ rest)) (numb 0 (S.hp s)) (d.ps.length + d.rs.length) path = some r /\ (∀ p ∈ r.cd, p.1 = p.2) /\ Gives S (d.ps.length + d.rs.length) r (step s))
   (hspec : ∀ s β ex outs rts wb cd, d.spec s β = some (ex, outs, rts, wb, cd) -> (∀ b, d.fk s = some b -> b = β) -> (∀ p ∈ cd, p.1 = p.2) -> ∃ n, runs step n s = some (ex, outs ++ inR rts, wb)) : LpOk P I nt x (d.sp safe) := by
 have inW : ∀ i, memN i d.W = false -> memN i (touch c.lps nt x (false :: pos)) = false := fun i hi => by
   cases h : memN i (touch c.lps nt x (false :: pos)) with
   | false => rfl
   | true => have := (List.all_eq_true.1 hW) i (memN_iff.1 h); rw [hi] at this; cases this
 have psW : ∀ i ∈ d.ps, memN (pT i) d.W = true := fun i hi => (List.all_eq_true.1 hps) (pT i) (List.mem_append_left _ (List.mem_map_of_mem hi))
 refine ⟨fun tm hp β ex outs wb cd hrun e he => ?_, fun tm hp β ex outs wb cd hrun hfk hc ro ds E w0 a w Q ht hm hQ => ?_⟩
 · simp only [LpDefR.sp] at hrun ⊢
   split at hrun
   · cases hrun
   split at hrun
   · cases hrun
   rename_i bp hbp
   split at hrun
   · cases hrun
   rename_i tr htr
   generalize hbs : bp ++ tr.map (·.1) = bs at hrun
   cases hap : apart bs with
   | false => rw [hap] at hrun; cases hrun
   | true =>
     rw [hap] at hrun; simp only [cond_true] at hrun
     split at hrun
     · cases hrun
     split at hrun
     · cases hrun
     split at hrun
     · cases hrun
     rename_i ex' outs' rts' wb' cd' hsp
     generalize hok : (okB safe _ wb' && outs'.all (fun e => memN e.1 d.W && e.2.flat) && rts'.all (fun e => memN e.1 d.W && Nat.blt e.2.1 bs.length)) = z at hrun
     cases z with
     | false => cases hrun
     | true =>
       simp only [cond_true] at hrun
       cases hrun
       simp only [Bool.and_eq_true] at hok
       rcases List.mem_append.1 he with he | he
       · rcases List.mem_append.1 he with he | he
         · have := (List.all_eq_true.1 hok.1.2) e he
           simp only [Bool.and_eq_true] at this
           exact this.1
         · obtain ⟨e', h1, rfl⟩ := List.mem_map.1 he
           have := (List.all_eq_true.1 hok.2) e' h1
           simp only [Bool.and_eq_true] at this
           exact this.1
       · obtain ⟨j, p, b, h1, _, rfl⟩ := ptrT_mem he
         exact psW p (List.mem_of_getElem? h1)
 · simp only [LpDefR.sp] at hrun hQ
   split at hrun
   · cases hrun
   rename_i vs hvs
   split at hrun
   · cases hrun
   rename_i bp hbp
   split at hrun
   · cases hrun
   rename_i tr htr
   generalize hbs : bp ++ tr.map (·.1) = bs at hrun
   cases hap : apart bs with
   | false => rw [hap] at hrun; cases hrun
   | true =>
   rw [hap] at hrun; simp only [cond_true] at hrun
   split at hrun
   · cases hrun
   rename_i ks hks
   split at hrun
   · cases hrun
   rename_i s hs
   split at hrun
   · cases hrun
   rename_i ex' outs' rts' wb' cd' hsp
   generalize hok : (okB safe ks wb' && outs'.all (fun e => memN e.1 d.W && e.2.flat) && rts'.all (fun e => memN e.1 d.W && Nat.blt e.2.1 bs.length)) = z at hrun
   cases z with
   | false => cases hrun
   | true =>
   simp only [cond_true] at hrun
   cases hrun
   simp only [Bool.and_eq_true] at hok
   obtain ⟨ok1, ok2⟩ := okB_get hok.1.1
   have okF : ∀ e ∈ outs', memN e.1 d.W = true /\ e.2.flat = true := fun e he => by have := (List.all_eq_true.1 hok.1.2) e he; simpa only [Bool.and_eq_true] using this
   have okR : ∀ e ∈ rts', memN e.1 d.W = true /\ e.2.1 < bs.length := fun e he => by
     have := (List.all_eq_true.1 hok.2) e he
     simp only [Bool.and_eq_true, Nat.blt_eq] at this
     exact this
   have hfs : ∀ b, d.fk s = some b -> b = β := fun b hb => hfk b (by
     simp only [LpDefR.sp, hvs, hbp, htr, hbs, hks, hs]; exact hb)
   obtain ⟨n, hn⟩ := hspec s β ex outs' rts' wb' cd hsp hfs hc
   obtain ⟨pl1, pl2⟩ := ptrs_look hbp
   obtain ⟨tl1, tl2⟩ := tips_look htr
   obtain ⟨kl1, kl2⟩ := looks_get hks
   have hbl : bs.length = d.ps.length + d.rs.length := by rw [<- hbs]; simp [pl1, tl1]
   have okW : ∀ (j : Nat) (y : Blk F), wb'[j]? = some y -> y.cs.all AC.flat = true := fun j y hy => by
     have hl : j < ks.length := by rw [ok1]; exact (List.getElem?_eq_some_iff.1 hy).1
     exact (ok2 j ks[j] y (List.getElem?_eq_getElem hl) hy).2.2.2
   have hvl : vs.length = d.ts.length := by
     have : ∀ {ts : List Nat} {vs : List (AV F)}, vals tm ts = some vs -> vs.length = ts.length := by
       intro ts
       induction ts with
       | nil => intro vs h; cases h; rfl
       | cons t ts ih =>
         intro vs h
         simp only [vals] at h
         split at h
         · rename_i v hv
           cases hf : v.untip.flat with
           | false => rw [hf] at h; cases h
           | true =>
             rw [hf] at h; simp only [cond_true] at h
             split at h
             · rename_i l hl; cases h; simp [ih hl]
             · cases h
         · cases h
     exact this hvs
   obtain ⟨hhp, htm⟩ := hdec vs (tr.map (·.2)) ks s hvl (by simp [tl1]) hs (by rw [<- kl1, hbl])
   have bsP : ∀ {j b : Nat}, bp[j]? = some b -> bs[j]? = some b := fun {j b} h => by
     rw [<- hbs, List.getElem?_append_left (List.getElem?_eq_some_iff.1 h).1]; exact h
   have bsR : ∀ {j : Nat} {e : Nat × Nat × F}, tr[j]? = some e -> bs[d.ps.length + j]? = some e.1 := fun {j e} h => by
     rw [<- hbs, pl1, List.getElem?_append_right (by omega), Nat.add_sub_cancel_left, List.getElem?_map, h]; rfl
   have kind : ∀ (j b : Nat), bs[j]? = some b -> (∃ k, E.m b = some k) \/ ∃ i u, E.q b i = some u := fun j b hj => by
     rcases Nat.lt_or_ge j d.ps.length with q | q
     · obtain ⟨b', z1, z2⟩ := pl2 j d.ps[j] (List.getElem?_eq_getElem q)
       rw [bsP z1] at hj; cases hj
       obtain ⟨u, _, uR⟩ := ht.tm _ _ z2
       obtain ⟨k, u2, _⟩ := pV_R.1 uR
       exact .inl ⟨k, u2⟩
     · have hjl : j < d.ps.length + d.rs.length := by rw [<- hbl]; exact (List.getElem?_eq_some_iff.1 hj).1
       have hjt : j - d.ps.length < tr.length := by rw [<- tl1]; omega
       have he := List.getElem?_eq_getElem hjt
       have := bsR he
       rw [show d.ps.length + (j - d.ps.length) = j by omega, hj] at this
       obtain ⟨t, _, z2⟩ := tl2 _ _ he
       obtain ⟨u, _, _, u2⟩ := ht.tm _ _ z2
       exact .inr ⟨_, u, by rw [Option.some.inj this]; exact u2⟩
   have hT0 : Tms ds (E.lpq bs) nt (S.tm s ++ (ptrN 0 S.ps ++ restT d.W a nt)) a := by
     refine ⟨fun i v hv => ?_, ht.sz, ht.df⟩
     rw [look_append] at hv
     split at hv
     · rename_i y hy
       cases hv
       rcases htm _ (look_mem hy) with h | ⟨j, t, i', f, h1, h2, h3⟩
       · obtain ⟨y, z1, z0, z2⟩ := vals_look hvs _ h
         obtain ⟨u, u1, u2⟩ := ht.tm i _ z1
         replace u2 := AV.untip_R u2
         rw [z0] at u2
         exact ⟨u, u1, AV.flat_R (E := E) (E' := E.lpq bs) (fun _ _ h => h) z2 u2⟩
       · simp only [Prod.mk.injEq] at h3
         obtain ⟨rfl, rfl⟩ := h3
         rw [List.getElem?_map] at h2
         cases hte : tr[j]? with
         | none => rw [hte] at h2; cases h2
         | some e =>
           rw [hte] at h2
           simp only [Option.map_some, Option.some.injEq] at h2
           obtain ⟨t', z1, z2⟩ := tl2 j e hte
           rw [h1] at z1; cases z1
           rw [h2] at z2
           obtain ⟨u, u1, u2, u3⟩ := ht.tm _ _ z2
           exact ⟨u, u1, u2, by rw [Env.lpq_q (bsR hte)]; exact u3⟩
     rw [look_append] at hv
     split at hv
     · rename_i y hy
       cases hv
       obtain ⟨j, p, h1, h2⟩ := ptrN_mem (look_mem hy)
       rw [hSp] at h1
       obtain ⟨b, hb1, hb2⟩ := pl2 j p h1
       simp only [Prod.mk.injEq, Nat.zero_add] at h2
       obtain ⟨rfl, rfl⟩ := h2
       obtain ⟨u, u1, uR⟩ := ht.tm _ _ hb2
       obtain ⟨k, u2, u3⟩ := pV_R.1 uR
       exact ⟨u, u1, pV_R.2 ⟨k, by rw [Env.lpq_m (bsP hb1)]; exact u2, u3⟩⟩
     · obtain ⟨h1, h2, h3⟩ := restT_mem (look_mem hv)
       simp only at h1 h2 h3
       subst h3
       have hlt : i < a.tmps.size := by rw [ht.sz]; exact h1
       refine ⟨a.tmps.getD i undef, ?_, rfl⟩
       rw [Array.getD_eq_getD_getElem?, Array.getElem?_eq_getElem hlt]; rfl
   have hPk : ∀ i, memN i d.W = false -> look i (ptrN 0 S.ps : List (Nat × AV F)) = none := fun i hi => look_none fun e he e' => by
     obtain ⟨j, p, h1, rfl⟩ := ptrN_mem he
     have := psW p (hSp ▸ List.mem_of_getElem? h1)
     simp only at e'
     rw [e', hi] at this; cases this
   have dirtX : ∀ {k o}, DirtX E hp bs k o -> Dirt E hp k o := fun h => by
     rcases h with ⟨b, _, h⟩ | ⟨b, blk, i, sz, v, _, h⟩
     · exact .inl ⟨b, h⟩
     · exact .inr ⟨b, blk, i, sz, v, h⟩
   have dirtO : ∀ {k o}, DirtX E hp bs k o -> ∃ b, b ∉ bs /\ E.own b k := fun h => by
     rcases h with ⟨b, h1, h⟩ | ⟨b, _, i, _, v, h1, _, _, h3, h4, _⟩
     · exact ⟨b, h1, .inl h⟩
     · exact ⟨b, h1, .inr ⟨i, v, h3, h4⟩⟩
   have getB : ∀ b blk, look b (numb 0 (S.hp s)) = some blk -> ∃ b', bs[b]? = some b' /\ look b' hp = some blk := fun b blk hb => by
     rw [hhp, numb0_get] at hb
     have hlt : b < bs.length := by rw [kl1]; exact (List.getElem?_eq_some_iff.1 hb).1
     obtain ⟨k', g1, g2⟩ := kl2 b bs[b] (List.getElem?_eq_getElem hlt)
     rw [hb] at g1; cases g1
     exact ⟨bs[b], List.getElem?_eq_getElem hlt, g2⟩
   have hM0 : Mem I ⟨w, (E.lpq bs).ran, fun k o => w0.out k o \/ DirtX E hp bs k o⟩ (E.lpq bs) (numb 0 (S.hp s)) w := by
     refine ⟨fun b blk hb hx => ?_, fun b blk i sz hb hx => ?_, fun i k h i' => ?_, fun i j k h1 h2 => ?_, fun i k h => ?_, fun k j f arr h => by (cases h), ⟨rfl, rfl, rfl, Nat.le_refl _, fun _ _ _ => rfl⟩, fun i k h => .inl ⟨i, h⟩, fun i k h => ?_, hm.bsz, fun f v hv => I.hv_mono f _ _ w w v (hm.fv f v hv) (fun k o _ hd => ?_) (fun _ _ => .inl rfl), fun b i v k o h1 h2 h3 => ?_⟩
     · obtain ⟨b', g1, g2⟩ := getB b blk hb
       obtain ⟨k, vs', z1, z2, z3⟩ := hm.hp b' blk g2 hx
       refine ⟨k, vs', by rw [Env.lpq_m g1]; exact z1, z2, ?_⟩
       rw [hhp, numb0_get] at hb
       have hwl : b < wb'.length := by rw [<- ok1]; exact (List.getElem?_eq_some_iff.1 hb).1
       exact all2_all (fun _ _ => AC.flat_R (E := E) (E' := E.lpq bs) fun _ _ h => h) (ok2 b blk wb'[b] hb (List.getElem?_eq_getElem hwl)).2.2.1 z3
     · obtain ⟨b', g1, g2⟩ := getB b blk hb
       exact (hm.tok b' blk i sz g2 hx).move (fun m => Env.lpq_q g1 m) fun _ _ => rfl
     · obtain ⟨b, g1, g2⟩ := lpq_some h
       rw [Env.lpq_q g1]; exact hm.exc b k g2 i'
     · obtain ⟨b1, g1, g2⟩ := own_lpq h1
       obtain ⟨b2, q1, q2⟩ := own_lpq h2
       have := hm.inj b1 b2 k g2 q2
       subst this
       exact apart_inj hap i j b1 g1 q1
     · obtain ⟨b1, g1, g2⟩ := own_lpq h; exact hm.loc b1 k g2
     · obtain ⟨b1, g1, g2⟩ := own_lpq h; exact hm.low b1 k g2
     · rcases hd with ⟨hd | hd, _⟩ | ⟨b, hb⟩ | ⟨b, blk, i, sz, v, h1, h2, h3, h4⟩
       · exact .inl hd
       · exact .inr (dirtX hd)
       · obtain ⟨b1, g1, g2⟩ := lpq_some hb; exact .inr (.inl ⟨b1, g2⟩)
       · obtain ⟨b', g1, g2⟩ := getB b blk h1
         rw [Env.lpq_q g1] at h3
         exact .inr (.inr ⟨b', blk, i, sz, v, g2, h2, h3, h4⟩)
     · obtain ⟨b1, g1, g2⟩ := lpqq_some h1
       rcases h3.1 with h3 | h3
       · exact hm.apt b1 i v k o g2 h2 h3
       · obtain ⟨b2, q1, q2⟩ := dirtO h3
         have := hm.inj b2 b1 k q2 (.inr ⟨i, v, g2, h2⟩)
         subst this
         exact q1 (List.mem_of_getElem? g1)
   have hF0 : Free (d.ps.length + d.rs.length) (E.lpq bs) := fun i hi => by
     have hx : bs[i]? = none := List.getElem?_eq_none (by omega)
     exact ⟨by show (match bs[i]? with | some b => E.m b | .none => .none) = .none; rw [hx], fun _ => rfl, fun i' => by show (match bs[i]? with | some b => E.q b i' | .none => .none) = .none; rw [hx]⟩
   refine wpIn_loop_rounds n (rounds_ok hC hmix hat hL (S := S) (W := d.W) inW hrd hK (fun p hp => psW p (hSp ▸ hp)) (by rw [hSp]; omega) (fun e he => ⟨(restT_mem he).2.1, by rw [(restT_mem he).2.2]; rfl⟩) n s ex (outs' ++ inR rts') wb' hn (E.lpq bs) a w Q hT0 hM0 hF0 fun E' a' w' s1 s2 s2q s3 s4 => ?_)
   have low : ∀ {j b : Nat}, bs[j]? = some b -> Nat.blt j (d.ps.length + d.rs.length) = true := fun {j b} h => by
     rw [Nat.blt_eq, <- hbl]; exact (List.getElem?_eq_some_iff.1 h).1
   have hmm : ∀ (j b k : Nat), bs[j]? = some b -> E.m b = some k -> E'.m j = some k := fun j b k hj hk => s2 j k (low hj) (by rw [Env.lpq_m hj]; exact hk)
   have hqq : ∀ (j b i : Nat) (v : Value), bs[j]? = some b -> E.q b i = some v -> E'.q j i = some v := fun j b i v hj hk => s2q j i v (low hj) (by rw [Env.lpq_q hj]; exact hk)
   have hin : ∀ {b : Nat}, b ∈ bs -> ∃ j : Nat, bs[j]? = some b := fun h => List.mem_iff_getElem?.1 h
   have hle : E.le (E.lpb E' bs) := ⟨fun _ _ h => h, fun _ _ _ h => h, fun f v h => s1 f v h, fun b i v h => by
     by_cases hb : b ∈ bs
     · obtain ⟨j, hj⟩ := hin hb
       rw [lpb_in hap hj]; exact hqq j b i v hj h
     · rw [lpb_out hb]; exact h⟩
   have blocks : ∀ k, k < w.heap.size -> (∀ b ∈ bs, ¬ E.own b k) -> w'.heap[k]? = w.heap[k]? := fun k hk hne =>
     s4.kept.block k hk fun ⟨j, hj⟩ => by
       obtain ⟨b, g1, g2⟩ := own_lpq hj
       exact hne b (List.mem_of_getElem? g1) g2
   have oldB : ∀ b, b ∉ bs -> ∀ k, E.own b k -> w'.heap[k]? = w.heap[k]? := fun b hno' k hk =>
     blocks k (hm.loc b k hk) fun b' hb' hk' => hno' (by rw [hm.inj b b' k hk hk']; exact hb')
   have zipN : ∀ {b : Nat}, look b (bs.zip wb') = none -> b ∉ bs := fun h => zip_none (by rw [kl1, ok1]) h
   have excB : ∀ (b k : Nat), E.m b = some k -> ∀ i, (E.lpb E' bs).q b i = none := fun b k h i => by
     by_cases hb : b ∈ bs
     · obtain ⟨j, hj⟩ := hin hb
       rw [lpb_in hap hj]; exact s4.exc j k (hmm j b k hj h) i
     · rw [lpb_out hb]; exact hm.exc b k h i
   have own2 : ∀ {b k : Nat}, (E.lpb E' bs).own b k -> (b ∉ bs /\ E.own b k) \/ ∃ j : Nat, bs[j]? = some b /\ E'.own j k := fun {b k} h => by
     by_cases hb : b ∈ bs
     · obtain ⟨j, hj⟩ := hin hb
       refine .inr ⟨j, hj, ?_⟩
       rcases h with h | ⟨i, v, h1, h2⟩
       · exact .inl (hmm j b k hj h)
       · rw [lpb_in hap hj] at h1; exact .inr ⟨i, v, h1, h2⟩
     · refine .inl ⟨hb, ?_⟩
       rcases h with h | ⟨i, v, h1, h2⟩
       · exact .inl h
       · rw [lpb_out hb] at h1; exact .inr ⟨i, v, h1, h2⟩
   have inO : ∀ {j k : Nat}, E'.own j k -> (∃ b, b ∈ bs /\ E.own b k) \/ w.heap.size <= k := fun h => by
     rcases s4.new _ _ h with ⟨i, h⟩ | h
     · obtain ⟨b, g1, g2⟩ := own_lpq h
       exact .inl ⟨b, List.mem_of_getElem? g1, g2⟩
     · exact .inr h
   refine hQ (E.lpb E' bs) a' w' hle rfl rfl (fun b hb i => ?_) ?_ ?_
   · by_cases hbb : b ∈ bs
     · obtain ⟨j, hj⟩ := hin hbb
       rcases kind j b hj with ⟨k, hk⟩ | ⟨i', u, hu⟩
       · exact excB b k hk i
       · rw [hb i'] at hu; cases hu
     · rw [lpb_out hbb]; exact hb i
   · refine ⟨fun i v hv => ?_, s3.sz, s3.df⟩
     rw [look_append] at hv
     split at hv
     · rename_i y hy
       cases hv
       rw [look_append] at hy
       split at hy
       · rename_i z hz
         cases hy
         rw [look_append] at hz
         split at hz
         · rename_i z' hz'
           cases hz
           obtain ⟨u, u1, u2⟩ := s3.tm i _ (by rw [look_append, look_append, hz'])
           exact ⟨u, u1, AV.flat_R (E := E') (E' := E.lpb E' bs) (fun _ _ h => h) (okF _ (look_mem hz')).2 u2⟩
         · rename_i hn'
           obtain ⟨e, e1, rfl, e3⟩ := rows_look hz
           obtain ⟨u, u1, u2, u3⟩ := s3.tm i _ (by rw [look_append, look_append, hn']; simp only; rw [e3])
           have hj := List.getElem?_eq_getElem (okR e e1).2
           refine ⟨u, u1, u2, ?_⟩
           have hg : bs.getD e.2.1 0 = bs[e.2.1]'(okR e e1).2 := by rw [List.getD_eq_getElem?_getD, hj]; rfl
           rw [hg, lpb_in hap hj]; exact u3
       · rename_i hnone
         rw [look_append] at hnone
         have hnone' : look i (outs' ++ inR rts') = none := by
           rw [look_append]
           split at hnone
           · cases hnone
           · exact rows_none hnone
         obtain ⟨j, p, b, h1, h2, h3⟩ := ptrT_mem (look_mem hy)
         simp only [Prod.mk.injEq] at h3
         obtain ⟨rfl, rfl⟩ := h3
         have hap2 : ∃ j', d.ps[j']? = some p /\ look (pT p) (ptrN 0 S.ps : List (Nat × AV F)) = some (pV p j') := by
           cases hq : look (pT p) (ptrN 0 S.ps : List (Nat × AV F)) with
           | none => exact absurd hq (fun hq => ptrN_none (t := p) hq (by rw [hSp]; exact List.mem_of_getElem? h1))
           | some y =>
             obtain ⟨j', p', z1, z2⟩ := ptrN_mem (look_mem hq)
             simp only [Prod.mk.injEq, Nat.zero_add] at z2
             obtain ⟨z2, rfl⟩ := z2
             rw [hSp] at z1
             obtain ⟨b1, y1, y2⟩ := pl2 j' p' z1
             obtain ⟨b2, y3, y4⟩ := pl2 j p h1
             rw [<- z2, y4] at y2
             obtain ⟨rfl, _⟩ := pV_inj2 z2 (Option.some.inj y2)
             exact ⟨j', z1, rfl⟩
         obtain ⟨j', z1, z2⟩ := hap2
         obtain ⟨b', zb1, zb2⟩ := pl2 j' p z1
         obtain ⟨b2, zb3, zb4⟩ := pl2 j p h1
         rw [h2] at zb3; cases zb3
         rw [zb2] at zb4
         have zb5 := pV_inj (Option.some.inj zb4)
         subst zb5
         obtain ⟨u, u1, uR⟩ := s3.tm _ _ (by rw [look_append, hnone']; simp only; rw [look_append, z2])
         obtain ⟨k, u2, u3⟩ := pV_R.1 uR
         obtain ⟨u0, _, uR0⟩ := ht.tm _ _ zb2
         obtain ⟨k0, k1, _⟩ := pV_R.1 uR0
         have hE' := hmm j' b' k0 (bsP zb1) k1
         have hkk : k0 = k := by rw [hE'] at u2; exact Option.some.inj u2
         exact ⟨u, u1, pV_R.2 ⟨k, by rw [<- hkk]; exact k1, u3⟩⟩
     · have hi := keep_keys (look_mem hv)
       rw [look_keep hi] at hv
       obtain ⟨u, u1, u2⟩ := ht.tm i v hv
       have hlt : i < nt := by rw [<- ht.sz]; exact (Array.getElem?_eq_some_iff.1 u1).1
       have hno' : look i (outs' ++ inR rts') = none := look_none fun e he e' => by
         rcases List.mem_append.1 he with he | he
         · have := (okF e he).1
           rw [e', hi] at this; cases this
         · obtain ⟨e2, h1, rfl⟩ := List.mem_map.1 he
           have := (okR e2 h1).1
           simp only at e'
           rw [e', hi] at this; cases this
       obtain ⟨u', q1, q2⟩ := s3.tm i _ (by rw [look_append, hno']; simp only; rw [look_append, hPk i hi]; exact restT_look hi hlt)
       have : u' = u := by
         have : u' = a.tmps.getD i undef := q2
         rw [this, Array.getD_eq_getD_getElem?, u1]; rfl
       subst this
       exact ⟨u', q1, u2.mono hle⟩
   · refine ⟨fun b blk hb hx => ?_, fun b blk i sz hb hx => ?_, excB, fun b b' k h1 h2 => ?_, fun b k h => ?_, fun k j f arr h => ?_, ?_, fun b k h => ?_, fun b k h => ?_, s4.bsz, fun f v hv => I.hv_mono f _ _ w' w' v (s4.fv f v hv) (fun k o hk hd => ?_) (fun _ _ => .inl rfl), fun b i v k o h1 h2 h3 => ?_⟩
     · rw [look_append] at hb
       split at hb
       · rename_i y hy
         cases hb
         obtain ⟨j, g1, g2⟩ := zip_look hy
         obtain ⟨k, vs', z1, z2, z3⟩ := s4.hp j blk (by rw [numb0_get]; exact g2) hx
         refine ⟨k, vs', ?_, z2, all2_all (fun _ _ => AC.flat_R (E := E') (E' := E.lpb E' bs) fun _ _ h => h) (okW j blk g2) z3⟩
         rcases kind j b g1 with ⟨k0, hk0⟩ | ⟨i', u, hu⟩
         · have := hmm j b k0 g1 hk0
           rw [z1] at this; cases this
           exact hk0
         · have := s4.exc j k z1 i'
           rw [hqq j b i' u g1 hu] at this; cases this
       · rename_i hno'
         obtain ⟨k, vs', z1, z2, z3⟩ := hm.hp b blk hb hx
         refine ⟨k, vs', z1, ?_, z3.mono fun _ _ => AC.R.mono hle⟩
         rw [oldB b (zipN hno') k (.inl z1)]
         exact z2
     · rw [look_append] at hb
       split at hb
       · rename_i y hy
         cases hb
         obtain ⟨j, g1, g2⟩ := zip_look hy
         exact (s4.tok j blk i sz (by rw [numb0_get]; exact g2) hx).move (fun m => lpb_in hap g1 m) fun _ _ => rfl
       · rename_i hno'
         exact (hm.tok b blk i sz hb hx).keep (fun m => lpb_out (zipN hno') m) (oldB b (zipN hno'))
     · have aux : ∀ {b b' : Nat}, b ∉ bs /\ E.own b k -> (∃ j : Nat, bs[j]? = some b' /\ E'.own j k) -> False := fun h g => by
         obtain ⟨j, _, g2⟩ := g
         rcases inO g2 with ⟨b1, q1, q2⟩ | q
         · exact h.1 (by rw [hm.inj _ _ k h.2 q2]; exact q1)
         · have := hm.loc _ k h.2; omega
       rcases own2 h1 with h | h <;> rcases own2 h2 with g | g
       · exact hm.inj b b' k h.2 g.2
       · exact (aux h g).elim
       · exact (aux g h).elim
       · obtain ⟨j, j1, j2⟩ := h
         obtain ⟨j', j3, j4⟩ := g
         have := s4.inj j j' k j2 j4
         subst this
         rw [j1] at j3; exact Option.some.inj j3
     · rcases own2 h with h | ⟨j, _, h⟩
       · exact Nat.lt_of_lt_of_le (hm.loc b k h.2) s4.kept.size
       · exact s4.loc j k h
     · exact absurd (hm.ext k j f arr h).1 (hno _ _ _)
     · refine ⟨s4.kept.os.trans hm.kept.os, s4.kept.tape.trans hm.kept.tape, s4.kept.output.trans hm.kept.output, Nat.le_trans hm.kept.size s4.kept.size, fun k hk ho => ?_⟩
       refine (blocks k (Nat.lt_of_lt_of_le hk hm.kept.size) fun b _ hb => ?_).trans (hm.kept.block k hk ho)
       rcases hm.new b k hb with h | h
       · exact ho h
       · omega
     · rcases own2 h with h | ⟨j, _, h⟩
       · exact hm.new b k h.2
       · rcases inO h with ⟨b1, _, q2⟩ | q
         · exact hm.new b1 k q2
         · exact .inr (Nat.le_trans hm.kept.size q)
     · rcases own2 h with h | ⟨j, _, h⟩
       · exact hm.low b k h.2
       · exact s4.low j k h
     · have outer : DirtX E hp bs k o -> (w0.out k o \/ DirtX E hp bs k o) /\ k < w.heap.size := fun h => by
         obtain ⟨b, _, hb⟩ := dirtO h
         exact ⟨.inr h, hm.loc b k hb⟩
       rcases hd with hd | ⟨b, hb⟩ | ⟨b, blk, i, sz, u, h1, h2, h3, h4⟩
       · exact .inl ⟨.inl hd, Nat.lt_of_lt_of_le hd.2 hm.kept.size⟩
       · by_cases hbb : b ∈ bs
         · obtain ⟨j, hj⟩ := hin hbb
           exact .inr (.inl ⟨j, hmm j b k hj hb⟩)
         · exact .inl (outer (.inl ⟨b, hbb, hb⟩))
       · rw [look_append] at h1
         split at h1
         · rename_i y hy
           cases h1
           obtain ⟨j, g1, g2⟩ := zip_look hy
           rw [lpb_in hap g1] at h3
           exact .inr (.inr ⟨j, blk, i, sz, u, by rw [numb0_get]; exact g2, h2, h3, h4⟩)
         · rename_i hno'
           rw [lpb_out (zipN hno')] at h3
           exact .inl (outer (.inr ⟨b, blk, i, sz, u, zipN hno', h1, h2, h3, h4⟩))
     · by_cases hbb : b ∈ bs
       · obtain ⟨j, hj⟩ := hin hbb
         rw [lpb_in hap hj] at h1
         exact s4.apt j i v k o h1 h2 ⟨.inl h3, Nat.lt_of_lt_of_le h3.2 hm.kept.size⟩
       · rw [lpb_out hbb] at h1
         exact hm.apt b i v k o h1 h2 h3


def Env.facts (h : F -> Value -> Prop) : Env F := ⟨fun _ => .none, fun _ _ => .none, h, fun _ _ => .none⟩
theorem own_facts {h : F -> Value -> Prop} {b k : Nat} (H : (Env.facts h).own b k) : False := by
 rcases H with H | ⟨_, _, H, _⟩ <;> cases H
def factSp (g : List (AV F) -> Option (AV F × List (Bool × Bool))) : FnSp F where
 blocks := fun _ => []
 run := fun _ args _ => match g args with
   | some (v, cd) => some ⟨v, [], cd⟩
   | none => none
theorem factSp_ok {P : Program} {I : Interp F} {c : Ctx F} (hC : CtxOk P I c) (hmix : P.follows .mixedOrders = true) {f : FuncId} {fn : Func} (hf : P.funcs[f]? = some fn) (hb : fn.body.isSome = true) (hL : LpsOk P I c.lps fn.ntmps (bodyOf fn))
   {g : List (AV F) -> Option (AV F × List (Bool × Bool))}
   (h : ∀ args v cd, g args = some (v, cd) -> (∀ p ∈ cd, p.1 = p.2) -> args.all AV.flat = true /\ v.flat = true /\ Nat.ble args.length fn.ntmps = true /\
     ∃ fuel path r, evF c fuel fn.ntmps (bodyOf fn) fn.results.toList args [] 0 path = some r /\ (∀ E u, r.val.untip.R E u -> v.R E u) /\ ∀ p ∈ r.cd, p.1 = p.2) : (factSp g).ok P I f := by
 intro E hp w slot args us bs out dt hrun ha _ hm _ hc
 simp only [factSp] at hrun
 split at hrun
 · rename_i v cd hg
   cases hrun
   obtain ⟨h1, h2, h3, fuel, path, r, h4, h5, h6⟩ := h args v cd hg hc
   have hb' : fn.body = some (bodyOf fn) := by
     unfold bodyOf
     cases hfb : fn.body with
     | none => rw [hfb] at hb; cases hb
     | some c => rfl
   have hm0 : Mem I ⟨w, (Env.facts E.h).ran, Dt ⟨w, E.ran, dt⟩ E hp⟩ (Env.facts E.h) [] w := by
     refine ⟨fun b blk h => by simp [look] at h, fun b blk n sz h => by simp [look] at h, fun _ _ _ _ => rfl, fun b b' k h => (own_facts h).elim, fun b k h => (own_facts h).elim, fun k j f arr h => by (cases h), ⟨rfl, rfl, rfl, Nat.le_refl _, fun _ _ _ => rfl⟩, fun b k h => (own_facts h).elim, fun b k h => (own_facts h).elim, hm.bsz,
       fun f v hv => I.hv_mono f _ _ w w v (hm.fv f v hv) (fun k o _ hd => ?_) (fun _ _ => .inl rfl), fun _ _ _ _ _ h => by cases h⟩
     rcases hd with hd | ⟨_, hd⟩ | ⟨_, _, _, _, _, hd, _⟩
     · exact hd.1
     · cases hd
     · simp [look] at hd
   have hargs : All2 (AV.R (Env.facts E.h)) args us := all2_all (R := AV.R E) (S := AV.R (Env.facts E.h)) (p := AV.flat) (fun _ _ hfl r => AV.flat_R (E := E) (E' := Env.facts E.h) (fun _ _ h => h) hfl r) h1 ha
   refine (evF_calls hC hmix hf hb' hL h4 h6 (Nat.le_of_ble_eq_true h3) hargs hm0 (fun _ _ => ⟨rfl, fun _ => rfl, fun _ => rfl⟩)).mono ?_
   rintro e w' ⟨E', u, _, rfl, q2, q3⟩
   have hbel : Below w.heap.size w w' := ⟨q3.kept.os, q3.kept.tape, q3.kept.output, q3.kept.size, fun k hk => q3.kept.block k hk fun ⟨b, hb⟩ => own_facts hb⟩
   refine ⟨E.addh E'.h, u, But.addh _ _ _, rfl, AV.flat_R (E := E') (E' := E.addh E'.h) (fun _ _ h => .inr h) h2 (h5 _ _ (AV.untip_R q2)), (hm.below hbel).addh fun f v hv => I.hv_mono f _ _ w' w' v (q3.fv f v hv) (fun k o _ hd => .inl ⟨hd, ?_⟩) fun _ _ => .inl rfl⟩
   rcases hd with hd | ⟨b, hd⟩ | ⟨b, _, n, _, v, _, _, d3, d4, _⟩
   · exact hd.2
   · exact hm.loc b k (.inl hd)
   · exact hm.loc b k (.inr ⟨n, v, d3, d4⟩)
 · cases hrun
theorem LpOk.rows {P : Program} {I : Interp F} {nl : TypeId -> Option F} {h : ∀ t g D w, nl t = some g -> I.hv g D w (.slice none 0 0)} {nt : Nat} {x : Code} {sp : LpSp F} (H : LpOk P I nt x sp) : LpOk P (I.rows nl h) nt x sp :=
 ⟨H.keys, fun tm hp β ex outs wb cd h1 h1' h2 ro ds E w0 a w Q h3 h4 h5 => H.run tm hp β ex outs wb cd h1 h1' h2 ro ds E w0 a w Q h3 (Mem.rows.1 h4) fun E' a' w' q1 q2 q3 q4 q5 q6 => h5 E' a' w' q1 q2 q3 q4 q5 (Mem.rows.2 q6)⟩
theorem factR_ok {P : Program} {I : Interp F} {c : Ctx F} (hC : CtxOk P I c) (hmix : P.follows .mixedOrders = true) {f : FuncId} {fn : Func} (hf : P.funcs[f]? = some fn) (hb : fn.body.isSome = true) (hL : LpsOk P I c.lps fn.ntmps (bodyOf fn))
   {g : List (AV F) -> Option (AV F × List (Bool × Bool))}
   (h : ∀ args v cd, g args = some (v, cd) -> (∀ p ∈ cd, p.1 = p.2) -> args.all AV.flat = true /\ v.flat = true /\ Nat.ble args.length fn.ntmps = true /\
     ∃ path x cd', evR c fn args path = some (x, cd') /\ (∀ E u, x.untip.R E u -> v.R E u) /\ ∀ p ∈ cd', p.1 = p.2) : (factSp g).ok P I f :=
 factSp_ok hC hmix hf hb hL fun args v cd h1 h2 => by
   obtain ⟨g1, g2, g3, path, x, cd', g4, g5, g6⟩ := h args v cd h1 h2
   refine ⟨g1, g2, g3, 400, .fix path, ?_⟩
   unfold evR at g4
   split at g4
   · rename_i r hr
     split at g4
     · cases g4
       exact ⟨r, hr, g5, g6⟩
     · cases g4
   · cases g4
end Go.Proofs.YtmhhdedekblbnaaGreat.Ev
