/-
  Loops whose only local blocks are what one closure has captured: sort.Search and its like.
  Conditions: those of each theorem.
-/
import Derived.Test.YtiamhppdacfmmaaEv2
set_option linter.unusedVariables false
set_option linter.unusedSimpArgs false
namespace Go.Proofs.Ytiamhppdacfmmaa.Ev
open Go.RowKit
variable {F : Type}
variable {ds : List Deferred} {ro : Option Nat}

/-- A closure over whole blocks. -/
def clV (f : Nat) (bs : List Nat) : AV F := .w (.one (.fnc f (bs.map fun b => (b, 0))))
def upN : Nat → Nat → List Nat
  | _, 0 => []
  | i, n + 1 => i :: upN (i + 1) n
def capsB : List (Nat × Nat) → Option (List Nat)
  | [] => some []
  | (b, 0) :: r => match capsB r with
    | some l => some (b :: l)
    | none => none
  | _ :: _ => none
def clB (f : Nat) (x : AV F) : Option (List Nat) := match x with
  | .w (.one (.fnc g caps)) => bif Nat.beq f g then capsB caps else none
  | _ => none
theorem capsB_eq : ∀ {c : List (Nat × Nat)} {bs : List Nat}, capsB c = some bs → c = bs.map fun b => (b, 0)
  | [], bs, h => by cases h; rfl
  | (b, 0) :: r, bs, h => by
    simp only [capsB] at h
    split at h
    · rename_i l hl
      cases h
      rw [capsB_eq hl]; rfl
    · cases h
  | (b, n + 1) :: r, bs, h => by simp [capsB] at h
theorem clB_eq {f : Nat} {x : AV F} {bs : List Nat} (h : clB f x = some bs) : x = clV f bs := by
  unfold clB at h
  split at h
  · rename_i g caps
    cases hb : Nat.beq f g with
    | false => rw [hb] at h; cases h
    | true =>
      rw [hb] at h
      rw [capsB_eq h, ← Nat.eq_of_beq_eq_true hb]; rfl
  · cases h
theorem caps_m {E : Env F} : ∀ {bs : List Nat} {us : List Value}, All2 (PtrR E) (bs.map fun b => (b, 0)) us → ∀ {j b : Nat}, bs[j]? = some b → ∃ k, E.m b = some k
  | [], us, h, j, b, hj => by simp at hj
  | c :: bs, us, h, j, b, hj => by
    cases h with
    | cons r h =>
      cases j with
      | zero =>
        simp at hj; subst hj
        obtain ⟨k, h1, _⟩ := r
        exact ⟨k, h1⟩
      | succ j => exact caps_m h (by simpa using hj)
theorem clV_m {E : Env F} {f : Nat} {bs : List Nat} {u : Value} (h : (clV f bs : AV F).R E u) {j b : Nat} (hj : bs[j]? = some b) : ∃ k, E.m b = some k := by
  obtain ⟨us, rfl, h⟩ := h
  exact caps_m h hj
theorem caps_lp {E : Env F} {bs : List Nat} : ∀ {l : List Nat} {i : Nat} {us : List Value}, (∀ j b : Nat, l[j]? = some b → bs[i + j]? = some b) → All2 (PtrR E) (l.map fun b => (b, 0)) us → All2 (PtrR (E.lp bs)) ((upN i l.length).map fun b => (b, 0)) us
  | [], i, us, hl, h => by cases h; exact .nil
  | c :: l, i, us, hl, h => by
    cases h with
    | cons r h =>
      obtain ⟨k, h1, h2⟩ := r
      refine .cons ⟨k, ?_, h2⟩ (caps_lp (i := i + 1) (fun j b hj => ?_) h)
      · show (E.lp bs).m i = some k
        rw [Env.lp_m (show bs[i]? = some c from hl 0 c (by simp))]; exact h1
      · have := hl (j + 1) b (by simpa using hj)
        rw [show i + 1 + j = i + (j + 1) by omega]; exact this
theorem clV_lp {E : Env F} {f : Nat} {bs : List Nat} {u : Value} (h : (clV f bs : AV F).R E u) : (clV f (upN 0 bs.length) : AV F).R (E.lp bs) u := by
  obtain ⟨us, rfl, h⟩ := h
  exact ⟨us, rfl, caps_lp (i := 0) (fun j b hj => by rw [Nat.zero_add]; exact hj) h⟩
/-- What a loop over a closure is given: ts: the temporaries of its state (flat values), cl: the closure's, fn: its function, m: how many blocks it has captured. -/
structure LpDefK (σ F : Type) where
  ts : List Nat
  cl : Nat
  fn : Nat
  m : Nat
  W : List Nat
  dec : List (AV F) → List (Blk F) → Option σ
  spec : σ → Option (Ex × List (Nat × AV F) × List (Blk F) × List (Bool × Bool))
def LpDefK.sp {σ : Type} (d : LpDefK σ F) (safe : TypeId → Bool) : LpSp F where
  W := d.W
  fk := fun _ _ => none
  run := fun tm hp _ => match vals tm d.ts with
    | none => none
    | some vs => match look d.cl tm with
      | none => none
      | some x => match clB d.fn x with
        | none => none
        | some bs => bif apart bs && Nat.beq bs.length d.m then (match looks hp bs with
          | none => none
          | some ks => match d.dec vs ks with
            | none => none
            | some s => match d.spec s with
              | none => none
              | some (ex, outs, wb, cd) => bif okB safe ks wb && outs.all (fun e => memN e.1 d.W && e.2.flat) then some (ex, outs, bs.zip wb, cd) else none) else none
theorem lpK_ok {P : Program} {I : Interp F} {c : Ctx F} (hC : CtxOk P I c) (hmix : P.follows .mixedOrders = true) {nt : Nat} {pos : List Bool} {code0 x : Code} (hat : codeAt code0 pos = some (.loop x)) (hL : LpsOk P I c.lps nt code0)
    {σ : Type} {S : LpSt σ F} {step : σ → Nxt σ F} {d : LpDefK σ F} {safe : TypeId → Bool} (hsafe : ∀ t, safe t = true → I.safe t = true)
    (hW : (touch c.lps nt x (false :: pos)).all (fun i => memN i d.W) = true) (hps : (d.cl :: d.ts).all (fun i => memN i d.W) = true)
    (hdec : ∀ vs ks s, vs.length = d.ts.length → d.dec vs ks = some s → ks.length = d.m → S.hp s = ks ∧ ∀ e ∈ S.tm s, e ∈ d.ts.zip vs ∨ e = (d.cl, clV d.fn (upN 0 d.m)))
    (hSp : S.ps = [])
    (hK : ∀ s e, e ∈ S.tm s → memN e.1 d.W = true)
    (hrd : ∀ s, (step s).isBad = false → ∀ rest, ∃ fuel path r, evC c fuel nt (false :: pos) x (S.tm s ++ (ptrN 0 S.ps ++ rest)) (numb 0 (S.hp s)) d.m path = some r ∧ (∀ p ∈ r.cd, p.1 = p.2) ∧ Gives S d.m r (step s))
    (hspec : ∀ s ex outs wb cd, d.spec s = some (ex, outs, wb, cd) → (∀ p ∈ cd, p.1 = p.2) → ∃ n, runs step n s = some (ex, outs, wb)) : LpOk P I nt x (d.sp safe) := by
  have inW : ∀ i, memN i d.W = false → memN i (touch c.lps nt x (false :: pos)) = false := fun i hi => by
    cases h : memN i (touch c.lps nt x (false :: pos)) with
    | false => rfl
    | true => have := (List.all_eq_true.1 hW) i (memN_iff.1 h); rw [hi] at this; cases this
  refine ⟨fun tm hp β ex outs wb cd hrun e he => ?_, fun tm hp β ex outs wb cd hrun _ hc ro ds E w0 a w Q ht hm hQ => ?_⟩
  · simp only [LpDefK.sp] at hrun ⊢
    split at hrun
    · cases hrun
    split at hrun
    · cases hrun
    split at hrun
    · cases hrun
    rename_i bs hbs
    cases hap : apart bs && Nat.beq bs.length d.m with
    | false => rw [hap] at hrun; cases hrun
    | true =>
      rw [hap] at hrun; simp only [cond_true] at hrun
      split at hrun
      · cases hrun
      split at hrun
      · cases hrun
      split at hrun
      · cases hrun
      rename_i ex' outs' wb' cd' hsp
      cases hok : okB safe _ wb' && outs'.all (fun e => memN e.1 d.W && e.2.flat) with
      | false => rw [hok] at hrun; cases hrun
      | true =>
        rw [hok] at hrun; simp only [cond_true] at hrun
        cases hrun
        simp only [Bool.and_eq_true] at hok
        have := List.all_eq_true.1 hok.2 e he
        simp only [Bool.and_eq_true] at this
        exact this.1
  · simp only [LpDefK.sp] at hrun hQ
    split at hrun
    · cases hrun
    rename_i vs hvs
    split at hrun
    · cases hrun
    rename_i xc hxc
    split at hrun
    · cases hrun
    rename_i bs hbs
    cases hap0 : apart bs && Nat.beq bs.length d.m with
    | false => rw [hap0] at hrun; cases hrun
    | true =>
    rw [hap0] at hrun; simp only [cond_true] at hrun
    rw [Bool.and_eq_true] at hap0
    obtain ⟨hap, hbl⟩ := hap0
    have pl1 : d.m = bs.length := (Nat.eq_of_beq_eq_true hbl).symm
    have hxv := clB_eq hbs
    split at hrun
    · cases hrun
    rename_i ks hks
    split at hrun
    · cases hrun
    rename_i s hs
    split at hrun
    · cases hrun
    rename_i ex' outs' wb' cd' hsp
    cases hok : okB safe ks wb' && outs'.all (fun e => memN e.1 d.W && e.2.flat) with
    | false => rw [hok] at hrun; cases hrun
    | true =>
    rw [hok] at hrun; simp only [cond_true] at hrun
    cases hrun
    simp only [Bool.and_eq_true] at hok
    obtain ⟨ok1, ok2⟩ := okB_get hok.1
    have okW : ∀ (j : Nat) (y : Blk F), wb'[j]? = some y → y.cs.all AC.flat = true := fun j y hy => by
      have hl : j < ks.length := by rw [ok1]; exact (List.getElem?_eq_some_iff.1 hy).1
      exact (ok2 j ks[j] y (List.getElem?_eq_getElem hl) hy).2.2.2
    have okF : ∀ e ∈ outs, e.2.flat = true := fun e he => by have := (List.all_eq_true.1 hok.2) e he; simp only [Bool.and_eq_true] at this; exact this.2
    obtain ⟨n, hn⟩ := hspec s ex outs wb' cd hsp hc
    rw [hxv] at hxc
    obtain ⟨uc, uc1, ucR⟩ := ht.tm _ _ hxc
    obtain ⟨kl1, kl2⟩ := looks_get hks
    have hvl : vs.length = d.ts.length := by
      have : ∀ {ts : List Nat} {vs : List (AV F)}, vals tm ts = some vs → vs.length = ts.length := by
        intro ts
        induction ts with
        | nil => intro vs h; cases h; rfl
        | cons t ts ih =>
          intro vs h
          simp only [vals] at h
          split at h
          · rename_i v hv
            cases hf : v.untip.flat with
            | false => rw [hf] at h; cases h
            | true =>
              rw [hf] at h; simp only [cond_true] at h
              split at h
              · rename_i l hl; cases h; simp [ih hl]
              · cases h
          · cases h
      exact this hvs
    obtain ⟨hhp, htm⟩ := hdec vs ks s hvl hs (by rw [← kl1, ← pl1])
    have hlen : ks.length = d.m := by rw [← kl1, ← pl1]
    -- the loop's own world
    have hT0 : Tms ds (E.lp bs) nt (S.tm s ++ (ptrN 0 S.ps ++ restT d.W a nt)) a := by
      refine ⟨fun i v hv => ?_, ht.sz, ht.df⟩
      rw [look_append] at hv
      split at hv
      · rename_i y hy
        cases hv
        rcases htm _ (look_mem hy) with hz | hz
        · obtain ⟨y, z1, z0, z2⟩ := vals_look hvs _ hz
          obtain ⟨u, u1, u2⟩ := ht.tm i _ z1
          replace u2 := AV.untip_R u2
          rw [z0] at u2
          exact ⟨u, u1, AV.flat_R (E := E) (E' := E.lp bs) (fun _ _ h => h) z2 u2⟩
        · obtain ⟨e1, e2⟩ := Prod.mk.inj hz
          subst e1
          subst e2
          rw [pl1]
          exact ⟨uc, uc1, clV_lp ucR⟩
      rw [look_append] at hv
      split at hv
      · rename_i y hy
        cases hv
        rw [hSp] at hy; cases hy
      · obtain ⟨h1, h2, h3⟩ := restT_mem (look_mem hv)
        simp only at h1 h2 h3
        subst h3
        have hlt : i < a.tmps.size := by rw [ht.sz]; exact h1
        refine ⟨a.tmps.getD i undef, ?_, rfl⟩
        rw [Array.getD_eq_getD_getElem?, Array.getElem?_eq_getElem hlt]; rfl
    have hPk : ∀ i, memN i d.W = false → look i (ptrN 0 S.ps : List (Nat × AV F)) = none := fun i hi => by rw [hSp]; rfl
    have hbm : ∀ (j b : Nat), bs[j]? = some b → ∃ k, E.m b = some k := fun j b hj => clV_m ucR hj
    have plainB : ∀ (j b : Nat) (x : Blk F), bs[j]? = some b → look b hp = some x → x.tok = none := fun j b x hj hx => by
      obtain ⟨k, hk⟩ := hbm j b hj
      exact hm.plain hx hk
    have hM0 : Mem I ⟨w, (E.lp bs).ran, Dt w0 E hp⟩ (E.lp bs) (numb 0 (S.hp s)) w := by
      have getB : ∀ b blk, look b (numb 0 (S.hp s)) = some blk → ∃ b', bs[b]? = some b' ∧ look b' hp = some blk := fun b blk hb => by
        rw [hhp, numb0_get] at hb
        have hbl : b < bs.length := by rw [kl1]; exact (List.getElem?_eq_some_iff.1 hb).1
        obtain ⟨k', g1, g2⟩ := kl2 b bs[b] (List.getElem?_eq_getElem hbl)
        rw [hb] at g1; cases g1
        exact ⟨bs[b], List.getElem?_eq_getElem hbl, g2⟩
      refine ⟨fun b blk hb _ => ?_, fun b blk n sz hb ht => ?_, fun _ _ _ _ => rfl, fun i j k h1 h2 => ?_, fun i k h => ?_, fun k j f arr h => by (cases h), ⟨rfl, rfl, rfl, Nat.le_refl _, fun _ _ _ => rfl⟩, fun i k h => .inl ⟨i, h⟩, fun i k h => ?_, hm.bsz, fun f v hv => I.hv_mono f _ _ w w v (hm.fv f v hv) (fun k o _ hd => ?_) (fun _ _ => .inl rfl), fun _ _ _ _ _ h => by cases h⟩
      · rw [hhp, numb0_get] at hb
        have hbl : b < bs.length := by rw [kl1]; exact (List.getElem?_eq_some_iff.1 hb).1
        obtain ⟨k', g1, g2⟩ := kl2 b bs[b] (List.getElem?_eq_getElem hbl)
        rw [hb] at g1; cases g1
        obtain ⟨k, vs', z1, z2, z3⟩ := hm.hp _ _ g2 (plainB b _ blk (List.getElem?_eq_getElem hbl) g2)
        refine ⟨k, vs', by rw [Env.lp_m (List.getElem?_eq_getElem hbl)]; exact z1, z2, ?_⟩
        have hwl : b < wb'.length := by rw [← ok1, ← kl1]; exact hbl
        exact all2_all (fun _ _ => AC.flat_R (E := E) (E' := E.lp bs) fun _ _ h => h) (ok2 b blk wb'[b] hb (List.getElem?_eq_getElem hwl)).2.2.1 z3
      · obtain ⟨b', g1, g2⟩ := getB b blk hb
        rw [plainB b b' blk g1 g2] at ht; cases ht
      · obtain ⟨b1, g1, g2⟩ := own_lp h1
        obtain ⟨b2, q1, q2⟩ := own_lp h2
        have := hm.inj b1 b2 k (.inl g2) (.inl q2)
        subst this
        exact apart_inj hap i j b1 g1 q1
      · obtain ⟨b1, g1, g2⟩ := own_lp h; exact hm.loc b1 k (.inl g2)
      · obtain ⟨b1, g1, g2⟩ := own_lp h; exact hm.low b1 k (.inl g2)
      · rcases hd with hd | ⟨b, hb⟩ | ⟨_, _, _, _, _, _, _, h3, _⟩
        · exact hd.1
        · obtain ⟨b1, g1, g2⟩ := lp_some hb; exact .inr (.inl ⟨b1, g2⟩)
        · cases h3
    have hF0 : Free d.m (E.lp bs) := fun i hi => ⟨by
      show (match bs[i]? with | some b => E.m b | .none => .none) = .none
      rw [List.getElem?_eq_none (by omega)], fun _ => rfl, fun _ => rfl⟩
    refine wpIn_loop_rounds n (rounds_ok hC hmix hat hL (S := S) (W := d.W) inW hrd hK (fun p hp => by rw [hSp] at hp; cases hp) (by rw [hSp]; exact Nat.zero_le _) (fun e he => ⟨(restT_mem he).2.1, by rw [(restT_mem he).2.2]; rfl⟩) n s ex outs wb' hn (E.lp bs) a w Q hT0 hM0 hF0 fun E' a' w' s1 s2 _ s3 s4 => ?_)
    -- back to the outer world
    have hle : E.le { E with h := E'.h } := ⟨fun _ _ h => h, fun _ _ _ h => h, fun f v h => s1 f v h, fun _ _ _ h => h⟩
    have hmm : ∀ j b k, bs[j]? = some b → E.m b = some k → E'.m j = some k := fun j b k hj hk => by
      have hjl : j < d.m := by rw [pl1]; exact (List.getElem?_eq_some_iff.1 hj).1
      exact s2 j k (by rw [Nat.blt_eq]; exact hjl) (by rw [Env.lp_m hj]; exact hk)
    have blocks : ∀ k, k < w.heap.size → (∀ j b, bs[j]? = some b → E.m b ≠ some k) → w'.heap[k]? = w.heap[k]? := fun k hk hne =>
      s4.kept.block k hk fun ⟨j, hj⟩ => by
        obtain ⟨b, g1, g2⟩ := own_lp hj
        exact hne j b g1 g2
    refine hQ { E with h := E'.h } a' w' hle rfl rfl (fun _ h => h) ?_ ?_
    · refine ⟨fun i v hv => ?_, s3.sz, s3.df⟩
      rw [look_append] at hv
      split at hv
      · rename_i y hy
        cases hv
        obtain ⟨u, u1, u2⟩ := s3.tm i _ (by rw [look_append, hy])
        exact ⟨u, u1, AV.flat_R (E := E') (E' := { E with h := E'.h }) (fun _ _ h => h) (okF _ (look_mem hy)) u2⟩
      · have hi := keep_keys (look_mem hv)
        rw [look_keep hi] at hv
        obtain ⟨u, u1, u2⟩ := ht.tm i v hv
        have hlt : i < nt := by rw [← ht.sz]; exact (Array.getElem?_eq_some_iff.1 u1).1
        have hno : look i outs = none := look_none fun e he e' => by
          have := (List.all_eq_true.1 hok.2) e he
          simp only [Bool.and_eq_true] at this
          rw [e'] at this; rw [hi] at this; cases this.1
        obtain ⟨u', q1, q2⟩ := s3.tm i _ (by rw [look_append, hno]; simp only; rw [look_append, hPk i hi]; exact restT_look hi hlt)
        have : u' = u := by
          have : u' = a.tmps.getD i undef := q2
          rw [this, Array.getD_eq_getD_getElem?, u1]; rfl
        subst this
        exact ⟨u', q1, u2.mono hle⟩
    · have inE' : ∀ (j b : Nat), bs[j]? = some b → ∃ k, E.m b = some k ∧ E'.m j = some k := fun j b hj => by
        obtain ⟨k, hk⟩ := hbm j b hj
        exact ⟨k, hk, hmm j b k hj hk⟩
      have plainW : ∀ (j b : Nat) (y : Blk F), bs[j]? = some b → wb'[j]? = some y → y.tok = none := fun j b y hj hy => by
        obtain ⟨k, _, hk⟩ := inE' j b hj
        exact s4.plain (b := j) (by rw [numb0_get]; exact hy) hk
      have oldB : ∀ b, look b (bs.zip wb') = none → ∀ k, E.own b k → w'.heap[k]? = w.heap[k]? := fun b hno k hk =>
        blocks k (hm.loc b k hk) fun j b' hj hk' => by
          have := hm.inj b' b k (.inl hk') hk
          subst this
          exact zip_none (by rw [kl1, ok1]) hno (List.mem_of_getElem? hj)
      refine ⟨fun b blk hb hx => ?_, fun b blk n sz hb hx => ?_, hm.exc, hm.inj, fun b k h => Nat.lt_of_lt_of_le (hm.loc b k h) s4.kept.size, fun k j f arr h => ?_, ?_, hm.new, hm.low, s4.bsz, fun f v hv => I.hv_mono f _ _ w' w' v (s4.fv f v hv) (fun k o _ hd => ?_) (fun _ _ => .inl rfl), hm.apt⟩
      · rw [look_append] at hb
        split at hb
        · rename_i y hy
          cases hb
          obtain ⟨j, g1, g2⟩ := zip_look hy
          obtain ⟨k, vs', z1, z2, z3⟩ := s4.hp j blk (by rw [numb0_get]; exact g2) hx
          have hkl : j < ks.length := by rw [ok1]; exact (List.getElem?_eq_some_iff.1 g2).1
          obtain ⟨x0, q1, q2⟩ := kl2 j b g1
          obtain ⟨k0, _, y1, _, _⟩ := hm.hp b x0 q2 (plainB j b x0 g1 q2)
          have := hmm j b k0 g1 y1
          rw [z1] at this; cases this
          exact ⟨k, vs', y1, z2, all2_all (fun _ _ => AC.flat_R (E := E') (E' := { E with h := E'.h }) fun _ _ h => h) (okW j blk g2) z3⟩
        · rename_i hno
          obtain ⟨k, vs', z1, z2, z3⟩ := hm.hp b blk hb hx
          refine ⟨k, vs', z1, ?_, z3.mono fun _ _ => AC.R.mono hle⟩
          rw [oldB b hno k (.inl z1)]
          exact z2
      · rw [look_append] at hb
        split at hb
        · rename_i y hy
          cases hb
          obtain ⟨j, g1, g2⟩ := zip_look hy
          rw [plainW j b blk g1 g2] at hx; cases hx
        · rename_i hno
          exact (hm.tok b blk n sz hb hx).keep (fun _ => rfl) (oldB b hno)
      · obtain ⟨g1, g2⟩ := hm.ext k j f arr h
        refine ⟨I.mono f w _ arr g1 fun i hi => ?_, g2⟩
        by_cases hown : ∃ (j : Nat) (b : Nat), bs[j]? = some b ∧ E.m b = some i
        · obtain ⟨j, b, hj, hk⟩ := hown
          obtain ⟨x0, q1, q2⟩ := kl2 j b hj
          obtain ⟨k0, vs0, y1, y2, _⟩ := hm.hp b x0 q2 (plainB j b x0 hj q2)
          rw [hk] at y1; cases y1
          have hwl : j < wb'.length := by rw [← ok1]; exact (List.getElem?_eq_some_iff.1 q1).1
          obtain ⟨k1, vs1, z1, z2, _⟩ := s4.hp j wb'[j] (by rw [numb0_get]; exact List.getElem?_eq_getElem hwl) (plainW j b _ hj (List.getElem?_eq_getElem hwl))
          have hik := hmm j b i hj hk
          rw [z1] at hik
          have hik : k1 = i := Option.some.inj hik
          obtain ⟨t1, t2, _⟩ := ok2 j x0 wb'[j] q1 (List.getElem?_eq_getElem hwl)
          exact .inr ⟨hm.low b i (.inl hk), _, _, _, _, y2, hsafe _ (t1 ▸ t2), by rw [t1, ← hik]; exact z2⟩
        · exact .inl (blocks i hi fun j b hj hk => hown ⟨j, b, hj, hk⟩)
      · refine ⟨s4.kept.os.trans hm.kept.os, s4.kept.tape.trans hm.kept.tape, s4.kept.output.trans hm.kept.output, Nat.le_trans hm.kept.size s4.kept.size, fun k hk ho => ?_⟩
        refine (blocks k (Nat.lt_of_lt_of_le hk hm.kept.size) fun j b hj hb => ?_).trans (hm.kept.block k hk ho)
        rcases hm.new b k (.inl hb) with h | h
        · exact ho h
        · omega
      · have lt1 : ∀ {k o}, Dirt E hp k o → k < w.heap.size := fun h => by
          rcases h with ⟨b, hb⟩ | ⟨b, _, n, _, u, _, _, h3, h4, _⟩
          · exact hm.loc b _ (.inl hb)
          · exact hm.loc b _ (.inr ⟨n, u, h3, h4⟩)
        rcases hd with hd | ⟨b, hb⟩ | ⟨b, blk, n, sz, u, h1, h2, h3⟩
        · exact .inl ⟨.inl hd, Nat.lt_of_lt_of_le hd.2 hm.kept.size⟩
        · exact .inl ⟨.inr (.inl ⟨b, hb⟩), hm.loc b _ (.inl hb)⟩
        · rw [look_append] at h1
          split at h1
          · rename_i y hy
            cases h1
            obtain ⟨j, g1, g2⟩ := zip_look hy
            rw [plainW j b blk g1 g2] at h2; cases h2
          · exact .inl ⟨.inr (.inr ⟨b, blk, n, sz, u, h1, h2, h3⟩), lt1 (.inr ⟨b, blk, n, sz, u, h1, h2, h3⟩)⟩

/-- One loop, two specifications: the first that reads its state. -/
def LpSp.or (a b : LpSp F) : LpSp F where
  W := a.W
  fk := fun _ _ => none
  run := fun tm hp β => match a.run tm hp β with
    | some r => some r
    | none => b.run tm hp β
theorem lpOr_ok {P : Program} {I : Interp F} {nt : Nat} {x : Code} {a b : LpSp F} (ha : LpOk P I nt x a) (hb : LpOk P I nt x b) (hw : b.W = a.W) (fa : ∀ tm hp, a.fk tm hp = none) (fb : ∀ tm hp, b.fk tm hp = none) : LpOk P I nt x (a.or b) := by
  refine ⟨fun tm hp β ex outs wb cd hrun => ?_, fun tm hp β ex outs wb cd hrun _ hc ro ds E w0 A w Q ht hm hQ => ?_⟩
  · simp only [LpSp.or] at hrun ⊢
    split at hrun
    · rename_i r hr
      cases hrun
      exact ha.keys tm hp β ex outs wb cd hr
    · have := hb.keys tm hp β ex outs wb cd hrun
      rw [hw] at this; exact this
  · simp only [LpSp.or] at hrun hQ
    split at hrun
    · rename_i r hr
      cases hrun
      exact ha.run tm hp β ex outs wb cd hr (fun b h => by rw [fa] at h; cases h) hc ro ds E w0 A w Q ht hm hQ
    · refine hb.run tm hp β ex outs wb cd hrun (fun b h => by rw [fb] at h; cases h) hc ro ds E w0 A w Q ht hm ?_
      rw [hw]; exact hQ
end Go.Proofs.Ytiamhppdacfmmaa.Ev

