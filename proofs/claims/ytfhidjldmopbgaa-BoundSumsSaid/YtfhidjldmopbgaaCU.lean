/-
  A function walked under one interpretation up to a place in its body, and under another behind it: what no one needs any more is forgotten there.
  Conditions: those of each theorem; the place stands between two codes of the body's sequence.
-/
import Derived.Test.YtfhidjldmopbgaaRG
set_option linter.unusedVariables false
set_option linter.unusedSimpArgs false
namespace Go.Proofs.Ytfhidjldmopbgaa.Ev
open Go.RowKit
variable {F G : Type}

/-- A slot's new number: its place in the list. -/
def idxN (b : Nat) : List Nat → Nat → Option Nat
  | [], _ => none
  | x :: r, j => bif Nat.beq x b then some j else idxN b r (j + 1)
theorem idxN_get {b : Nat} : ∀ {ks : List Nat} {j k : Nat}, idxN b ks j = some k → j ≤ k ∧ ks[k - j]? = some b
  | [], j, k, h => by cases h
  | x :: r, j, k, h => by
    unfold idxN at h
    cases hx : Nat.beq x b with
    | true =>
      rw [hx] at h
      cases h
      obtain rfl := Nat.eq_of_beq_eq_true hx
      exact ⟨Nat.le_refl _, by simp⟩
    | false =>
      rw [hx] at h
      obtain ⟨g1, g2⟩ := idxN_get h
      refine ⟨by omega, ?_⟩
      rw [show k - j = (k - (j + 1)) + 1 by omega, List.getElem?_cons_succ]
      exact g2
def mvC (ks : List Nat) (conv : F → Option G) : AC F → Option (AC G)
  | .int k n => some (.int k n)
  | .bool b => some (.bool b)
  | .yes b => some (.bool b)
  | .lit v => some (.lit v)
  | .ptr b o => match idxN b ks 0 with
    | some j => some (.ptr j o)
    | none => none
  | .fv f => match conv f with
    | some g => some (.fv g)
    | none => none
  | _ => none
def mvCs (ks : List Nat) (conv : F → Option G) : List (AC F) → Option (List (AC G))
  | [] => some []
  | c :: r => match mvC ks conv c with
    | some x => match mvCs ks conv r with
      | some l => some (x :: l)
      | none => none
    | none => none
def mvV (ks : List Nat) (conv : F → Option G) : AV F → Option (AV G)
  | .w (.one c) => match mvC ks conv c with
    | some x => some (.w (.one x))
    | none => none
  | .w (.agg cs) => match mvCs ks conv cs with
    | some l => some (.w (.agg l))
    | none => none
  | .tup _ => none
def mvB (ks : List Nat) (conv : F → Option G) (b : Blk F) : Option (Blk G) := match mvCs ks conv b.cs with
  | some l => some ⟨b.ty, l⟩
  | none => none
def mvE (ks : List Nat) (conv : F → Option G) (E : Env F) : Env G := ⟨fun j => (ks[j]?).bind E.m, fun _ _ => none, fun g v => ∃ f, conv f = some g ∧ E.h f v, fun _ _ => none⟩
theorem mvC_R {ks : List Nat} {conv : F → Option G} {E : Env F} {c : AC F} {c' : AC G} {v : Value} (h : mvC ks conv c = some c') (H : c.R E v) : c'.R (mvE ks conv E) v := by
  unfold mvC at h
  split at h
  · cases h; exact H
  · cases h; exact H
  · cases h; exact H
  · cases h; exact H
  · split at h
    · rename_i j hj
      cases h
      obtain ⟨k, h1, h2⟩ := H
      refine ⟨k, ?_, h2⟩
      show (ks[j]?).bind E.m = some k
      have := (idxN_get hj).2
      rw [Nat.sub_zero] at this
      rw [this]
      exact h1
    · cases h
  · split at h
    · rename_i f _ g hg
      cases h
      exact ⟨f, hg, H⟩
    · cases h
  · cases h
theorem mvCs_R {ks : List Nat} {conv : F → Option G} {E : Env F} : ∀ {cs : List (AC F)} {cs' : List (AC G)} {vs : List Value}, mvCs ks conv cs = some cs' → All2 (AC.R E) cs vs → All2 (AC.R (mvE ks conv E)) cs' vs
  | [], cs', vs, h, H => by cases h; cases H; exact .nil
  | c :: r, cs', vs, h, H => by
    cases H with
    | cons q H =>
      unfold mvCs at h
      split at h
      · rename_i x hx
        split at h
        · rename_i l hl
          cases h
          exact .cons (mvC_R hx q) (mvCs_R hl H)
        · cases h
      · cases h
theorem mvV_R {ks : List Nat} {conv : F → Option G} {E : Env F} {x : AV F} {x' : AV G} {v : Value} (h : mvV ks conv x = some x') (H : x.R E v) : x'.R (mvE ks conv E) v := by
  unfold mvV at h
  split at h
  · split at h
    · rename_i y hy
      cases h
      exact mvC_R hy H
    · cases h
  · split at h
    · rename_i y hy
      cases h
      obtain ⟨vs, rfl, H⟩ := H
      exact ⟨vs, rfl, mvCs_R hy H⟩
    · cases h
  · cases h
theorem mvC_tok {ks : List Nat} {conv : F → Option G} {c : AC F} {c' : AC G} (h : mvC ks conv c = some c') : (⟨0, [c]⟩ : Blk F).tok = none ∧ (⟨0, [c']⟩ : Blk G).tok = none := by
  cases c with
  | int | bool | yes | lit => cases h; exact ⟨rfl, rfl⟩
  | ptr b o =>
    simp only [mvC] at h
    split at h
    · cases h; exact ⟨rfl, rfl⟩
    · cases h
  | fv f =>
    simp only [mvC] at h
    split at h
    · cases h; exact ⟨rfl, rfl⟩
    · cases h
  | _ => cases h
theorem mvB_tok {ks : List Nat} {conv : F → Option G} {b : Blk F} {b' : Blk G} (h : mvB ks conv b = some b') : b.tok = none ∧ b'.tok = none := by
  obtain ⟨ty, cs⟩ := b
  unfold mvB at h
  split at h
  · rename_i l hl
    cases h
    cases cs with
    | nil => cases hl; exact ⟨rfl, rfl⟩
    | cons c r =>
      unfold mvCs at hl
      split at hl
      · rename_i x hx
        split at hl
        · rename_i l' hl'
          cases hl
          cases r with
          | nil => cases hl'; exact mvC_tok hx
          | cons d r =>
            unfold mvCs at hl'
            split at hl'
            · split at hl'
              · cases hl'
                refine ⟨?_, ?_⟩
                · unfold Blk.tok; cases c <;> rfl
                · rename_i y _ _ _ _; unfold Blk.tok; cases x <;> rfl
              · cases hl'
            · cases hl'
        · cases hl
      · cases hl
  · cases h
def nodN : List Nat → Bool
  | [] => true
  | x :: r => !(r.any fun y => Nat.beq y x) && nodN r
theorem nodN_inj : ∀ {ks : List Nat}, nodN ks = true → ∀ {i j b : Nat}, ks[i]? = some b → ks[j]? = some b → i = j
  | [], _, i, j, b, h1, h2 => by simp at h1
  | x :: r, h, i, j, b, h1, h2 => by
    simp only [nodN, Bool.and_eq_true, Bool.not_eq_true'] at h
    have no : ∀ n, r[n]? ≠ some x := fun n hn => by
      have := List.any_eq_false.1 h.1 x (List.mem_of_getElem? hn)
      exact this (Nat.beq_refl x)
    cases i with
    | zero => cases j with
      | zero => rfl
      | succ j =>
        simp only [List.getElem?_cons_zero, Option.some.injEq, List.getElem?_cons_succ] at h1 h2
        subst h1
        exact absurd h2 (no j)
    | succ i => cases j with
      | zero =>
        simp only [List.getElem?_cons_zero, Option.some.injEq, List.getElem?_cons_succ] at h1 h2
        subst h2
        exact absurd h1 (no i)
      | succ j =>
        rw [List.getElem?_cons_succ] at h1 h2
        rw [nodN_inj h.2 h1 h2]
theorem mem_cut {I : Interp F} {J : Interp G} {ks : List Nat} (hks : nodN ks = true) {conv : F → Option G} (hI : ∀ f g D w v, conv f = some g → I.hv f D w v → J.hv g D w v) (hJ : J.base = 0) {w0 : Start} {E : Env F} {hp : List (Nat × Blk F)} {w : World} (H : Mem I w0 E hp w)
    {hp' : List (Nat × Blk G)} (hhp : ∀ j blk', look j hp' = some blk' → ∃ b blk, ks[j]? = some b ∧ look b hp = some blk ∧ mvB ks conv blk = some blk') : Mem J w0 (mvE ks conv E) hp' w := by
  have own : ∀ j k, (mvE ks conv E).own j k → ∃ b, ks[j]? = some b ∧ E.own b k := fun j k h => by
    rcases h with h | ⟨n, v, h, _⟩
    · have h : (ks[j]?).bind E.m = some k := h
      cases hb : ks[j]? with
      | none => rw [hb] at h; cases h
      | some b => rw [hb] at h; exact ⟨b, rfl, .inl h⟩
    · cases h
  refine ⟨fun b blk' hb _ => ?_, fun b blk' n sz hb ht => ?_, fun b k _ n => rfl, fun b b' k h h' => ?_, fun b k h => ?_, fun k j f arr h => (by cases h), H.kept, fun b k h => ?_,
    fun b k h => hJ ▸ Nat.zero_le k, hJ ▸ Nat.zero_le _, fun g v hg => ?_, fun b n v k o h => by cases h⟩
  · obtain ⟨b0, blk, g0, g1, g2⟩ := hhp b blk' hb
    obtain ⟨k, vs, q1, q2, q3⟩ := H.hp b0 blk g1 (mvB_tok g2).1
    unfold mvB at g2
    split at g2
    · rename_i l hl
      cases g2
      refine ⟨k, vs, ?_, q2, mvCs_R hl q3⟩
      show (ks[b]?).bind E.m = some k
      rw [g0]; exact q1
    · cases g2
  · obtain ⟨b0, blk, g0, g1, g2⟩ := hhp b blk' hb
    rw [(mvB_tok g2).2] at ht
    cases ht
  · obtain ⟨x, g1, g2⟩ := own b k h
    obtain ⟨y, g3, g4⟩ := own b' k h'
    obtain rfl := H.inj x y k g2 g4
    exact nodN_inj hks g1 g3
  · obtain ⟨x, _, g2⟩ := own b k h
    exact H.loc x k g2
  · obtain ⟨x, _, g2⟩ := own b k h
    exact H.new x k g2
  · obtain ⟨f, hf, hv⟩ := hg
    refine J.hv_mono g _ _ w w v (hI f g _ w v hf (H.fv f v hv)) (fun k o _ hd => ?_) (fun _ _ => .inl rfl)
    rcases hd with hd | ⟨b, hd⟩ | ⟨_, _, _, _, _, _, _, hd, _⟩
    · exact .inl hd
    · obtain ⟨x, _, g2⟩ := own b k (.inl hd)
      rcases g2 with g2 | ⟨n, v', g3, g4⟩
      · exact .inr (.inl ⟨x, g2⟩)
      · have hd : (ks[b]?).bind E.m = some k := hd
        cases hb : ks[b]? with
        | none => rw [hb] at hd; cases hd
        | some y => rw [hb] at hd; exact .inr (.inl ⟨y, hd⟩)
    · cases hd
theorem evCs_sound3 {P : Program} {I : Interp F} {c : Ctx F} (hC : CtxOk P I c) (hmix : P.follows .mixedOrders = true) {w0 : Start} {ds : List Deferred} {nt fuel : Nat} {d : Code} {Q : Exit → Act → World → Prop} :
    ∀ (xs : List Code) (hL : ∀ x ∈ xs, LpsOk P I c.lps nt x) (tm : List (Nat × AV F)) (hp : List (Nat × Blk F)) (nx : Nat) (path : Pth) (r : ResC F), evCs c fuel nt xs tm hp nx path = some r → (∀ p ∈ r.cd, p.1 = p.2) →
      ∀ (E : Env F) (a : Act) (w : World), Tms ds E nt tm a → Mem I w0 E hp w → Free nx E → (∀ E' a' w', Tms ds E' nt r.tm a' → Mem I w0 E' r.hp w' → Free r.nx E' → E.le E' → d.wpIn (Fr none) 0 P Q a' w') → (seqs xs d).wpIn (Fr none) 0 P Q a w
  | [], _, tm, hp, nx, path, r, h, hc, E, a, w, ht, hm, hf, hd => by
    cases h
    exact hd E a w ht hm hf (.refl E)
  | x :: xs, hL, tm, hp, nx, path, r, h, hc, E, a, w, ht, hm, hf, hd => by
    simp only [evCs] at h
    split at h
    · rename_i r1 hr1
      split at h
      · rename_i hex
        split at h
        · rename_i r2 hr2
          cases h
          refine wpIn_seq ?_
          refine (evC_sound hC hmix fuel none ds nt [] x x rfl (hL x (List.mem_cons_self ..)) tm hp nx path r1 hr1 (fun p hp => hc p (List.mem_append_left _ hp))).1 E a w _ ht hm hf fun E' a' w' q1 q2 q3 q4 => ?_
          rw [hex]
          exact evCs_sound3 hC hmix xs (fun y hy => hL y (List.mem_cons_of_mem _ hy)) _ _ _ _ r2 hr2 (fun p hp => hc p (List.mem_append_right _ hp)) E' a' w' q1 q2 q3 fun E'' a'' w'' s1 s2 s3 s4 => hd E'' a'' w'' s1 s2 s3 (q4.trans s4)
        · cases h
      · cases h
    · cases h
/-! ### As the kernel runs it -/
def mvTs (ks : List Nat) (conv : F → Option G) (tm : List (Nat × AV F)) : List Nat → Option (List (Nat × AV G))
  | [] => some []
  | t :: r => match look t tm with
    | some x => match mvV ks conv x with
      | some y => match mvTs ks conv tm r with
        | some l => some ((t, y) :: l)
        | none => none
      | none => none
    | none => none
def mvHs (ks : List Nat) (conv : F → Option G) (hp : List (Nat × Blk F)) : List Nat → Nat → Option (List (Nat × Blk G))
  | [], _ => some []
  | t :: r, j => match look t hp with
    | some x => match mvB ks conv x with
      | some y => match mvHs ks conv hp r (j + 1) with
        | some l => some ((j, y) :: l)
        | none => none
      | none => none
    | none => none
theorem mvTs_look {ks : List Nat} {conv : F → Option G} {tm : List (Nat × AV F)} : ∀ {ts : List Nat} {l : List (Nat × AV G)}, mvTs ks conv tm ts = some l → ∀ i x', look i l = some x' → ∃ x, look i tm = some x ∧ mvV ks conv x = some x'
  | [], l, h, i, x', hx => by cases h; cases hx
  | t :: r, l, h, i, x', hx => by
    unfold mvTs at h
    split at h
    · rename_i x hx1
      split at h
      · rename_i y hy
        split at h
        · rename_i l' hl'
          cases h
          rw [look_cons] at hx
          by_cases e : t = i
          · subst e; simp at hx; subst hx; exact ⟨x, hx1, hy⟩
          · rw [if_neg e] at hx; exact mvTs_look hl' i x' hx
        · cases h
      · cases h
    · cases h
theorem mvHs_look {ks : List Nat} {conv : F → Option G} {hp : List (Nat × Blk F)} : ∀ {l : List Nat} {j : Nat} {r : List (Nat × Blk G)}, mvHs ks conv hp l j = some r → ∀ i x', look i r = some x' → ∃ b x, j ≤ i ∧ l[i - j]? = some b ∧ look b hp = some x ∧ mvB ks conv x = some x'
  | [], j, r, h, i, x', hx => by cases h; cases hx
  | t :: l, j, r, h, i, x', hx => by
    unfold mvHs at h
    split at h
    · rename_i x hx1
      split at h
      · rename_i y hy
        split at h
        · rename_i l' hl'
          cases h
          rw [look_cons] at hx
          by_cases e : j = i
          · subst e; simp at hx; subst hx; exact ⟨t, x, Nat.le_refl _, by simp, hx1, hy⟩
          · rw [if_neg e] at hx
            obtain ⟨b, z, g1, g2, g3⟩ := mvHs_look hl' i x' hx
            refine ⟨b, z, by omega, ?_, g3⟩
            rw [show i - j = (i - (j + 1)) + 1 by omega, List.getElem?_cons_succ]
            exact g2
        · cases h
      · cases h
    · cases h
/-- The slots that the temporaries point to. -/
def ptsT (tm : List (Nat × AV F)) : List Nat → List Nat
  | [] => []
  | t :: r => match look t tm with
    | some (.w (.one (.ptr b _))) => b :: ptsT tm r
    | _ => ptsT tm r
/-- The first n codes of a sequence. -/
def seqPre : Nat → Code → List Code
  | n + 1, .seq x y => x :: seqPre n y
  | _, _ => []
/-- A segment's walk: the temporaries ts and the blocks ks as they stand behind it, and the next free slot. -/
def evV (conv : F → Option G) (c : Ctx F) (nt : Nat) (xs : List Code) (tm : List (Nat × AV F)) (hp : List (Nat × Blk F)) (nx : Nat) (ts : List Nat) (path : List Bool) : Option (((List (Nat × AV G) × List (Nat × Blk G)) × Nat) × List (Bool × Bool)) :=
  match evCs c 400 nt xs tm hp nx (.fix path) with
  | some r => match r.path with
    | .fix [] => bif nodN (ptsT r.tm ts) then match mvTs (ptsT r.tm ts) conv r.tm ts with
        | some vs => match mvHs (ptsT r.tm ts) conv r.hp (ptsT r.tm ts) 0 with
          | some bl => some (((vs, bl), (ptsT r.tm ts).length), r.cd)
          | none => none
        | none => none
      else none
    | _ => none
  | none => none
theorem cut_seg {P : Program} {I : Interp F} {J : Interp G} {c : Ctx F} (hC : CtxOk P I c) (hmix : P.follows .mixedOrders = true) (hJ : J.base = 0) {conv : F → Option G} (hI : ∀ f g D w v, conv f = some g → I.hv f D w v → J.hv g D w v)
    {w0 : Start} {ds : List Deferred} {nt : Nat} {d : Code} {Q : Exit → Act → World → Prop} {xs : List Code} (hL : ∀ x ∈ xs, LpsOk P I c.lps nt x) {tm : List (Nat × AV F)} {hp : List (Nat × Blk F)} {nx : Nat} {ts : List Nat} {q : List Bool}
    {tm' : List (Nat × AV G)} {hp' : List (Nat × Blk G)} {nx' : Nat} {cd : List (Bool × Bool)} (h : evV conv c nt xs tm hp nx ts q = some (((tm', hp'), nx'), cd)) (hc : ∀ p ∈ cd, p.1 = p.2)
    (E : Env F) (a : Act) (w : World) (ht : Tms ds E nt tm a) (hm : Mem I w0 E hp w) (hf : Free nx E) (hd : ∀ (E' : Env G) a' w', Tms ds E' nt tm' a' → Mem J w0 E' hp' w' → Free nx' E' → d.wpIn (Fr none) 0 P Q a' w') : (seqs xs d).wpIn (Fr none) 0 P Q a w := by
  unfold evV at h
  split at h
  · rename_i r hr
    split at h
    · cases hk : nodN (ptsT r.tm ts) with
      | false => rw [hk] at h; cases h
      | true =>
      rw [hk] at h
      simp only [cond_true] at h
      split at h
      · rename_i vs hvs
        split at h
        · rename_i bl hbl
          simp only [Option.some.injEq, Prod.mk.injEq] at h
          obtain ⟨⟨⟨rfl, rfl⟩, rfl⟩, rfl⟩ := h
          refine evCs_sound3 hC hmix xs hL _ _ _ _ r hr hc E a w ht hm hf fun E1 a1 w1 t1 m1 f1 le1 => ?_
          refine hd (mvE (ptsT r.tm ts) conv E1) a1 w1 ⟨fun i x' hx => ?_, t1.sz, t1.df⟩ (mem_cut hk hI hJ m1 fun j blk' hj => ?_) fun b hb => ⟨?_, fun _ => rfl, fun _ => rfl⟩
          · obtain ⟨x, z1, z2⟩ := mvTs_look hvs i x' hx
            obtain ⟨u, y1, y2⟩ := t1.tm i x z1
            exact ⟨u, y1, mvV_R z2 y2⟩
          · obtain ⟨b, x, _, g2, g3, g4⟩ := mvHs_look hbl j blk' hj
            exact ⟨b, x, by rw [Nat.sub_zero] at g2; exact g2, g3, g4⟩
          · show ((ptsT r.tm ts)[b]?).bind E1.m = none
            rw [List.getElem?_eq_none hb]; rfl
        · cases h
      · cases h
    · cases h
  · cases h
/-- Three segments and the rest: under I, J, I and J. -/
theorem cut3_view {P : Program} {I : Interp F} {J : Interp G} {c1 c3 : Ctx F} {c2 c4 : Ctx G} (hC1 : CtxOk P I c1) (hC2 : CtxOk P J c2) (hC3 : CtxOk P I c3) (hC4 : CtxOk P J c4) (hmix : P.follows .mixedOrders = true) (hbase : I.base = 0) (hJ : J.base = 0) {f : FuncId} {fn : Func} (hf : P.funcs[f]? = some fn)
    {x1 x2 x3 : List Code} {rest : Code} (hb : fn.body = some (seqs x1 (seqs x2 (seqs x3 rest))))
    (hL1 : ∀ x ∈ x1, LpsOk P I c1.lps fn.ntmps x) (hL2 : ∀ x ∈ x2, LpsOk P J c2.lps fn.ntmps x) (hL3 : ∀ x ∈ x3, LpsOk P I c3.lps fn.ntmps x) (hL4 : LpsOk P J c4.lps fn.ntmps rest)
    {conv : F → Option G} (hI : ∀ f g D w v, conv f = some g → I.hv f D w v → J.hv g D w v) {back : G → Option F} (hB : ∀ g f D w v, back g = some f → J.hv g D w v → I.hv f D w v)
    {args : List (AV F)} {us : List Value} {w : World} {h : F → Value → Prop} (hh : ∀ q v, h q v → I.hv q (fun _ _ => False) w v) (hn : Nat.ble args.length fn.ntmps = true) (ha : All2 (AV.R (Env.facts h)) args us)
    {ts1 : List Nat} {q1 : List Bool} {tm1 : List (Nat × AV G)} {hp1 : List (Nat × Blk G)} {nx1 : Nat} {cd1 : List (Bool × Bool)} (h1 : evV conv c1 fn.ntmps x1 (argsT args 0) [] 0 ts1 q1 = some (((tm1, hp1), nx1), cd1)) (hc1 : ∀ q ∈ cd1, q.1 = q.2)
    {ts2 : List Nat} {q2 : List Bool} {tm2 : List (Nat × AV F)} {hp2 : List (Nat × Blk F)} {nx2 : Nat} {cd2 : List (Bool × Bool)} (h2 : evV back c2 fn.ntmps x2 tm1 hp1 nx1 ts2 q2 = some (((tm2, hp2), nx2), cd2)) (hc2 : ∀ q ∈ cd2, q.1 = q.2)
    {ts3 : List Nat} {q3 : List Bool} {tm3 : List (Nat × AV G)} {hp3 : List (Nat × Blk G)} {nx3 : Nat} {cd3 : List (Bool × Bool)} (h3 : evV conv c3 fn.ntmps x3 tm2 hp2 nx2 ts3 q3 = some (((tm3, hp3), nx3), cd3)) (hc3 : ∀ q ∈ cd3, q.1 = q.2)
    {q4 : List Bool} {x : AV G} {cd4 : List (Bool × Bool)} (h4 : evT c4 fn rest tm3 hp3 nx3 q4 = some (x, cd4)) (hc4 : ∀ q ∈ cd4, q.1 = q.2) {v : Value} (hv : x.val = some v) :
    Calls P f us.toArray w fun e w' => e = .returned v ∧ Below w.heap.size w w' := by
  have own0 : ∀ k, ¬ (Env.facts h).ran k := fun k ⟨b, hb⟩ => own_facts hb
  refine calls_of_wp hf hb ((wpIn_wide (n := 0)).1 ?_)
  show Code.wpIn (Fr none) 0 P _ _ _ w
  have hlen := ha.length
  have hn := Nat.le_of_ble_eq_true hn
  have ht : Tms [] (Env.facts h) fn.ntmps (argsT args 0) { tmps := us.toArray ++ Array.replicate (fn.ntmps - us.toArray.size) undef, defers := [] } := by
    refine ⟨fun j v hj => ?_, by simp; omega, rfl⟩
    obtain ⟨_, u, g1, g2⟩ := argsT_get 0 ha j v hj
    refine ⟨u, ?_, g2⟩
    have hlt : j < us.length := (List.getElem?_eq_some_iff.1 g1).1
    rw [Array.getElem?_append_left (by simpa using hlt)]
    simpa using g1
  unfold evT at h4
  split at h4
  · rename_i r2 hr2
    split at h4
    · have hex : ∀ id, r2.ex ≠ .exit id := fun id e => by rw [e] at h4; cases h4
      have h5 : ∃ l, ressOf c4 r2.tm r2.hp fn.results.toList = some l ∧ x = oneOrAll l ∧ cd4 = r2.cd := by
        split at h4
        · cases h4
        · split at h4
          · rename_i l hl; cases h4; exact ⟨l, hl, rfl, rfl⟩
          · cases h4
      obtain ⟨l, hres, rfl, rfl⟩ := h5
      refine cut_seg hC1 hmix hJ hI hL1 h1 hc1 (Env.facts h) _ w ht (facts_mem hbase hh) free_facts fun E1 a1 w1 t1 m1 f1 => ?_
      refine cut_seg hC2 hmix hbase hB hL2 h2 hc2 E1 a1 w1 t1 m1 f1 fun E2 a2 w2 t2 m2 f2 => ?_
      refine cut_seg hC3 hmix hJ hI hL3 h3 hc3 E2 a2 w2 t2 m2 f2 fun E3 a3 w3 t3 m3 f3 => ?_
      refine (evC_sound hC4 hmix 400 none [] fn.ntmps [] rest rest rfl hL4 tm3 hp3 nx3 (.fix q4) r2 hr2 hc4).1 E3 a3 w3 _ t3 m3 f3 fun E4 a4 w4 t4 m4 f4 le4 => ?_
      obtain ⟨vs, s1, s2⟩ := ressOf_R (P := P) hC4.tab t4 m4 hres
      have hres' : (results fn a4.tmps).run P w4 = .ok (if h : vs.toArray.size = 1 then vs.toArray[0] else .tuple vs.toArray) w4 := by
        unfold results
        rw [Array.mapM_eq_mapM_toList]
        simp only [Sem.run_bind, Sem.run_map]
        have s1' : (List.mapM (fun (x : ResultVar) => (match x with | .tmp t => pure (a4.tmps.getD t undef) | .cell a t => do loadVar t (← asAddr (a4.tmps.getD a undef)) : Sem Value)) fn.results.toList).run P w4 = .ok vs w4 := s1
        erw [s1']
        rfl
      have hval := AV.val_R hv (oneOrAll_R s2)
      have hpost : a4.defers = [] ∧ ∃ u, (results fn a4.tmps).run P w4 = .ok u w4 ∧ (Ending.returned u = .returned v ∧ Below w.heap.size w w4) :=
        ⟨t4.df, _, hres', by rw [hval], ⟨m4.kept.os, m4.kept.tape, m4.kept.output, m4.kept.size, fun k hk => m4.kept.block k hk (own0 k)⟩⟩
      cases he : r2.ex with
      | normal => exact hpost
      | ret => exact hpost
      | exit id => exact absurd he (hex id)
    · cases h4
  · cases h4
def notLp (pos : List Bool) (x : Code) : Bool := match codeAt x pos with
  | some (.loop _) => false
  | _ => true
theorem lps_one {P : Program} {I : Interp F} {nt : Nat} {pos : List Bool} {sp : LpSp F} {xs : List Code} {x0 : Code} (h0 : ∀ x, codeAt x0 pos = some (.loop x) → LpOk P I nt x sp) : xs = [x0] → ∀ x ∈ xs, LpsOk P I [((nt, pos), sp)] nt x := by
  rintro rfl x hx
  obtain rfl := List.mem_singleton.1 hx
  exact lps_cons (fun _ y hy => h0 y hy) lps_nil
end Go.Proofs.Ytfhidjldmopbgaa.Ev

