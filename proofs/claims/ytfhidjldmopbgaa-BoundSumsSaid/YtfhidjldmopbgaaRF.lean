/-
  A range over a function whose body the evaluator walks: what the blocks hold is a function of what has come.
  Conditions: those of each theorem; the iterator hands on all it has (SeqAll), the body never leaves.
-/
import Derived.Test.YtfhidjldmopbgaaEv2
import Derived.Test.YtfhidjldmopbgaaFR
import Derived.Test.YtfhidjldmopbgaaTB
set_option linter.unusedVariables false
set_option linter.unusedSimpArgs false
namespace Go.Proofs.Ytfhidjldmopbgaa.Ev
open Go.RowKit
variable {F : Type}

/-- Facts speak of cells: other objects may turn. -/
structure Calm (I : Interp F) : Prop where
  holds : ∀ f A B row arr, I.holds f A arr → A.grownBy B row → (∀ r, row = some r → ∃ o : Obj, A.heap[r]? = some o ∧ o.isCells = false) → I.holds f B arr
  hv : ∀ f D A B row v, I.hv f D A v → A.grownBy B row → (∀ r, row = some r → ∃ o : Obj, A.heap[r]? = some o ∧ o.isCells = false) → I.hv f D B v

theorem Mem.grown {I : Interp F} (hI : Calm I) {w0 : Start} {A B : World} {E : Env F} {hp : List (Nat × Blk F)} {row : Option Nat} (H : Mem I w0 E hp A) (hg : A.grownBy B row)
    (hr : ∀ r, row = some r → w0.w.heap.size ≤ r ∧ ¬ E.ran r ∧ ∃ o : Obj, A.heap[r]? = some o ∧ o.isCells = false) : Mem I w0 E hp B where
  hp := fun b blk h ht => by
    obtain ⟨k, vs, h1, h2, h3⟩ := H.hp b blk h ht
    exact ⟨k, vs, h1, by rw [hg.block k (H.loc b k (.inl h1)) (fun e => (hr k e.symm).2.1 ⟨b, .inl h1⟩)]; exact h2, h3⟩
  tok := fun b blk n sz h ht => (H.tok b blk n sz h ht).keep (fun _ => rfl) fun k hk => hg.block k (H.loc b k hk) (fun e => (hr k e.symm).2.1 ⟨b, hk⟩)
  exc := H.exc
  inj := H.inj
  loc := fun b k h => Nat.lt_of_lt_of_le (H.loc b k h) hg.size
  ext := fun k j f arr h => ⟨hI.holds f A B row arr (H.ext k j f arr h).1 hg (fun r e => (hr r e).2.2), (H.ext k j f arr h).2⟩
  kept := ⟨hg.os.trans H.kept.os, hg.tape.trans H.kept.tape, hg.output.trans H.kept.output, Nat.le_trans H.kept.size hg.size,
    fun k hk ho => (hg.block k (Nat.lt_of_lt_of_le hk H.kept.size) (fun e => by have := (hr k e.symm).1; omega)).trans (H.kept.block k hk ho)⟩
  new := H.new
  low := H.low
  bsz := Nat.le_trans H.bsz hg.size
  fv := fun f v h => hI.hv f _ A B row v (H.fv f v h) hg (fun r e => (hr r e).2.2)
  apt := H.apt

/-- What a run that began at world A, with the blocks of E, leaves alone. -/
theorem lets_of {I : Interp F} {A B : World} {E E' : Env F} {out : Nat → Nat → Prop} {hp : List (Nat × Blk F)} {n₀ : Nat} (H : Mem I ⟨A, E.ran, out⟩ E' hp B) (hn : n₀ ≤ A.heap.size) (hlow : ∀ k, E.ran k → n₀ ≤ k) {O' : Nat → Prop} (hO : ∀ k, O' k → E'.ran k) : LetsO n₀ E.ran O' A B := by
  refine ⟨⟨H.kept.os, H.kept.tape, H.kept.output, H.kept.size, fun k hk => H.kept.block k (show k < A.heap.size by omega) fun h => by have := hlow k h; omega⟩, fun k hk ho => ⟨H.kept.block k hk ho, fun h => ?_⟩⟩
  obtain ⟨b, hb⟩ := hO k h
  rcases H.new b k hb with h1 | h1
  · exact ho h1
  · exact absurd hk (Nat.not_lt.2 h1)
theorem wpIn_depth {m m' : Nat} {P : Program} {ro : Option Nat} {c : Code} {Q : Exit → Act → World → Prop} {a : Act} {w : World} (h : c.wpIn (Fr ro) m P Q a w) : c.wpIn (Fr ro) m' P Q a w :=
  fun b k cs h1 h2 h3 => h b k cs h1 h2 (fun d hd => by cases hd)
theorem cut_ran {E : Env F} {m k : Nat} (h : (E.cut m).ran k) : E.ran k := by
  obtain ⟨b, h | ⟨n, v, h1, h2⟩⟩ := h
  · exact ⟨b, .inl (cut_some h).2⟩
  · exact ⟨b, .inr ⟨n, v, (cutq_some h1).2, h2⟩⟩
theorem le_cut {E E' : Env F} {m m' : Nat} (h : E.le E') (hf : Free m E) (hmm : m ≤ m') (hr : ∀ k j, E.r k j = none) : E.le (E'.cut m') where
  m := fun b k e => by
    have hb : Nat.blt b m' = true := by
      rw [Nat.blt_eq]
      rcases Nat.lt_or_ge b m with q | q
      · omega
      · rw [(hf b q).1] at e; cases e
    rw [Env.cut_m hb]; exact h.m b k e
  r := fun k j x e => by rw [hr] at e; cases e
  h := fun f v e => h.h f v e
  q := fun b n v e => by
    have hb : Nat.blt b m' = true := by
      rw [Nat.blt_eq]
      rcases Nat.lt_or_ge b m with q | q
      · omega
      · rw [(hf b q).2.2] at e; cases e
    rw [Env.cut_q hb]; exact h.q b n v e

/-- The k-th range over a function of a code, in the text's order: where it goes to assign, and its body. -/
def rfAll : Code → List (Code × Code)
  | .seq x y => rfAll x ++ rfAll y
  | .cond _ x y => rfAll x ++ rfAll y
  | .block _ x => rfAll x
  | .loop x => rfAll x
  | .scope x => rfAll x
  | .rangeFunc _ _ x y => [(x, y)]
  | _ => []
def rfA (c : Code) (k : Nat) : Code := match (rfAll c)[k]? with | some p => p.1 | none => .skip
def rfB (c : Code) (k : Nat) : Code := match (rfAll c)[k]? with | some p => p.2 | none => .skip
/-- A round, as the kernel runs it: the blocks that are asked for. -/
def evRnd (c : Ctx F) (nt : Nat) (x : Code) (tm : List (Nat × AV F)) (hp : List (Nat × Blk F)) (m : Nat) (ks : List Nat) (path : List Bool) : Option ((Ex × List (Blk F)) × List (Bool × Bool)) :=
  match evC c 400 nt [] x tm hp m (.fix path) with
  | some r => match r.path with
    | .fix [] => match looks r.hp ks with
      | some bl => some ((r.ex, bl), r.cd)
      | none => none
    | _ => none
  | none => none
theorem looks_zip : ∀ {ks : List Nat} {hp : List (Nat × Blk F)} {bl : List (Blk F)}, looks hp ks = some bl → ∀ e ∈ ks.zip bl, look e.1 hp = some e.2
  | [], hp, bl, h, e, he => by simp at he
  | k :: ks, hp, bl, h, e, he => by
    simp only [looks] at h
    split at h
    · rename_i b hb
      split at h
      · rename_i l hl
        cases h
        rcases List.mem_cons.1 he with rfl | he
        · exact hb
        · exact looks_zip hl e he
      · cases h
    · cases h
theorem rnd_of {c : Ctx F} {nt : Nat} {x : Code} {tm : List (Nat × AV F)} {hp hp' : List (Nat × Blk F)} {m m' : Nat} {ks : List Nat} {path : List Bool} {bl : List (Blk F)} {cd : List (Bool × Bool)} (h : evRnd c nt x tm hp m ks path = some ((.normal, bl), cd)) (hc : ∀ q ∈ cd, q.1 = q.2)
    (h1 : hp' = ks.zip bl) (h2 : hp'.all (fun e => Nat.blt e.1 m' && e.2.cs.all (AC.low m')) = true) :
    ∃ fuel path r, evC c fuel nt [] x tm hp m path = some r ∧ (∀ q ∈ r.cd, q.1 = q.2) ∧ r.ex = .normal ∧ ∀ e ∈ hp', look e.1 r.hp = some e.2 ∧ Nat.blt e.1 m' = true ∧ e.2.cs.all (AC.low m') = true := by
  unfold evRnd at h
  split at h
  · rename_i r hr
    split at h
    · split at h
      · rename_i bl' hbl
        simp only [Option.some.injEq, Prod.mk.injEq] at h
        obtain ⟨⟨g1, rfl⟩, rfl⟩ := h
        refine ⟨400, .fix path, r, hr, hc, g1, fun e he => ⟨looks_zip hbl e (by rw [← h1]; exact he), ?_⟩⟩
        have := (List.all_eq_true.1 h2) e he
        simpa only [Bool.and_eq_true] using this
      · cases h
    · cases h
  · cases h

/-- The loop. -/
theorem rf_ok {α : Type} {P : Program} {I : Interp F} {c : Ctx F} (hC : CtxOk P I c) (hmix : P.follows .mixedOrders = true) (hcalm : Calm I) {nt : Nat} {assign body : Code} (hL : LpsOk P I c.lps nt (.seq assign body))
    {mP : List α → Nat} (hmP : ∀ pre, mP [] ≤ mP pre) {hpP : List α → List (Nat × Blk F)} {tm : List (Nat × AV F)} {p : Tmp} (hpnt : p < nt) {ev : α → Value} {av : α → AV F} (hav : ∀ x, (av x).val = some (ev x)) {N : Nat}
    (hround : ∀ pre x, pre.length < N → ∃ fuel path r, evC c fuel nt [] (.seq assign body) ((p, av x) :: tm) (hpP pre) (mP pre) path = some r ∧ (∀ q ∈ r.cd, q.1 = q.2) ∧ r.ex = .normal ∧
      ∀ e ∈ hpP (pre ++ [x]), look e.1 r.hp = some e.2 ∧ Nat.blt e.1 (mP (pre ++ [x])) = true ∧ e.2.cs.all (AC.low (mP (pre ++ [x]))) = true)
    {g : Operand} {gf : Nat} {lb : Array Value} {a : Act} {w : World} (hg : a.eval g = .func (.func gf) #[] lb) (eg : ∀ args w, (callFunc gf args).run P w = .ok (.enter gf args) w)
    {xs : List α} {wI : World} {w0 : Start} (h0 : ∀ k, ¬ w0.own k) (hseq : SeqAll P gf lb (fun x => #[ev x]) w0.w.heap.size xs N wI) (hb0 : Below wI.heap.size wI w)
    {ds : List Deferred} {E0 : Env F} (ht : Tms ds E0 nt tm a) (hm : Mem I w0 E0 (hpP []) w) (hf : Free (mP []) E0) (hr0 : ∀ k j, E0.r k j = none)
    {Q : Exit → Act → World → Prop} {n : Nat}
    (hQ : ∀ E' w' D, E0.le E' → Tms ({ target := .collected D, args := #[] } :: ds) E' nt tm { a with defers := { target := .collected D, args := #[] } :: a.defers } → Mem I w0 E' (hpP xs) w' → Free (mP xs) E' → w'.heap[D]? = some (.deferred (some [])) → w0.w.heap.size ≤ D → ¬ E'.ran D → Q .normal { a with defers := { target := .collected D, args := #[] } :: a.defers } w') :
    (Code.rangeFunc g #[p] assign body).wpIn Fence.wide n P Q a w := by
  have hlow : ∀ {E : Env F} {hp : List (Nat × Blk F)} {W : World}, Mem I w0 E hp W → ∀ k, E.ran k → w0.w.heap.size ≤ k := fun H k ⟨b, hb⟩ => by
    rcases H.new b k hb with h1 | h1
    · exact absurd h1 (h0 k)
    · exact h1
  have hsz := hm.kept.size
  refine wpIn_all hg eg hseq hsz hb0 (fun _ => rfl)
    (fun s W => ∃ E, Mem I w0 E (hpP s.1) W ∧ E0.le E ∧ Free (mP s.1) E ∧ s.2 = E.ran)
    (fun s A B row ⟨E, q1, q2, q3, q4⟩ hgr hr => ⟨E, q1.grown hcalm hgr (fun r e => ⟨by have := (hr r e).1; omega, by rw [← q4]; exact (hr r e).2.1, (hr r e).2.2⟩), q2, q3, q4⟩)
    E0.ran (fun k ⟨b, hb⟩ => hm.loc b k hb) ⟨E0, hm, .refl E0, hf, rfl⟩
    (fun x a' s W => ∃ E fuel tm1 hp1 nx1 path1 r2, evC c fuel nt [true] body tm1 hp1 nx1 path1 = some r2 ∧ (∀ q ∈ r2.cd, q.1 = q.2) ∧ r2.ex = .normal ∧
      (∀ e ∈ hpP (s.1 ++ [x]), look e.1 r2.hp = some e.2 ∧ Nat.blt e.1 (mP (s.1 ++ [x])) = true ∧ e.2.cs.all (AC.low (mP (s.1 ++ [x]))) = true) ∧ Tms [] E nt tm1 a' ∧ Mem I w0 E hp1 W ∧ E0.le E ∧ Free nx1 E ∧ s.2 = E.ran)
    (fun x a' s A B row ⟨E, fuel, tm1, hp1, nx1, path1, r2, k1, k2, k3, k4, k5, k6, k7⟩ hgr hr =>
      ⟨E, fuel, tm1, hp1, nx1, path1, r2, k1, k2, k3, k4, k5, k6.grown hcalm hgr (fun r e => ⟨by have := (hr r e).1; omega, by rw [← k7.2.2]; exact (hr r e).2.1, (hr r e).2.2⟩), k7⟩)
    ?_ ?_ ?_
  · rintro l md pre O x W K hW ⟨E, q1, q2, q3, q4⟩ hlen hK
    have q4 : O = E.ran := q4
    subst q4
    obtain ⟨fuel, path, r, e1, e2, e3, e4⟩ := hround pre x hlen
    cases fuel with
    | zero => cases e1
    | succ fuel =>
      simp only [evC] at e1
      split at e1
      · rename_i r1 hr1
        split at e1
        · rename_i hex
          split at e1
          · rename_i r2 hr2
            cases e1
            have hT : Tms [] E nt ((p, av x) :: tm) { tmps := ((#[p] : Array Tmp).zip #[ev x]).foldl (fun t (p, v) => t.setIfInBounds p v) a.tmps, defers := [] } := by
              refine ⟨fun i v hv => ?_, by simp [ht.sz], rfl⟩
              rw [look_cons] at hv
              by_cases hi : p = i
              · subst hi
                rw [if_pos rfl] at hv; cases hv
                exact ⟨ev x, by simp [ht.sz, hpnt], AV.R_val (hav x)⟩
              · rw [if_neg hi] at hv
                obtain ⟨u, u1, u2⟩ := ht.tm i v hv
                exact ⟨u, by simp [Array.getElem?_setIfInBounds, hi]; exact u1, u2.mono q2⟩
            have := (evC_sound hC hmix (w0 := ⟨W, E.ran, w0.out⟩) fuel (some l) [] nt [false] (.seq assign body) assign (by simp [codeAt]) hL _ _ _ _ r1 hr1 (fun q hq => e2 q (List.mem_append_left _ hq))).1 E _ W
              (Exit.then K (fun _ _ _ => False)) hT q1.here q3 (fun E' a' w' s1 s2 s3 s4 => by
                rw [hex]
                exact hK a' w' E'.ran (lets_of s2 (by omega) (hlow q1) (fun _ h => h)) ⟨E', fuel, r1.tm, r1.hp, r1.nx, r1.path, r2, hr2, fun q hq => e2 q (List.mem_append_right _ hq), e3, e4, s1, q1.trans s2, q2.trans s4, s3, rfl⟩)
            exact wpIn_depth this
          · cases e1
        · cases e1; rename_i hex; exact absurd e3 (by simpa using hex)
      · cases e1
  · rintro l md pre O x a' W hW ⟨E, fuel, tm1, hp1, nx1, path1, r2, k1, k2, k3, k4, k5, k6, k7, k8, k9⟩ hlen
    have k9 : O = E.ran := k9
    subst k9
    have := (evC_sound hC hmix (w0 := ⟨W, E.ran, w0.out⟩) fuel (some l) [] nt [true] (.seq assign body) body (by simp [codeAt]) hL _ _ _ _ r2 k1 k2).1 E a' W
      (Exit.then (fun _ W' => ∃ O', LetsO w0.w.heap.size E.ran O' W W' ∧ ∃ E, Mem I w0 E (hpP (pre ++ [x])) W' ∧ E0.le E ∧ Free (mP (pre ++ [x])) E ∧ O' = E.ran) (fun _ _ _ => False)) k5 k6.here k8 (fun E' a'' w' s1 s2 s3 s4 => by
        rw [k3]
        have hmc : Mem I w0 (E'.cut (mP (pre ++ [x]))) (hpP (pre ++ [x])) w' := (k6.trans s2).cut _ fun b blk hb => k4 _ (look_mem hb)
        exact ⟨(E'.cut (mP (pre ++ [x]))).ran, lets_of s2 (by omega) (hlow k6) (fun _ h => cut_ran h), E'.cut _, hmc, le_cut (k7.trans s4) hf (hmP _) hr0, E'.cut_free _, rfl⟩)
    exact wpIn_depth this
  · rintro D O W hD hD2 hnD ⟨E, q1, q2, q3, q4⟩ hK
    have q4 : O = E.ran := q4
    subst q4
    exact hQ E W D q2 ⟨fun i v hv => let ⟨u, u1, u2⟩ := ht.tm i v hv; ⟨u, u1, u2.mono q2⟩, ht.sz, by simp [ht.df]⟩ q1 q3 hK (by omega) hnD

theorem tab_calm {D : Nat → Nat → Prop} {A B : World} {row : Option Nat} {v : Value} {ks : List (Option IntKind)} {l : List (List Int)} (h : tabHv D A v ks l) (hg : A.grownBy B row)
    (hr : ∀ r, row = some r → ∃ o : Obj, A.heap[r]? = some o ∧ o.isCells = false) : tabHv D B v ks l := by
  obtain ⟨p, cap, h1, h2, h3, h4, h5⟩ := h
  exact ⟨p, cap, h1, h2, h3, h4, fun a ha => ⟨(h5 a ha).1, fun j hj o k ho => ⟨((h5 a ha).2 j hj o k ho).1, cell_kept ((h5 a ha).2 j hj o k ho).2 hg hr⟩⟩⟩
theorem tbI_calm : Calm tbI := ⟨fun f A B row arr h _ _ => h.elim, fun f D A B row v h hg hr => by
  cases f with
  | tab ks l => exact tab_calm (ks := ks) (l := l) h hg hr⟩
theorem Calm.rows {I : Interp F} {nl : TypeId → Option F} {h : ∀ t g D w, nl t = some g → I.hv g D w (.slice none 0 0)} (H : Calm I) : Calm (I.rows nl h) := ⟨H.holds, H.hv⟩
end Go.Proofs.Ytfhidjldmopbgaa.Ev

