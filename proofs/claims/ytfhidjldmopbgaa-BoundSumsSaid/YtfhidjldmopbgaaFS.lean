/-
  Package bound: Fuse: iterators as foreign values of the evaluator, and Fuse as a function of tables.
  Conditions: those of each theorem.
-/
import Derived.Test.YtfhidjldmopbgaaFX
import Derived.Test.YtfhidjldmopbgaaRG
namespace Go.Proofs.Ytfhidjldmopbgaa
open Go.RowKit Go.Shelf Ev
set_option linter.unusedVariables false
set_option linter.unusedSimpArgs false
namespace Fs

abbrev bk : List (Option IntKind) := [some .i64, some .i64, none]
def toBd (r : List Int) : Bd := ⟨r.getD 0 0, r.getD 1 0, decide (r.getD 2 0 = 1)⟩
def bdsOf (l : List (List Int)) : List Bd := l.map toBd
def knsOf (l : List (List Int)) : List Bd := (bdsOf l).filter knB
abbrev gK : Nat := 52
abbrev gN : Nat := 54
/-- Tables, and iterators over them. -/
inductive Sq where
  | tab (ks : List (Option IntKind)) (l : List (List Int))
  | all (l : List (List Int))
  | neg (l : List (List Int))
/-- A function with one captured box. -/
def boxHv (g : Nat) (Q : Value → Prop) (D : Nat → Nat → Prop) (w : World) (v : Value) : Prop :=
  ∃ k sv, v = .func (.func g) #[] #[.pointer (some ⟨k, 0, none⟩)] ∧ w.cell? ⟨k, 0, none⟩ = some sv ∧ ¬ D k 0 ∧ Q sv
theorem boxHv.keep {g : Nat} {Q Q' : Value → Prop} {D D' : Nat → Nat → Prop} {w w' : World} {v : Value} {base : Nat} {safe : TypeId → Bool} (h : boxHv g Q D w v) (hD : ∀ k o, k < w.heap.size → D' k o → D k o)
    (hk : ∀ k, k < w.heap.size → w'.heap[k]? = w.heap[k]? ∨ base ≤ k ∧ ∃ c c' ty fr, w.heap[k]? = some (.cells c ty fr) ∧ safe ty = true ∧ w'.heap[k]? = some (.cells c' ty fr) ∧ ∀ o, c'[o]? = c[o]? ∨ D k o) (hQ : ∀ sv, Q sv → Q' sv) : boxHv g Q' D' w' v := by
  obtain ⟨k, sv, h1, h2, h3, h4⟩ := h
  obtain ⟨q1, q2⟩ := cellKeepT hk h2 h3
  exact ⟨k, sv, h1, q2, fun hd => h3 (hD _ _ q1 hd), hQ sv h4⟩
/-- The rows lie below B. -/
def lowV (B : Nat) (v : Value) : Prop := ∀ a n c, v = .slice (some a) n c → n ≠ 0 → a.block < B
def lowT (B : Nat) (D : Nat → Nat → Prop) (w : World) (v : Value) (ks : List (Option IntKind)) (l : List (List Int)) : Prop := tabHv D w v ks l ∧ lowV B v
def sqHv (B : Nat) (f : Sq) (D : Nat → Nat → Prop) (w : World) (v : Value) : Prop := match f with
  | .tab ks l => lowT B D w v ks l
  | .all l => boxHv gK (fun sv => lowT B D w sv bk l) D w v
  | .neg l => boxHv gN (fun sv => boxHv gK (fun sv => lowT B D w sv bk l) D w sv) D w v
theorem lowT.keep {B : Nat} {D D' : Nat → Nat → Prop} {w w' : World} {v : Value} {ks : List (Option IntKind)} {l : List (List Int)} {base : Nat} {safe : TypeId → Bool} (h : lowT B D w v ks l) (hD : ∀ k o, k < w.heap.size → D' k o → D k o)
    (hk : ∀ k, k < w.heap.size → w'.heap[k]? = w.heap[k]? ∨ base ≤ k ∧ ∃ c c' ty fr, w.heap[k]? = some (.cells c ty fr) ∧ safe ty = true ∧ w'.heap[k]? = some (.cells c' ty fr) ∧ ∀ o, c'[o]? = c[o]? ∨ D k o) : lowT B D' w' v ks l := ⟨tabHv.keep h.1 hD hk, h.2⟩
def sqI (B : Nat) : Interp Sq where
  holds := fun _ _ _ => False
  base := 0
  safe := fun _ => true
  slen := fun _ => none
  sget := fun _ _ => none
  mono := fun _ _ _ _ h => h.elim
  slen_ok := fun _ _ _ _ h => by cases h
  sget_ok := fun _ _ _ _ _ _ _ _ h => by cases h
  hv := sqHv B
  vlen := fun f => match f with | .tab _ l => some (lenT l) | _ => none
  vesz := fun f => match f with | .tab ks _ => ks.length | _ => 0
  vget := fun f i o => match f with | .tab ks l => (match ks[o]? with | some (some k) => some (.int k (cel l i o)) | some none => some (.bool (decide (cel l i o = 1))) | none => none) | _ => none
  vsub := fun _ _ _ => none
  vapp := fun _ _ _ => none
  nil := fun _ => none
  hv_mono := fun f D D' w w' v h hD hk => by
    cases f with
    | tab ks l => exact lowT.keep h hD hk
    | all l => exact boxHv.keep h hD hk fun sv h => lowT.keep h hD hk
    | neg l => exact boxHv.keep h hD hk fun sv h => boxHv.keep h hD hk fun sv h => lowT.keep h hD hk
  hv_cell := fun f D w v h => by
    cases f with
    | tab ks l => obtain ⟨⟨p, cap, rfl, _⟩, _⟩ := h; rfl
    | all l => obtain ⟨p, cap, rfl, _⟩ := h; rfl
    | neg l => obtain ⟨p, cap, rfl, _⟩ := h; rfl
  vlen_ok := fun f n D w v hn h => by
    cases f with
    | tab ks l =>
      cases hn
      obtain ⟨⟨p, cap, rfl, g2, g3, g4, g5⟩, _⟩ := h
      exact ⟨p, l.length, cap, rfl, rfl, g4, fun a ha => (g5 a ha).1⟩
    | all l => cases hn
    | neg l => cases hn
  vget_ok := fun f n i o x D w b off m cap hn hx h0 h1 h => by
    cases f with
    | tab ks l =>
      cases hn
      obtain ⟨⟨p, cap', e, g2, g3, g4, g5⟩, _⟩ := h
      cases e
      unfold lenT at h1
      simp only at hx
      split at hx
      · rename_i k hk
        cases hx
        exact ⟨_, ((g5 _ rfl).2 i.toNat (by omega) o _ hk).2, rfl, rfl⟩
      · rename_i hk
        cases hx
        exact ⟨_, ((g5 _ rfl).2 i.toNat (by omega) o _ hk).2, rfl, rfl⟩
      · cases hx
    | all l => cases hn
    | neg l => cases hn
  vsub_ok := fun f g n a b D w v hg => by cases hg
  vapp_ok := fun f g xs m n D w v k cap us hg => by cases hg
  nil_ok := fun _ _ _ _ h => by cases h
theorem sqI_calm (B : Nat) : Ev.Calm (sqI B) := ⟨fun f A B row arr h _ _ => h.elim, fun f D A B row v h hg hr => by
  cases f with
  | tab ks l => exact ⟨tab_calm (ks := ks) (l := l) h.1 hg hr, h.2⟩
  | all l =>
    obtain ⟨k, sv, h1, h2, h3, h4⟩ := h
    exact ⟨k, sv, h1, cell_kept h2 hg hr, h3, tab_calm h4.1 hg hr, h4.2⟩
  | neg l =>
    obtain ⟨k, sv, h1, h2, h3, k', sv', g1, g2, g3, g4⟩ := h
    exact ⟨k, sv, h1, cell_kept h2 hg hr, h3, k', sv', g1, cell_kept g2 hg hr, g3, tab_calm g4.1 hg hr, g4.2⟩⟩

/-! ### Bounds of a table -/
theorem nthB_of (l : List (List Int)) (j : Nat) (h : j < l.length) : nthB (bdsOf l) j = toBd (l.getD j []) := by
  simp [nthB, bdsOf, List.getD, h]
theorem bds_low {B : Nat} {D : Nat → Nat → Prop} {w : World} {v : Value} {l : List (List Int)} (h : lowT B D w v bk l) : BdsAt B w v (bdsOf l) := by
  obtain ⟨⟨p, cap, rfl, g2, g3, g4, g5⟩, g6⟩ := h
  have hlen : (bdsOf l).length = l.length := List.length_map _
  cases p with
  | none =>
    have := g4 rfl
    refine .inl ⟨.none, cap, by rw [this], ?_⟩
    rw [List.length_eq_zero_iff] at this
    rw [this]; rfl
  | some a =>
    obtain ⟨e, h5⟩ := g5 a rfl
    by_cases hl : l.length = 0
    · refine .inl ⟨some a, cap, by rw [hl], ?_⟩
      rw [List.length_eq_zero_iff] at hl
      rw [hl]; rfl
    · refine .inr ⟨a.block, a.off, cap, by rw [hlen, ← e], g6 a _ _ rfl hl, fun j hj => ?_⟩
      rw [hlen] at hj
      rw [nthB_of l j hj]
      have q0 := (h5 j hj 0 _ rfl).2
      have q1 := (h5 j hj 1 _ rfl).2
      have q2 := (h5 j hj 2 _ rfl).2
      exact ⟨q0, q1, q2⟩
theorem low_of {D : Nat → Nat → Prop} {w : World} {v : Value} {l : List (List Int)} (h : tabHv D w v bk l) : lowT w.heap.size D w v bk l := by
  refine ⟨h, fun a n c e hn => ?_⟩
  obtain ⟨p, cap, rfl, g2, g3, g4, g5⟩ := h
  simp only [Value.slice.injEq] at e
  obtain ⟨rfl, rfl, rfl⟩ := e
  obtain ⟨e, h5⟩ := g5 a rfl
  exact Ls.cell_lt (h5 0 (by omega) 0 _ rfl).2
theorem bds_of {D : Nat → Nat → Prop} {w : World} {v : Value} {l : List (List Int)} (h : tabHv D w v bk l) : BdsAt w.heap.size w v (bdsOf l) := bds_low (low_of h)
/-! ### The callees -/
theorem dt_fresh {I : Interp Sq} {E : Env Sq} {hp : List (Nat × Blk Sq)} {w : World} {ran : Nat → Prop} {dt : Nat → Nat → Prop} (hm : Mem I ⟨w, ran, dt⟩ E hp w) {k o : Nat} (hk : w.heap.size ≤ k) : ¬ Dt ⟨w, ran, dt⟩ E hp k o := fun hd => by
  rcases hd with hd | ⟨b, hd⟩ | ⟨b, _, n, _, v, _, _, d3, d4, _⟩
  · exact absurd hd.2 (Nat.not_lt.2 hk)
  · exact absurd (hm.loc b k (.inl hd)) (Nat.not_lt.2 hk)
  · exact absurd (hm.loc b k (.inr ⟨n, v, d3, d4⟩)) (Nat.not_lt.2 hk)
def gAK : List (AV Sq) → Option (AV Sq × List (Bool × Bool))
  | [.w (.one (.fv (.tab [some .i64, some .i64, none] l)))] => some (.w (.one (.fv (.all l))), [])
  | _ => none
theorem gAK_ok (B : Nat) : (factSp gAK).ok Try.prog (sqI B) 43 := by
  intro E hp w slot args us bs out dt hrun ha hb0 hm hfr hc
  clear hb0
  simp only [factSp] at hrun
  split at hrun
  · rename_i v cd hg
    cases hrun
    unfold gAK at hg
    split at hg
    · rename_i l
      cases hg
      cases ha with | cons h0 ha => ?_
      cases ha
      have h1 : lowT B _ w _ bk l := hm.fv _ _ h0
      obtain ⟨⟨p, cap, rfl, _⟩, _⟩ := id h1
      refine (callsIn_wide.1 (allKnown_in 0 p l.length cap w)).mono ?_
      rintro e w' ⟨rfl, rfl⟩
      have hB : Below w.heap.size w (w.alloc (.cells #[.slice p l.length cap] 25)) := (Below.refl _ w).alloc (Nat.le_refl _) _
      refine ⟨E.addh (fun f u => f = .all l ∧ u = .func (.func gK) #[] #[.pointer (some ⟨w.heap.size, 0, none⟩)]), _, But.addh _ _ _, rfl, .inr ⟨rfl, rfl⟩, (hm.below hB).addh fun f v hv => ?_⟩
      obtain ⟨rfl, rfl⟩ := hv
      exact ⟨w.heap.size, .slice p l.length cap, rfl, cell_al _ _ _ _, dt_fresh hm (Nat.le_refl _), lowT.keep (base := 0) (safe := fun _ => true) h1 (fun _ _ _ h => h) (fun i hi => .inl (hB.block i hi))⟩
    · cases hg
  · cases hrun
def gNG : List (AV Sq) → Option (AV Sq × List (Bool × Bool))
  | [.w (.one (.fv (.all l)))] => some (.w (.one (.fv (.neg l))), [])
  | _ => none
theorem gNG_ok (B : Nat) : (factSp gNG).ok Try.prog (sqI B) 45 := by
  intro E hp w slot args us bs out dt hrun ha hb0 hm hfr hc
  clear hb0
  simp only [factSp] at hrun
  split at hrun
  · rename_i v cd hg
    cases hrun
    unfold gNG at hg
    split at hg
    · rename_i l
      cases hg
      cases ha with | cons h0 ha => ?_
      cases ha
      have h1 : boxHv gK _ _ w _ := hm.fv _ _ h0
      obtain ⟨k, sv, rfl, _⟩ := id h1
      refine (callsIn_wide.1 (negated_in 0 gK _ w)).mono ?_
      rintro e w' ⟨rfl, rfl⟩
      have hB : Below w.heap.size w (w.alloc (.cells #[.func (.func gK) #[] #[.pointer (some ⟨k, 0, none⟩)]] 59)) := (Below.refl _ w).alloc (Nat.le_refl _) _
      refine ⟨E.addh (fun f u => f = .neg l ∧ u = .func (.func gN) #[] #[.pointer (some ⟨w.heap.size, 0, none⟩)]), _, But.addh _ _ _, rfl, .inr ⟨rfl, rfl⟩, (hm.below hB).addh fun f v hv => ?_⟩
      obtain ⟨rfl, rfl⟩ := hv
      exact ⟨w.heap.size, .func (.func gK) #[] #[.pointer (some ⟨k, 0, none⟩)], rfl, cell_al _ _ _ _, dt_fresh hm (Nat.le_refl _),
        boxHv.keep (base := 0) (safe := fun _ => true) h1 (fun _ _ _ h => h) (fun i hi => .inl (hB.block i hi)) fun sv h => lowT.keep (base := 0) (safe := fun _ => true) h (fun _ _ _ h => h) (fun i hi => .inl (hB.block i hi))⟩
    · cases hg
  · cases hrun
def resA (r : Option Int) : AV Sq := .tup [.one (.int .i64 (r.getD 0)), .one (.bool r.isSome)]
theorem resA_R (E : Env Sq) (r : Option Int) : (resA r).R E (Ls.resV r) := by
  cases r with
  | none => exact ⟨[.int .i64 0, .bool false], rfl, .cons rfl (.cons rfl .nil)⟩
  | some x => exact ⟨[.int .i64 x, .bool true], rfl, .cons rfl (.cons rfl .nil)⟩
def gLS : List (AV Sq) → Option (AV Sq × List (Bool × Bool))
  | [.w (.one (.fv (.all l))), .w (.one (.int .i64 m))] => some (resA (Ls.leastO (knsOf l) m), [((knsOf l).isEmpty, false), (decide (l.length ≤ 34359738368), true)])
  | [.w (.one (.fv (.neg l))), .w (.one (.int .i64 m))] => some (resA (Ls.leastO ((knsOf l).map negB) m), [((knsOf l).isEmpty, false), (decide (l.length ≤ 34359738368), true)])
  | _ => none
theorem norm_le (b : Bd) : (normB b).lo ≤ (normB b).hi := by
  unfold normB
  cases h : knB b with
  | true => exact (knB_iff.1 h).2.2.1
  | false => exact Int.le_refl _
theorem neg_le (b : Bd) : (negB b).lo ≤ (negB b).hi := by
  unfold negB
  cases h : knB b with
  | true => exact norm_le _
  | false => exact Int.le_refl _
theorem kns_len (l : List (List Int)) : (knsOf l).length ≤ (bdsOf l).length := List.length_filter_le _ _
theorem bds_len (l : List (List Int)) : (bdsOf l).length = l.length := List.length_map _
theorem gLS_ok (B : Nat) : (factSp gLS).ok Try.prog (sqI B) 44 := by
  intro E hp w slot args us bs out dt hrun ha hb0 hm hfr hc
  clear hb0
  simp only [factSp] at hrun
  split at hrun
  · rename_i v cd hg
    cases hrun
    unfold gLS at hg
    split at hg
    · rename_i l m
      cases hg
      cases ha with | cons h0 ha => ?_
      cases ha with | cons h2 ha => ?_
      cases ha
      cases (h2 : _ = _)
      have e1 : knsOf l ≠ [] := by
        have := hc ((knsOf l).isEmpty, false) (by simp)
        simpa using this
      have e2 : l.length ≤ 34359738368 := of_decide_eq_true (hc (decide (l.length ≤ 34359738368), true) (by simp))
      have h1 : boxHv gK _ _ w _ := hm.fv _ _ h0
      obtain ⟨k, sv, rfl, c, _, t⟩ := h1
      have hb := bds_len l
      have hk := kns_len l
      refine (callsIn_wide.1 (Ls.least_calls 0 (xs := knsOf l) (N := (bdsOf l).length) (wI := w) m w (enters_of Try.func52 (by kernel_rfl) rfl) (by omega) e1 (by omega)
        (fun b hb => (knB_iff.1 (List.mem_filter.1 hb).2).2.2.1) (allKnown_all k w.heap.size sv (bdsOf l) (by omega) w (Ls.cell_lt c) (Nat.le_refl _) c (bds_of t.1)) (Below.refl _ _))).mono ?_
      rintro e w' ⟨rfl, hB⟩
      exact ⟨E, _, But.refl _ _, rfl, resA_R _ _, hm.below hB⟩
    · rename_i l m
      cases hg
      cases ha with | cons h0 ha => ?_
      cases ha with | cons h2 ha => ?_
      cases ha
      cases (h2 : _ = _)
      have e1 : knsOf l ≠ [] := by
        have := hc ((knsOf l).isEmpty, false) (by simp)
        simpa using this
      have e2 : l.length ≤ 34359738368 := of_decide_eq_true (hc (decide (l.length ≤ 34359738368), true) (by simp))
      have h1 : boxHv gN _ _ w _ := hm.fv _ _ h0
      obtain ⟨k', sv', rfl, c', _, k, sv, rfl, c, _, t⟩ := h1
      have hb := bds_len l
      have hk := kns_len l
      refine (callsIn_wide.1 (Ls.least_calls 0 (xs := (knsOf l).map negB) (N := (bdsOf l).length) (wI := w) m w (enters_of Try.func54 (by kernel_rfl) rfl) (by omega) (by simpa using e1) (by rw [List.length_map]; omega)
        (fun b hb => by obtain ⟨a, _, rfl⟩ := List.mem_map.1 hb; exact neg_le a)
        (negated1_all k' (Ls.cell_lt c') (Nat.le_refl _) (enters_of Try.func52 (by kernel_rfl) rfl) c' (allKnown_all k w.heap.size sv (bdsOf l) (by omega) w (Ls.cell_lt c) (Nat.le_refl _) c (bds_of t.1))) (Below.refl _ _))).mono ?_
      rintro e w' ⟨rfl, hB⟩
      exact ⟨E, _, But.refl _ _, rfl, resA_R _ _, hm.below hB⟩
    · cases hg
  · cases hrun
/-! ### Fuse -/
noncomputable section
abbrev fF : Func := Try.f32
abbrev bF : Code := bodyOf fF
abbrev preF : List Code := [seqGet 0 bF, seqGet 1 bF]
abbrev prF : Code := seqGet 0 (seqGet 2 bF)
abbrev libF : List (Nat × FnSp Sq) := [(43, factSp gAK), (45, factSp gNG), (44, factSp gLS), (34, sp0 (bA noneB)), (35, sp2 (dInt .i64) (dInt .i64) (fun x y => bA (ofB x y)) (fun _ _ => []))]
abbrev cF (B : Nat) : Ctx Sq := ctxOf Try.prog (sqI B) (fun _ => false) libF

end
theorem cF_ok (B : Nat) : CtxOk Try.prog (sqI B) (cF B) := ctxOf_ok (lib1_cons (gAK_ok B) (enters_of Try.func43 (by kernel_rfl) rfl) (lib1_cons (gNG_ok B) (enters_of Try.func45 (by kernel_rfl) rfl) (lib1_cons (gLS_ok B) (enters_of Try.func44 (by kernel_rfl) rfl)
  (lib1_cons (sp0_ok rfl none_pl) (enters_of Try.func34 (by kernel_rfl) rfl) (lib1_cons (sp2_ok fun x y _ => ⟨_, rfl, of_pl x y⟩) (enters_of Try.func35 (by kernel_rfl) rfl) (lib1_nil _ _)))))) (eq_none _)
set_option maxRecDepth 100000 in
theorem pre_l (B : Nat) (l : List (List Int)) (f : Int) : evP (cF B) fF.ntmps (preF ++ [prF]) [.w (.one (.fv (.tab [some .i64, some .i64, none] l))), .w (.one (.int .i64 f))] [0, 1, 4, 5, 11] [0, 1] [] = some (([AV.w (AW.one (AC.fv (Sq.tab [some IntKind.i64, some IntKind.i64, none] l))), AV.w (AW.one (AC.int IntKind.i64 f)), AV.w (AW.one (AC.ptr 0 0)), AV.w (AW.one (AC.ptr 1 0)), AV.w (AW.one (AC.fv (Sq.all l)))], [{ ty := 24, cs := [AC.int IntKind.i64 0, AC.int IntKind.i64 0, AC.yes false] }, { ty := 3, cs := [AC.int IntKind.i64 0] }]), []) := by kernel_rfl
set_option maxRecDepth 100000 in
theorem rnd_l (B : Nat) (l : List (List Int)) (f : Int) (n : Int) (x : Bd) : evRnd (cF B) fF.ntmps (.seq (rfA bF 0) (rfB bF 0)) ((12, bA x) :: ([0, 1, 4, 5, 11].zip [.w (.one (.fv (.tab [some .i64, some .i64, none] l))), .w (.one (.int .i64 f)), .w (.one (.ptr 0 0)), .w (.one (.ptr 1 0)), .w (.one (.fv (.all l)))])) [(0, ⟨24, [.int .i64 0, .int .i64 0, .yes false]⟩), (1, ⟨3, [.int .i64 n]⟩)] 3 [0, 1] [] = some ((Ex.normal, [{ ty := 24, cs := [AC.int IntKind.i64 0, AC.int IntKind.i64 0, AC.yes false] }, { ty := 3, cs := [AC.int IntKind.i64 (IntKind.i64.wrap (n + 1))] }]), []) := by kernel_rfl
set_option maxRecDepth 100000 in
theorem rest_l0 (B : Nat) (l : List (List Int)) (f : Int) (n : Int) : evT (cF B) fF (seqRest 3 bF) ([0, 1, 4, 5, 11].zip [.w (.one (.fv (.tab [some .i64, some .i64, none] l))), .w (.one (.int .i64 f)), .w (.one (.ptr 0 0)), .w (.one (.ptr 1 0)), .w (.one (.fv (.all l)))]) [(0, ⟨24, [.int .i64 0, .int .i64 0, .yes false]⟩), (1, ⟨3, [.int .i64 n]⟩)] 3 [true] = some (AV.w (AW.agg [AC.int IntKind.i64 noneB.lo, AC.int IntKind.i64 noneB.hi, AC.bool noneB.u]), [(decide (f < 0), true), (decide (f < 0), true), (decide (f < 0), true), (decide (f < 0), true), (true, true)]) := by kernel_rfl
set_option maxRecDepth 100000 in
theorem rest_l1 (B : Nat) (l : List (List Int)) (f : Int) (n : Int) : evT (cF B) fF (seqRest 3 bF) ([0, 1, 4, 5, 11].zip [.w (.one (.fv (.tab [some .i64, some .i64, none] l))), .w (.one (.int .i64 f)), .w (.one (.ptr 0 0)), .w (.one (.ptr 1 0)), .w (.one (.fv (.all l)))]) [(0, ⟨24, [.int .i64 0, .int .i64 0, .yes false]⟩), (1, ⟨3, [.int .i64 n]⟩)] 3 [false, true] = some (AV.w (AW.agg [AC.int IntKind.i64 noneB.lo, AC.int IntKind.i64 noneB.hi, AC.bool noneB.u]), [(decide (f < 0), false), (decide (f < 0), false), (decide (f < 0), false), (decide (f < 0), false), (decide (n ≤ f), true)]) := by kernel_rfl
set_option maxRecDepth 100000 in
theorem rest_l2 (B : Nat) (l : List (List Int)) (f : Int) (n : Int) : evT (cF B) fF (seqRest 3 bF) ([0, 1, 4, 5, 11].zip [.w (.one (.fv (.tab [some .i64, some .i64, none] l))), .w (.one (.int .i64 f)), .w (.one (.ptr 0 0)), .w (.one (.ptr 1 0)), .w (.one (.fv (.all l)))]) [(0, ⟨24, [.int .i64 0, .int .i64 0, .yes false]⟩), (1, ⟨3, [.int .i64 n]⟩)] 3 [false, false, true] = some (AV.w (AW.agg [AC.int IntKind.i64 noneB.lo, AC.int IntKind.i64 noneB.hi, AC.bool noneB.u]), [(decide (f < 0), false), (decide (f < 0), false), (decide (f < 0), false), (decide (f < 0), false), (decide (n ≤ f), false), ((knsOf l).isEmpty, false), (decide (l.length ≤ 34359738368), true), (!(Ls.leastO (knsOf l) (IntKind.i64.wrap (n - f))).isSome, true)]) := by kernel_rfl
set_option maxRecDepth 100000 in
theorem rest_l3 (B : Nat) (l : List (List Int)) (f : Int) (n : Int) : evT (cF B) fF (seqRest 3 bF) ([0, 1, 4, 5, 11].zip [.w (.one (.fv (.tab [some .i64, some .i64, none] l))), .w (.one (.int .i64 f)), .w (.one (.ptr 0 0)), .w (.one (.ptr 1 0)), .w (.one (.fv (.all l)))]) [(0, ⟨24, [.int .i64 0, .int .i64 0, .yes false]⟩), (1, ⟨3, [.int .i64 n]⟩)] 3 [false, false, false] = some (AV.w (AW.agg [AC.int IntKind.i64 (ofB ((Ls.leastO (knsOf l) (IntKind.i64.wrap (n - f))).getD 0) (IntKind.i64.wrap (0 - (Ls.leastO (List.map negB (knsOf l)) (IntKind.i64.wrap (n - f))).getD 0))).lo, AC.int IntKind.i64 (ofB ((Ls.leastO (knsOf l) (IntKind.i64.wrap (n - f))).getD 0) (IntKind.i64.wrap (0 - (Ls.leastO (List.map negB (knsOf l)) (IntKind.i64.wrap (n - f))).getD 0))).hi, AC.bool (ofB ((Ls.leastO (knsOf l) (IntKind.i64.wrap (n - f))).getD 0) (IntKind.i64.wrap (0 - (Ls.leastO (List.map negB (knsOf l)) (IntKind.i64.wrap (n - f))).getD 0))).u]), [(decide (f < 0), false), (decide (f < 0), false), (decide (f < 0), false), (decide (f < 0), false), (decide (n ≤ f), false), ((knsOf l).isEmpty, false), (decide (l.length ≤ 34359738368), true), (!(Ls.leastO (knsOf l) (IntKind.i64.wrap (n - f))).isSome, false), ((knsOf l).isEmpty, false), (decide (l.length ≤ 34359738368), true)]) := by kernel_rfl
/-- What Fuse returns. -/
def fuseB (l : List (List Int)) (f : Int) : Bd :=
  if f < 0 ∨ ((knsOf l).length : Int) ≤ f then noneB else
  bif (Ls.leastO (knsOf l) ((knsOf l).length - f)).isSome then ofB ((Ls.leastO (knsOf l) ((knsOf l).length - f)).getD 0) (IntKind.i64.wrap (0 - (Ls.leastO ((knsOf l).map negB) ((knsOf l).length - f)).getD 0)) else noneB
theorem body_eq : fF.body = some (seqs preF (.seq (.seq prF (.block 0 (.rangeFunc (.tmp 11) #[12] (rfA bF 0) (rfB bF 0)))) (seqRest 3 bF))) := by kernel_rfl
theorem fuse_pl {D : Nat → Nat → Prop} {w : World} {v : Value} {l : List (List Int)} (h : tabHv D w v bk l) (hN : l.length ≤ 34359738368) (f : Int) :
    Calls Try.prog 32 #[v, .int .i64 f] w fun e w' => e = .returned (bV (fuseB l f)) ∧ Below w.heap.size w w' := by
  have h' : lowT w.heap.size (fun _ _ => False) w v bk l := lowT.keep (base := 0) (safe := fun _ => true) (low_of h) (fun _ _ _ h => h.elim) (fun _ _ => .inl rfl)
  have hb := bds_len l
  have hk := kns_len l
  have key : ∀ {q2 : List Bool} {x : AV Sq} {cd2 : List (Bool × Bool)} {u : Value}, evT (cF w.heap.size) fF (seqRest 3 bF) ([0, 1, 4, 5, 11].zip [.w (.one (.fv (.tab [some .i64, some .i64, none] l))), .w (.one (.int .i64 f)), .w (.one (.ptr 0 0)), .w (.one (.ptr 1 0)), .w (.one (.fv (.all l)))]) [(0, ⟨24, [.int .i64 0, .int .i64 0, .yes false]⟩), (1, ⟨3, [.int .i64 (knsOf l).length]⟩)] 3 q2 = some (x, cd2) → (∀ q ∈ cd2, q.1 = q.2) → x.val = some u →
      Calls Try.prog 32 #[v, .int .i64 f] w fun e w' => e = .returned u ∧ Below w.heap.size w w' := fun h2 hc2 hv => by
    refine rng_view (cF_ok _) (by kernel_rfl) (sqI_calm _) rfl rfl Try.func32 body_eq (args := [.w (.one (.fv (.tab [some .i64, some .i64, none] l))), .w (.one (.int .i64 f))]) (us := [v, .int .i64 f]) (h := fun q u => q = .tab bk l ∧ u = v) (fun q u h => by obtain ⟨rfl, rfl⟩ := h; exact h') (by kernel_rfl) (.cons ⟨rfl, rfl⟩ (.cons rfl .nil))
      (pre_l w.heap.size l f) cd_nil (it := .w (.one (.fv (.all l)))) rfl (ev := bV) (av := bA) (fun _ => rfl) (xs := knsOf l) (N := (bdsOf l).length) ?_ (hpP := fun pre => [(0, ⟨24, [.int .i64 0, .int .i64 0, .yes false]⟩), (1, ⟨3, [.int .i64 pre.length]⟩)]) (mP := fun _ => 3) (fun _ => Nat.le_refl _) rfl rfl rfl (show 12 < fF.ntmps by rw [Try.ntmps32]; decide) ?_ h2 hc2 hv
    · intro hp E w0 w1 u hB hm hR
      obtain ⟨k, sv, rfl, c, _, t⟩ := (hm.fv _ _ hR : boxHv gK _ _ w1 u)
      exact ⟨gK, _, rfl, enters_of Try.func52 (by kernel_rfl) rfl, allKnown_all k w.heap.size sv (bdsOf l) (by omega) w1 (Ls.cell_lt c) hB.size c (bds_low t)⟩
    · intro pre x hx
      refine rnd_of (m' := 3) (rnd_l w.heap.size l f pre.length x) cd_nil ?_ rfl
      have : IntKind.i64.wrap ((pre.length : Int) + 1) = (pre.length : Int) + 1 := by
        have h9 : (pre.length : Int) < 34359738368 := by omega
        rw [IntKind.wrap_i64]; omega
      simp [this]
  have h0 : ¬ ((knsOf l).length : Int) < 0 := by omega
  by_cases hf0 : f < 0
  · have e : fuseB l f = noneB := if_pos (.inl hf0)
    rw [e]
    exact key (rest_l0 w.heap.size l f (knsOf l).length) (by simp [hf0]) rfl
  by_cases hf1 : ((knsOf l).length : Int) ≤ f
  · have e : fuseB l f = noneB := if_pos (.inr hf1)
    rw [e]
    exact key (rest_l1 w.heap.size l f (knsOf l).length) (by simp [hf0, hf1]) rfl
  have hw : IntKind.i64.wrap (((knsOf l).length : Int) - f) = ((knsOf l).length : Int) - f := by rw [IntKind.wrap_i64]; omega
  have hne : (knsOf l).isEmpty = false := by
    cases hx : knsOf l with
    | nil => rw [hx] at hf1; simp at hf1; omega
    | cons _ _ => rfl
  have eF : fuseB l f = bif (Ls.leastO (knsOf l) ((knsOf l).length - f)).isSome then ofB ((Ls.leastO (knsOf l) ((knsOf l).length - f)).getD 0) (IntKind.i64.wrap (0 - (Ls.leastO ((knsOf l).map negB) ((knsOf l).length - f)).getD 0)) else noneB := if_neg (fun h => h.elim hf0 hf1)
  rw [eF]
  have L2 := rest_l2 w.heap.size l f (knsOf l).length
  have L3 := rest_l3 w.heap.size l f (knsOf l).length
  rw [hw] at L2 L3
  cases hs : (Ls.leastO (knsOf l) ((knsOf l).length - f)).isSome with
  | false => exact key L2 (by simp [hf0, hf1, hne, hN, hs]) rfl
  | true => exact key L3 (by simp [hf0, hf1, hne, hN, hs]) rfl
end Fs
end Go.Proofs.Ytfhidjldmopbgaa

