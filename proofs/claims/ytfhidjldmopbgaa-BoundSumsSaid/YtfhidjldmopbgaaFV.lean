/-
  Package bound: least: what it collects, ranging over any iterator that hands on all it has.
  Conditions: those of each theorem.
-/
import Derived.Test.YtfhidjldmopbgaaRF
import Derived.Test.YtfhidjldmopbgaaFU
import Derived.Test.YtfhidjldmopbgaaSort
import Derived.Sort.OwnSortedInts
namespace Go.Proofs.Ytfhidjldmopbgaa
open Go.RowKit Go.Shelf Ev
set_option linter.unusedVariables false
set_option linter.unusedSimpArgs false
attribute [local go_sem] Oper.semAt_some

namespace Ls
abbrev tL : TypeId := 67
abbrev kI : List (Option IntKind) := [some .i64]
def losF (pre : List Bd) : Tb := .tab kI (pre.map fun b => [b.lo])
def hisF (pre : List Bd) : Tb := .tab kI (pre.map fun b => [b.hi])
noncomputable def nl : TypeId → Option Tb := fun t => bif Nat.beq t tL then some (.tab kI []) else none
theorem nl_ok : ∀ t g D w, nl t = some g → tbI.hv g D w (.slice none 0 0) := fun t g D w h => by
  unfold nl at h
  cases hb : Nat.beq t tL with
  | false => rw [hb] at h; cases h
  | true => rw [hb] at h; cases h; exact nil_tab kI D w
noncomputable abbrev I1 : Interp Tb := tbI.rows nl nl_ok
def hpP : List Bd → List (Nat × Blk Tb)
  | [] => [(0, ⟨tL, [.lit (.slice none 0 0)]⟩), (1, ⟨tL, [.lit (.slice none 0 0)]⟩)]
  | x :: pre => [(0, ⟨tL, [.tip 8 (pre.length + 1) (losF (x :: pre))]⟩), (1, ⟨tL, [.tip 13 (pre.length + 1) (hisF (x :: pre))]⟩), (8, ⟨22, [.tok (pre.length + 1) 1]⟩), (13, ⟨22, [.tok (pre.length + 1) 1]⟩)]
def mP : List Bd → Nat
  | [] => 2
  | _ :: _ => 20
def tm0 : List (Nat × AV Tb) := [(6, .w (.one (.ptr 0 0))), (7, .w (.one (.ptr 1 0)))]
noncomputable abbrev cx : Ctx Tb := ctxOf Try.prog I1 (fun _ => false) []
noncomputable abbrev fL : Func := Try.f44
set_option maxRecDepth 100000 in
theorem rnd0 (x : Bd) : evRnd cx fL.ntmps (.seq (rfA (bodyOf fL) 0) (rfB (bodyOf fL) 0)) ((13, bA x) :: tm0) (hpP []) 2 [0, 1, 8, 13] [] =
    some ((.normal, [⟨tL, [.tip 8 1 (.tab kI ([] ++ [[x.lo]]))]⟩, ⟨tL, [.tip 13 1 (.tab kI ([] ++ [[x.hi]]))]⟩, ⟨22, [.tok 1 1]⟩, ⟨22, [.tok 1 1]⟩]),
      [(decide (0 = 0), true), (decide (0 + 1 ≤ 34359738368), true), (decide (0 = 0), true), (decide (0 + 1 ≤ 34359738368), true)]) := by kernel_rfl
set_option maxRecDepth 100000 in
theorem rnd1 (x : Bd) (n : Nat) (l k : List (List Int)) : evRnd cx fL.ntmps (.seq (rfA (bodyOf fL) 0) (rfB (bodyOf fL) 0)) ((13, bA x) :: tm0)
    [(0, ⟨tL, [.tip 8 n (.tab kI l)]⟩), (1, ⟨tL, [.tip 13 n (.tab kI k)]⟩), (8, ⟨22, [.tok n 1]⟩), (13, ⟨22, [.tok n 1]⟩)] 20 [0, 1, 8, 13] [] =
    some ((.normal, [⟨tL, [.tip 8 n.succ (.tab kI (l ++ [[x.lo]]))]⟩, ⟨tL, [.tip 13 n.succ (.tab kI (k ++ [[x.hi]]))]⟩, ⟨22, [.tok n.succ 1]⟩, ⟨22, [.tok n.succ 1]⟩]),
      [(decide (n = n), true), (decide (n + 1 ≤ 34359738368), true), (decide (n = n), true), (decide (n + 1 ≤ 34359738368), true)]) := by kernel_rfl
theorem rounds {N : Nat} (hN : N ≤ 34359738368) (pre : List Bd) (x : Bd) (h : pre.length < N) :
    ∃ fuel path r, evC cx fuel fL.ntmps [] (.seq (rfA (bodyOf fL) 0) (rfB (bodyOf fL) 0)) ((13, bA x) :: tm0) (hpP pre) (mP pre) path = some r ∧ (∀ q ∈ r.cd, q.1 = q.2) ∧ r.ex = .normal ∧
      ∀ e ∈ hpP (pre ++ [x]), Ev.look e.1 r.hp = some e.2 ∧ Nat.blt e.1 (mP (pre ++ [x])) = true ∧ e.2.cs.all (AC.low (mP (pre ++ [x]))) = true := by
  cases pre with
  | nil => exact rnd_of (m' := 20) (hp' := hpP [x]) (rnd0 x) (by simp) rfl rfl
  | cons y pre =>
    refine rnd_of (m' := 20) (hp' := hpP (y :: pre ++ [x])) (rnd1 x (pre.length + 1) _ _) ?_ ?_ rfl
    · have h1 : pre.length + 1 + 1 ≤ 34359738368 := by simp at h; omega
      intro q hq
      simp only [List.mem_cons, List.not_mem_nil, or_false] at hq
      rcases hq with rfl | rfl | rfl | rfl <;> simp [h1]
    · simp [hpP, losF, hisF]

noncomputable def e0 (w : World) : Env Tb := ⟨fun b => if b = 0 then some w.heap.size else if b = 1 then some (w.heap.size + 1) else none, fun _ _ => none, fun _ _ => False, fun _ _ => none⟩
noncomputable def st (w : World) : Ev.Start := ⟨w, fun _ => False, fun _ _ => False⟩
theorem e0_own {w : World} {b k : Nat} (h : (e0 w).own b k) : (b = 0 ∧ k = w.heap.size) ∨ (b = 1 ∧ k = w.heap.size + 1) := by
  rcases h with h | ⟨n, v, h, _⟩
  · have h : (if b = 0 then some w.heap.size else if b = 1 then some (w.heap.size + 1) else none) = some k := h
    split at h
    · cases h; exact .inl ⟨by assumption, rfl⟩
    · split at h
      · cases h; exact .inr ⟨by assumption, rfl⟩
      · cases h
  · cases h
theorem e0_free (w : World) : Free 2 (e0 w) := fun b hb => ⟨by
  show (if b = 0 then some w.heap.size else if b = 1 then some (w.heap.size + 1) else none) = none
  rw [if_neg (by omega), if_neg (by omega)], fun _ => rfl, fun _ => rfl⟩
theorem mem0 (w : World) {W : World} (hW : W = (w.alloc (.cells #[.slice none 0 0] tL)).alloc (.cells #[.slice none 0 0] tL)) : Mem I1 (st w) (e0 w) (hpP []) W := by
  subst hW
  have hb : Below w.heap.size w ((w.alloc (.cells #[.slice none 0 0] tL)).alloc (.cells #[.slice none 0 0] tL)) := ((Below.refl _ w).alloc (Nat.le_refl _) _).alloc (by rw [World.size_alloc]; omega) _
  have h0 : ((w.alloc (.cells #[.slice none 0 0] tL)).alloc (.cells #[.slice none 0 0] tL)).heap[w.heap.size]? = some (.cells #[.slice none 0 0] tL (0, 0)) :=
    (Below.heap_alloc _ _ _ (by simp)).trans (World.alloc_heap_new w _)
  have h1 : ((w.alloc (.cells #[.slice none 0 0] tL)).alloc (.cells #[.slice none 0 0] tL)).heap[w.heap.size + 1]? = some (.cells #[.slice none 0 0] tL (0, 0)) := by
    have := World.alloc_heap_new (w.alloc (.cells #[.slice none 0 0] tL)) (.cells #[.slice none 0 0] tL)
    rwa [World.size_alloc] at this
  refine ⟨fun b blk hb _ => ?_, fun b blk n sz hb ht => ?_, fun _ _ _ _ => rfl, fun b b' k q1 q2 => ?_, fun b k q => ?_, fun k j f arr h => (by cases h), ⟨hb.os, hb.tape, hb.output, hb.size, fun k hk _ => hb.block k hk⟩, fun b k q => .inr ?_, fun b k q => Nat.zero_le _, Nat.zero_le _, fun f v h => h.elim, fun b n v k o h => (by cases h)⟩
  · simp only [hpP] at hb
    rw [look_cons] at hb
    split at hb
    · cases hb; subst_vars; exact ⟨_, [.slice none 0 0], rfl, h0, .cons rfl .nil⟩
    · rw [look_cons] at hb
      split at hb
      · cases hb; subst_vars; exact ⟨_, [.slice none 0 0], rfl, h1, .cons rfl .nil⟩
      · cases hb
  · simp only [hpP] at hb
    rw [look_cons] at hb
    split at hb
    · cases hb; cases ht
    · rw [look_cons] at hb
      split at hb
      · cases hb; cases ht
      · cases hb
  · rcases e0_own q1 with ⟨rfl, rfl⟩ | ⟨rfl, rfl⟩ <;> rcases e0_own q2 with ⟨rfl, e⟩ | ⟨rfl, e⟩ <;> first | rfl | omega
  · rcases e0_own q with ⟨rfl, rfl⟩ | ⟨rfl, rfl⟩ <;> simp <;> omega
  · show w.heap.size ≤ k
    rcases e0_own q with ⟨rfl, rfl⟩ | ⟨rfl, rfl⟩ <;> omega

theorem cx_ok : CtxOk Try.prog I1 cx := ctxOf_ok (lib1_nil _ _) (eq_none _)
/-- What stands behind the loop: a row, read out of its box. -/
theorem row_of {E : Env Tb} {W : World} {w0 : Ev.Start} {hp : List (Nat × Blk Tb)} (hm : Mem I1 w0 E hp W) {b s n kb : Nat} {l : List Int} {tB tR : TypeId} (hb : Ev.look b hp = some ⟨tB, [.tip s n (.tab kI (l.map fun x => [x]))]⟩)
    (hs : Ev.look s hp = some ⟨tR, [.tok n 1]⟩) (hk : E.m b = some kb) (hn : l.length = n) (h0 : n ≠ 0) :
    ∃ k cap, W.cell? ⟨kb, 0, none⟩ = some (.slice (some ⟨k, 0, none⟩) l.length cap) ∧ E.own s k ∧ k < W.heap.size ∧ Sort.Holds (Value.int .i64) W k 0 l.toArray := by
  obtain ⟨k0, vs, g1, g2, g3⟩ := hm.hp b _ hb rfl
  rw [hk] at g1; cases g1
  cases g3 with
  | cons gr gn =>
    rename_i v us
    cases gn
    obtain ⟨q1, q2⟩ := gr
    obtain ⟨_, _, _, q3⟩ := hm.tok s _ n 1 hs rfl
    rcases q3 with ⟨_, e⟩ | ⟨k, cap, cur, q3, q4, q5, q6, q7⟩
    · exact absurd e h0
    · rw [q2] at q3; cases q3
      refine ⟨k, cap, ?_, .inr ⟨n, _, q2, rfl⟩, (Array.getElem?_eq_some_iff.1 q4).1, fun j hj => ?_⟩
      · unfold World.cell?
        rw [g2, hn]; rfl
      · obtain ⟨p, cp, z1, z2, z3, z4, z5⟩ := hm.fv _ _ q1
        simp only [Value.slice.injEq] at z1
        obtain ⟨rfl, z6, rfl⟩ := z1
        have hj' : j < l.length := by simpa using hj
        obtain ⟨_, y2⟩ := (z5 _ rfl).2 j (by simpa using hj') 0 (some .i64) rfl
        refine ⟨?_, ?_⟩
        · have e1 : (0 : Nat) + (j * kI.length + 0) = 0 + j := by simp [kI]
          rw [e1] at y2
          rw [y2]
          simp [kdV, hj']
        · unfold World.frozen?
          rw [q4]; simp
def seqDrop : Nat → Code → Code
  | 0, c => c
  | n + 1, .seq _ y => seqDrop n y
  | _, c => c
def sortL (l : List Int) : List Int := l.mergeSort fun x y => decide (x ≤ y)
theorem sortL_len (l : List Int) : (sortL l).length = l.length := List.length_mergeSort l
theorem cell_lt {W : World} {b o : Nat} {v : Value} (h : W.cell? ⟨b, o, none⟩ = some v) : b < W.heap.size := by
  rcases Nat.lt_or_ge b W.heap.size with q | q
  · exact q
  · unfold World.cell? at h
    rw [Array.getElem?_eq_none q] at h; cases h
theorem sort_keeps {W W' : World} {k n : Nat} {d : List Int} {os : Array Obj} (h : W' = Sort.grow (Sort.putRow (Value.int .i64) (Sort.ahead W n) k 0 (sortL d).toArray) os) {b o : Nat} {v : Value} (hne : b ≠ k) (hc : W.cell? ⟨b, o, none⟩ = some v) : W'.cell? ⟨b, o, none⟩ = some v := by
  have hg := Go.grownBy_sortedI (w := W) (g := k) (n := n) (os := os) (sortL d).toArray
  rw [← h] at hg
  exact (World.cell?_of_block (hg.block b (cell_lt hc) (fun e => hne (Option.some.inj e)))).trans hc
theorem holds_sorted {W W' : World} {k n : Nat} {d : List Int} {os : Array Obj} (h : W' = Sort.grow (Sort.putRow (Value.int .i64) (Sort.ahead W n) k 0 (sortL d).toArray) os) (hk : k < W.heap.size) (hd : Sort.Holds (Value.int .i64) W k 0 d.toArray) :
    Sort.Holds (Value.int .i64) W' k 0 (sortL d).toArray := by
  rw [h]
  exact Sort.holds_grow _ _ _ _ _ _ (by simpa using hk) (Sort.holds_putRow _ _ _ _ d.toArray _ hd (by simp [sortL_len]))
theorem holds_kept {W W' : World} {k k' n : Nat} {d : List Int} {x : List Int} {os : Array Obj} (h : W' = Sort.grow (Sort.putRow (Value.int .i64) (Sort.ahead W n) k 0 (sortL d).toArray) os) (hne : k' ≠ k) (hx : Sort.Holds (Value.int .i64) W k' 0 x.toArray) :
    Sort.Holds (Value.int .i64) W' k' 0 x.toArray := fun j hj => by
  have hg := Go.grownBy_sortedI (w := W) (g := k) (n := n) (os := os) (sortL d).toArray
  rw [← h] at hg
  have hb := hg.block k' (cell_lt (hx j hj).1) (fun e => hne (Option.some.inj e))
  exact ⟨(World.cell?_of_block hb).trans (hx j hj).1, (World.frozen?_of_block hb).trans (hx j hj).2⟩

/-- The activation behind both sorts. -/
abbrev actL (gf : Nat) (lb : Array Value) (need : Int) (b6 b7 k6 l6 cap6 k7 l7 cap7 D : Nat) : Act :=
  { tmps := #[.func (.func gf) #[] lb, .int .i64 need, undef, undef, .int .i64 0, .bool false, .pointer (some ⟨b6, 0, none⟩), .pointer (some ⟨b7, 0, none⟩), undef, undef, undef, undef, .func (.func gf) #[] lb, undef, undef, undef, undef, undef, undef, undef, undef, undef, undef, undef,
      .slice (some ⟨k6, 0, none⟩) l6 cap6, .tuple #[], .slice (some ⟨k7, 0, none⟩) l7 cap7, .tuple #[], undef, undef, undef, undef, undef, undef, undef, undef, undef, undef, undef, undef, undef, undef, undef, undef, undef, undef, undef, undef, undef, undef, undef], defers := [{ target := .collected D, args := #[] }] }
set_option maxRecDepth 100000 in
set_option maxHeartbeats 2000000 in
theorem least_upto (n : Nat) {gf : Nat} {lb : Array Value} {xs : List Bd} {N : Nat} {wI : World} (need : Int) (w : World) (eg : ∀ args w, (callFunc gf args).run Try.prog w = .ok (.enter gf args) w) (hN : N ≤ 34359738368) (hxs : xs ≠ []) (hxl : xs.length < 4611686018427387904)
    (hseq : SeqAll Try.prog gf lb (fun x : Bd => #[bV x]) w.heap.size xs N wI) (hb : Below wI.heap.size wI w) {R : Ending → World → Prop}
    (htail : ∀ (D : Nat) (W : World) (k6 cap6 k7 cap7 : Nat) (a : Act), a = actL gf lb need w.heap.size (w.heap.size + 1) k6 (xs.map (·.lo)).length cap6 k7 (xs.map (·.hi)).length cap7 D →
      w.heap.size ≤ D → W.heap[D]? = some (.deferred (some [])) → W.cell? ⟨w.heap.size, 0, none⟩ = some (.slice (some ⟨k6, 0, none⟩) (xs.map (·.lo)).length cap6) → W.cell? ⟨w.heap.size + 1, 0, none⟩ = some (.slice (some ⟨k7, 0, none⟩) (xs.map (·.hi)).length cap7) →
      Sort.Holds (Value.int .i64) W k6 0 (sortL (xs.map (·.lo))).toArray → Sort.Holds (Value.int .i64) W k7 0 (sortL (xs.map (·.hi))).toArray → w.heap.size ≤ k6 → w.heap.size ≤ k7 →
      w.heap.size ≠ k6 → w.heap.size + 1 ≠ k6 → w.heap.size ≠ k7 → w.heap.size + 1 ≠ k7 → Below w.heap.size w W →
      (seqDrop 5 (bodyOf fL)).wpIn Fence.wide n Try.prog (bodyPostM Fence.wide n Try.prog fL R) a W) :
    CallsIn Fence.wide n Try.prog 44 #[.func (.func gf) #[] lb, .int .i64 need] w R := by
  have hbw : ∀ o o', Below w.heap.size w ((w.alloc o).alloc o') := fun o o' => ((Below.refl _ w).alloc (Nat.le_refl _) o).alloc (by rw [World.size_alloc]; omega) o'
  refine callsIn_of_wp_marks Try.func44 rfl trivial ?_ rfl
  simp only [Try.ntmps44, List.size_toArray, List.length_cons, List.length_nil, Nat.reduceAdd, Nat.reduceSub, Array.replicate_succ, Array.replicate_zero, List.push_toArray, List.append_toArray, List.nil_append, List.cons_append]
  gi_wp2
  refine rf_ok (nt := fL.ntmps) (assign := rfA (bodyOf fL) 0) (body := rfB (bodyOf fL) 0) (mP := mP) (hpP := hpP) (tm := tm0) (ev := bV) (av := bA) (w0 := st w) (E0 := e0 w) (ds := []) cx_ok (by kernel_rfl) (tbI_calm.rows) lps_nil (fun pre => by cases pre <;> simp [mP]) (show 13 < fL.ntmps by rw [Try.ntmps44]; decide)
    (fun x => rfl) (fun pre x h => rounds hN pre x h) rfl eg (fun _ h => h) hseq (hb.trans ((hbw _ _).mono hb.size)) ?_ (mem0 w rfl) (e0_free w) (fun _ _ => rfl) ?_
  · refine ⟨fun i v hv => ?_, by simp, rfl⟩
    unfold tm0 at hv
    rw [look_cons] at hv
    split at hv
    · cases hv; subst_vars; exact ⟨_, rfl, w.heap.size, rfl, rfl⟩
    · rw [look_cons] at hv
      split at hv
      · cases hv; subst_vars; exact ⟨_, rfl, w.heap.size + 1, rfl, rfl⟩
      · cases hv
  · intro E' w' D hle _ hm _ hD hDs hnD
    obtain ⟨x, pre, rfl⟩ : ∃ x pre, xs = x :: pre := by
      cases xs with
      | nil => exact absurd rfl hxs
      | cons x pre => exact ⟨x, pre, rfl⟩
    have m0 : E'.m 0 = some w.heap.size := hle.m 0 _ rfl
    have m1 : E'.m 1 = some (w.heap.size + 1) := hle.m 1 _ rfl
    obtain ⟨k6, cap6, c6, o6, l6, h6⟩ := row_of hm (b := 0) (s := 8) (n := pre.length + 1) (l := (x :: pre).map (·.lo)) (by simp [hpP, losF, look_cons]; rfl) rfl m0 (by simp) (by omega)
    obtain ⟨k7, cap7, c7, o7, l7, h7⟩ := row_of hm (b := 1) (s := 13) (n := pre.length + 1) (l := (x :: pre).map (·.hi)) (by simp [hpP, hisF, look_cons]; rfl) rfl m1 (by simp) (by omega)
    have n67 : k7 ≠ k6 := fun e => by have := hm.inj 8 13 k6 o6 (e ▸ o7); omega
    have n60 : w.heap.size ≠ k6 := fun e => by have := hm.inj 0 8 k6 (.inl (e ▸ m0)) o6; omega
    have n61 : w.heap.size + 1 ≠ k6 := fun e => by have := hm.inj 1 8 k6 (.inl (e ▸ m1)) o6; omega
    have n70 : w.heap.size ≠ k7 := fun e => by have := hm.inj 0 13 k7 (.inl (e ▸ m0)) o7; omega
    have n71 : w.heap.size + 1 ≠ k7 := fun e => by have := hm.inj 1 13 k7 (.inl (e ▸ m1)) o7; omega
    generalize hlos : (x :: pre).map (·.lo) = los at c6 h6
    generalize hhis : (x :: pre).map (·.hi) = his at c7 h7
    gi_wp2
    refine ⟨trivial, fun h => (by cases h), (show CallsIn Fence.wide _ Try.prog 53 _ _ _ from callsIn_wide.2 (AnyM.slices_Sort_int Try.sortFix k6 0 cap6 los w' h6 l6 (by rw [← hlos]; simpa using hxl))).mono ?_⟩
    rintro e w2 ⟨rfl, n1, os1, hw2⟩
    have c60 := sort_keeps hw2 n60 c6
    have c70 := sort_keeps hw2 n61 c7
    have s6 := holds_sorted hw2 l6 h6
    have h70 := holds_kept hw2 n67 h7
    have l70 : k7 < w2.heap.size := by rw [hw2]; simp; omega
    have g2 : w'.grownBy w2 (some k6) := by rw [hw2]; exact Go.grownBy_sortedI _
    clear hw2
    gi_wp2
    refine ⟨trivial, fun h => (by cases h), (show CallsIn Fence.wide _ Try.prog 53 _ _ _ from callsIn_wide.2 (AnyM.slices_Sort_int Try.sortFix k7 0 cap7 his w2 h70 l70 (by rw [← hhis]; simpa using hxl))).mono ?_⟩
    rintro e w3 ⟨rfl, n2, os2, hw3⟩
    have c61 := sort_keeps hw3 n70 c60
    have c71 := sort_keeps hw3 n71 c70
    have s7 := holds_sorted hw3 l70 h70
    have s61 := holds_kept hw3 (Ne.symm n67) s6
    have g3 : w2.grownBy w3 (some k7) := by rw [hw3]; exact Go.grownBy_sortedI _
    clear hw3
    rename_i K1 hK1 K0 hK0
    refine hK0 _ _ (hK1 _ _ ?_)
    have hkn := hm.kept
    have hno : ∀ s k, E'.own s k → w.heap.size ≤ k := fun s k hk => by
      rcases hm.new s k hk with q | q
      · exact q.elim
      · exact q
    have hlt : w.heap.size + 1 < w'.heap.size := cell_lt c7
    have z2 := g2.size
    have z3 := g3.size
    have dlt : D < w'.heap.size := (Array.getElem?_eq_some_iff.1 hD).1
    have d6 : some D ≠ some k6 := fun e => hnD ⟨8, Option.some.inj e ▸ o6⟩
    have d7 : some D ≠ some k7 := fun e => hnD ⟨13, Option.some.inj e ▸ o7⟩
    have hW : Below w.heap.size w w3 := by
      refine ⟨(g3.os.trans g2.os).trans hkn.os, (g3.tape.trans g2.tape).trans hkn.tape, (g3.output.trans g2.output).trans hkn.output, Nat.le_trans hkn.size (Nat.le_trans z2 z3), fun k hk => ?_⟩
      have e6 := hno 8 k6 o6
      have e7 := hno 13 k7 o7
      exact (g3.block k (by omega) (fun e => by have := Option.some.inj e; omega)).trans ((g2.block k (by omega) (fun e => by have := Option.some.inj e; omega)).trans (hkn.block k hk (fun h => h)))
    subst hlos
    subst hhis
    refine htail D w3 k6 cap6 k7 cap7 _ ?_ hDs ((g3.block D (by omega) d7).trans ((g2.block D dlt d6).trans hD)) c61 c71 s61 s7 (hno 8 k6 o6) (hno 13 k7 o7) n60 n61 n70 n71 hW
    rfl
end Ls
end Go.Proofs.Ytfhidjldmopbgaa

