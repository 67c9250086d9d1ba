/-
  Package bound: the iterators that Fuse and Votes range over: allKnown (the known ones of a slice of bounds).
  Conditions: those of each theorem; the fence is the wide one.
-/
import Derived.RangeFuncNested
import Derived.RangeFuncBound
import Derived.RangeFuncCalls
import Derived.RangeFuncLeaves
import Derived.RangeFuncBox
import Derived.Shelf.Abstract
import Derived.Shelf.RegionOpen
import Derived.WalkKit
import Derived.OwnWalkIn
import Derived.TacticsInMore
import Derived.LoopNIn
import Derived.LoopIn
import Derived.Test.YtfhidjldmopbgaaB1
import Derived.Test.YtfhidjldmopbgaaFR
namespace Go.Proofs.Ytfhidjldmopbgaa
open Go.RowKit Go.Shelf Ev
set_option linter.unusedVariables false
set_option linter.unusedSimpArgs false
attribute [local go_sem] Oper.semAt_some

def nthB (bs : List Bd) (k : Nat) : Bd := bs.getD k ⟨0, 0, true⟩
/-- What has come when k elements have been looked at. -/
def knL (bs : List Bd) (k : Nat) : List Bd := (bs.take k).filter knB
theorem knL_succ {bs : List Bd} {k : Nat} (h : k < bs.length) : knL bs (k + 1) = if knB (nthB bs k) then knL bs k ++ [nthB bs k] else knL bs k := by
  unfold knL nthB
  rw [List.take_add_one, List.getElem?_eq_getElem h]
  simp only [Option.toList_some, List.filter_append, List.getD_eq_getElem?_getD, List.getElem?_eq_getElem h, Option.getD_some, List.filter_cons, List.filter_nil]
  split <;> simp_all
theorem knL_len (bs : List Bd) (k : Nat) : (knL bs k).length ≤ bs.length := by
  unfold knL
  have h1 := List.length_filter_le knB (bs.take k)
  have h2 := List.length_take_le' k bs
  omega
theorem knL_lt {bs : List Bd} {k : Nat} (h : k < bs.length) : (knL bs k).length < bs.length := by
  unfold knL
  have h1 := List.length_filter_le knB (bs.take k)
  have h2 := List.length_take_le k bs
  omega


theorem cell_al (w : World) (c : Array Value) (t : TypeId) (o : Nat) : (w.alloc (.cells c t)).cell? ⟨w.heap.size, o, none⟩ = c[o]? := by
  unfold World.cell?
  rw [World.alloc_heap_new]
  simp
theorem below_al {n₀ : Nat} {w w2 : World} {o : Obj} (hn : n₀ ≤ w.heap.size) (hB : Below (w.alloc o).heap.size (w.alloc o) w2) : Below n₀ w w2 :=
  (((Below.refl w.heap.size w).alloc (Nat.le_refl _) o).trans (hB.mono (by simp))).mono hn

set_option maxRecDepth 100000 in
set_option maxHeartbeats 2000000 in
/-- allKnown's closure: for every loop body that keeps what lay below n₀. -/
theorem known1_in (n : Nat) (hn : 2 ≤ n) (l Bs n₀ b off cap : Nat) (bs : List Bd) (hreach : bs.length * 24 ≤ 140737488351232) (hb : b < n₀) (J Jx : List Bd → World → Prop) (W : World)
    (hn0 : n₀ ≤ W.heap.size) (hJ : ∀ s A B, J s A → Below A.heap.size A B → J s B)
    (hY : ∀ pre x W, J pre W → pre.length < bs.length → YieldAt Fence.wide (n - 1) Try.prog l #[bV x] W fun e W' =>
      (e = .returned (.bool true) ∧ J (pre ++ [x]) W' ∧ Below n₀ W W') ∨ (e = .returned (.bool false) ∧ Jx (pre ++ [x]) W'))
    (hBs : W.cell? ⟨Bs, 0, none⟩ = some (.slice (some ⟨b, off, none⟩) bs.length cap))
    (hc : ∀ j, j < bs.length → W.cell? ⟨b, off + j * 3, none⟩ = some (.int .i64 (nthB bs j).lo) ∧ W.cell? ⟨b, off + j * 3 + 1, none⟩ = some (.int .i64 (nthB bs j).hi) ∧ W.cell? ⟨b, off + j * 3 + 2, none⟩ = some (.bool (nthB bs j).u)) (h0 : J [] W) :
    CallsIn Fence.wide n Try.prog 52 #[.func (.yield l) #[] #[], .pointer (some ⟨Bs, 0, none⟩)] W fun e W' => (∃ v, e = .returned v) ∧
      ((∃ ys, ys = bs.filter knB ∧ J ys W') ∨ (∃ pre, (∃ k, k ≤ bs.length ∧ pre = knL bs k) ∧ Jx pre W')) := by
  refine callsIn_of_wp Try.func52 rfl trivial ?_ rfl
  simp only [Try.ntmps52, List.size_toArray, List.length_cons, List.length_nil, Nat.reduceAdd, Nat.reduceSub, Array.replicate_succ, Array.replicate_zero, List.push_toArray, List.append_toArray, List.nil_append, List.cons_append]
  gi_wp2
  gi_loopw [7] (fun i wr => ∃ k : Nat, k ≤ bs.length ∧ i = .int .i64 k ∧ J (knL bs k) wr ∧ Below n₀ W wr)
    (fun i _ => bs.length - (intOf i).toNat)
  case atStart => exact ⟨0, Nat.zero_le _, rfl, h0, Below.refl _ _⟩
  case round =>
    obtain ⟨k, hk, rfl, hJs, hnx⟩ := hrel
    by_cases hlt : k < bs.length
    · have hcx := hc k hlt
      have c0 := (hnx.cell (p := ⟨b, off + k * 3, none⟩) hb).trans hcx.1
      have c1 := (hnx.cell (p := ⟨b, off + k * 3 + 1, none⟩) hb).trans hcx.2.1
      have c2 := (hnx.cell (p := ⟨b, off + k * 3 + 2, none⟩) hb).trans hcx.2.2
      clear hcx hc
      cases hkn : knB (nthB bs k) with
      | true =>
        gi_wp2
        refine ⟨trivial, fun _ => by omega, (callsIn_wide.2 (known_pl (nthB bs k) _)).mono ?_⟩
        rintro e w2 ⟨rfl, hB⟩
        rw [hkn]
        have d0 : w2.cell? ⟨wr.heap.size, 0, none⟩ = some (.int .i64 (nthB bs k).lo) := (hB.cell (p := ⟨wr.heap.size, 0, none⟩) (by simp)).trans (cell_al _ _ _ _)
        have d1 : w2.cell? ⟨wr.heap.size, 1, none⟩ = some (.int .i64 (nthB bs k).hi) := (hB.cell (p := ⟨wr.heap.size, 1, none⟩) (by simp)).trans (cell_al _ _ _ _)
        have d2 : w2.cell? ⟨wr.heap.size, 2, none⟩ = some (.bool (nthB bs k).u) := (hB.cell (p := ⟨wr.heap.size, 2, none⟩) (by simp)).trans (cell_al _ _ _ _)
        have hw2 : Below wr.heap.size wr w2 := below_al (Nat.le_refl _) hB
        have hnr : n₀ ≤ wr.heap.size := Nat.le_trans hn0 hnx.size
        obtain ⟨fn, tmps, assign, body, hy, hR⟩ := hY _ (nthB bs k) w2 (hJ _ _ _ hJs hw2) (knL_lt hlt)
        clear hB
        gi_wp2
        refine ⟨fun _ => by omega, hR.mono ?_⟩
        rintro e W3 (⟨rfl, hJ3, hk3⟩ | ⟨rfl, hJx3⟩)
        · gi_wp2
          go_roundw
          case rel => exact ⟨k + 1, by omega, by simp, by rw [knL_succ hlt, if_pos hkn]; exact hJ3, (hnx.trans (hw2.mono hnr)).trans hk3⟩
          case measure => simp [intOf]; omega
        · gi_wp2
          refine bodyPost_ret (results_none rfl _ _ _) rfl ?_
          exact ⟨⟨_, rfl⟩, .inr ⟨_, ⟨k + 1, by omega, by rw [knL_succ hlt, if_pos hkn]⟩, hJx3⟩⟩
      | false =>
        gi_wp2
        refine ⟨trivial, fun _ => by omega, (callsIn_wide.2 (known_pl (nthB bs k) _)).mono ?_⟩
        rintro e w2 ⟨rfl, hB⟩
        rw [hkn]
        have hw2 : Below wr.heap.size wr w2 := below_al (Nat.le_refl _) hB
        have hnr : n₀ ≤ wr.heap.size := Nat.le_trans hn0 hnx.size
        clear hB
        gi_wp2
        refine ⟨fun _ h => (by cases h), ?_⟩
        gi_wp2
        go_roundw
        case rel => exact ⟨k + 1, by omega, by simp, by rw [knL_succ hlt, if_neg (by rw [hkn]; decide)]; exact hJ _ _ _ hJs hw2, hnx.trans (hw2.mono hnr)⟩
        case measure => simp [intOf]; omega
    · obtain rfl : k = bs.length := by omega
      gi_wp2
      go_end0
      exact ⟨⟨_, rfl⟩, .inl ⟨_, by rw [knL, List.take_length], hJs⟩⟩

/-- The slice value sv holds these bounds, in a block below n₀; or it is nil and there are none. -/
def BdsAt (n₀ : Nat) (W : World) (sv : Value) (bs : List Bd) : Prop :=
  (∃ p cap, sv = .slice p 0 cap ∧ bs = []) ∨ ∃ b off cap, sv = .slice (some ⟨b, off, none⟩) bs.length cap ∧ b < n₀ ∧ ∀ j, j < bs.length →
    W.cell? ⟨b, off + j * 3, none⟩ = some (.int .i64 (nthB bs j).lo) ∧ W.cell? ⟨b, off + j * 3 + 1, none⟩ = some (.int .i64 (nthB bs j).hi) ∧ W.cell? ⟨b, off + j * 3 + 2, none⟩ = some (.bool (nthB bs j).u)
theorem BdsAt.below {n₀ : Nat} {A B : World} (h : Below n₀ A B) {sv : Value} {bs : List Bd} : BdsAt n₀ A sv bs → BdsAt n₀ B sv bs
  | .inl e => .inl e
  | .inr ⟨b, off, cap, e, hb, hc⟩ => .inr ⟨b, off, cap, e, hb, fun j hj => ⟨(h.cell (p := ⟨b, off + j * 3, none⟩) hb).trans (hc j hj).1, (h.cell (p := ⟨b, off + j * 3 + 1, none⟩) hb).trans (hc j hj).2.1,
      (h.cell (p := ⟨b, off + j * 3 + 2, none⟩) hb).trans (hc j hj).2.2⟩⟩

set_option maxRecDepth 100000 in
set_option maxHeartbeats 2000000 in
/-- .. at an empty slice: no round. -/
theorem known1_nil (n : Nat) (l Bs cap : Nat) (p : Option Addr) (J : List Bd → World → Prop) (W : World) (hBs : W.cell? ⟨Bs, 0, none⟩ = some (.slice p 0 cap)) (h0 : J [] W) :
    CallsIn Fence.wide n Try.prog 52 #[.func (.yield l) #[] #[], .pointer (some ⟨Bs, 0, none⟩)] W fun e W' => (∃ v, e = .returned v) ∧ J [] W' := by
  refine callsIn_of_wp Try.func52 rfl trivial ?_ rfl
  simp only [Try.ntmps52, List.size_toArray, List.length_cons, List.length_nil, Nat.reduceAdd, Nat.reduceSub, Array.replicate_succ, Array.replicate_zero, List.push_toArray, List.append_toArray, List.nil_append, List.cons_append]
  gi_wp2
  gi_loopw [7] (fun i wr => i = .int .i64 0 ∧ J [] wr) (fun _ _ => 0)
  case atStart => exact ⟨rfl, h0⟩
  case round =>
    obtain ⟨rfl, hJs⟩ := hrel
    gi_wp2
    go_end0
    exact ⟨⟨_, rfl⟩, hJs⟩

set_option maxHeartbeats 1000000 in
/-- allKnown: the slice is boxed; the function value captures the box. -/
theorem allKnown_in (n : Nat) (a : Option Addr) (len cap : Nat) (w : World) :
    CallsIn Fence.wide n Try.prog 43 #[.slice a len cap] w fun e w' => e = .returned (.func (.func 52) #[] #[.pointer (some ⟨w.heap.size, 0, none⟩)]) ∧
      w' = w.alloc (.cells #[.slice a len cap] 25) := by
  refine callsIn_of_wp Try.func43 rfl trivial ?_ rfl
  simp only [Try.ntmps43, List.size_toArray, List.length_cons, List.length_nil, Nat.reduceAdd, Nat.reduceSub, Array.replicate_succ, Array.replicate_zero, List.push_toArray, List.append_toArray, List.nil_append, List.cons_append]
  gi_wp2
  go_ret
  exact ⟨rfl, rfl⟩

/-- What allKnown returns, ranged over: all known bounds, in their order. -/
theorem allKnown_all (Bs n₀ : Nat) (sv : Value) (bs : List Bd) (hreach : bs.length * 24 ≤ 140737488351232) (w : World) (hBs : Bs < w.heap.size) (hn₀ : n₀ ≤ w.heap.size)
    (hc : w.cell? ⟨Bs, 0, none⟩ = some sv) (hI : BdsAt n₀ w sv bs) :
    SeqAll Try.prog 52 #[.pointer (some ⟨Bs, 0, none⟩)] (fun x : Bd => #[bV x]) n₀ (bs.filter knB) bs.length w := fun n l J W O hW hJ _ hY h0 => by
  have hc' := (hW.cell (p := ⟨Bs, 0, none⟩) hBs).trans hc
  rcases hI.below (hW.mono hn₀) with ⟨p, cap, rfl, rfl⟩ | ⟨b, off, cap, rfl, hb, hcs⟩
  · exact (known1_nil n l Bs cap p (fun pre W => ∃ O, J (pre, O) W) W hc' ⟨O, h0⟩).mono fun e W' h => h
  · refine wide_depth ((known1_in 3 (by omega) l Bs n₀ b off cap bs hreach hb (fun pre W => ∃ O, J (pre, O) W) (fun _ _ => False) W (Nat.le_trans hn₀ hW.size) (fun s A B ⟨O, h⟩ hb => ⟨O, hJ.below h hb⟩)
      (fun pre x W1 ⟨O, h1⟩ h2 => (hY pre O x W1 h1 h2 _).mono fun e W' ⟨a, O', b, c⟩ => .inl ⟨a, ⟨O', b⟩, c.1⟩) hc' hcs ⟨O, h0⟩).mono ?_)
    rintro e W' ⟨he, ⟨ys, rfl, hj⟩ | ⟨pre, _, hf⟩⟩
    · exact ⟨he, hj⟩
    · exact hf.elim

set_option maxRecDepth 100000 in
set_option maxHeartbeats 2000000 in
/-- negated's closure, over any iterator that hands on all it has. -/
theorem negated1_all {gf : Nat} {lb : Array Value} {n₀ : Nat} {xs : List Bd} {N : Nat} {w0 : World} (Bn : Nat) (hBn : Bn < w0.heap.size) (hn₀ : n₀ ≤ w0.heap.size)
    (eg : ∀ args w, (callFunc gf args).run Try.prog w = .ok (.enter gf args) w)
    (hc : w0.cell? ⟨Bn, 0, none⟩ = some (.func (.func gf) #[] lb)) (hseq : SeqAll Try.prog gf lb (fun x : Bd => #[bV x]) n₀ xs N w0) :
    SeqAll Try.prog 54 #[.pointer (some ⟨Bn, 0, none⟩)] (fun x : Bd => #[bV x]) n₀ (xs.map negB) N w0 := fun n l J W O hW hJ hO hY h0 => by
  have hcn := (hW.cell (p := ⟨Bn, 0, none⟩) hBn).trans hc
  refine callsIn_of_wp_marks Try.func54 rfl trivial ?_ rfl
  simp only [Try.ntmps54, List.size_toArray, List.length_cons, List.length_nil, Nat.reduceAdd, Nat.reduceSub, Array.replicate_succ, Array.replicate_zero, List.push_toArray, List.append_toArray, List.nil_append, List.cons_append]
  have hcn2 : ∀ o, (W.alloc o).cell? ⟨Bn, 0, none⟩ = some (.func (.func gf) #[] lb) := fun o => (Below.cell (((Below.refl W.heap.size W).alloc (Nat.le_refl _) o)) (p := ⟨Bn, 0, none⟩) (Nat.lt_of_lt_of_le hBn hW.size)).trans hcn
  gi_wp2
  have hgW : ∀ o, Below W.heap.size W (W.alloc o) := fun o => (Below.refl _ W).alloc (Nat.le_refl _) o
  refine wpIn_all (n₀ := n₀) rfl eg hseq (by simp; have := hW.size; omega) (hW.trans ((hgW _).mono hW.size)) (fun _ => rfl)
    (fun s W' => J (s.1.map negB, s.2) W' ∧ W'.cell? ⟨W.heap.size, 0, none⟩ = some (.func (.yield l) #[] #[]) ∧ ¬ s.2 W.heap.size)
    (fun s A B row h hg hr => ⟨hJ _ A B row h.1 hg (fun r e => ⟨by have := (hr r e).1; simp at this; omega, (hr r e).2⟩), cell_kept h.2.1 hg (fun r e => (hr r e).2.2), h.2.2⟩)
    O (fun k hk => by have := hO k hk; simp; omega)
    ⟨hJ.below h0 (hgW _), cell_al _ _ _ _, fun h => by have := hO _ h; omega⟩
    (fun x a' s W' => ∃ Bx, Bx < W'.heap.size ∧ W'.cell? ⟨Bx, 0, none⟩ = some (.int .i64 x.lo) ∧ W'.cell? ⟨Bx, 1, none⟩ = some (.int .i64 x.hi) ∧ W'.cell? ⟨Bx, 2, none⟩ = some (.bool x.u) ∧
      a' = { tmps := #[.func (.yield l) #[] #[], .pointer (some ⟨Bn, 0, none⟩), .pointer (some ⟨W.heap.size, 0, none⟩), .pointer (some ⟨Bx, 0, none⟩), .func (.func gf) #[] lb, bV x, undef, undef, undef, undef, undef], defers := [] } ∧
      J (s.1.map negB, s.2) W' ∧ W'.cell? ⟨W.heap.size, 0, none⟩ = some (.func (.yield l) #[] #[]) ∧ ¬ s.2 W.heap.size)
    (fun x a' s A B row h hg hr => by
      obtain ⟨Bx, k0, k1, k2, k3, k4, k5, k6, k7⟩ := h
      exact ⟨Bx, Nat.lt_of_lt_of_le k0 hg.size, cell_kept k1 hg (fun r e => (hr r e).2.2), cell_kept k2 hg (fun r e => (hr r e).2.2), cell_kept k3 hg (fun r e => (hr r e).2.2), k4,
        hJ _ A B row k5 hg (fun r e => ⟨by have := (hr r e).1; simp at this; omega, (hr r e).2⟩), cell_kept k6 hg (fun r e => (hr r e).2.2), k7⟩)
    ?assign ?body ?done
  case assign =>
    rintro l2 m pre O2 x W' K hsz ⟨hj, hcell, hno⟩ hlen hK
    have hgr : ∀ o, Below W'.heap.size W' (W'.alloc o) := fun o => (Below.refl _ W').alloc (Nat.le_refl _) o
    have hsz' : W.heap.size < W'.heap.size := by simp at hsz; omega
    gi_wp2
    refine hK _ _ O2 (LetsO.of_below (hgr _) (by have := hW.size; omega)) ⟨W'.heap.size, by simp, cell_al _ _ _ _, cell_al _ _ _ _, cell_al _ _ _ _, rfl, hJ.below hj (hgr _), ?_, hno⟩
    exact ((hgr _).cell (p := ⟨W.heap.size, 0, none⟩) hsz').trans hcell
  case body =>
    rintro l2 m pre O2 x a' W' hsz ⟨Bx, hBx, x0, x1, x2, rfl, hj, hcell, hno⟩ hlen
    have hmx : Try.prog.follows .mixedOrders = true := by kernel_rfl
    have hsz' : W.heap.size < W'.heap.size := by simp at hsz; omega
    gi_wp2
    gi_region_with_o (first
      | (refine ⟨trivial, fun h => (by cases h), ?_⟩; gi_at_call 16; refine (CallsIn.inRound l2 (callsIn_wide.2 (neg_pl x _))).mono ?_; rintro e w2 ⟨rfl, hB⟩
         have hcell2 : w2.cell? ⟨W.heap.size, 0, none⟩ = some (.func (.yield l) #[] #[]) := (hB.cell (p := ⟨W.heap.size, 0, none⟩) hsz').trans hcell
         have hj2 : J (pre.map negB, O2) w2 := hJ.below hj ⟨hB.os, hB.tape, hB.output, hB.size, hB.block⟩
         have hB2 : LetsO n₀ O2 O2 W' w2 := LetsO.of_below (B := w2) (A := W') ⟨hB.os, hB.tape, hB.output, hB.size, hB.block⟩ (by have := hW.size; omega)
         obtain ⟨fn, tmps, assign, body, hy, hR⟩ := hY _ O2 (negB x) w2 hj2 (by simpa using hlen) 0)
      | (refine ⟨fun h => (by cases h), ?_⟩; refine (round_depth hR).mono ?_; rintro e W3 ⟨rfl, O3, hJ3, hk3⟩))
    all_goals gi_wp2
    all_goals (obtain ⟨q1, q2⟩ := (hB2.trans hk3).2 _ hsz' hno)
    all_goals exact ⟨O3, hB2.trans hk3, by simpa [List.map_append] using hJ3, (World.cell?_of_block (a := ⟨W.heap.size, 0, none⟩) q1).trans hcell, q2⟩
  case done =>
    rintro D O2 W' hD hD2 hnD ⟨hj, hcell, hno⟩ hK
    gi_wp2
    refine ⟨by simp, .inl ⟨_, _, rfl, run_takeDeferred hK, ?_⟩⟩
    exact ⟨_, results_none rfl _ _ _, ⟨_, rfl⟩, O2, hJ.putObj _ hj (by simp at hD; omega) hnD hK rfl⟩

set_option maxHeartbeats 1000000 in
/-- negated: the iterator is boxed; the function value captures the box. -/
theorem negated_in (n : Nat) (gf : Nat) (lb : Array Value) (w : World) :
    CallsIn Fence.wide n Try.prog 45 #[.func (.func gf) #[] lb] w fun e w' => e = .returned (.func (.func 54) #[] #[.pointer (some ⟨w.heap.size, 0, none⟩)]) ∧
      w' = w.alloc (.cells #[.func (.func gf) #[] lb] 59) := by
  refine callsIn_of_wp Try.func45 rfl trivial ?_ rfl
  simp only [Try.ntmps45, List.size_toArray, List.length_cons, List.length_nil, Nat.reduceAdd, Nat.reduceSub, Array.replicate_succ, Array.replicate_zero, List.push_toArray, List.append_toArray, List.nil_append, List.cons_append]
  gi_wp2
  go_ret
  exact ⟨rfl, rfl⟩
end Go.Proofs.Ytfhidjldmopbgaa

