/-
  Package bound: least: the sweep over the sorted ends.
  Conditions: those of each theorem.
-/
import Derived.Test.YtfhidjldmopbgaaFV
namespace Go.Proofs.Ytfhidjldmopbgaa
open Go.RowKit Go.Shelf Ev
set_option linter.unusedVariables false
set_option linter.unusedSimpArgs false
namespace Ls
/-- How many upper ends lie below lo, from the e-th on. -/
def adv (H : List Int) (lo : Int) (e : Nat) : Nat := e + ((H.drop e).takeWhile fun h => decide (h < lo)).length
theorem adv_step {H : List Int} {lo : Int} {e : Nat} (he : e < H.length) (h : H.getD e 0 < lo) : adv H lo (e + 1) = adv H lo e := by
  unfold adv
  rw [List.drop_eq_getElem_cons he, List.takeWhile_cons]
  have : H[e] < lo := by simpa [List.getD, he] using h
  simp [this]; omega
theorem adv_stop {H : List Int} {lo : Int} {e : Nat} (he : e < H.length) (h : ¬ H.getD e 0 < lo) : adv H lo e = e := by
  unfold adv
  rw [List.drop_eq_getElem_cons he, List.takeWhile_cons]
  have : ¬ H[e] < lo := by simpa [List.getD, he] using h
  simp [this]
/-- The sweep: the first lower end that so many admit. -/
def swp (H : List Int) (need : Int) : List Int → Nat → Nat → Option Int
  | [], _, _ => none
  | lo :: L, i, e => if need ≤ (i : Int) + 1 - adv H lo e then some lo else swp H need L (i + 1) (adv H lo e)
def resV : Option Int → Value
  | some v => .tuple #[.int .i64 v, .bool true]
  | none => .tuple #[.int .i64 0, .bool false]
def At (H : List Int) (need : Int) (L : List Int) (r : Option Int) (i e : Nat) : Prop := swp H need (L.drop i) i e = r
def Adv (H : List Int) (lo : Int) (e e' : Nat) : Prop := adv H lo e = e'

set_option maxRecDepth 100000 in
set_option maxHeartbeats 4000000 in
theorem least_tail (n : Nat) {gf : Nat} {lb : Array Value} (need : Int) {b6 b7 k6 cap6 k7 cap7 D : Nat} {W : World} {L H : List Int} (hL : 0 < L.length) (hLb : L.length ≤ 34359738368) (hHL : H.length = L.length)
    (c6 : W.cell? ⟨b6, 0, none⟩ = some (.slice (some ⟨k6, 0, none⟩) L.length cap6)) (c7 : W.cell? ⟨b7, 0, none⟩ = some (.slice (some ⟨k7, 0, none⟩) L.length cap7))
    (s6 : ∀ j, j < L.length → W.cell? ⟨k6, j, none⟩ = some (.int .i64 (L.getD j 0))) (s7 : ∀ j, j < L.length → W.cell? ⟨k7, j, none⟩ = some (.int .i64 (H.getD j 0)))
    (hmax : ∀ j, j < L.length → L.getD j 0 ≤ H.getD (L.length - 1) 0) (hD : W.heap[D]? = some (.deferred (some []))) {R : Ending → World → Prop} (hR : R (.returned (resV (swp H need L 0 0))) (W.putObj D (.deferred none))) (a : Act)
    (ha : a = { tmps := #[.func (.func gf) #[] lb, .int .i64 need, undef, undef, .int .i64 0, .bool false, .pointer (some ⟨b6, 0, none⟩), .pointer (some ⟨b7, 0, none⟩), undef, undef, undef, undef, .func (.func gf) #[] lb, undef, undef, undef, undef, undef, undef, undef, undef, undef, undef, undef,
      .slice (some ⟨k6, 0, none⟩) L.length cap6, .tuple #[], .slice (some ⟨k7, 0, none⟩) L.length cap7, .tuple #[], undef, undef, undef, undef, undef, undef, undef, undef, undef, undef, undef, undef, undef, undef, undef, undef, undef, undef, undef, undef, undef, undef, undef], defers := [{ target := .collected D, args := #[] }] }) :
    (seqDrop 5 (bodyOf fL)).wpIn Fence.wide n Try.prog (bodyPostM Fence.wide n Try.prog fL R) a W := by
  subst ha
  have hcode : seqDrop 5 (bodyOf fL) = seqDrop 5 (bodyOf fL) := rfl
  conv at hcode => rhs; simp only [fL, bodyOf, Try.f44, seqDrop]
  rw [hcode]
  clear hcode
  generalize hr : swp H need L 0 0 = r at hR
  have hat0 : At H need L r 0 0 := by unfold At; simpa using hr
  clear hr
  gi_wp2
  gi_loopw [30, 9] (fun i e wr => ∃ i' e' : Nat, i = .int .i64 i' ∧ e = .int .i64 e' ∧ i' ≤ L.length ∧ e' < L.length ∧ At H need L r i' e' ∧ W = wr) (fun i _ _ => L.length - (intOf i).toNat)
  case atStart => exact ⟨0, 0, rfl, rfl, Nat.zero_le _, hL, hat0, rfl⟩
  case round =>
    obtain ⟨i', e', rfl, rfl, hi, he, hat, rfl⟩ := hrel
    by_cases hlt : i' < L.length
    · have c33 := s6 i' hlt
      have hm := hmax i' hlt
      have hdrop : L.drop i' = L.getD i' 0 :: L.drop (i' + 1) := by rw [List.drop_eq_getElem_cons hlt]; simp [List.getD, hlt]
      generalize hlo : L.getD i' 0 = lo at c33 hm hdrop
      clear hlo hmax s6
      gi_wp2
      gi_loopw [9] (fun e wr => ∃ e2 : Nat, e = .int .i64 e2 ∧ e2 < L.length ∧ Adv H lo e2 (adv H lo e') ∧ W = wr) (fun e _ => L.length - (intOf e).toNat)
      case atStart => exact ⟨e', rfl, he, rfl, rfl⟩
      case round =>
        obtain ⟨e2, rfl, he2, hadv, rfl⟩ := hrel
        have c37 := s7 e2 he2
        clear s7
        by_cases hh : H.getD e2 0 < lo
        · have he3 : e2 + 1 < L.length := by
            rcases Nat.lt_or_ge (e2 + 1) L.length with q | q
            · exact q
            · have : e2 = L.length - 1 := by omega
              rw [this] at hh; omega
          have hadv2 : Adv H lo (e2 + 1) (adv H lo e') := (adv_step (by omega) hh).trans hadv
          generalize H.getD e2 0 = hv at c37 hh
          gi_wp2
          go_roundw
          case rel => exact ⟨e2 + 1, by simp, he3, hadv2, by first | rfl | trivial⟩
          case measure => simp [intOf]; omega
        · have hst : adv H lo e' = e2 := by have := adv_stop (H := H) (lo := lo) (e := e2) (by omega) hh; exact hadv.symm.trans this
          unfold At at hat
          rw [hdrop, swp, hst] at hat
          clear hadv hst hat0 hdrop
          generalize H.getD e2 0 = hv at c37 hh
          by_cases hn : need ≤ (i' : Int) + 1 - e2
          · have hr0 : r = some lo := by rw [if_pos hn] at hat; exact hat.symm
            clear hat
            subst hr0
            gi_wp2
            refine ⟨by simp, .inl ⟨_, _, rfl, run_takeDeferred hD, ?_⟩⟩
            refine ⟨_, results_tmp2 rfl _ _ _, ?_⟩
            exact hR
          · have hat2 : At H need L r (i' + 1) e2 := by rw [if_neg hn] at hat; exact hat
            clear hat
            gi_wp2
            go_roundw
            case rel => exact ⟨i' + 1, e2, by simp, rfl, by omega, he2, hat2, by first | rfl | trivial⟩
            case measure => simp [intOf]; omega
    · obtain rfl : i' = L.length := by omega
      have hr0 : r = none := by unfold At at hat; rw [List.drop_length] at hat; exact hat.symm
      clear hat hat0
      subst hr0
      gi_wp2
      refine ⟨by simp, .inl ⟨_, _, rfl, run_takeDeferred hD, ?_⟩⟩
      refine ⟨_, results_tmp2 rfl _ _ _, ?_⟩
      exact hR

theorem holds_at {W : World} {k : Nat} {l : List Int} (h : Sort.Holds (Value.int .i64) W k 0 l.toArray) (j : Nat) (hj : j < l.length) : W.cell? ⟨k, j, none⟩ = some (.int .i64 (l.getD j 0)) := by
  have := (h j (by simpa using hj)).1
  rw [Nat.zero_add] at this
  rw [this]
  simp [hj, List.getD]
theorem sorted_last {l : List Int} (h : l.Pairwise (· ≤ ·)) {x : Int} (hx : x ∈ l) : x ≤ l.getD (l.length - 1) 0 := by
  obtain ⟨i, hi, rfl⟩ := List.getElem_of_mem hx
  have hl : l.length - 1 < l.length := by omega
  have e : l.getD (l.length - 1) 0 = l[l.length - 1] := by simp [List.getD, hl]
  rw [e]
  rcases Nat.lt_or_ge i (l.length - 1) with q | q
  · exact List.pairwise_iff_getElem.1 h i (l.length - 1) hi hl q
  · have : i = l.length - 1 := by omega
    subst this; exact Int.le_refl _
theorem sortL_sorted (l : List Int) : (sortL l).Pairwise (· ≤ ·) := by
  have := List.pairwise_mergeSort (le := fun x y : Int => decide (x ≤ y)) (fun a b c h1 h2 => by simp at *; omega) (fun a b => by simp; omega) l
  exact this.imp (fun h => by simpa using h)
theorem mem_sortL {l : List Int} {x : Int} : x ∈ sortL l ↔ x ∈ l := List.mem_mergeSort

/-- What least returns. -/
def leastO (xs : List Bd) (need : Int) : Option Int := swp (sortL (xs.map (·.hi))) need (sortL (xs.map (·.lo))) 0 0
theorem least_calls (n : Nat) {gf : Nat} {lb : Array Value} {xs : List Bd} {N : Nat} {wI : World} (need : Int) (w : World) (eg : ∀ args w, (callFunc gf args).run Try.prog w = .ok (.enter gf args) w) (hN : N ≤ 34359738368) (hxs : xs ≠ []) (hxl : xs.length ≤ 34359738368)
    (hv : ∀ b ∈ xs, b.lo ≤ b.hi) (hseq : SeqAll Try.prog gf lb (fun x : Bd => #[bV x]) w.heap.size xs N wI) (hb : Below wI.heap.size wI w) :
    CallsIn Fence.wide n Try.prog 44 #[.func (.func gf) #[] lb, .int .i64 need] w fun e W' => e = .returned (resV (leastO xs need)) ∧ Below w.heap.size w W' := by
  refine least_upto n need w eg hN hxs (by omega) hseq hb fun D W k6 cap6 k7 cap7 a ha hDs hD c6 c7 h6 h7 _ _ _ _ _ _ hW => ?_
  have l6 : (sortL (xs.map (·.lo))).length = (xs.map (·.lo)).length := sortL_len _
  have l7 : (sortL (xs.map (·.hi))).length = (xs.map (·.lo)).length := by rw [sortL_len]; simp
  have l8 : (xs.map (·.hi)).length = (xs.map (·.lo)).length := by simp
  rw [l8, ← l6] at c7 ha
  rw [← l6] at c6
  have hpos : 0 < (sortL (xs.map (·.lo))).length := by rw [l6]; simp; exact List.length_pos_iff.2 hxs
  refine least_tail n need (b6 := w.heap.size) (b7 := w.heap.size + 1) (k6 := k6) (cap6 := cap6) (k7 := k7) (cap7 := cap7) (D := D) (W := W) (L := sortL (xs.map (·.lo))) (H := sortL (xs.map (·.hi))) hpos (by rw [l6]; simpa using hxl) (by rw [l7, l6]) c6 c7
    (fun j hj => holds_at h6 j hj) (fun j hj => holds_at h7 j (by rw [l7, ← l6]; exact hj)) (fun j hj => ?_) hD ⟨rfl, hW.trans (belowK_b (w := w) (Nat.le_refl _) W D _ _ hDs hD rfl rfl)⟩ a ha
  · have hm : (sortL (xs.map (·.lo))).getD j 0 ∈ sortL (xs.map (·.lo)) := by simp [List.getD, hj]
    rw [mem_sortL] at hm
    obtain ⟨b, hb1, hb2⟩ := List.mem_map.1 hm
    have h1 := hv b hb1
    have h2 := sorted_last (sortL_sorted (xs.map (·.hi))) (mem_sortL.2 (List.mem_map.2 ⟨b, hb1, rfl⟩))
    rw [l7, ← l6] at h2
    omega
end Ls
end Go.Proofs.Ytfhidjldmopbgaa

