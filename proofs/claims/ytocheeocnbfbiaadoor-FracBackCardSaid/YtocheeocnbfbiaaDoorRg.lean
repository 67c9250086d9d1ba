/-
  A region that draws its order and whose last operation waits for all others: the others are walked under one condition on the world, and the last one by itself; behind it nothing is asked of that condition.
  Conditions: those of each theorem.
-/
import Derived.Deep.RegionHeld
import Derived.StillTail
import Derived.WalkKit
namespace Go.Proofs.YtocheeocnbfbiaaDoor
open Go

section
variable {P : Program} {ops : Array Oper} {Q : Exit → Act → World → Prop} {md : Region.Mode} {S : World → Prop}

/-- The post, where operation n is still to come at a normal end. -/
def Still1 (P : Program) (ops : Array Oper) (Q : Exit → Act → World → Prop) (n : Nat) : Exit → Act → World → Prop
  | .normal, a, w => wpOp P ops Q n (Q .normal) a w
  | e, a, w => Q e a w
theorem still1_out {n : Nat} (h : LetsOut (Still1 P ops Q n)) : LetsOut Q := h
theorem still1_upon {n : Nat} {o : Oper} {a : Act} {K : Act → World → Prop} {r : Result Next} (h : o.upon P a K (Still1 P ops Q n) r) : o.upon P a K Q r := by
  cases r with
  | ok x w => cases x <;> exact h
  | halt x w => cases x <;> exact h
theorem still1_op {n i : Nat} {K : Act → World → Prop} {a : Act} {w : World} (h : wpOp P ops (Still1 P ops Q n) i K a w) : wpOp P ops Q i K a w := by
  unfold wpOp at *
  split at h
  · exact h
  · split at h
    · rename_i hw
      rw [if_pos hw]
      rcases h with h | h
      · exact .inl (still1_upon h)
      · exact .inr ⟨h.1, still1_out h.2⟩
    · rename_i hw
      rw [if_neg hw]
      exact h

/-- Every edge leads to an earlier operation; the last one waits for all others. -/
def lastB (md : Region.Mode) (ops : Array Oper) (n : Nat) : Bool :=
  ((List.range ops.size).all fun j => match ops[j]? with | some o => o.after.all fun e => !Region.binds md e || decide (e.on < j) | none => true) && ((List.range ops.size).all fun i => i == n || Region.waitsFor md ops n i)

theorem lastB_spec {n : Nat} (h : lastB md ops n = true) : (∀ (j : Nat) (o : Oper), ops[j]? = some o → ∀ e ∈ o.after, Region.binds md e = true → e.on < j) ∧ (∀ i, i < ops.size → i ≠ n → ∃ o, ops[n]? = some o ∧ ∃ e ∈ o.after, Region.binds md e = true ∧ e.on = i) := by
  unfold lastB at h
  rw [Bool.and_eq_true] at h
  refine ⟨fun j o ho e he hb => ?_, fun i hi hne => ?_⟩
  · have hlt := (Array.getElem?_eq_some_iff.1 ho).1
    have := List.all_eq_true.1 h.1 j (List.mem_range.2 hlt)
    rw [ho] at this
    have := Array.all_eq_true_iff_forall_mem.1 this e he
    rw [hb] at this
    simpa using this
  · have := List.all_eq_true.1 h.2 i (List.mem_range.2 hi)
    rw [Bool.or_eq_true] at this
    rcases this with this | this
    · exact absurd (by simpa using this) hne
    · exact Region.waitsFor_spec this

theorem some_ready {listed : Array Bool} (hz : listed.size = ops.size) (hord : ∀ (j : Nat) (o : Oper), ops[j]? = some o → ∀ e ∈ o.after, Region.binds md e = true → e.on < j) :
    ∀ k, k < ops.size → listed.getD k true = false → Region.ready md ops listed ≠ [] := by
  intro k
  induction k using Nat.strongRecOn with
  | _ k ih =>
    intro hk hl
    obtain ⟨o, ho⟩ : ∃ o, ops[k]? = some o := ⟨ops[k], Array.getElem?_eq_getElem hk⟩
    by_cases hall : ∀ e ∈ o.after, Region.binds md e = true → listed.getD e.on false = true
    · have hm : k ∈ Region.ready md ops listed := mem_ready.2 ⟨hl, o, ho, hall⟩
      intro he
      rw [he] at hm
      cases hm
    · obtain ⟨e, he⟩ := Classical.not_forall.1 hall
      obtain ⟨hin, he⟩ := Classical.not_imp.1 he
      obtain ⟨hbd, he⟩ := Classical.not_imp.1 he
      have hlt := hord k o ho e hin hbd
      refine ih e.on hlt (by omega) ?_
      exact getD_in (by omega) (by simpa using he)

theorem wpAny_last {n : Nat} (hn : n < ops.size) (hl : lastB md ops n = true) : ∀ (fuel : Nat) (listed : Array Bool) (a : Act) (w : World), listed.size = ops.size → listed.getD n true = false →
    wpAny P md ops (Still1 P ops Q n) fuel (listed.setIfInBounds n true) a w → wpAny P md ops Q (fuel + 1) listed a w := by
  obtain ⟨hord, hwait⟩ := lastB_spec hl
  have alone : ∀ (listed : Array Bool), listed.size = ops.size → n ∈ Region.ready md ops listed → Region.ready md ops (listed.setIfInBounds n true) = [] := by
    intro listed hz hr
    obtain ⟨_, o, ho, hall⟩ := mem_ready.1 hr
    rcases hq : Region.ready md ops (listed.setIfInBounds n true) with _ | ⟨j, t⟩
    · rfl
    · exfalso
      have hj : j ∈ Region.ready md ops (listed.setIfInBounds n true) := by rw [hq]; exact List.mem_cons_self ..
      obtain ⟨hj0, oj, hoj, _⟩ := mem_ready.1 hj
      have hjlt := (Array.getElem?_eq_some_iff.1 hoj).1
      by_cases hjn : j = n
      · subst hjn
        simp [hz, hn] at hj0
      · rw [getD_set_ne true (Ne.symm hjn)] at hj0
        obtain ⟨o', ho', e, he, hb, hon⟩ := hwait j hjlt hjn
        have : o' = o := Option.some.inj (ho'.symm.trans ho)
        subst this
        have h1 := hall e he hb
        rw [hon] at h1
        rcases Nat.lt_or_ge j listed.size with h' | h'
        · simp [h'] at hj0 h1; rw [hj0] at h1; cases h1
        · omega
  intro fuel
  induction fuel with
  | zero =>
    intro listed a w hz hun H
    refine ⟨fun h => absurd h (some_ready hz hord n hn hun), fun j hj => ?_⟩
    by_cases hjn : j = n
    · subst hjn
      exact wpOp_mono (fun a w h => ⟨alone listed hz hj, h⟩) H.2
    · have := ready_mono hj hjn
      rw [H.1] at this
      cases this
  | succ fuel ih =>
    intro listed a w hz hun H
    refine ⟨fun h => absurd h (some_ready hz hord n hn hun), fun j hj => ?_⟩
    by_cases hjn : j = n
    · subst hjn
      have he := alone listed hz hj
      exact wpOp_mono (fun a w h => ⟨fun _ => h, by rw [he]; intro i hi; cases hi⟩) (H.1 he)
    · have h1 := still1_op (H.2 j (ready_mono hj hjn))
      refine wpOp_mono (fun a w h => ih (listed.setIfInBounds j true) a w (by simpa using hz) (by rw [getD_set_ne true hjn]; exact hun) ?_) h1
      rw [Array.setIfInBounds_comm _ _ hjn]
      exact h

/-- The beginning: the condition is shown behind the draw; the last operation is left for the end. -/
theorem wp_region_last {id m : Nat} {a : Act} {w : World} (hm : P.follows .mixedOrders = true) (hsz : ops.size = m + 1) (hl : lastB .any ops m = true) (hS : S w.drew)
    (h : S w.drew → wpAnyH P .any ops (Still1 P ops Q m) S m ((Array.replicate (m + 1) false).setIfInBounds m true) a w.drew) : (Code.region id ops true).wp P Q a w := by
  refine wp_region_any hm ?_
  have := wpAny_of_held _ _ _ _ (h hS)
  rw [hsz]
  refine wpAny_last (by omega) hl m _ a _ (by simp [hsz]) (by simp) ?_
  exact this

/-- The end: the last operation. -/
theorem still1_step {n : Nat} {o : Oper} {a : Act} {w : World} (ho : ops[n]? = some o)
    (h : ∀ K' : Act → World → Prop, Shut (∀ a w, Q .normal a w → K' a w) → if Region.wanted o (yielded ops a.tmps) = true then Oper.wp P o a w K' Q else K' (a.put o.dst undef) w) : Still1 P ops Q n .normal a w :=
  wpOp_step ho (fun K' hK => h K' hK)
end
end Go.Proofs.YtocheeocnbfbiaaDoor

