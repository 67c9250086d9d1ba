/-
  Interpretations with something that holds of the world at all times (a table of the library's, say), which what lies below a base alone decides.
  Conditions: those of each theorem.
-/
import Derived.Test.YtocheeocnbfbiaaDoorEv2
import Derived.Lib.LaidTab
set_option linter.unusedVariables false
set_option linter.unusedSimpArgs false
namespace Go.Proofs.YtocheeocnbfbiaaDoor.Ev
open Go Go.Proofs Go.RowKit
variable {F : Type}

/-- A call of plain values in the worlds of Q. -/
def PlI (Q : World → Prop) (P : Program) (f : FuncId) (us : List Value) (v : Value) : Prop := ∀ w, Q w → Calls P f us.toArray w fun e w' => e = .returned v ∧ Below w.heap.size w w'
theorem Pl.toI {Q : World → Prop} {P : Program} {f : FuncId} {us : List Value} {v : Value} (h : Pl P f us v) : PlI Q P f us v := fun w _ => h w
theorem plainQ_ok {P : Program} {I : Interp F} {f : FuncId} {g : List (AV F) → Option (AV F × List (Bool × Bool))}
    (h : ∀ args v cd, g args = some (v, cd) → (∀ p ∈ cd, p.1 = p.2) → ∃ us u, All2 (fun (x : AV F) u => x.val = some u) args us ∧ v.val = some u ∧ PlI I.bs P f us u) : (plain g).ok P I f := by
  intro E hp w slot args us bs out dt hrun ha hb hm hf hc
  simp only [plain] at hrun
  split at hrun
  · rename_i v cd hg
    cases hrun
    obtain ⟨us', u, h1, h2, h3⟩ := h args v cd hg hc
    rw [all2_val h1 ha]
    refine (h3 w hm.bsz).mono ?_
    rintro e w' ⟨rfl, hbel⟩
    exact ⟨E, u, But.refl slot E, rfl, AV.R_val h2, hm.below hbel⟩
  · cases hrun
theorem sp1q_ok {P : Program} {I : Interp F} {f : FuncId} {α : Type} {d : Dec F α} {r : α → AV F} {cd : α → List (Bool × Bool)} (h : ∀ a, (∀ p ∈ cd a, p.1 = p.2) → ∃ u, (r a).val = some u ∧ PlI I.bs P f [d.enc a] u) : (sp1 d r cd).ok P I f := plainQ_ok fun args v cd' hg hc => by
  split at hg
  · rename_i x
    split at hg
    · rename_i a ha
      cases hg
      obtain ⟨u, h1, h2⟩ := h a hc
      exact ⟨_, u, .cons (d.ok _ _ ha) .nil, h1, h2⟩
    · cases hg
  · cases hg
theorem sp2q_ok {P : Program} {I : Interp F} {f : FuncId} {α β : Type} {d : Dec F α} {e : Dec F β} {r : α → β → AV F} {cd : α → β → List (Bool × Bool)} (h : ∀ a b, (∀ p ∈ cd a b, p.1 = p.2) → ∃ u, (r a b).val = some u ∧ PlI I.bs P f [d.enc a, e.enc b] u) : (sp2 d e r cd).ok P I f := plainQ_ok fun args v cd' hg hc => by
  split at hg
  · rename_i x y
    split at hg
    · rename_i a ha
      split at hg
      · rename_i b hb
        cases hg
        obtain ⟨u, h1, h2⟩ := h a b hc
        exact ⟨_, u, .cons (d.ok _ _ ha) (.cons (e.ok _ _ hb) .nil), h1, h2⟩
      · cases hg
    · cases hg
  · cases hg

/-- An interpretation over what lies below a base and what that decides. -/
def Interp.above (I : Interp F) (h0 : I.base = 0) (B : Nat) (inv : World → Prop) (hinv : ∀ w w' : World, (∀ k, k < B → w'.heap[k]? = w.heap[k]?) → w.heap.size ≤ w'.heap.size → inv w → inv w') : Interp F :=
  { I with
    base := B
    mono := fun f w w' arr h hk => I.mono f w w' arr h fun k hlt => (hk k hlt).imp id fun ⟨_, r⟩ => ⟨by omega, r⟩
    hv_mono := fun f D D' w w' v h hD hk => I.hv_mono f D D' w w' v h hD fun k hlt => (hk k hlt).imp id fun ⟨_, r⟩ => ⟨by omega, r⟩
    inv := inv
    inv_mono := hinv }
theorem FnSp.above_ok {P : Program} {I : Interp F} {h0 : I.base = 0} (hI : ∀ w, I.inv w) {B : Nat} {inv : World → Prop} {hinv} {f : FuncId} {sp : FnSp F} (h : sp.ok P I f) : sp.ok P (I.above h0 B inv hinv) f := by
  intro E hp w slot args us bs out dt hrun ha hb hm hf hc
  have hm' : Mem I ⟨w, E.ran, dt⟩ E hp w := ⟨hm.hp, hm.tok, hm.exc, hm.inj, hm.loc, hm.ext, hm.kept, hm.new, fun b k _ => by omega, ⟨by omega, hI w⟩, hm.fv, hm.apt⟩
  refine (h E hp w slot args us bs out dt hrun ha hb hm' hf hc).mono ?_
  rintro e w' ⟨E', u, hbut, rfl, hu, m'⟩
  have hB : B ≤ w.heap.size := hm.bsz.1
  refine ⟨E', u, hbut, rfl, hu, ⟨m'.hp, m'.tok, m'.exc, m'.inj, m'.loc, m'.ext, m'.kept, m'.new, fun b k hk => ?_, ?_, m'.fv, m'.apt⟩⟩
  · show B ≤ k
    rcases m'.new b k hk with ⟨b', hb'⟩ | hge
    · exact hm.low b' k hb'
    · exact Nat.le_trans hB hge
  · exact hm.bsz.mono m'.kept.size fun k hk => m'.kept.block k (Nat.lt_of_lt_of_le hk hB) fun ⟨b, hb⟩ => by
      have h1 : B ≤ k := hm.low b k hb
      have h2 : k < B := hk
      omega
theorem LibOk.above {P : Program} {I : Interp F} {h0 : I.base = 0} (hI : ∀ w, I.inv w) {B : Nat} {inv : World → Prop} {hinv} {L : Nat → Option (FnSp F)} (h : LibOk P I L) : LibOk P (I.above h0 B inv hinv) L :=
  fun f sp hs => ⟨FnSp.above_ok hI (h f sp hs).1, (h f sp hs).2⟩

/-! ### Tables -/
/-- A table reads so in this world and in each that is like it below B. -/
def tabQ (P : Program) (nm : String) (k : IntKind) (zs : List Int) (B : Nat) (w : World) : Prop := ∀ w' : World, (∀ j, j < B → w'.heap[j]? = w.heap[j]?) → w.heap.size ≤ w'.heap.size → Lib.TabIs P w' nm k zs
theorem tabQ_mono {P : Program} {nm : String} {k : IntKind} {zs : List Int} {B : Nat} (w w' : World) (h : ∀ j, j < B → w'.heap[j]? = w.heap[j]?) (hs : w.heap.size ≤ w'.heap.size) (H : tabQ P nm k zs B w) : tabQ P nm k zs B w' :=
  fun w2 h2 h3 => H w2 (fun j hj => (h2 j hj).trans (h j hj)) (Nat.le_trans hs h3)
theorem tabQ_here {P : Program} {nm : String} {k : IntKind} {zs : List Int} {B : Nat} {w : World} (H : tabQ P nm k zs B w) : Lib.TabIs P w nm k zs := H w (fun _ _ => rfl) (Nat.le_refl _)
theorem tabQ_start {P : Program} {nm : String} {k : IntKind} {zs : List Int} {w : World} (h : Lib.TabIs P w nm k zs) : tabQ P nm k zs w.heap.size w := fun w' hb _ => by
  unfold Lib.TabIs World.var? at *
  cases hg : P.globalNamed nm with
  | none => simp [hg] at h
  | some g =>
    simp only [hg, Option.bind_some] at h ⊢
    have hlt : g < w.heap.size := by
      rcases Nat.lt_or_ge g w.heap.size with h' | h'
      · exact h'
      · rw [Array.getElem?_eq_none h'] at h; simp at h
    rw [hb g hlt]
    exact h
end Go.Proofs.YtocheeocnbfbiaaDoor.Ev

