/-
  Clocks of which at most f are wrong agree on the truth: the mathematics of ClockAgreeTruth.
  Conditions: those of each theorem.
-/
import Derived.Test.YtjegnlnnjcchaaaA0
set_option linter.unusedVariables false
set_option linter.unusedSimpArgs false
namespace Go.Proofs.Ytjegnlnnjcchaaa.AtCk
open Ev Go.RowKit Go.Shelf Wd
open Go.Proofs.Ytjegnlnnjcchaaa

/-- A clock's value tells the truth t. -/
def gdA (t : Int) (r h : List Int) : Prop := (uniC (ckO r) (h.getD 0 0)).u = false ∧ hasB (uniC (ckO r) (h.getD 0 0)) t = true
/-- All clocks are valid, and from the m-th on they tell the truth. -/
def okA (t : Int) : Nat → List (List Int) → List (List Int) → Prop
  | 0, r :: T, h :: H => ckE (ckO r) = 0 ∧ gdA t r h ∧ okA t 0 T H
  | m + 1, r :: T, h :: H => ckE (ckO r) = 0 ∧ okA t m T H
  | _, [], [] => True
  | _, _, _ => False
theorem okA_len {t : Int} : ∀ {m : Nat} {T H : List (List Int)}, okA t m T H → H.length = T.length ∧ errC T = 0
  | 0, r :: T, h :: H, k => by
    obtain ⟨k1, _, k2⟩ := k
    obtain ⟨e1, e2⟩ := okA_len k2
    exact ⟨by simp [e1], by unfold errC; rw [if_pos k1, e2]⟩
  | m + 1, r :: T, h :: H, k => by
    obtain ⟨k1, k2⟩ := k
    obtain ⟨e1, e2⟩ := okA_len k2
    exact ⟨by simp [e1], by unfold errC; rw [if_pos k1, e2]⟩
  | 0, [], [], _ => ⟨rfl, rfl⟩
  | m + 1, [], [], _ => ⟨rfl, rfl⟩
  | 0, [], h :: H, k => by unfold okA at k; exact k.elim
  | 0, r :: T, [], k => by unfold okA at k; exact k.elim
  | m + 1, [], h :: H, k => by unfold okA at k; exact k.elim
  | m + 1, r :: T, [], k => by unfold okA at k; exact k.elim
theorem vt_cons (b : Bd) (l : List Bd) (t : Int) : AtTick.Fs.vt (b :: l) t = (if b.lo ≤ t ∧ t ≤ b.hi then 1 else 0) + AtTick.Fs.vt l t := by
  unfold AtTick.Fs.vt
  rw [List.countP_cons]
  by_cases h : b.lo ≤ t ∧ t ≤ b.hi
  · rw [if_pos h, if_pos (by simpa using h)]; omega
  · rw [if_neg h, if_neg (by simpa using h)]; omega
theorem vt_nn (l : List Bd) (t : Int) : 0 ≤ AtTick.Fs.vt l t := by unfold AtTick.Fs.vt; omega
/-- One clock more. -/
theorem kp_step (r h : List Int) (T H : List (List Int)) (t : Int) :
    ((uniC (ckO r) (h.getD 0 0)).u = true ∧ kpC (r :: T) (h :: H) = kpC T H) ∨
    ((uniC (ckO r) (h.getD 0 0)).u = false ∧ (kpC (r :: T) (h :: H)).length = (kpC T H).length + 1 ∧ AtTick.Fs.vt (AtTick.Fs.knsOf (kpC (r :: T) (h :: H))) t = (if (uniC (ckO r) (h.getD 0 0)).lo ≤ t ∧ t ≤ (uniC (ckO r) (h.getD 0 0)).hi then 1 else 0) + AtTick.Fs.vt (AtTick.Fs.knsOf (kpC T H)) t) := by
  by_cases u : (uniC (ckO r) (h.getD 0 0)).u = true
  · refine .inl ⟨u, ?_⟩
    conv => lhs; unfold kpC
    rw [if_pos u, List.nil_append]
  · have u' : (uniC (ckO r) (h.getD 0 0)).u = false := by simpa using u
    have e : kpC (r :: T) (h :: H) = bRow (uniC (ckO r) (h.getD 0 0)) :: kpC T H := by
      conv => lhs; unfold kpC
      rw [if_neg u, List.singleton_append]
    refine .inr ⟨u', by rw [e, List.length_cons], ?_⟩
    rw [e, kns_cons, toBd_bRow, if_pos (uni_kn u'), vt_cons]
theorem kp_ok {t : Int} : ∀ {m : Nat} {T H : List (List Int)}, okA t m T H → ((kpC T H).length : Int) ≤ AtTick.Fs.vt (AtTick.Fs.knsOf (kpC T H)) t + m ∧ (T.length : Int) ≤ (kpC T H).length + m
  | 0, r :: T, h :: H, k => by
    obtain ⟨_, ⟨g1, g2⟩, k2⟩ := k
    obtain ⟨e1, e2⟩ := kp_ok k2
    rcases kp_step r h T H t with ⟨u, e⟩ | ⟨_, e3, e4⟩
    · rw [g1] at u; cases u
    · have hk := uni_kn g1
      unfold hasB at g2
      rw [hk] at g2
      simp only [Bool.not_true, Bool.false_or, Bool.and_eq_true, decide_eq_true_eq] at g2
      rw [if_pos g2] at e4
      rw [e3, e4, List.length_cons]
      omega
  | m + 1, r :: T, h :: H, k => by
    obtain ⟨_, k2⟩ := k
    obtain ⟨e1, e2⟩ := kp_ok k2
    rcases kp_step r h T H t with ⟨u, e⟩ | ⟨_, e3, e4⟩
    · rw [e, List.length_cons]; omega
    · rw [e3, e4, List.length_cons]
      split <;> omega
  | 0, [], [], _ => by
    have := vt_nn (AtTick.Fs.knsOf (kpC [] [])) t
    have e : (kpC [] []).length = 0 := rfl
    rw [e]; simp; omega
  | m + 1, [], [], _ => by
    have := vt_nn (AtTick.Fs.knsOf (kpC [] [])) t
    have e : (kpC [] []).length = 0 := rfl
    rw [e]; simp; omega
  | 0, [], h :: H, k => by unfold okA at k; exact k.elim
  | 0, r :: T, [], k => by unfold okA at k; exact k.elim
  | m + 1, [], h :: H, k => by unfold okA at k; exact k.elim
  | m + 1, r :: T, [], k => by unfold okA at k; exact k.elim
/-- Agree returns no error, and a bound that holds the truth. -/
theorem agree_truth {t : Int} {f : Nat} {T H : List (List Int)} (h : okA t f T H) (hn : 2 * f + 1 ≤ T.length) (h64 : T.length ≤ 64) : agE T H = 0 ∧ (agB T H f).u = false ∧ hasB (agB T H f) t = true := by
  obtain ⟨e1, e2⟩ := okA_len h
  obtain ⟨g1, g2⟩ := kp_ok h
  have hE : agE T H = 0 := by
    unfold agE lenT
    rw [if_neg (by omega), if_pos (by rw [e1]), e2]
  have hk := kns_all (kp_all T H)
  have hB : agB T H f = AtTick.Fs.fuseB (kpC T H) f := if_pos hE
  refine ⟨hE, ?_⟩
  rw [hB]
  rcases AtTick.Fs.fuse_spec (kpC T H) (f := f) (by omega) (by rw [hk]; omega) with ⟨lo, hi, q1, q2, _, _, _, _, q3⟩ | ⟨_, q⟩
  · obtain ⟨p1, p2⟩ := q3 t (by rw [hk]; omega)
    rw [q1]
    refine ⟨rfl, ?_⟩
    unfold hasB
    rw [q2, decide_eq_true p1, decide_eq_true p2]; rfl
  · have := q t
    rw [hk] at this
    omega
end Go.Proofs.Ytjegnlnnjcchaaa.AtCk

