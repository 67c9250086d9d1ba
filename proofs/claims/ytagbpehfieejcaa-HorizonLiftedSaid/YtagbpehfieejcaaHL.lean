/-
  Refract is isotone, and at an entry it is the entry (no program).
  Conditions: those of each theorem.
-/
import Derived.Test.YtagbpehfieejcaaH8
import Derived.Test.YtagbpehfieejcaaSC
set_option linter.unusedVariables false
set_option linter.unusedSimpArgs false
namespace Go.Proofs.Ytagbpehfieejcaa.AtHz
open Go.RowKit Ev Wd
open Go.Proofs.Ytagbpehfieejcaa

theorem insB_iff {x y : Bd} : insB x y = true ↔ (knB y = true → knB x = true ∧ y.lo ≤ x.lo ∧ x.hi ≤ y.hi) := by
  unfold insB
  cases knB y <;> cases knB x <;> simp
theorem kn_none : knB noneB = false := rfl
theorem ofB_mk {lo hi : Int} (h1 : -1152921504606846976 ≤ lo) (h2 : lo ≤ hi) (h3 : hi ≤ 1152921504606846976) : ofB lo hi = ⟨lo, hi, false⟩ ∧ knB (⟨lo, hi, false⟩ : Bd) = true := by
  have : knB (⟨lo, hi, false⟩ : Bd) = true := knB_iff.2 ⟨rfl, h1, h2, h3⟩
  exact ⟨by unfold ofB normB; rw [this]; rfl, this⟩
theorem ofB_kn {lo hi : Int} (h : knB (ofB lo hi) = true) : ofB lo hi = ⟨lo, hi, false⟩ ∧ -1152921504606846976 ≤ lo ∧ lo ≤ hi ∧ hi ≤ 1152921504606846976 := by
  unfold ofB normB at h
  cases hk : knB (⟨lo, hi, false⟩ : Bd) with
  | false => rw [hk] at h; cases h
  | true => exact ⟨by unfold ofB normB; rw [hk]; rfl, (knB_iff.1 hk).2⟩
/-- Two known bounds, and a bound made of them. -/
def op2 (a b : Bd) (f g : Int) : Bd := bif knB a && knB b then ofB f g else noneB
theorem op2_kn {a b : Bd} {f g : Int} (h : knB (op2 a b f g) = true) : knB a = true ∧ knB b = true ∧ op2 a b f g = ⟨f, g, false⟩ ∧ -1152921504606846976 ≤ f ∧ f ≤ g ∧ g ≤ 1152921504606846976 := by
  unfold op2 at h ⊢
  cases ha : knB a with
  | false => rw [ha] at h; cases h
  | true =>
    cases hb : knB b with
    | false => rw [ha, hb] at h; cases h
    | true =>
      rw [ha, hb] at h
      exact ⟨rfl, rfl, (ofB_kn h).1, (ofB_kn h).2⟩
theorem op2_mk {a b : Bd} {f g : Int} (ha : knB a = true) (hb : knB b = true) (h1 : -1152921504606846976 ≤ f) (h2 : f ≤ g) (h3 : g ≤ 1152921504606846976) : op2 a b f g = ⟨f, g, false⟩ ∧ knB (⟨f, g, false⟩ : Bd) = true := by
  unfold op2
  rw [ha, hb]
  exact ofB_mk h1 h2 h3
theorem iso2 {a b c d : Bd} {f g f' g' : Int} (hc : insB c a = true) (hd : insB d b = true)
    (h : knB a = true → knB b = true → knB c = true → knB d = true → a.lo ≤ c.lo → c.hi ≤ a.hi → b.lo ≤ d.lo → d.hi ≤ b.hi → f ≤ f' ∧ f' ≤ g' ∧ g' ≤ g) : insB (op2 c d f' g') (op2 a b f g) = true := insB_iff.2 fun hk => by
  obtain ⟨ka, kb, e, r1, r2, r3⟩ := op2_kn hk
  obtain ⟨kc, c1, c2⟩ := insB_iff.1 hc ka
  obtain ⟨kd, d1, d2⟩ := insB_iff.1 hd kb
  obtain ⟨s1, s2, s3⟩ := h ka kb kc kd c1 c2 d1 d2
  obtain ⟨e', k'⟩ := op2_mk (f := f') (g := g') kc kd (by omega) s2 (by omega)
  rw [e, e']
  exact ⟨k', s1, s3⟩
theorem minI_sp (a b : Int) : minI a b ≤ a ∧ minI a b ≤ b ∧ (minI a b = a ∨ minI a b = b) := by unfold minI; split <;> omega
theorem maxI_sp (a b : Int) : a ≤ maxI a b ∧ b ≤ maxI a b ∧ (maxI a b = a ∨ maxI a b = b) := by unfold maxI; split <;> omega
theorem insB_refl (a : Bd) : insB a a = true := insB_iff.2 fun h => ⟨h, Int.le_refl _, Int.le_refl _⟩
section
variable {a b c d : Bd} (hc : insB c a = true) (hd : insB d b = true)
include hc hd
theorem iso_add : insB (addB c d) (addB a b) = true := iso2 hc hd fun _ _ h3 h4 _ _ _ _ => by have := knB_iff.1 h3; have := knB_iff.1 h4; omega
theorem iso_min : insB (minB c d) (minB a b) = true := iso2 hc hd fun _ _ h3 h4 _ _ _ _ => by
  have := knB_iff.1 h3; have := knB_iff.1 h4
  have := minI_sp c.lo d.lo; have := minI_sp c.hi d.hi; have := minI_sp a.lo b.lo; have := minI_sp a.hi b.hi; omega
theorem iso_max : insB (maxB c d) (maxB a b) = true := iso2 hc hd fun _ _ h3 h4 _ _ _ _ => by
  have := knB_iff.1 h3; have := knB_iff.1 h4
  have := maxI_sp c.lo d.lo; have := maxI_sp c.hi d.hi; have := maxI_sp a.lo b.lo; have := maxI_sp a.hi b.hi; omega
theorem iso_hull : insB (hullB c d) (hullB a b) = true := iso2 hc hd fun _ _ h3 h4 _ _ _ _ => by
  have := knB_iff.1 h3; have := knB_iff.1 h4
  have := minI_sp c.lo d.lo; have := maxI_sp c.hi d.hi; have := minI_sp a.lo b.lo; have := maxI_sp a.hi b.hi; omega
end
theorem negB_op (a : Bd) : negB a = op2 a a (-a.hi) (-a.lo) := by unfold negB op2; cases knB a <;> rfl
theorem absB_op (a : Bd) : absB a = op2 a a (maxI (maxI 0 a.lo) (-a.hi)) (maxI (-a.lo) a.hi) := by unfold absB op2; cases knB a <;> rfl
theorem iso_neg {a c : Bd} (hc : insB c a = true) : insB (negB c) (negB a) = true := by
  rw [negB_op, negB_op]
  exact iso2 hc hc fun _ _ h3 _ _ _ _ _ => by have := knB_iff.1 h3; omega
theorem iso_sub {a b c d : Bd} (hc : insB c a = true) (hd : insB d b = true) : insB (subB c d) (subB a b) = true := iso_add hc (iso_neg hd)
theorem iso_abs {a c : Bd} (hc : insB c a = true) : insB (absB c) (absB a) = true := by
  rw [absB_op, absB_op]
  refine iso2 hc hc fun _ _ h3 _ _ _ _ _ => ?_
  have := knB_iff.1 h3
  have := maxI_sp 0 a.lo; have := maxI_sp (maxI 0 a.lo) (-a.hi); have := maxI_sp (-a.lo) a.hi
  have := maxI_sp 0 c.lo; have := maxI_sp (maxI 0 c.lo) (-c.hi); have := maxI_sp (-c.lo) c.hi
  omega
theorem abs_nonneg {a : Bd} (h : knB (absB a) = true) : 0 ≤ (absB a).lo := by
  rw [absB_op] at h ⊢
  rw [(op2_kn h).2.2.1]
  have := maxI_sp 0 a.lo; have := maxI_sp (maxI 0 a.lo) (-a.hi)
  simp only; omega

/-! Lower and upper ends. -/
def Lo (z : Bd) (f : Int) : Prop := knB z = true → z.lo ≤ f
def Hi (z : Bd) (g : Int) : Prop := knB z = true → g ≤ z.hi
theorem hull_kn {p q : Bd} (h : knB (hullB p q) = true) : knB p = true ∧ knB q = true ∧ (hullB p q).lo ≤ p.lo ∧ (hullB p q).lo ≤ q.lo ∧ p.hi ≤ (hullB p q).hi ∧ q.hi ≤ (hullB p q).hi := by
  obtain ⟨h1, h2, e, _⟩ := op2_kn (a := p) (b := q) h
  have e : hullB p q = ⟨minI p.lo q.lo, maxI p.hi q.hi, false⟩ := e
  rw [e]
  have := minI_sp p.lo q.lo; have := maxI_sp p.hi q.hi
  exact ⟨h1, h2, by simp only; omega, by simp only; omega, by simp only; omega, by simp only; omega⟩
theorem Lo.l {p q : Bd} {f : Int} (h : Lo p f) : Lo (hullB p q) f := fun hk => Int.le_trans (hull_kn hk).2.2.1 (h (hull_kn hk).1)
theorem Lo.r {p q : Bd} {f : Int} (h : Lo q f) : Lo (hullB p q) f := fun hk => Int.le_trans (hull_kn hk).2.2.2.1 (h (hull_kn hk).2.1)
theorem Hi.l {p q : Bd} {f : Int} (h : Hi p f) : Hi (hullB p q) f := fun hk => Int.le_trans (h (hull_kn hk).1) (hull_kn hk).2.2.2.2.1
theorem Hi.r {p q : Bd} {f : Int} (h : Hi q f) : Hi (hullB p q) f := fun hk => Int.le_trans (h (hull_kn hk).2.1) (hull_kn hk).2.2.2.2.2
theorem hull_le {x y z : Bd} (hx : insB x z = true) (hy : insB y z = true) : insB (hullB x y) z = true := insB_iff.2 fun hk => by
  obtain ⟨k1, a1, a2⟩ := insB_iff.1 hx hk
  obtain ⟨k2, b1, b2⟩ := insB_iff.1 hy hk
  have g1 := knB_iff.1 k1; have g2 := knB_iff.1 k2
  have := minI_sp x.lo y.lo; have := maxI_sp x.hi y.hi
  obtain ⟨e, k⟩ := op2_mk (f := minI x.lo y.lo) (g := maxI x.hi y.hi) k1 k2 (by omega) (by omega) (by omega)
  have e : hullB x y = ⟨minI x.lo y.lo, maxI x.hi y.hi, false⟩ := e
  rw [e]
  exact ⟨k, by simp only; omega, by simp only; omega⟩
theorem hull_has {x y : Bd} : insB x (hullB x y) = true := insB_iff.2 fun hk => ⟨(hull_kn hk).1, (hull_kn hk).2.2.1, (hull_kn hk).2.2.2.2.1⟩
theorem hull_has_r {x y : Bd} : insB y (hullB x y) = true := insB_iff.2 fun hk => ⟨(hull_kn hk).2.1, (hull_kn hk).2.2.2.1, (hull_kn hk).2.2.2.2.2⟩


theorem ins_no {x a : Bd} (h : knB a = false) : insB x a = true := insB_iff.2 fun hk => by rw [h] at hk; cases hk
theorem ins_trans {x y z : Bd} (h1 : insB x y = true) (h2 : insB y z = true) : insB x z = true := insB_iff.2 fun hz => by
  obtain ⟨k1, a1, a2⟩ := insB_iff.1 h2 hz
  obtain ⟨k2, b1, b2⟩ := insB_iff.1 h1 k1
  exact ⟨k2, by omega, by omega⟩
theorem hl_le {z : Bd} : ∀ {T : List (List Int)} {b : Bd}, insB b z = true → (∀ r ∈ T, insB (bLift r) z = true) → insB (hlF b T) z = true
  | [], b, hb, _ => hb
  | r :: T, b, hb, hT => hl_le (T := T) (b := hullB b (bLift r)) (hull_le hb (hT r (by simp))) (fun q hq => hT q (by simp [hq]))
theorem hl_has : ∀ {T : List (List Int)} {b : Bd}, insB b (hlF b T) = true ∧ ∀ r ∈ T, insB (bLift r) (hlF b T) = true
  | [], b => ⟨insB_refl b, fun r hr => by cases hr⟩
  | r :: T, b => by
    obtain ⟨h1, h2⟩ := hl_has (T := T) (b := hullB b (bLift r))
    refine ⟨ins_trans hull_has h1, fun q hq => ?_⟩
    rcases List.mem_cons.1 hq with rfl | hq
    · exact ins_trans hull_has_r h1
    · exact h2 q hq
theorem part_mem {T : List (List Int)} {a b : Nat} {r : List Int} : r ∈ (T.take b).drop a ↔ ∃ j : Nat, a ≤ j ∧ j < b ∧ j < T.length ∧ rwT T j = r := by
  have gd : ∀ j : Nat, j < T.length → rwT T j = T.getD j [] := fun j _ => by unfold rwT; rw [Int.toNat_natCast]
  constructor
  · intro h
    obtain ⟨i, hi, e⟩ := List.getElem_of_mem h
    rw [List.length_drop, List.length_take] at hi
    refine ⟨a + i, by omega, by omega, by omega, ?_⟩
    rw [gd _ (by omega), ← e, List.getElem_drop, List.getElem_take]
    simp [List.getD_eq_getElem?_getD, show a + i < T.length by omega]
  · rintro ⟨j, h1, h2, h3, rfl⟩
    rw [gd _ h3]
    have hl : j - a < ((T.take b).drop a).length := by rw [List.length_drop, List.length_take]; omega
    have e : ((T.take b).drop a)[j - a] = T.getD j [] := by
      rw [List.getElem_drop, List.getElem_take]
      have : a + (j - a) = j := by omega
      simp [List.getD_eq_getElem?_getD, h3, this]
    rw [← e]
    exact List.getElem_mem hl
/-- P10.7: Refract is isotone. -/
theorem rf_iso {T : List (List Int)} {a c : Bd} (h : insB c a = true) : insB (rfV T c) (rfV T a) = true := by
  by_cases h0 : cbE T = 0
  · cases ka : knB a with
    | false =>
      refine ins_no ?_
      unfold rfV; rw [if_neg (fun hh => by rw [ka] at hh; cases hh.2)]; rfl
    | true =>
      obtain ⟨kc, i1, i2⟩ := insB_iff.1 h ka
      obtain ⟨hl, hs⟩ := cb_len h0
      have gk := knB_iff.1 kc
      by_cases hn : rfF T a < 0 ∨ rfL T a = lenT T
      · refine ins_no ?_
        unfold rfV; rw [if_pos ⟨h0, ka⟩, if_pos hn]; rfl
      · have f1 := gg_mono (c := a.lo + 1) (d := c.lo + 1) (by omega) T
        have f2 := gg_mono (c := c.hi) (d := a.hi) i2 T
        have f3 := gg_in (a.hi) T
        have f4 := gg_in (c.lo + 1) T
        have f5 := gg_mono (c := c.lo) (d := c.hi) (by omega) T
        have f6 := gg_succ c.lo hs
        have f7 := gg_in (a.lo + 1) T
        have df : rfF T a = ggT (a.lo + 1) T - 1 := rfl
        have dl : rfL T a = ggT a.hi T := rfl
        have df' : rfF T c = ggT (c.lo + 1) T - 1 := rfl
        have dl' : rfL T c = ggT c.hi T := rfl
        have hn' : ¬ (rfF T c < 0 ∨ rfL T c = lenT T) := by omega
        have ea : rfV T a = addB a (hlF (bLift (rwT T (rfF T a))) ((T.take (rfL T a + 1).toNat).drop (rfF T a + 1).toNat)) := by unfold rfV; rw [if_pos ⟨h0, ka⟩, if_neg hn]
        have ec : rfV T c = addB c (hlF (bLift (rwT T (rfF T c))) ((T.take (rfL T c + 1).toNat).drop (rfF T c + 1).toNat)) := by unfold rfV; rw [if_pos ⟨h0, kc⟩, if_neg hn']
        rw [ea, ec]
        have tn : (T.length : Int) = lenT T := rfl
        obtain ⟨b1, b2⟩ := hl_has (T := (T.take (rfL T a + 1).toNat).drop (rfF T a + 1).toNat) (b := bLift (rwT T (rfF T a)))
        have all : ∀ j : Nat, rfF T a ≤ j → (j : Int) ≤ rfL T a → insB (bLift (rwT T j)) (hlF (bLift (rwT T (rfF T a))) ((T.take (rfL T a + 1).toNat).drop (rfF T a + 1).toNat)) = true := fun j j1 j2 => by
          by_cases hj : (j : Int) = rfF T a
          · rw [hj]; exact b1
          · exact b2 _ (part_mem.2 ⟨j, by omega, by omega, by omega, rfl⟩)
        refine iso_add h (hl_le ?_ fun r hr => ?_)
        · have := all (rfF T c).toNat (by omega) (by omega)
          rw [show ((rfF T c).toNat : Int) = rfF T c by omega] at this
          exact this
        · obtain ⟨j, j1, j2, j3, rfl⟩ := part_mem.1 hr
          exact all j (by omega) (by omega)
  · refine ins_no ?_
    unfold rfV; rw [if_neg (fun hh => h0 hh.1)]; rfl
theorem addB_comm (a b : Bd) : addB a b = addB b a := by
  unfold addB
  rw [Bool.and_comm, Int.add_comm a.lo, Int.add_comm a.hi]
/-- At an entry that is not the last one behind it, Refract is the entry's lift. -/
theorem rf_at {T : List (List Int)} {e : Int} (h0 : cbE T = 0) (he : -1073741824 ≤ e ∧ e ≤ 1073741824) (h1 : 1 < T.length) (a0 : bAlt (rwT T ((0 : Nat) : Int)) < e) (a1 : bAlt (rwT T ((1 : Nat) : Int)) = e) :
    rfV T (ofB e e) = addB (bLift (rwT T 1)) (ofB e e) := by
  obtain ⟨hl, hs⟩ := cb_len h0
  obtain ⟨e1, k1⟩ := ofB_mk (lo := e) (hi := e) (by omega) (Int.le_refl _) (by omega)
  have g1 := gg_iff (c := e + 1) hs 1 h1
  have g2 := gg_iff (c := e) hs 1 h1
  have g3 := gg_iff (c := e) hs 0 (by omega)
  have g4 := gg_in (e + 1) T
  have g5 := gg_in e T
  have g6 := gg_succ e hs
  have tn : (T.length : Int) = lenT T := rfl
  have eF : rfF T ⟨e, e, false⟩ = 1 := by unfold rfF; simp only; omega
  have eL : rfL T ⟨e, e, false⟩ = 1 := by unfold rfL; simp only; omega
  rw [e1]
  unfold rfV
  rw [if_pos ⟨h0, k1⟩, eF, eL, if_neg (by omega)]
  have : (T.take ((1 : Int) + 1).toNat).drop ((1 : Int) + 1).toNat = [] := by
    apply List.drop_eq_nil_of_le
    rw [List.length_take]; omega
  rw [this]
  exact addB_comm _ _
/-! ### The table that a stream makes -/
def ltP (l : List Int) : Nat → Int
  | 0 => 0 + 1 + 1
  | k + 1 => bndA l (ltP l k) + 1
def ltA (l : List Int) : Nat → Int
  | 0 => rangeV l 0 (-1000) 0
  | k + 1 => IntKind.i64.wrap (ltA l k + rangeV l (bndA l (ltP l k)) 1 400)
def ltR (l : List Int) (k : Nat) : List Int := [ltA l k, (bndV l (ltP l k) 500).lo, (bndV l (ltP l k) 500).hi, bif (bndV l (ltP l k) 500).u then 1 else 0]
def ltT (l : List Int) : Nat → List (List Int)
  | 0 => []
  | k + 1 => ltT l k ++ [ltR l k]
theorem lp_in (l : List Int) : ∀ k : Nat, 2 ≤ ltP l k ∧ ltP l k ≤ 2 + 4 * k
  | 0 => by unfold ltP; omega
  | k + 1 => by
    have := lp_in l k
    have := bndA_in l (ltP l k)
    unfold ltP; omega
theorem la_in (l : List Int) : ∀ k : Nat, k ≤ 100 → -1000 ≤ ltA l k ∧ ltA l k ≤ 400 * k
  | 0, _ => by have := rangeV_in l 0 (-1000) 0 (by omega); unfold ltA; omega
  | k + 1, h => by
    have := la_in l k (by omega)
    have := rangeV_in l (bndA l (ltP l k)) 1 400 (by omega)
    unfold ltA
    rw [v64 (by omega) (by omega)]; omega
theorem la_up (l : List Int) (k : Nat) (h : k ≤ 100) : ltA l k < ltA l (k + 1) := by
  have := la_in l k h
  have := rangeV_in l (bndA l (ltP l k)) 1 400 (by omega)
  rw [show ltA l (k + 1) = IntKind.i64.wrap (ltA l k + rangeV l (bndA l (ltP l k)) 1 400) from rfl, v64 (by omega) (by omega)]; omega
theorem lt_len (l : List Int) : ∀ k : Nat, (ltT l k).length = k
  | 0 => rfl
  | k + 1 => by rw [ltT, List.length_append, lt_len l k]; rfl
theorem lr_lift (l : List Int) (k : Nat) : bLift (ltR l k) = bndV l (ltP l k) 500 ∧ bAlt (ltR l k) = ltA l k := by
  refine ⟨?_, rfl⟩
  unfold bLift ltR
  simp only [List.getD_cons_zero, List.getD_cons_succ]
  generalize bndV l (ltP l k) 500 = b
  obtain ⟨x, y, u⟩ := b
  cases u <;> rfl
theorem mk_chk {b : Bd} (h : mkB b = true) : chkB b = 0 := by
  unfold mkB at h
  rcases Bool.or_eq_true_iff.1 h with h | h
  · simp only [Bool.and_eq_true, beq_iff_eq] at h
    unfold chkB
    rw [h.1.1, h.1.2, h.2]; rfl
  · have := knB_iff.1 h
    unfold chkB
    rw [this.1, inB_iff.2 (by omega), inB_iff.2 (by omega), decide_eq_false (show ¬ b.lo > b.hi by omega)]; rfl
theorem be_snoc {r : List Int} (hq : inQ (bAlt r) = true) (hc : chkB (bLift r) = 0) : ∀ {T : List (List Int)} {p : Option Int}, beL p T = 0 → (∀ q, p = some q → q < bAlt r) → (∀ j : Nat, j < T.length → bAlt (rwT T j) < bAlt r) → beL p (T ++ [r]) = 0
  | [], p, h, hp, _ => by
    show beL p [r] = 0
    unfold beL
    rw [if_pos hq, if_pos hc, if_neg]
    · rfl
    · cases p with
      | none => simp [lowP]
      | some q => have := hp q rfl; simp [lowP]; omega
  | s :: T, p, h, hp, hT => by
    obtain ⟨h1, h2, h3, h4⟩ := be_ok h
    show beL p (s :: (T ++ [r])) = 0
    unfold beL
    rw [if_pos h1, if_pos h2, if_neg]
    · refine be_snoc hq hc h4 (fun q e => ?_) (fun j hj => ?_)
      · cases e
        exact hT 0 (by simp)
      · have := hT (j + 1) (by simpa using hj)
        rw [rw_cons] at this; exact this
    · cases p with
      | none => simp [lowP]
      | some q => have := h3 q rfl; simp [lowP]; omega
theorem lt_row (l : List Int) : ∀ (k j : Nat), j < k → rwT (ltT l k) j = ltR l j
  | 0, j, h => by omega
  | k + 1, j, h => by
    have e : rwT (ltT l (k + 1)) j = (ltT l k ++ [ltR l k]).getD j [] := by unfold rwT; rw [Int.toNat_natCast]; rfl
    rw [e]
    rw [List.getD_eq_getElem?_getD]
    by_cases hj : j < k
    · rw [List.getElem?_append_left (by rw [lt_len]; exact hj)]
      have := lt_row l k j hj
      unfold rwT at this
      rw [Int.toNat_natCast, List.getD_eq_getElem?_getD] at this
      exact this
    · have : j = k := by omega
      subst this
      rw [List.getElem?_append_right (by rw [lt_len]; omega), lt_len]
      simp
theorem la_mono (l : List Int) {j : Nat} : ∀ k : Nat, j < k → k ≤ 100 → ltA l j < ltA l k
  | 0, h, _ => by omega
  | k + 1, h, h2 => by
    have := la_up l k (by omega)
    by_cases hj : j = k
    · subst hj; exact this
    · have := la_mono l (j := j) k (by omega) (by omega)
      omega
theorem lt_ok (l : List Int) : ∀ k : Nat, k ≤ 64 → beL none (ltT l k) = 0
  | 0, _ => rfl
  | k + 1, h => by
    obtain ⟨r1, r2⟩ := lr_lift l k
    have a := la_in l k (by omega)
    refine be_snoc ?_ ?_ (lt_ok l k (by omega)) (fun q e => by cases e) (fun j hj => ?_)
    · rw [r2]; unfold inQ; rw [inL_iff]; omega
    · rw [r1]; exact mk_chk (bndV_mk l _ 500 (by omega) (by omega))
    · rw [lt_len] at hj
      rw [lt_row l k j hj, r2, (lr_lift l j).2]
      exact la_mono l k hj (by omega)
theorem lt_cb (l : List Int) {k : Nat} (h : k ≤ 64) : cbE (ltT l k) = 0 := by
  unfold cbE
  rw [if_neg (by unfold lenT; rw [lt_len]; omega)]
  exact lt_ok l k h
end Go.Proofs.Ytagbpehfieejcaa.AtHz

