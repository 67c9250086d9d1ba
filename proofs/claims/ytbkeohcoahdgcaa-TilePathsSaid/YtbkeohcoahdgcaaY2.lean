/-
  Package tile: Level, Parent, Kids, placeOf, Of, Has and Corners as functions.
  Conditions: those of each theorem.
-/
import Derived.Test.YtbkeohcoahdgcaaY1
import Derived.Test.YtbkeohcoahdgcaaLS
set_option linter.unusedVariables false
set_option linter.unusedSimpArgs false
namespace Go.Proofs.Ytbkeohcoahdgcaa.AtTl
open Go.RowKit Ev Wd AtHz
open Go.Proofs.Ytbkeohcoahdgcaa
variable {F : Type}
noncomputable section

def b1 (l : List (Bool × Bool)) : List (Bool × Bool) := l
/-- The place of a number. -/
def plP (t : Int) : Pc := if lvT t = true then ⟨(t / 4 ^ (lvN t).toNat - 8) / 2, 1 - 2 * ((t / 4 ^ (lvN t).toNat - 8) % 2), 2 ^ (lvN t).toNat, coD t (lvN t).toNat, roD t (lvN t).toNat⟩ else ⟨0, 0, 0, 0, 0⟩
def veW (p : Pc) (o c r : Int) : V3 := roV ⟨p.s * o, c, r⟩ (3 - p.a)
def v8B (n : Int) : Bool := inL n 16384
/-- The planes through the sides. -/
def sd1 (p : Pc) : V3 := veW p (-(2 * p.c - p.z)) p.z 0
def sd2 (p : Pc) : V3 := veW p (2 * p.c - p.z + 2) (-p.z) 0
def sd3 (p : Pc) : V3 := veW p (-(2 * p.r - p.z)) 0 p.z
def sd4 (p : Pc) : V3 := veW p (2 * p.r - p.z + 2) 0 (-p.z)
def co1 (p : Pc) : V3 := veW p p.z (2 * p.c - p.z) (2 * p.r - p.z)
def co2 (p : Pc) : V3 := veW p p.z (2 * p.c - p.z + 2) (2 * p.r - p.z)
def co3 (p : Pc) : V3 := veW p p.z (2 * p.c - p.z) (2 * p.r - p.z + 2)
def co4 (p : Pc) : V3 := veW p p.z (2 * p.c - p.z + 2) (2 * p.r - p.z + 2)
abbrev c4 (a b c d : V3) : List (AC F) := [.int .i64 a.x, .int .i64 a.y, .int .i64 a.z, .int .i64 b.x, .int .i64 b.y, .int .i64 b.z, .int .i64 c.x, .int .i64 c.y, .int .i64 c.z, .int .i64 d.x, .int .i64 d.y, .int .i64 d.z]
def hs4 (a b c d v : V3) : Bool := decide (0 ≤ dtV a v) && (decide (0 ≤ dtV b v) && (decide (0 ≤ dtV c v) && decide (0 ≤ dtV d v)))
def haV (t : Int) (v : V3) : Bool := lvT t && (vE v == 0 && hs4 (sd1 (plP t)) (sd2 (plP t)) (sd3 (plP t)) (sd4 (plP t)) v)
def paT (t : Int) : Bool := lvT t && !(lvN t == 0)
def kiB (t : Int) : Bool := lvT t && !(lvN t == 12)
def faV (v : V3) : Int := 8 + 2 * mA v + (if (roV v (mA v)).x < 0 then 1 else 0)
/-- The tile of a direction. -/
def ofT (v : V3) (n : Nat) : Int := nmF (faV v) (clV (roV v (mA v)).y (sz (roV v (mA v)).x) n) (clV (roV v (mA v)).z (sz (roV v (mA v)).x) n) n
def ofV (v : V3) (k : Int) : Int := if (vE v == 0 && lvB k) = true then ofT v k.toNat else 0
def ofE (v : V3) (k : Int) : Int := if vE v = 0 then (if lvB k = true then 0 else 4) else vE v
abbrev rtS : FnSp F := sp2 dV3 (dInt .i64) (fun v n => v3A (roV v n)) (fun _ n => [(r3B n, true)])
abbrev axS : FnSp F := sp1 dV3 (fun v => aInt .i64 (mA v)) (fun v => [(inC v, true)])
abbrev ptS : FnSp F := sp3 (dInt .i64) (dInt .i64) (dInt .i64) (fun u m n => aInt .i64 (ptV u m n)) (fun u m n => [(ptB u m n, true)])
abbrev edS : FnSp F := sp1 dPc (fun p => .tup [.one (.int .i64 (2 * p.c - p.z)), .one (.int .i64 (2 * p.c - p.z + 2)), .one (.int .i64 (2 * p.r - p.z)), .one (.int .i64 (2 * p.r - p.z + 2))]) (fun p => [(plB p, true)])
abbrev doS : FnSp F := sp2 dV3 dV3 (fun v u => aInt .i64 (dtV v u)) (fun v u => [(dtB v u, true)])
abbrev leS : FnSp F := sp1 (dInt .i64) (fun t => .tup [.one (.int .i64 (lvN t)), .one (.bool (lvT t))]) (fun _ => [])
abbrev paS : FnSp F := sp1 (dInt .i64) (fun t => .tup [.one (.int .i64 (if paT t = true then t / 4 else 0)), .one (.bool (paT t))]) (fun _ => [])
abbrev plS : FnSp F := sp1 (dInt .i64) (fun t => .tup [.agg [.int .i64 (plP t).a, .int .i64 (plP t).s, .int .i64 (plP t).z, .int .i64 (plP t).c, .int .i64 (plP t).r], .one (.bool (lvT t))]) (fun _ => [])
abbrev nqS : FnSp F := sp1 dPc (fun p => aInt .i64 (nmG 13 (8 + 2 * p.a + (if p.s < 0 then 1 else 0)) (p.z / 2) p.c p.r)) (fun p => [(plB p, true)])
def sp4 {α β γ δ : Type} (d : Dec F α) (e : Dec F β) (g : Dec F γ) (k : Dec F δ) (r : α → β → γ → δ → AV F) (cd : α → β → γ → δ → List (Bool × Bool)) : FnSp F := plain fun args => match args with
  | [x, y, z, t] => match d.dec x with
    | some a => match e.dec y with
      | some b => match g.dec z with
        | some c => match k.dec t with
          | some q => some (r a b c q, cd a b c q)
          | none => none
        | none => none
      | none => none
    | none => none
  | _ => none
theorem sp4_ok {P : Program} {I : Interp F} {f : FuncId} {α β γ δ : Type} {d : Dec F α} {e : Dec F β} {g : Dec F γ} {k : Dec F δ} {r : α → β → γ → δ → AV F} {cd : α → β → γ → δ → List (Bool × Bool)} (h : ∀ a b c q, (∀ p ∈ cd a b c q, p.1 = p.2) → ∃ u, (r a b c q).val = some u ∧ Pl P f [d.enc a, e.enc b, g.enc c, k.enc q] u) : (sp4 d e g k r cd).ok P I f := plain_ok' fun args v cd' hg hc => by
  split at hg
  · rename_i x y z t
    split at hg
    · rename_i a ha
      split at hg
      · rename_i b hb
        split at hg
        · rename_i c' hc'
          split at hg
          · rename_i q hq
            cases hg
            obtain ⟨u, h1, h2⟩ := h a b c' q hc
            exact ⟨_, u, .cons (d.ok _ _ ha) (.cons (e.ok _ _ hb) (.cons (g.ok _ _ hc') (.cons (k.ok _ _ hq) .nil))), h1, h2⟩
          · cases hg
        · cases hg
      · cases hg
    · cases hg
  · cases hg
abbrev vcS : FnSp F := sp4 dPc (dInt .i64) (dInt .i64) (dInt .i64) (fun p o c r => v3A (veW p o c r)) (fun p o c r => [(plB p, true), (v8B o, true), (v8B c, true), (v8B r, true)])
abbrev ofS : FnSp F := sp2 dV3 (dInt .i64) (fun v k => .tup [.one (.int .i64 (ofV v k)), .one (.int .i64 (ofE v k))]) (fun _ _ => [])
abbrev haS : FnSp F := sp2 (dInt .i64) dV3 (fun t v => aBool (haV t v)) (fun _ _ => [])
abbrev chS : FnSp F := sp1 dV3 (fun v => aInt .i64 (vE v)) (fun _ => [])
abbrev ilS : FnSp F := sp1 (dInt .i64) (fun k => aBool (lvB k)) (fun _ => [])
abbrev cxN : Ctx F := ⟨tabOf Try.prog, fun _ => none, fun _ => true, fun _ => false, fun _ => none, fun _ _ => none, fun _ => none, fun _ => 0, fun _ _ _ => none, fun _ _ _ => none, fun _ _ _ => none, fun _ => none, fun _ => none, []⟩
abbrev sdG (args : List (AV F)) (bs : List (Blk F)) : Option (Nat × List (AC F) × List (Bool × Bool)) := match args, bs with
  | [x], [] => match (dPc (F := F)).dec x with
    | some p => some (4, c4 (sd1 p) (sd2 p) (sd3 p) (sd4 p), [(plB p, true)])
    | none => none
  | _, _ => none
abbrev hsG (args : List (AV F)) (bs : List (Blk F)) : Option (AV F × List (Bool × Bool)) := match args, bs with
  | [.w (.one (.slc 0 0 4 4)), x], [⟨ty, [.int .i64 a, .int .i64 b, .int .i64 c, .int .i64 d, .int .i64 e, .int .i64 f, .int .i64 g, .int .i64 h, .int .i64 i, .int .i64 j, .int .i64 k, .int .i64 l]⟩] => bif Nat.beq ty 27 then match (dV3 (F := F)).dec x with
    | some v => some (aBool (hs4 ⟨a, b, c⟩ ⟨d, e, f⟩ ⟨g, h, i⟩ ⟨j, k, l⟩ v), [(dtB ⟨a, b, c⟩ v, true), (dtB ⟨d, e, f⟩ v, true), (dtB ⟨g, h, i⟩ v, true), (dtB ⟨j, k, l⟩ v, true)])
    | none => none
    else none
  | _, _ => none
abbrev kiG (args : List (AV F)) (bs : List (Blk F)) : Option (Nat × List (AC F) × List (Bool × Bool)) := match args, bs with
  | [x], [] => match (dInt (F := F) .i64).dec x with
    | some t => some (4, [.int .i64 (4 * t), .int .i64 (4 * t + 1), .int .i64 (4 * t + 2), .int .i64 (4 * t + 3)], [(kiB t, true)])
    | none => none
  | _, _ => none
abbrev coG (args : List (AV F)) (bs : List (Blk F)) : Option (Nat × List (AC F) × List (Bool × Bool)) := match args, bs with
  | [x], [] => match (dInt (F := F) .i64).dec x with
    | some t => some (4, c4 (co1 (plP t)) (co2 (plP t)) (co3 (plP t)) (co4 (plP t)), [(lvT t, true)])
    | none => none
  | _, _ => none
def in4 (t a b c d : Int) : Bool := t == a || (t == b || (t == c || t == d))
abbrev ctG (args : List (AV F)) (bs : List (Blk F)) : Option (AV F × List (Bool × Bool)) := match args, bs with
  | [.w (.one (.slc 0 0 4 4)), x], [⟨ty, [.int .i64 a, .int .i64 b, .int .i64 c, .int .i64 d]⟩] => bif Nat.beq ty 29 then match (dInt (F := F) .i64).dec x with
    | some t => some (aBool (in4 t a b c d), [])
    | none => none
    else none
  | _, _ => none

theorem dPc_dec {x : AV F} {y : Pc} (h : (dPc (F := F)).dec x = some y) : x = pcA y := by
  simp only [dPc] at h
  split at h
  · cases h; rfl
  · cases h
theorem dV3_dec {x : AV F} {y : V3} (h : (dV3 (F := F)).dec x = some y) : x = v3A y := by
  simp only [dV3] at h
  split at h
  · cases h; rfl
  · cases h
theorem dInt_dec {x : AV F} {k : IntKind} {n : Int} (h : (dInt (F := F) k).dec x = some n) : x = .w (.one (.int k n)) := by
  simp only [dInt] at h
  split at h
  · rename_i k' m
    by_cases e : k' = k
    · subst e; simp at h; subst h; rfl
    · simp [e] at h
  · cases h
theorem lvN_no {t : Int} (h : lvT t = false) : lvN t = 0 := by
  unfold lvT at h
  unfold lvN
  cases e : lvV t with
  | none => rfl
  | some j => rw [e] at h; cases h
theorem four_le {j : Nat} (h : j ≤ 12) : (4 : Int) ^ j ≤ 16777216 := by
  rcases (show j = 0 ∨ j = 1 ∨ j = 2 ∨ j = 3 ∨ j = 4 ∨ j = 5 ∨ j = 6 ∨ j = 7 ∨ j = 8 ∨ j = 9 ∨ j = 10 ∨ j = 11 ∨ j = 12 by omega) with rfl | rfl | rfl | rfl | rfl | rfl | rfl | rfl | rfl | rfl | rfl | rfl | rfl <;> decide
theorem lv_in {t : Int} (h : lvT t = true) : 8 ≤ t ∧ t < 234881024 ∧ lvB (lvN t) = true := by
  obtain ⟨j, h1, h2, h3, h4⟩ := lv_some h
  have := four_le h1
  have := p4 j
  exact ⟨by omega, by omega, lvB_iff.2 (by omega)⟩
theorem div4 {t : Int} (h : lvT t = true) : IntKind.i64.wrap (t.tdiv 4) = t / 4 := by
  have := lv_in h
  rw [Int.tdiv_eq_ediv_of_nonneg (by omega), v64 (by omega) (by omega)]
theorem face_in {t : Int} (h : lvT t = true) : 8 ≤ t / 4 ^ (lvN t).toNat ∧ t / 4 ^ (lvN t).toNat ≤ 13 := by
  obtain ⟨j, h1, h2, h3, h4⟩ := lv_some h
  have q := p4 j
  rw [h2, Int.toNat_natCast]
  refine ⟨Int.le_ediv_of_mul_le q h3, ?_⟩
  have := Int.ediv_lt_of_lt_mul q h4
  omega
theorem plP_at {t : Int} (h : lvT t = true) : plP t = ⟨(t / 4 ^ (lvN t).toNat - 8) / 2, 1 - 2 * ((t / 4 ^ (lvN t).toNat - 8) % 2), 2 ^ (lvN t).toNat, coD t (lvN t).toNat, roD t (lvN t).toNat⟩ := by
  unfold plP; rw [if_pos h]
theorem plB_of {t : Int} (h : lvT t = true) : plB (plP t) = true := by
  have f := face_in h
  obtain ⟨j, h1, h2, _⟩ := lv_some h
  have c := co_in (lvN t).toNat t
  have r := ro_in (lvN t).toNat t
  have q := p2 (lvN t).toNat
  have b := pow2_le (n := (lvN t).toNat) (by omega)
  rw [plP_at h]
  refine plB_iff.2 ?_
  simp only
  omega
theorem plo_eq {t : Int} (h : lvT t = true) : t.fdiv (2 ^ min (IntKind.i64.wrap (2 * lvN t)).toNat IntKind.i64.bits) = t / 4 ^ (lvN t).toNat ∧ IntKind.i64.wrap (t / 4 ^ (lvN t).toNat - 8) = t / 4 ^ (lvN t).toNat - 8 ∧ IntKind.i64.wrap (1 * 2 ^ min (lvN t).toNat IntKind.i64.bits) = 2 ^ (lvN t).toNat ∧
    decide (IntKind.i64.wrap (2 * lvN t) < 0) = false ∧ decide (lvN t < 0) = false ∧ (lvB (lvN t) && decide (0 ≤ t) && decide ((0 : Int) = 0) && decide ((0 : Int) = 0)) = true ∧ True := by
  obtain ⟨a1, a2, a3⟩ := lv_in h
  have f := face_in h
  obtain ⟨s1, s2⟩ := sh_div t a3
  obtain ⟨u1, u2⟩ := sh_one a3
  refine ⟨s1, v64 (by omega) (by omega), u1, s2, u2, ?_, trivial⟩
  rw [a3, decide_eq_true (show 0 ≤ t by omega)]; rfl
theorem plo_at {t : Int} (h : lvT t = true) : ([.int .i64 (IntKind.i64.wrap ((t / 4 ^ (lvN t).toNat - 8).tdiv 2)), .int .i64 (IntKind.i64.wrap (1 - IntKind.i64.wrap (2 * (t / 4 ^ (lvN t).toNat - 8).tmod 2))), .int .i64 (2 ^ (lvN t).toNat), .int .i64 (coD t (lvN t).toNat), .int .i64 (roD t (lvN t).toNat)] : List (AC Empty)) = [.int .i64 (plP t).a, .int .i64 (plP t).s, .int .i64 (plP t).z, .int .i64 (plP t).c, .int .i64 (plP t).r] := by
  have f := face_in h
  rw [plP_at h]
  generalize t / 4 ^ (lvN t).toNat = x at *
  have e1 : (x - 8).tdiv 2 = (x - 8) / 2 := Int.tdiv_eq_ediv_of_nonneg (by omega)
  have e2 : (x - 8).tmod 2 = (x - 8) % 2 := Int.tmod_eq_emod_of_nonneg (by omega)
  rw [e1, e2, v64 (x := (x - 8) / 2) (by omega) (by omega), v64 (x := 2 * ((x - 8) % 2)) (by omega) (by omega), v64 (x := 1 - 2 * ((x - 8) % 2)) (by omega) (by omega)]
theorem v8B_iff {n : Int} : v8B n = true ↔ -16384 ≤ n ∧ n ≤ 16384 := by unfold v8B; exact inL_iff
theorem vec_eq {y : Pc} {o : Int} (h : plB y = true) (ho : v8B o = true) : IntKind.i64.wrap (y.s * o) = y.s * o ∧ IntKind.i64.wrap (3 - y.a) = 3 - y.a ∧ r3B (3 - y.a) = true := by
  have h := plB_iff.1 h
  have ho := v8B_iff.1 ho
  have m := mul_in (x := y.s) (y := o) (a := 1) (b := 16384) (by omega) (by omega) (by omega) (by omega)
  exact ⟨v64 (by omega) (by omega), v64 (by omega) (by omega), r3B_iff.2 (by omega)⟩
theorem num_eq {y : Pc} (h : plB y = true) : IntKind.i64.wrap (2 * y.a) = 2 * y.a ∧ IntKind.i64.wrap (8 + 2 * y.a) = 8 + 2 * y.a ∧ IntKind.i64.wrap (8 + 2 * y.a + 1) = 8 + 2 * y.a + 1 ∧ IntKind.i64.wrap (y.z.tdiv 2) = y.z / 2 ∧ nuB (8 + 2 * y.a + 1) (y.z / 2) y.c y.r = true ∧ nuB (8 + 2 * y.a) (y.z / 2) y.c y.r = true := by
  have h := plB_iff.1 h
  refine ⟨v64 (by omega) (by omega), v64 (by omega) (by omega), v64 (by omega) (by omega), ?_, nuB_iff.2 (by omega), nuB_iff.2 (by omega)⟩
  rw [Int.tdiv_eq_ediv_of_nonneg (by omega), v64 (by omega) (by omega)]
theorem ro_in' {v : V3} {n : Int} (h : inC v = true) : inC (roV v n) = true := by
  have h := inC_iff.1 h
  unfold roV
  split
  · exact inC_iff.2 (by simp only; omega)
  · split
    · exact inC_iff.2 (by simp only; omega)
    · exact inC_iff.2 h
/-- The main component. -/
theorem ax_main {v : V3} (h : vE v = 0) : (1 ≤ sz (roV v (mA v)).x ∧ sz (roV v (mA v)).x ≤ 1048576) ∧ (-sz (roV v (mA v)).x ≤ (roV v (mA v)).y ∧ (roV v (mA v)).y ≤ sz (roV v (mA v)).x) ∧ -sz (roV v (mA v)).x ≤ (roV v (mA v)).z ∧ (roV v (mA v)).z ≤ sz (roV v (mA v)).x := by
  obtain ⟨h1, h2⟩ := vE_iff.1 h
  obtain ⟨x, y, z⟩ := v
  simp only at h1 h2
  unfold mA mx3
  simp only
  have sx : sz x = x ∨ sz x = -x := by unfold sz; split <;> simp
  have sy : sz y = y ∨ sz y = -y := by unfold sz; split <;> simp
  have szz : sz z = z ∨ sz z = -z := by unfold sz; split <;> simp
  have ax : x ≤ sz x ∧ -x ≤ sz x := by unfold sz; split <;> omega
  have ay : y ≤ sz y ∧ -y ≤ sz y := by unfold sz; split <;> omega
  have az : z ≤ sz z ∧ -z ≤ sz z := by unfold sz; split <;> omega
  by_cases a : max (sz x) (max (sz y) (sz z)) = sz x
  · rw [if_pos a]
    have e : roV ⟨x, y, z⟩ 0 = ⟨x, y, z⟩ := rfl
    rw [e]; simp only
    omega
  · rw [if_neg a]
    by_cases b : max (sz x) (max (sz y) (sz z)) = sz y
    · rw [if_pos b]
      have e : roV ⟨x, y, z⟩ 1 = ⟨y, z, x⟩ := rfl
      rw [e]; simp only
      omega
    · rw [if_neg b]
      have e : roV ⟨x, y, z⟩ 2 = ⟨z, x, y⟩ := rfl
      rw [e]; simp only
      omega
theorem mA_in (v : V3) : 0 ≤ mA v ∧ mA v ≤ 2 := by unfold mA; split <;> (try split) <;> omega
theorem pt_in {u m : Int} (n : Nat) (hm : 0 < m) (h1 : -m ≤ u) : 0 ≤ ptV u m (2 ^ n) ∧ ptV u m (2 ^ n) < 2 ^ n := cl_range n hm h1
theorem tof_cd {v : V3} {k : Int} (hv : vE v = 0) (hk : lvB k = true) : inC v = true ∧ r3B (mA v) = true ∧ i62B (roV v (mA v)).x = true ∧ ptB (roV v (mA v)).y (sz (roV v (mA v)).x) (2 ^ k.toNat) = true ∧
    (∀ s : Int, -1 ≤ s → s ≤ 1 → plB ⟨mA v, s, 2 ^ k.toNat, ptV (roV v (mA v)).y (sz (roV v (mA v)).x) (2 ^ k.toNat), ptV (roV v (mA v)).z (sz (roV v (mA v)).x) (2 ^ k.toNat)⟩ = true) ∧ ptB (roV v (mA v)).z (sz (roV v (mA v)).x) (2 ^ k.toNat) = true := by
  have hi : inC v = true := inC_iff.2 (vE_iff.1 hv).1
  obtain ⟨m1, m2, m3⟩ := ax_main hv
  have a := mA_in v
  have hk := lvB_iff.1 hk
  have q := p2 k.toNat
  have b := pow2_le (n := k.toNat) (by omega)
  have hr := inC_iff.1 (ro_in' (n := mA v) hi)
  have py := pt_in (u := (roV v (mA v)).y) (m := sz (roV v (mA v)).x) k.toNat (by omega) (by omega)
  have pz := pt_in (u := (roV v (mA v)).z) (m := sz (roV v (mA v)).x) k.toNat (by omega) (by omega)
  refine ⟨hi, r3B_iff.2 (by omega), i62B_iff.2 (by omega), ptB_iff.2 (by omega), fun s h1 h2 => plB_iff.2 ?_, ptB_iff.2 (by omega)⟩
  simp only
  omega
theorem of_num {v : V3} {k f : Int} (hk : lvB k = true) (hf : f = if (roV v (mA v)).x < 0 then 1 else 0) : nmG 13 (8 + 2 * mA v + f) (2 ^ k.toNat / 2) (ptV (roV v (mA v)).y (sz (roV v (mA v)).x) (2 ^ k.toNat)) (ptV (roV v (mA v)).z (sz (roV v (mA v)).x) (2 ^ k.toNat)) = ofT v k.toNat := by
  have hk := lvB_iff.1 hk
  rw [nmG_all _ _ _ _ (by omega), hf]
  rfl
theorem sid_eq {y : Pc} (h : plB y = true) : IntKind.i64.wrap (0 - (2 * y.c - y.z)) = -(2 * y.c - y.z) ∧ IntKind.i64.wrap (0 - y.z) = -y.z ∧ IntKind.i64.wrap (0 - (2 * y.r - y.z)) = -(2 * y.r - y.z) ∧ v8B (-(2 * y.c - y.z)) = true ∧ v8B y.z = true ∧ v8B (2 * y.c - y.z + 2) = true ∧ v8B (-y.z) = true ∧ v8B (-(2 * y.r - y.z)) = true ∧ v8B (2 * y.r - y.z + 2) = true := by
  have h := plB_iff.1 h
  refine ⟨?_, ?_, ?_, v8B_iff.2 (by omega), v8B_iff.2 (by omega), v8B_iff.2 (by omega), v8B_iff.2 (by omega), v8B_iff.2 (by omega), v8B_iff.2 (by omega)⟩
  · rw [v64 (by omega) (by omega)]; omega
  · rw [v64 (by omega) (by omega)]; omega
  · rw [v64 (by omega) (by omega)]; omega
theorem cor_cd {y : Pc} (h : plB y = true) : v8B y.z = true ∧ v8B (2 * y.c - y.z) = true ∧ v8B (2 * y.r - y.z) = true ∧ v8B (2 * y.c - y.z + 2) = true ∧ v8B (2 * y.r - y.z + 2) = true := by
  have h := plB_iff.1 h
  exact ⟨v8B_iff.2 (by omega), v8B_iff.2 (by omega), v8B_iff.2 (by omega), v8B_iff.2 (by omega), v8B_iff.2 (by omega)⟩
theorem veW_in {y : Pc} {o c r : Int} (h : plB y = true) (ho : v8B o = true) (hc : v8B c = true) (hr : v8B r = true) : inC (veW y o c r) = true := by
  have h := plB_iff.1 h
  have ho := v8B_iff.1 ho
  have hc := v8B_iff.1 hc
  have hr := v8B_iff.1 hr
  have m := mul_in (x := y.s) (y := o) (a := 1) (b := 16384) (by omega) (by omega) (by omega) (by omega)
  exact ro_in' (inC_iff.2 (by simp only; omega))
theorem sd_dtB {y : Pc} {v : V3} (h : plB y = true) (hv : vE v = 0) : dtB (sd1 y) v = true ∧ dtB (sd2 y) v = true ∧ dtB (sd3 y) v = true ∧ dtB (sd4 y) v = true := by
  obtain ⟨_, _, _, a1, a2, a3, a4, a5, a6⟩ := sid_eq h
  have hv := (vE_iff.1 hv).1
  have z : v8B 0 = true := by decide
  have d : ∀ u : V3, inC u = true → dtB u v = true := fun u hu => by
    unfold dtB
    rw [hu, inL_iff.2 (by omega), inL_iff.2 (by omega), inL_iff.2 (by omega)]; rfl
  exact ⟨d _ (veW_in h a1 a2 z), d _ (veW_in h a3 a4 z), d _ (veW_in h a5 z a2), d _ (veW_in h a6 z a4)⟩
theorem kid_eq {t : Int} (h : kiB t = true) : IntKind.i64.wrap (4 * t) = 4 * t ∧ IntKind.i64.wrap (4 * t + 1) = 4 * t + 1 ∧ IntKind.i64.wrap (4 * t + 2) = 4 * t + 2 ∧ IntKind.i64.wrap (4 * t + 3) = 4 * t + 3 ∧ (!lvT t) = false ∧ (lvN t == 12) = false := by
  unfold kiB at h
  simp only [Bool.and_eq_true, Bool.not_eq_true'] at h
  have := lv_in h.1
  refine ⟨v64 (by omega) (by omega), v64 (by omega) (by omega), v64 (by omega) (by omega), v64 (by omega) (by omega), by rw [h.1]; rfl, h.2⟩
set_option maxRecDepth 100000 in
theorem lev_1 (t : Int) : evR (ctxLp Try.prog noFacts (fun _ => false) libT1 [] [((25, [false, true, false, true]), lqD.sp (fun _ => true))]) Try.f9 [(.w (.one (.int .i64 t)))] [true] = some (AV.tup [AW.one (AC.int IntKind.i64 (lvN t)), AW.one (AC.yes true)], (pickL [(lvT t, true), (decide ((0 : Int) = 0), true)] [0, 1])) := by kernel_rfl
set_option maxRecDepth 100000 in
theorem lev_0 (t : Int) : evR (ctxLp Try.prog noFacts (fun _ => false) libT1 [] [((25, [false, true, false, true]), lqD.sp (fun _ => true))]) Try.f9 [(.w (.one (.int .i64 t)))] [false] = some (AV.tup [AW.one (AC.int IntKind.i64 0), AW.one (AC.yes false)], (pickL [(lvT t, false), (decide ((0 : Int) = 0), true)] [0, 1])) := by kernel_rfl
theorem lqLps_ok : LpsOk Try.prog noFacts [((25, [false, true, false, true]), lqD.sp (fun _ => true))] Try.f9.ntmps (bodyOf Try.f9) := lps_cons (fun _ x hx => lqD_ok x hx) lps_nil
theorem poLps_ok : LpsOk Try.prog noFacts [((55, [false, false, true, true, true, true, true]), poD.sp (fun _ => true))] Try.f32.ntmps (bodyOf Try.f32) := lps_cons (fun _ x hx => poD_ok x hx) lps_nil
theorem nuLps_ok : LpsOk Try.prog noFacts [((37, [false, true, false, true, true, true]), nuD.sp (fun _ => true))] Try.f29.ntmps (bodyOf Try.f29) := lps_cons (fun _ x hx => nuD_ok x hx) lps_nil
theorem lev_pl (t : Int)  : Pl Try.prog 9 [.int .i64 t] (.tuple #[.int .i64 (lvN t), .bool (lvT t)]) := fun w => by
  cases h : lvT t with
  | true =>
    have L := lev_1 t
    refine evR_calls (I := noFacts) (v := .tuple #[.int .i64 (lvN t), .bool true]) (ctxLp_ok libT1_ok (eq_none _) (fns_nil _) (fun _ _ h => by cases h)) (by kernel_rfl) Try.func9 rfl lqLps_ok L rfl (all2_R (.cons rfl .nil)) rfl w (Nat.zero_le _) (pickL_ok ?_ _)
    repeat' (first | exact cd_nil | refine cd_cons ?_ ?_)
    all_goals first | rfl | with_reducible assumption
  | false =>
    have e : lvN t = 0 := lvN_no h
    rw [e]
    have L := lev_0 t
    refine evR_calls (I := noFacts) (v := .tuple #[.int .i64 0, .bool false]) (ctxLp_ok libT1_ok (eq_none _) (fns_nil _) (fun _ _ h => by cases h)) (by kernel_rfl) Try.func9 rfl lqLps_ok L rfl (all2_R (.cons rfl .nil)) rfl w (Nat.zero_le _) (pickL_ok ?_ _)
    repeat' (first | exact cd_nil | refine cd_cons ?_ ?_)
    all_goals first | rfl | with_reducible assumption

noncomputable abbrev libU1 : List (Nat × FnSp F) := [(9, leS)]
theorem libU1_ok {F : Type} (I : Interp F) : LibOk Try.prog I (lib1 libU1) := (lib1_cons ((sp1_ok fun t _ => ⟨_, rfl, lev_pl t⟩)) Try.call9 (lib1_nil _ _))
set_option maxRecDepth 100000 in
theorem par_1 (t : Int) : evR (ctxOf Try.prog noFacts (fun _ => false) libU1) Try.f8 [(.w (.one (.int .i64 t)))] [true] = some (AV.tup [AW.one (AC.int IntKind.i64 0), AW.one (AC.yes false)], (pickL [(!lvT t, true), (true, true)] [0, 0, 0, 1])) := by kernel_rfl
set_option maxRecDepth 100000 in
theorem par_01 (t : Int) : evR (ctxOf Try.prog noFacts (fun _ => false) libU1) Try.f8 [(.w (.one (.int .i64 t)))] [false, true] = some (AV.tup [AW.one (AC.int IntKind.i64 0), AW.one (AC.yes false)], (pickL [(!lvT t, false), (lvN t == 0, true)] [0, 0, 0, 1])) := by kernel_rfl
set_option maxRecDepth 100000 in
theorem par_00 (t : Int) : evR (ctxOf Try.prog noFacts (fun _ => false) libU1) Try.f8 [(.w (.one (.int .i64 t)))] [false, false] = some (AV.tup [AW.one (AC.int IntKind.i64 (IntKind.i64.wrap (t.tdiv 4))), AW.one (AC.yes true)], (pickL [(!lvT t, false), (lvN t == 0, false), (decide ((4 : Int) = 0), false)] [0, 0, 0, 1, 2])) := by kernel_rfl
set_option maxRecDepth 100000 in
theorem plo_1 (t : Int) : evR (ctxLp Try.prog noFacts (fun _ => false) libU1 [] [((55, [false, false, true, true, true, true, true]), poD.sp (fun _ => true))]) Try.f32 [(.w (.one (.int .i64 t)))] [true] = some (AV.tup [AW.agg [AC.int IntKind.i64 0, AC.int IntKind.i64 0, AC.int IntKind.i64 0, AC.int IntKind.i64 0, AC.int IntKind.i64 0], AW.one (AC.yes false)], (pickL [(!lvT t, true)] [0])) := by kernel_rfl
set_option maxRecDepth 100000 in
theorem plo_0 (t : Int) : evR (ctxLp Try.prog noFacts (fun _ => false) libU1 [] [((55, [false, false, true, true, true, true, true]), poD.sp (fun _ => true))]) Try.f32 [(.w (.one (.int .i64 t)))] [false] = some (AV.tup [AW.agg [AC.int IntKind.i64 (IntKind.i64.wrap ((IntKind.i64.wrap (t.fdiv (2 ^ min (IntKind.i64.wrap (2 * lvN t)).toNat IntKind.i64.bits) - 8)).tdiv 2)), AC.int IntKind.i64 (IntKind.i64.wrap (1 - IntKind.i64.wrap (2 * (IntKind.i64.wrap (t.fdiv (2 ^ min (IntKind.i64.wrap (2 * lvN t)).toNat IntKind.i64.bits) - 8)).tmod 2))), AC.int IntKind.i64 (IntKind.i64.wrap (1 * 2 ^ min (lvN t).toNat IntKind.i64.bits)), AC.int IntKind.i64 (coD t (lvN t).toNat), AC.int IntKind.i64 (roD t (lvN t).toNat)], AW.one (AC.yes true)], (pickL [(!lvT t, false), (decide (IntKind.i64.wrap (2 * lvN t) < 0), false), (decide ((2 : Int) = 0), false), (decide (lvN t < 0), false), (lvB (lvN t) && decide (0 ≤ t) && decide ((0 : Int) = 0) && decide ((0 : Int) = 0), true)] [0, 1, 2, 2, 3, 4])) := by kernel_rfl
theorem par_pl (t : Int)  : Pl Try.prog 8 [.int .i64 t] (.tuple #[.int .i64 (if paT t = true then t / 4 else 0), .bool (paT t)]) := fun w => by
  cases h : lvT t with
  | false =>
    have k0 : (!lvT t) = true := by rw [h]; rfl
    have e : paT t = false := by unfold paT; rw [h]; rfl
    rw [e, if_neg (by decide)]
    have L := par_1 t
    refine evR_calls (I := noFacts) (v := .tuple #[.int .i64 0, .bool false]) (ctxOf_ok (libU1_ok _) (eq_none _)) (by kernel_rfl) Try.func8 rfl lps_nil L rfl (all2_R (.cons rfl .nil)) rfl w (Nat.zero_le _) (pickL_ok ?_ _)
    repeat' (first | exact cd_nil | refine cd_cons ?_ ?_)
    all_goals first | rfl | with_reducible assumption
  | true =>
    have k0 : (!lvT t) = false := by rw [h]; rfl
    by_cases h2 : lvN t = 0
    · have k1 : (lvN t == 0) = true := by rw [h2]; rfl
      have e : paT t = false := by unfold paT; rw [k1]; simp
      rw [e, if_neg (by decide)]
      have L := par_01 t
      refine evR_calls (I := noFacts) (v := .tuple #[.int .i64 0, .bool false]) (ctxOf_ok (libU1_ok _) (eq_none _)) (by kernel_rfl) Try.func8 rfl lps_nil L rfl (all2_R (.cons rfl .nil)) rfl w (Nat.zero_le _) (pickL_ok ?_ _)
      repeat' (first | exact cd_nil | refine cd_cons ?_ ?_)
      all_goals first | rfl | with_reducible assumption
    · have k1 : (lvN t == 0) = false := by simpa using h2
      have e : paT t = true := by unfold paT; rw [k1, h]; rfl
      have q : IntKind.i64.wrap (t.tdiv 4) = t / 4 := div4 h
      rw [e, if_pos rfl]
      have L := par_00 t
      rw [q] at L
      refine evR_calls (I := noFacts) (v := .tuple #[.int .i64 (t / 4), .bool true]) (ctxOf_ok (libU1_ok _) (eq_none _)) (by kernel_rfl) Try.func8 rfl lps_nil L rfl (all2_R (.cons rfl .nil)) rfl w (Nat.zero_le _) (pickL_ok ?_ _)
      repeat' (first | exact cd_nil | refine cd_cons ?_ ?_)
      all_goals first | rfl | with_reducible assumption

theorem plo_pl (t : Int)  : Pl Try.prog 32 [.int .i64 t] (.tuple #[pcV (plP t), .bool (lvT t)]) := fun w => by
  cases h : lvT t with
  | false =>
    have k0 : (!lvT t) = true := by rw [h]; rfl
    have e : plP t = ⟨0, 0, 0, 0, 0⟩ := by unfold plP; rw [h]; rfl
    rw [e]
    have L := plo_1 t
    refine evR_calls (I := noFacts) (v := .tuple #[pcV ⟨0, 0, 0, 0, 0⟩, .bool false]) (ctxLp_ok (libU1_ok _) (eq_none _) (fns_nil _) (fun _ _ h => by cases h)) (by kernel_rfl) Try.func32 rfl poLps_ok L rfl (all2_R (.cons rfl .nil)) rfl w (Nat.zero_le _) (pickL_ok ?_ _)
    repeat' (first | exact cd_nil | refine cd_cons ?_ ?_)
    all_goals first | rfl | with_reducible assumption
  | true =>
    have k0 : (!lvT t) = false := by rw [h]; rfl
    obtain ⟨e1, e2, e3, e4, e5, e6, e7⟩ := plo_eq h
    have L := plo_0 t
    rw [e1, e2, e3, plo_at h] at L
    refine evR_calls (I := noFacts) (v := .tuple #[pcV (plP t), .bool true]) (ctxLp_ok (libU1_ok _) (eq_none _) (fns_nil _) (fun _ _ h => by cases h)) (by kernel_rfl) Try.func32 rfl poLps_ok L rfl (all2_R (.cons rfl .nil)) rfl w (Nat.zero_le _) (pickL_ok ?_ _)
    repeat' (first | exact cd_nil | refine cd_cons ?_ ?_)
    all_goals first | rfl | with_reducible assumption

noncomputable abbrev libU0 : List (Nat × FnSp F) := [(26, rtS)]
theorem libU0_ok {F : Type} (I : Interp F) : LibOk Try.prog I (lib1 libU0) := (lib1_cons ((sp2_ok fun v n hc => ⟨_, rfl, rot_pl v n (c1' hc)⟩)) Try.call26 (lib1_nil _ _))
set_option maxRecDepth 100000 in
theorem vec_ (y : Pc) (o : Int) (c : Int) (r : Int) : evR (ctxOf Try.prog noFacts (fun _ => false) libU0) Try.f36 [(pcA y), (.w (.one (.int .i64 o))), (.w (.one (.int .i64 c))), (.w (.one (.int .i64 r)))] [] = some (AV.w (AW.agg [AC.int IntKind.i64 (roV { x := IntKind.i64.wrap (y.s * o), y := c, z := r } (IntKind.i64.wrap (3 - y.a))).x, AC.int IntKind.i64 (roV { x := IntKind.i64.wrap (y.s * o), y := c, z := r } (IntKind.i64.wrap (3 - y.a))).y, AC.int IntKind.i64 (roV { x := IntKind.i64.wrap (y.s * o), y := c, z := r } (IntKind.i64.wrap (3 - y.a))).z]), (pickL [(r3B (IntKind.i64.wrap (3 - y.a)), true)] [0])) := by kernel_rfl
set_option maxRecDepth 100000 in
theorem num_1 (y : Pc) : evR (ctxLp Try.prog noFacts (fun _ => false) [] [] [((37, [false, true, false, true, true, true]), nuD.sp (fun _ => true))]) Try.f29 [(pcA y)] [true] = some (AV.w (AW.one (AC.int IntKind.i64 (nmG 13 (IntKind.i64.wrap (IntKind.i64.wrap (8 + IntKind.i64.wrap (2 * y.a)) + 1)) (IntKind.i64.wrap (y.z.tdiv 2)) y.c y.r))), (pickL [(decide (y.s < 0), true), (decide ((2 : Int) = 0), false), (nuB (IntKind.i64.wrap (IntKind.i64.wrap (8 + IntKind.i64.wrap (2 * y.a)) + 1)) (IntKind.i64.wrap (y.z.tdiv 2)) y.c y.r, true)] [0, 1, 2])) := by kernel_rfl
set_option maxRecDepth 100000 in
theorem num_0 (y : Pc) : evR (ctxLp Try.prog noFacts (fun _ => false) [] [] [((37, [false, true, false, true, true, true]), nuD.sp (fun _ => true))]) Try.f29 [(pcA y)] [false] = some (AV.w (AW.one (AC.int IntKind.i64 (nmG 13 (IntKind.i64.wrap (8 + IntKind.i64.wrap (2 * y.a))) (IntKind.i64.wrap (y.z.tdiv 2)) y.c y.r))), (pickL [(decide (y.s < 0), false), (decide ((2 : Int) = 0), false), (nuB (IntKind.i64.wrap (8 + IntKind.i64.wrap (2 * y.a))) (IntKind.i64.wrap (y.z.tdiv 2)) y.c y.r, true)] [0, 1, 2])) := by kernel_rfl
theorem vec_pl (y : Pc) (o : Int) (c : Int) (r : Int) (h : plB y = true) (ho : v8B o = true) (hc : v8B c = true) (hr : v8B r = true) : Pl Try.prog 36 [pcV y, .int .i64 o, .int .i64 c, .int .i64 r] (v3V (veW y o c r)) := fun w => by
  obtain ⟨e1, e2, e3⟩ := vec_eq h ho
  have L := vec_ y o c r
  rw [e1, e2] at L
  refine evR_calls (I := noFacts) (v := v3V (veW y o c r)) (ctxOf_ok (libU0_ok _) (eq_none _)) (by kernel_rfl) Try.func36 rfl lps_nil L rfl (all2_R (.cons rfl (.cons rfl (.cons rfl (.cons rfl .nil))))) rfl w (Nat.zero_le _) (pickL_ok ?_ _)
  repeat' (first | exact cd_nil | refine cd_cons ?_ ?_)
  all_goals first | rfl | with_reducible assumption

theorem num_pl (y : Pc) (h : plB y = true) : Pl Try.prog 29 [pcV y] (.int .i64 (nmG 13 (8 + 2 * y.a + (if y.s < 0 then 1 else 0)) (y.z / 2) y.c y.r)) := fun w => by
  obtain ⟨e1, e2, e3, e4, e5, e6⟩ := num_eq h
  by_cases hs : y.s < 0
  · have k0 : decide (y.s < 0) = true := decide_eq_true hs
    rw [if_pos hs]
    have L := num_1 y
    rw [e1, e2, e3, e4] at L
    refine evR_calls (I := noFacts) (v := .int .i64 (nmG 13 (8 + 2 * y.a + 1) (y.z / 2) y.c y.r)) (ctxLp_ok (lib1_nil _ _) (eq_none _) (fns_nil _) (fun _ _ h => by cases h)) (by kernel_rfl) Try.func29 rfl nuLps_ok L rfl (all2_R (.cons rfl .nil)) rfl w (Nat.zero_le _) (pickL_ok ?_ _)
    repeat' (first | exact cd_nil | refine cd_cons ?_ ?_)
    all_goals first | rfl | with_reducible assumption
  · have k0 : decide (y.s < 0) = false := decide_eq_false hs
    rw [if_neg hs, Int.add_zero]
    have L := num_0 y
    rw [e1, e2, e4] at L
    refine evR_calls (I := noFacts) (v := .int .i64 (nmG 13 (8 + 2 * y.a) (y.z / 2) y.c y.r)) (ctxLp_ok (lib1_nil _ _) (eq_none _) (fns_nil _) (fun _ _ h => by cases h)) (by kernel_rfl) Try.func29 rfl nuLps_ok L rfl (all2_R (.cons rfl .nil)) rfl w (Nat.zero_le _) (pickL_ok ?_ _)
    repeat' (first | exact cd_nil | refine cd_cons ?_ ?_)
    all_goals first | rfl | with_reducible assumption

noncomputable abbrev libU5 : List (Nat × FnSp F) := [(23, chS), (24, ilS), (25, axS), (26, rtS), (28, szS), (27, ptS), (29, nqS)]
theorem libU5_ok {F : Type} (I : Interp F) : LibOk Try.prog I (lib1 libU5) := (lib1_cons ((sp1_ok fun v _ => ⟨_, rfl, vch_pl v⟩)) Try.call23 (lib1_cons ((sp1_ok fun k _ => ⟨_, rfl, isl_pl k⟩)) Try.call24 (lib1_cons ((sp1_ok fun v hc => ⟨_, rfl, max_pl v (c1' hc)⟩)) Try.call25 (lib1_cons ((sp2_ok fun v n hc => ⟨_, rfl, rot_pl v n (c1' hc)⟩)) Try.call26 (lib1_cons ((szS_ok _)) Try.call28 (lib1_cons ((sp3_ok fun u m n hc => ⟨_, rfl, prt_pl u m n (c1' hc)⟩)) Try.call27 (lib1_cons ((sp1_ok fun y hc => ⟨_, rfl, num_pl y (c1' hc)⟩)) Try.call29 (lib1_nil _ _))))))))
set_option maxRecDepth 100000 in
theorem tof_1 (v : V3) (k : Int) : evR (ctxOf Try.prog noFacts (fun _ => false) libU5) Try.f6 [(v3A v), (.w (.one (.int .i64 k)))] [true] = some (AV.tup [AW.one (AC.int IntKind.i64 0), AW.one (AC.int IntKind.i64 (vE v))], (pickL [(vE v != 0, true)] [0])) := by kernel_rfl
set_option maxRecDepth 100000 in
theorem tof_01 (v : V3) (k : Int) : evR (ctxOf Try.prog noFacts (fun _ => false) libU5) Try.f6 [(v3A v), (.w (.one (.int .i64 k)))] [false, true] = some (AV.tup [AW.one (AC.int IntKind.i64 0), AW.one (AC.int IntKind.i64 4)], (pickL [(vE v != 0, false), (!lvB k, true)] [0, 1])) := by kernel_rfl
set_option maxRecDepth 100000 in
theorem tof_001 (v : V3) (k : Int) : evR (ctxOf Try.prog noFacts (fun _ => false) libU5) Try.f6 [(v3A v), (.w (.one (.int .i64 k)))] [false, false, true] = some (AV.tup [AW.one (AC.int IntKind.i64 (nmG 13 (8 + 2 * mA v + if (-1 : Int) < 0 then 1 else 0) (IntKind.i64.wrap (1 * 2 ^ min k.toNat IntKind.i64.bits) / 2) (ptV (roV v (mA v)).y (sz (roV v (mA v)).x) (IntKind.i64.wrap (1 * 2 ^ min k.toNat IntKind.i64.bits))) (ptV (roV v (mA v)).z (sz (roV v (mA v)).x) (IntKind.i64.wrap (1 * 2 ^ min k.toNat IntKind.i64.bits))))), AW.one (AC.int IntKind.i64 0)], (pickL [(vE v != 0, false), (!lvB k, false), (inC v, true), (decide (k < 0), false), (r3B (mA v), true), (decide ((roV v (mA v)).x < 0), true), (i62B (roV v (mA v)).x, true), (ptB (roV v (mA v)).y (sz (roV v (mA v)).x) (IntKind.i64.wrap (1 * 2 ^ min k.toNat IntKind.i64.bits)), true), (ptB (roV v (mA v)).z (sz (roV v (mA v)).x) (IntKind.i64.wrap (1 * 2 ^ min k.toNat IntKind.i64.bits)), true), (plB { a := mA v, s := -1, z := IntKind.i64.wrap (1 * 2 ^ min k.toNat IntKind.i64.bits), c := ptV (roV v (mA v)).y (sz (roV v (mA v)).x) (IntKind.i64.wrap (1 * 2 ^ min k.toNat IntKind.i64.bits)), r := ptV (roV v (mA v)).z (sz (roV v (mA v)).x) (IntKind.i64.wrap (1 * 2 ^ min k.toNat IntKind.i64.bits)) }, true)] [0, 1, 2, 3, 4, 5, 6, 7, 6, 8, 9])) := by kernel_rfl
set_option maxRecDepth 100000 in
theorem tof_000 (v : V3) (k : Int) : evR (ctxOf Try.prog noFacts (fun _ => false) libU5) Try.f6 [(v3A v), (.w (.one (.int .i64 k)))] [false, false, false] = some (AV.tup [AW.one (AC.int IntKind.i64 (nmG 13 (8 + 2 * mA v + if (1 : Int) < 0 then 1 else 0) (IntKind.i64.wrap (1 * 2 ^ min k.toNat IntKind.i64.bits) / 2) (ptV (roV v (mA v)).y (sz (roV v (mA v)).x) (IntKind.i64.wrap (1 * 2 ^ min k.toNat IntKind.i64.bits))) (ptV (roV v (mA v)).z (sz (roV v (mA v)).x) (IntKind.i64.wrap (1 * 2 ^ min k.toNat IntKind.i64.bits))))), AW.one (AC.int IntKind.i64 0)], (pickL [(vE v != 0, false), (!lvB k, false), (inC v, true), (decide (k < 0), false), (r3B (mA v), true), (decide ((roV v (mA v)).x < 0), false), (i62B (roV v (mA v)).x, true), (ptB (roV v (mA v)).y (sz (roV v (mA v)).x) (IntKind.i64.wrap (1 * 2 ^ min k.toNat IntKind.i64.bits)), true), (ptB (roV v (mA v)).z (sz (roV v (mA v)).x) (IntKind.i64.wrap (1 * 2 ^ min k.toNat IntKind.i64.bits)), true), (plB { a := mA v, s := 1, z := IntKind.i64.wrap (1 * 2 ^ min k.toNat IntKind.i64.bits), c := ptV (roV v (mA v)).y (sz (roV v (mA v)).x) (IntKind.i64.wrap (1 * 2 ^ min k.toNat IntKind.i64.bits)), r := ptV (roV v (mA v)).z (sz (roV v (mA v)).x) (IntKind.i64.wrap (1 * 2 ^ min k.toNat IntKind.i64.bits)) }, true)] [0, 1, 2, 3, 4, 5, 6, 7, 6, 8, 9])) := by kernel_rfl
theorem tof_pl (v : V3) (k : Int)  : Pl Try.prog 6 [v3V v, .int .i64 k] (.tuple #[.int .i64 (ofV v k), .int .i64 (ofE v k)]) := fun w => by
  by_cases hv : vE v = 0
  · have k0 : (vE v != 0) = false := by rw [hv]; rfl
    cases hk : lvB k with
    | false =>
      have k1 : (!lvB k) = true := by rw [hk]; rfl
      have e1 : ofV v k = 0 := by unfold ofV; rw [hk]; simp
      have e2 : ofE v k = 4 := by unfold ofE; rw [if_pos hv, hk]; rfl
      rw [e1, e2]
      have L := tof_01 v k
      refine evR_calls (I := noFacts) (v := .tuple #[.int .i64 0, .int .i64 4]) (ctxOf_ok (libU5_ok _) (eq_none _)) (by kernel_rfl) Try.func6 rfl lps_nil L rfl (all2_R (.cons rfl (.cons rfl .nil))) rfl w (Nat.zero_le _) (pickL_ok ?_ _)
      repeat' (first | exact cd_nil | refine cd_cons ?_ ?_)
      all_goals first | rfl | with_reducible assumption
    | true =>
      have k1 : (!lvB k) = false := by rw [hk]; rfl
      have e1 : ofV v k = ofT v k.toNat := by unfold ofV; rw [hk, hv]; rfl
      have e2 : ofE v k = 0 := by unfold ofE; rw [if_pos hv, hk]; rfl
      obtain ⟨s1, s2⟩ := sh_one hk
      obtain ⟨c1, c2, c3, c4, c5, c6⟩ := tof_cd hv hk
      rw [e1, e2]
      by_cases hx : (roV v (mA v)).x < 0
      · have k2 : decide ((roV v (mA v)).x < 0) = true := decide_eq_true hx
        have q : nmG 13 (8 + 2 * mA v + if (-1 : Int) < 0 then 1 else 0) (2 ^ k.toNat / 2) (ptV (roV v (mA v)).y (sz (roV v (mA v)).x) (2 ^ k.toNat)) (ptV (roV v (mA v)).z (sz (roV v (mA v)).x) (2 ^ k.toNat)) = ofT v k.toNat := of_num hk (by rw [if_pos (by decide), if_pos hx])
        have c7 := c5 (-1) (by omega) (by omega)
        have L := tof_001 v k
        rw [s1, q] at L
        refine evR_calls (I := noFacts) (v := .tuple #[.int .i64 (ofT v k.toNat), .int .i64 0]) (ctxOf_ok (libU5_ok _) (eq_none _)) (by kernel_rfl) Try.func6 rfl lps_nil L rfl (all2_R (.cons rfl (.cons rfl .nil))) rfl w (Nat.zero_le _) (pickL_ok ?_ _)
        repeat' (first | exact cd_nil | refine cd_cons ?_ ?_)
        all_goals first | rfl | with_reducible assumption
      · have k2 : decide ((roV v (mA v)).x < 0) = false := decide_eq_false hx
        have q : nmG 13 (8 + 2 * mA v + if (1 : Int) < 0 then 1 else 0) (2 ^ k.toNat / 2) (ptV (roV v (mA v)).y (sz (roV v (mA v)).x) (2 ^ k.toNat)) (ptV (roV v (mA v)).z (sz (roV v (mA v)).x) (2 ^ k.toNat)) = ofT v k.toNat := of_num hk (by rw [if_neg (by decide), if_neg hx])
        have c7 := c5 1 (by omega) (by omega)
        have L := tof_000 v k
        rw [s1, q] at L
        refine evR_calls (I := noFacts) (v := .tuple #[.int .i64 (ofT v k.toNat), .int .i64 0]) (ctxOf_ok (libU5_ok _) (eq_none _)) (by kernel_rfl) Try.func6 rfl lps_nil L rfl (all2_R (.cons rfl (.cons rfl .nil))) rfl w (Nat.zero_le _) (pickL_ok ?_ _)
        repeat' (first | exact cd_nil | refine cd_cons ?_ ?_)
        all_goals first | rfl | with_reducible assumption
  · have k0 : (vE v != 0) = true := by simpa using hv
    have e1 : ofV v k = 0 := by unfold ofV; rw [show (vE v == 0) = false by simpa using hv]; simp
    have e2 : ofE v k = vE v := by unfold ofE; rw [if_neg hv]
    rw [e1, e2]
    have L := tof_1 v k
    refine evR_calls (I := noFacts) (v := .tuple #[.int .i64 0, .int .i64 (vE v)]) (ctxOf_ok (libU5_ok _) (eq_none _)) (by kernel_rfl) Try.func6 rfl lps_nil L rfl (all2_R (.cons rfl (.cons rfl .nil))) rfl w (Nat.zero_le _) (pickL_ok ?_ _)
    repeat' (first | exact cd_nil | refine cd_cons ?_ ?_)
    all_goals first | rfl | with_reducible assumption

noncomputable abbrev libU2 : List (Nat × FnSp F) := [(32, plS), (35, edS), (36, vcS)]
theorem libU2_ok {F : Type} (I : Interp F) : LibOk Try.prog I (lib1 libU2) := (lib1_cons ((sp1_ok fun t _ => ⟨_, rfl, plo_pl t⟩)) Try.call32 (lib1_cons ((sp1_ok fun y hc => ⟨_, rfl, edg_pl y.a y.s y.z y.c y.r (c1' hc)⟩)) Try.call35 (lib1_cons ((sp4_ok fun y o c r hc => by obtain ⟨h1, h2, h3⟩ := cd3 hc; exact ⟨_, rfl, vec_pl y o c r h1 h2 h3 (hc (v8B r, true) (by simp))⟩)) Try.call36 (lib1_nil _ _))))
set_option maxRecDepth 100000 in
theorem sid_ (B : Nat) (y : Pc) : evNew (ctxOf Try.prog (fctI B) (fun _ => false) libU2) Try.f33 [(pcA y)] [] 27 [] = some (AV.tup [AW.one (AC.slc 0 0 4 4), AW.agg [AC.int IntKind.i64 (veW y (IntKind.i64.wrap (0 - (2 * y.c - y.z))) y.z 0).x, AC.int IntKind.i64 (veW y (IntKind.i64.wrap (0 - (2 * y.c - y.z))) y.z 0).y, AC.int IntKind.i64 (veW y (IntKind.i64.wrap (0 - (2 * y.c - y.z))) y.z 0).z, AC.int IntKind.i64 (veW y (2 * y.c - y.z + 2) (IntKind.i64.wrap (0 - y.z)) 0).x, AC.int IntKind.i64 (veW y (2 * y.c - y.z + 2) (IntKind.i64.wrap (0 - y.z)) 0).y, AC.int IntKind.i64 (veW y (2 * y.c - y.z + 2) (IntKind.i64.wrap (0 - y.z)) 0).z, AC.int IntKind.i64 (veW y (IntKind.i64.wrap (0 - (2 * y.r - y.z))) 0 y.z).x, AC.int IntKind.i64 (veW y (IntKind.i64.wrap (0 - (2 * y.r - y.z))) 0 y.z).y, AC.int IntKind.i64 (veW y (IntKind.i64.wrap (0 - (2 * y.r - y.z))) 0 y.z).z, AC.int IntKind.i64 (veW y (2 * y.r - y.z + 2) 0 (IntKind.i64.wrap (0 - y.z))).x, AC.int IntKind.i64 (veW y (2 * y.r - y.z + 2) 0 (IntKind.i64.wrap (0 - y.z))).y, AC.int IntKind.i64 (veW y (2 * y.r - y.z + 2) 0 (IntKind.i64.wrap (0 - y.z))).z]], (pickL [(plB y, true), (v8B (IntKind.i64.wrap (0 - (2 * y.c - y.z))), true), (v8B y.z, true), (v8B 0, true), (v8B (2 * y.c - y.z + 2), true), (v8B (IntKind.i64.wrap (0 - y.z)), true), (v8B (IntKind.i64.wrap (0 - (2 * y.r - y.z))), true), (v8B (2 * y.r - y.z + 2), true)] [0, 0, 1, 2, 3, 0, 4, 5, 3, 0, 6, 3, 2, 0, 7, 3, 5])) := by kernel_rfl
theorem sdS_ok (B : Nat) : (newSp cxN 27 sdG).ok Try.prog (fctI B) 33 := by
  refine newSp_ok (ctxOf_ok (libU2_ok (fctI B)) (eq_none _)) (by kernel_rfl) Try.func33 rfl lps_nil rfl fun args bs n cs cd hg hc => ?_
  simp only [sdG] at hg
  split at hg
  · split at hg
    · rename_i x y hy
      cases hg
      have h := c1' hc
      have hx := dPc_dec hy
      subst hx
      obtain ⟨e1, e2, e3, e4, e5, e6, e7, e8, e9⟩ := sid_eq h
      have L := sid_ B y
      rw [e1, e2, e3] at L
      refine ⟨rfl, [], _, L, pickL_ok ?_ _⟩
      repeat' (first | exact cd_nil | refine cd_cons ?_ ?_)
      all_goals first | rfl | with_reducible assumption
    · cases hg
  · cases hg
noncomputable abbrev libU3 : List (Nat × FnSp F) := [(43, doS)]
theorem libU3_ok {F : Type} (I : Interp F) : LibOk Try.prog I (lib1 libU3) := (lib1_cons ((sp2_ok fun v u hc => ⟨_, rfl, dot_pl v u (c1' hc)⟩)) Try.call43 (lib1_nil _ _))
set_option maxRecDepth 100000 in
theorem zha_11 (B : Nat) (a : V3) (b : V3) (c : V3) (d : V3) (v : V3) : evLoc (ctxOf Try.prog (fctI B) (fun _ => false) libU3) Try.f34 [(.w (.one (.slc 0 0 4 4))), (v3A v)] [⟨27, c4 a b c d⟩] [true, true] = some (AV.tup [AW.one (AC.yes false), AW.agg [AC.int IntKind.i64 a.x, AC.int IntKind.i64 a.y, AC.int IntKind.i64 a.z, AC.int IntKind.i64 b.x, AC.int IntKind.i64 b.y, AC.int IntKind.i64 b.z, AC.int IntKind.i64 c.x, AC.int IntKind.i64 c.y, AC.int IntKind.i64 c.z, AC.int IntKind.i64 d.x, AC.int IntKind.i64 d.y, AC.int IntKind.i64 d.z]], (pickL [(decide (0 < ((4 : Nat) : Int)), true), (decide ((0 : Int) ≤ 0), true), (dtB a v, true), (decide (dtV a v < 0), true)] [0, 1, 0, 2, 3])) := by kernel_rfl
set_option maxRecDepth 100000 in
theorem zha_1011 (B : Nat) (a : V3) (b : V3) (c : V3) (d : V3) (v : V3) : evLoc (ctxOf Try.prog (fctI B) (fun _ => false) libU3) Try.f34 [(.w (.one (.slc 0 0 4 4))), (v3A v)] [⟨27, c4 a b c d⟩] [true, false, true, true] = some (AV.tup [AW.one (AC.yes false), AW.agg [AC.int IntKind.i64 a.x, AC.int IntKind.i64 a.y, AC.int IntKind.i64 a.z, AC.int IntKind.i64 b.x, AC.int IntKind.i64 b.y, AC.int IntKind.i64 b.z, AC.int IntKind.i64 c.x, AC.int IntKind.i64 c.y, AC.int IntKind.i64 c.z, AC.int IntKind.i64 d.x, AC.int IntKind.i64 d.y, AC.int IntKind.i64 d.z]], (pickL [(decide (0 < ((4 : Nat) : Int)), true), (decide ((0 : Int) ≤ 0), true), (dtB a v, true), (decide (dtV a v < 0), false), (decide (IntKind.i64.wrap (0 + 1) < ((4 : Nat) : Int)), true), (decide (0 ≤ IntKind.i64.wrap (0 + 1)), true), (dtB b v, true), (decide (dtV b v < 0), true)] [0, 1, 0, 2, 3, 4, 5, 4, 6, 7])) := by kernel_rfl
set_option maxRecDepth 100000 in
theorem zha_101011 (B : Nat) (a : V3) (b : V3) (c : V3) (d : V3) (v : V3) : evLoc (ctxOf Try.prog (fctI B) (fun _ => false) libU3) Try.f34 [(.w (.one (.slc 0 0 4 4))), (v3A v)] [⟨27, c4 a b c d⟩] [true, false, true, false, true, true] = some (AV.tup [AW.one (AC.yes false), AW.agg [AC.int IntKind.i64 a.x, AC.int IntKind.i64 a.y, AC.int IntKind.i64 a.z, AC.int IntKind.i64 b.x, AC.int IntKind.i64 b.y, AC.int IntKind.i64 b.z, AC.int IntKind.i64 c.x, AC.int IntKind.i64 c.y, AC.int IntKind.i64 c.z, AC.int IntKind.i64 d.x, AC.int IntKind.i64 d.y, AC.int IntKind.i64 d.z]], (pickL [(decide (0 < ((4 : Nat) : Int)), true), (decide ((0 : Int) ≤ 0), true), (dtB a v, true), (decide (dtV a v < 0), false), (decide (IntKind.i64.wrap (0 + 1) < ((4 : Nat) : Int)), true), (decide (0 ≤ IntKind.i64.wrap (0 + 1)), true), (dtB b v, true), (decide (dtV b v < 0), false), (decide (IntKind.i64.wrap (IntKind.i64.wrap (0 + 1) + 1) < ((4 : Nat) : Int)), true), (decide (0 ≤ IntKind.i64.wrap (IntKind.i64.wrap (0 + 1) + 1)), true), (dtB c v, true), (decide (dtV c v < 0), true)] [0, 1, 0, 2, 3, 4, 5, 4, 6, 7, 8, 9, 8, 10, 11])) := by kernel_rfl
set_option maxRecDepth 100000 in
theorem zha_10101011 (B : Nat) (a : V3) (b : V3) (c : V3) (d : V3) (v : V3) : evLoc (ctxOf Try.prog (fctI B) (fun _ => false) libU3) Try.f34 [(.w (.one (.slc 0 0 4 4))), (v3A v)] [⟨27, c4 a b c d⟩] [true, false, true, false, true, false, true, true] = some (AV.tup [AW.one (AC.yes false), AW.agg [AC.int IntKind.i64 a.x, AC.int IntKind.i64 a.y, AC.int IntKind.i64 a.z, AC.int IntKind.i64 b.x, AC.int IntKind.i64 b.y, AC.int IntKind.i64 b.z, AC.int IntKind.i64 c.x, AC.int IntKind.i64 c.y, AC.int IntKind.i64 c.z, AC.int IntKind.i64 d.x, AC.int IntKind.i64 d.y, AC.int IntKind.i64 d.z]], (pickL [(decide (0 < ((4 : Nat) : Int)), true), (decide ((0 : Int) ≤ 0), true), (dtB a v, true), (decide (dtV a v < 0), false), (decide (IntKind.i64.wrap (0 + 1) < ((4 : Nat) : Int)), true), (decide (0 ≤ IntKind.i64.wrap (0 + 1)), true), (dtB b v, true), (decide (dtV b v < 0), false), (decide (IntKind.i64.wrap (IntKind.i64.wrap (0 + 1) + 1) < ((4 : Nat) : Int)), true), (decide (0 ≤ IntKind.i64.wrap (IntKind.i64.wrap (0 + 1) + 1)), true), (dtB c v, true), (decide (dtV c v < 0), false), (decide (IntKind.i64.wrap (IntKind.i64.wrap (IntKind.i64.wrap (0 + 1) + 1) + 1) < ((4 : Nat) : Int)), true), (decide (0 ≤ IntKind.i64.wrap (IntKind.i64.wrap (IntKind.i64.wrap (0 + 1) + 1) + 1)), true), (dtB d v, true), (decide (dtV d v < 0), true)] [0, 1, 0, 2, 3, 4, 5, 4, 6, 7, 8, 9, 8, 10, 11, 12, 13, 12, 14, 15])) := by kernel_rfl
set_option maxRecDepth 100000 in
theorem zha_101010100 (B : Nat) (a : V3) (b : V3) (c : V3) (d : V3) (v : V3) : evLoc (ctxOf Try.prog (fctI B) (fun _ => false) libU3) Try.f34 [(.w (.one (.slc 0 0 4 4))), (v3A v)] [⟨27, c4 a b c d⟩] [true, false, true, false, true, false, true, false, false] = some (AV.tup [AW.one (AC.yes true), AW.agg [AC.int IntKind.i64 a.x, AC.int IntKind.i64 a.y, AC.int IntKind.i64 a.z, AC.int IntKind.i64 b.x, AC.int IntKind.i64 b.y, AC.int IntKind.i64 b.z, AC.int IntKind.i64 c.x, AC.int IntKind.i64 c.y, AC.int IntKind.i64 c.z, AC.int IntKind.i64 d.x, AC.int IntKind.i64 d.y, AC.int IntKind.i64 d.z]], (pickL [(decide (0 < ((4 : Nat) : Int)), true), (decide ((0 : Int) ≤ 0), true), (dtB a v, true), (decide (dtV a v < 0), false), (decide (IntKind.i64.wrap (0 + 1) < ((4 : Nat) : Int)), true), (decide (0 ≤ IntKind.i64.wrap (0 + 1)), true), (dtB b v, true), (decide (dtV b v < 0), false), (decide (IntKind.i64.wrap (IntKind.i64.wrap (0 + 1) + 1) < ((4 : Nat) : Int)), true), (decide (0 ≤ IntKind.i64.wrap (IntKind.i64.wrap (0 + 1) + 1)), true), (dtB c v, true), (decide (dtV c v < 0), false), (decide (IntKind.i64.wrap (IntKind.i64.wrap (IntKind.i64.wrap (0 + 1) + 1) + 1) < ((4 : Nat) : Int)), true), (decide (0 ≤ IntKind.i64.wrap (IntKind.i64.wrap (IntKind.i64.wrap (0 + 1) + 1) + 1)), true), (dtB d v, true), (decide (dtV d v < 0), false), (decide (IntKind.i64.wrap (IntKind.i64.wrap (IntKind.i64.wrap (IntKind.i64.wrap (0 + 1) + 1) + 1) + 1) < ((4 : Nat) : Int)), false)] [0, 1, 0, 2, 3, 4, 5, 4, 6, 7, 8, 9, 8, 10, 11, 12, 13, 12, 14, 15, 16])) := by kernel_rfl
theorem hsS_ok (B : Nat) : (locSp cxN hsG).ok Try.prog (fctI B) 34 := by
  refine locSp_ok (ctxOf_ok (libU3_ok (fctI B)) (eq_none _)) (by kernel_rfl) Try.func34 rfl lps_nil rfl fun args bs x cd hg hc => ?_
  simp only [hsG] at hg
  split at hg
  · rename_i x ty a1 a2 a3 b1 b2 b3 c1 c2 c3 d1 d2 d3
    cases hq : Nat.beq ty 27 with
    | false => rw [hq] at hg; cases hg
    | true =>
      rw [hq] at hg; simp only [cond_true] at hg
      have hq := Nat.eq_of_beq_eq_true hq
      subst hq
      split at hg
      · rename_i v hv
        cases hg
        have hx := dV3_dec hv
        subst hx
        obtain ⟨h1, h2, h3⟩ := cd3 hc
        have h4 := hc (dtB ⟨d1, d2, d3⟩ v, true) (by simp)
        generalize ha : (⟨a1, a2, a3⟩ : V3) = a at *
        generalize hb : (⟨b1, b2, b3⟩ : V3) = b at *
        generalize hcc : (⟨c1, c2, c3⟩ : V3) = c at *
        generalize hd : (⟨d1, d2, d3⟩ : V3) = d at *
        rw [show a1 = a.x by rw [← ha], show a2 = a.y by rw [← ha], show a3 = a.z by rw [← ha], show b1 = b.x by rw [← hb], show b2 = b.y by rw [← hb], show b3 = b.z by rw [← hb], show c1 = c.x by rw [← hcc], show c2 = c.y by rw [← hcc], show c3 = c.z by rw [← hcc], show d1 = d.x by rw [← hd], show d2 = d.y by rw [← hd], show d3 = d.z by rw [← hd]]
        clear ha hb hcc hd
        by_cases k0 : dtV a v < 0
        · have j0 : decide (dtV a v < 0) = true := decide_eq_true k0
          have L := zha_11 B a b c d v
          refine ⟨rfl, rfl, [true, true], _, _, L, ?_, pickL_ok ?_ _⟩
          · intro E u hu
            rw [show hs4 a b c d v = false from by unfold hs4; simp; omega]
            exact hu
          repeat' (first | exact cd_nil | refine cd_cons ?_ ?_)
          all_goals first | rfl | with_reducible assumption
        · have j0 : decide (dtV a v < 0) = false := decide_eq_false k0
          by_cases k1 : dtV b v < 0
          · have j1 : decide (dtV b v < 0) = true := decide_eq_true k1
            have L := zha_1011 B a b c d v
            refine ⟨rfl, rfl, [true, false, true, true], _, _, L, ?_, pickL_ok ?_ _⟩
            · intro E u hu
              rw [show hs4 a b c d v = false from by unfold hs4; simp; omega]
              exact hu
            repeat' (first | exact cd_nil | refine cd_cons ?_ ?_)
            all_goals first | rfl | with_reducible assumption
          · have j1 : decide (dtV b v < 0) = false := decide_eq_false k1
            by_cases k2 : dtV c v < 0
            · have j2 : decide (dtV c v < 0) = true := decide_eq_true k2
              have L := zha_101011 B a b c d v
              refine ⟨rfl, rfl, [true, false, true, false, true, true], _, _, L, ?_, pickL_ok ?_ _⟩
              · intro E u hu
                rw [show hs4 a b c d v = false from by unfold hs4; simp; omega]
                exact hu
              repeat' (first | exact cd_nil | refine cd_cons ?_ ?_)
              all_goals first | rfl | with_reducible assumption
            · have j2 : decide (dtV c v < 0) = false := decide_eq_false k2
              by_cases k3 : dtV d v < 0
              · have j3 : decide (dtV d v < 0) = true := decide_eq_true k3
                have L := zha_10101011 B a b c d v
                refine ⟨rfl, rfl, [true, false, true, false, true, false, true, true], _, _, L, ?_, pickL_ok ?_ _⟩
                · intro E u hu
                  rw [show hs4 a b c d v = false from by unfold hs4; simp; omega]
                  exact hu
                repeat' (first | exact cd_nil | refine cd_cons ?_ ?_)
                all_goals first | rfl | with_reducible assumption
              · have j3 : decide (dtV d v < 0) = false := decide_eq_false k3
                have L := zha_101010100 B a b c d v
                refine ⟨rfl, rfl, [true, false, true, false, true, false, true, false, false], _, _, L, ?_, pickL_ok ?_ _⟩
                · intro E u hu
                  rw [show hs4 a b c d v = true from by unfold hs4; simp; omega]
                  exact hu
                repeat' (first | exact cd_nil | refine cd_cons ?_ ?_)
                all_goals first | rfl | with_reducible assumption

      · cases hg
  · cases hg
noncomputable abbrev libU4 : List (Nat × FnSp F) := [(32, plS), (23, chS), (33, (newSp cxN 27 sdG)), (34, (locSp cxN hsG))]
theorem libU4_ok (B : Nat) : LibOk Try.prog (fctI B) (lib1 libU4) := (lib1_cons ((sp1_ok fun t _ => ⟨_, rfl, plo_pl t⟩)) Try.call32 (lib1_cons ((sp1_ok fun v _ => ⟨_, rfl, vch_pl v⟩)) Try.call23 (lib1_cons (sdS_ok _) Try.call33 (lib1_cons (hsS_ok _) Try.call34 (lib1_nil _ _)))))
set_option maxRecDepth 100000 in
theorem has_11 (B : Nat) (t : Int) (v : V3) : evR (ctxOf Try.prog (fctI B) (fun _ => false) libU4) Try.f12 [(.w (.one (.int .i64 t))), (v3A v)] [true, true] = some (AV.w (AW.one (AC.bool (hs4 (sd1 (plP t)) (sd2 (plP t)) (sd3 (plP t)) (sd4 (plP t)) v))), (pickL [(lvT t, true), (vE v == 0, true), (plB (plP t), true), (dtB (sd1 (plP t)) v, true), (dtB (sd2 (plP t)) v, true), (dtB (sd3 (plP t)) v, true), (dtB (sd4 (plP t)) v, true)] [0, 0, 0, 0, 1, 1, 2, 1, 1, 3, 4, 5, 6, 1])) := by kernel_rfl
set_option maxRecDepth 100000 in
theorem has_10 (B : Nat) (t : Int) (v : V3) : evR (ctxOf Try.prog (fctI B) (fun _ => false) libU4) Try.f12 [(.w (.one (.int .i64 t))), (v3A v)] [true, false] = some (AV.w (AW.one (AC.yes false)), (pickL [(lvT t, true), (vE v == 0, false)] [0, 0, 0, 0, 1, 1, 1, 1, 1])) := by kernel_rfl
set_option maxRecDepth 100000 in
theorem has_0 (B : Nat) (t : Int) (v : V3) : evR (ctxOf Try.prog (fctI B) (fun _ => false) libU4) Try.f12 [(.w (.one (.int .i64 t))), (v3A v)] [false] = some (AV.w (AW.one (AC.yes false)), (pickL [(lvT t, false), (false, false)] [0, 0, 0, 0, 1, 1, 1, 1, 1])) := by kernel_rfl
set_option maxRecDepth 100000 in
theorem kid_00 (B : Nat) (t : Int) : evNew (ctxOf Try.prog (fctI B) (fun _ => false) libU1) Try.f11 [(.w (.one (.int .i64 t)))] [] 29 [false, false] = some (AV.tup [AW.one (AC.slc 0 0 4 4), AW.agg [AC.int IntKind.i64 (IntKind.i64.wrap (4 * t)), AC.int IntKind.i64 (IntKind.i64.wrap (IntKind.i64.wrap (4 * t) + 1)), AC.int IntKind.i64 (IntKind.i64.wrap (IntKind.i64.wrap (4 * t) + 2)), AC.int IntKind.i64 (IntKind.i64.wrap (IntKind.i64.wrap (4 * t) + 3))]], (pickL [(!lvT t, false), (lvN t == 12, false)] [0, 0, 0, 1])) := by kernel_rfl
set_option maxRecDepth 100000 in
theorem cor_0 (B : Nat) (t : Int) : evNew (ctxOf Try.prog (fctI B) (fun _ => false) libU2) Try.f13 [(.w (.one (.int .i64 t)))] [] 27 [false] = some (AV.tup [AW.one (AC.slc 0 0 4 4), AW.agg [AC.int IntKind.i64 (veW (plP t) (plP t).z (2 * (plP t).c - (plP t).z) (2 * (plP t).r - (plP t).z)).x, AC.int IntKind.i64 (veW (plP t) (plP t).z (2 * (plP t).c - (plP t).z) (2 * (plP t).r - (plP t).z)).y, AC.int IntKind.i64 (veW (plP t) (plP t).z (2 * (plP t).c - (plP t).z) (2 * (plP t).r - (plP t).z)).z, AC.int IntKind.i64 (veW (plP t) (plP t).z (2 * (plP t).c - (plP t).z + 2) (2 * (plP t).r - (plP t).z)).x, AC.int IntKind.i64 (veW (plP t) (plP t).z (2 * (plP t).c - (plP t).z + 2) (2 * (plP t).r - (plP t).z)).y, AC.int IntKind.i64 (veW (plP t) (plP t).z (2 * (plP t).c - (plP t).z + 2) (2 * (plP t).r - (plP t).z)).z, AC.int IntKind.i64 (veW (plP t) (plP t).z (2 * (plP t).c - (plP t).z) (2 * (plP t).r - (plP t).z + 2)).x, AC.int IntKind.i64 (veW (plP t) (plP t).z (2 * (plP t).c - (plP t).z) (2 * (plP t).r - (plP t).z + 2)).y, AC.int IntKind.i64 (veW (plP t) (plP t).z (2 * (plP t).c - (plP t).z) (2 * (plP t).r - (plP t).z + 2)).z, AC.int IntKind.i64 (veW (plP t) (plP t).z (2 * (plP t).c - (plP t).z + 2) (2 * (plP t).r - (plP t).z + 2)).x, AC.int IntKind.i64 (veW (plP t) (plP t).z (2 * (plP t).c - (plP t).z + 2) (2 * (plP t).r - (plP t).z + 2)).y, AC.int IntKind.i64 (veW (plP t) (plP t).z (2 * (plP t).c - (plP t).z + 2) (2 * (plP t).r - (plP t).z + 2)).z]], (pickL [(!lvT t, false), (plB (plP t), true), (v8B (plP t).z, true), (v8B (2 * (plP t).c - (plP t).z), true), (v8B (2 * (plP t).r - (plP t).z), true), (v8B (2 * (plP t).c - (plP t).z + 2), true), (v8B (2 * (plP t).r - (plP t).z + 2), true)] [0, 1, 1, 2, 3, 4, 1, 2, 5, 4, 1, 2, 3, 6, 1, 2, 5, 6])) := by kernel_rfl
set_option maxRecDepth 100000 in
theorem cnt_11 (B : Nat) (a : Int) (b : Int) (c : Int) (d : Int) (t : Int) : evLoc (ctxIn Try.prog (fctI B) (fun _ => false) [] [(31, Try.f31)]) Try.f10 [(.w (.one (.slc 0 0 4 4))), (.w (.one (.int .i64 t)))] [⟨29, [.int .i64 a, .int .i64 b, .int .i64 c, .int .i64 d]⟩] [true, true] = some (AV.tup [AW.one (AC.bool (decide ((0 : Int) ≥ 0))), AW.agg [AC.int IntKind.i64 a, AC.int IntKind.i64 b, AC.int IntKind.i64 c, AC.int IntKind.i64 d]], (pickL [(decide (0 < ((4 : Nat) : Int)), true), (decide ((0 : Int) ≤ 0), true), (t == a, true)] [0, 1, 0, 2])) := by kernel_rfl
set_option maxRecDepth 100000 in
theorem cnt_1011 (B : Nat) (a : Int) (b : Int) (c : Int) (d : Int) (t : Int) : evLoc (ctxIn Try.prog (fctI B) (fun _ => false) [] [(31, Try.f31)]) Try.f10 [(.w (.one (.slc 0 0 4 4))), (.w (.one (.int .i64 t)))] [⟨29, [.int .i64 a, .int .i64 b, .int .i64 c, .int .i64 d]⟩] [true, false, true, true] = some (AV.tup [AW.one (AC.bool (decide (IntKind.i64.wrap (0 + 1) ≥ 0))), AW.agg [AC.int IntKind.i64 a, AC.int IntKind.i64 b, AC.int IntKind.i64 c, AC.int IntKind.i64 d]], (pickL [(decide (0 < ((4 : Nat) : Int)), true), (decide ((0 : Int) ≤ 0), true), (t == a, false), (decide (IntKind.i64.wrap (0 + 1) < ((4 : Nat) : Int)), true), (decide (0 ≤ IntKind.i64.wrap (0 + 1)), true), (t == b, true)] [0, 1, 0, 2, 3, 4, 3, 5])) := by kernel_rfl
set_option maxRecDepth 100000 in
theorem cnt_101011 (B : Nat) (a : Int) (b : Int) (c : Int) (d : Int) (t : Int) : evLoc (ctxIn Try.prog (fctI B) (fun _ => false) [] [(31, Try.f31)]) Try.f10 [(.w (.one (.slc 0 0 4 4))), (.w (.one (.int .i64 t)))] [⟨29, [.int .i64 a, .int .i64 b, .int .i64 c, .int .i64 d]⟩] [true, false, true, false, true, true] = some (AV.tup [AW.one (AC.bool (decide (IntKind.i64.wrap (IntKind.i64.wrap (0 + 1) + 1) ≥ 0))), AW.agg [AC.int IntKind.i64 a, AC.int IntKind.i64 b, AC.int IntKind.i64 c, AC.int IntKind.i64 d]], (pickL [(decide (0 < ((4 : Nat) : Int)), true), (decide ((0 : Int) ≤ 0), true), (t == a, false), (decide (IntKind.i64.wrap (0 + 1) < ((4 : Nat) : Int)), true), (decide (0 ≤ IntKind.i64.wrap (0 + 1)), true), (t == b, false), (decide (IntKind.i64.wrap (IntKind.i64.wrap (0 + 1) + 1) < ((4 : Nat) : Int)), true), (decide (0 ≤ IntKind.i64.wrap (IntKind.i64.wrap (0 + 1) + 1)), true), (t == c, true)] [0, 1, 0, 2, 3, 4, 3, 5, 6, 7, 6, 8])) := by kernel_rfl
set_option maxRecDepth 100000 in
theorem cnt_10101011 (B : Nat) (a : Int) (b : Int) (c : Int) (d : Int) (t : Int) : evLoc (ctxIn Try.prog (fctI B) (fun _ => false) [] [(31, Try.f31)]) Try.f10 [(.w (.one (.slc 0 0 4 4))), (.w (.one (.int .i64 t)))] [⟨29, [.int .i64 a, .int .i64 b, .int .i64 c, .int .i64 d]⟩] [true, false, true, false, true, false, true, true] = some (AV.tup [AW.one (AC.bool (decide (IntKind.i64.wrap (IntKind.i64.wrap (IntKind.i64.wrap (0 + 1) + 1) + 1) ≥ 0))), AW.agg [AC.int IntKind.i64 a, AC.int IntKind.i64 b, AC.int IntKind.i64 c, AC.int IntKind.i64 d]], (pickL [(decide (0 < ((4 : Nat) : Int)), true), (decide ((0 : Int) ≤ 0), true), (t == a, false), (decide (IntKind.i64.wrap (0 + 1) < ((4 : Nat) : Int)), true), (decide (0 ≤ IntKind.i64.wrap (0 + 1)), true), (t == b, false), (decide (IntKind.i64.wrap (IntKind.i64.wrap (0 + 1) + 1) < ((4 : Nat) : Int)), true), (decide (0 ≤ IntKind.i64.wrap (IntKind.i64.wrap (0 + 1) + 1)), true), (t == c, false), (decide (IntKind.i64.wrap (IntKind.i64.wrap (IntKind.i64.wrap (0 + 1) + 1) + 1) < ((4 : Nat) : Int)), true), (decide (0 ≤ IntKind.i64.wrap (IntKind.i64.wrap (IntKind.i64.wrap (0 + 1) + 1) + 1)), true), (t == d, true)] [0, 1, 0, 2, 3, 4, 3, 5, 6, 7, 6, 8, 9, 10, 9, 11])) := by kernel_rfl
set_option maxRecDepth 100000 in
theorem cnt_101010100 (B : Nat) (a : Int) (b : Int) (c : Int) (d : Int) (t : Int) : evLoc (ctxIn Try.prog (fctI B) (fun _ => false) [] [(31, Try.f31)]) Try.f10 [(.w (.one (.slc 0 0 4 4))), (.w (.one (.int .i64 t)))] [⟨29, [.int .i64 a, .int .i64 b, .int .i64 c, .int .i64 d]⟩] [true, false, true, false, true, false, true, false, false] = some (AV.tup [AW.one (AC.bool (decide ((-1 : Int) ≥ 0))), AW.agg [AC.int IntKind.i64 a, AC.int IntKind.i64 b, AC.int IntKind.i64 c, AC.int IntKind.i64 d]], (pickL [(decide (0 < ((4 : Nat) : Int)), true), (decide ((0 : Int) ≤ 0), true), (t == a, false), (decide (IntKind.i64.wrap (0 + 1) < ((4 : Nat) : Int)), true), (decide (0 ≤ IntKind.i64.wrap (0 + 1)), true), (t == b, false), (decide (IntKind.i64.wrap (IntKind.i64.wrap (0 + 1) + 1) < ((4 : Nat) : Int)), true), (decide (0 ≤ IntKind.i64.wrap (IntKind.i64.wrap (0 + 1) + 1)), true), (t == c, false), (decide (IntKind.i64.wrap (IntKind.i64.wrap (IntKind.i64.wrap (0 + 1) + 1) + 1) < ((4 : Nat) : Int)), true), (decide (0 ≤ IntKind.i64.wrap (IntKind.i64.wrap (IntKind.i64.wrap (0 + 1) + 1) + 1)), true), (t == d, false), (decide (IntKind.i64.wrap (IntKind.i64.wrap (IntKind.i64.wrap (IntKind.i64.wrap (0 + 1) + 1) + 1) + 1) < ((4 : Nat) : Int)), false)] [0, 1, 0, 2, 3, 4, 3, 5, 6, 7, 6, 8, 9, 10, 9, 11, 12])) := by kernel_rfl
theorem has_at (B : Nat) (t : Int) (v : V3) (w : World) (hB : B ≤ w.heap.size) : Calls Try.prog 12 #[.int .i64 t, v3V v] w fun e w' => e = .returned (.bool (haV t v)) ∧ Below w.heap.size w w' := by
  cases h1 : lvT t with
  | false =>
    have e : haV t v = false := by unfold haV; rw [h1]; rfl
    rw [e]
    have L := has_0 B t v
    refine evR_calls (I := fctI B) (v := .bool false) (ctxOf_ok (libU4_ok B) (eq_none _)) (by kernel_rfl) Try.func12 rfl lps_nil L rfl (all2_R (.cons rfl (.cons rfl .nil))) rfl w hB (pickL_ok ?_ _)
    repeat' (first | exact cd_nil | refine cd_cons ?_ ?_)
    all_goals first | rfl | with_reducible assumption
  | true =>
    cases h2 : (vE v == 0) with
    | false =>
      have e : haV t v = false := by unfold haV; rw [h2]; simp
      rw [e]
      have L := has_10 B t v
      refine evR_calls (I := fctI B) (v := .bool false) (ctxOf_ok (libU4_ok B) (eq_none _)) (by kernel_rfl) Try.func12 rfl lps_nil L rfl (all2_R (.cons rfl (.cons rfl .nil))) rfl w hB (pickL_ok ?_ _)
      repeat' (first | exact cd_nil | refine cd_cons ?_ ?_)
      all_goals first | rfl | with_reducible assumption
    | true =>
      have e : haV t v = hs4 (sd1 (plP t)) (sd2 (plP t)) (sd3 (plP t)) (sd4 (plP t)) v := by unfold haV; rw [h1, h2]; rfl
      have c0 := plB_of h1
      obtain ⟨c1, c2, c3, c4⟩ := sd_dtB c0 (show vE v = 0 by simpa using h2)
      rw [e]
      have L := has_11 B t v
      refine evR_calls (I := fctI B) (v := .bool (hs4 (sd1 (plP t)) (sd2 (plP t)) (sd3 (plP t)) (sd4 (plP t)) v)) (ctxOf_ok (libU4_ok B) (eq_none _)) (by kernel_rfl) Try.func12 rfl lps_nil L rfl (all2_R (.cons rfl (.cons rfl .nil))) rfl w hB (pickL_ok ?_ _)
      repeat' (first | exact cd_nil | refine cd_cons ?_ ?_)
      all_goals first | rfl | with_reducible assumption
theorem has_pl (t : Int) (v : V3) : Pl Try.prog 12 [.int .i64 t, v3V v] (.bool (haV t v)) := fun w => has_at 0 t v w (Nat.zero_le _)
theorem kiS_ok (B : Nat) : (newSp cxN 29 kiG).ok Try.prog (fctI B) 11 := by
  refine newSp_ok (ctxOf_ok (libU1_ok (fctI B)) (eq_none _)) (by kernel_rfl) Try.func11 rfl lps_nil rfl fun args bs n cs cd hg hc => ?_
  simp only [kiG] at hg
  split at hg
  · split at hg
    · rename_i x t ht
      cases hg
      have h := c1' hc
      have hx := dInt_dec ht
      subst hx
      obtain ⟨e1, e2, e3, e4, k0, k1⟩ := kid_eq h
      have L := kid_00 B t
      rw [e1, e2, e3, e4] at L
      refine ⟨rfl, [false, false], _, L, pickL_ok ?_ _⟩
      repeat' (first | exact cd_nil | refine cd_cons ?_ ?_)
      all_goals first | rfl | with_reducible assumption
    · cases hg
  · cases hg
theorem coS_ok (B : Nat) : (newSp cxN 27 coG).ok Try.prog (fctI B) 13 := by
  refine newSp_ok (ctxOf_ok (libU2_ok (fctI B)) (eq_none _)) (by kernel_rfl) Try.func13 rfl lps_nil rfl fun args bs n cs cd hg hc => ?_
  simp only [coG] at hg
  split at hg
  · split at hg
    · rename_i x t ht
      cases hg
      have h := c1' hc
      have hx := dInt_dec ht
      subst hx
      have k0 : (!lvT t) = false := by rw [h]; rfl
      have c0 := plB_of h
      obtain ⟨c1, c2, c3, c4, c5⟩ := cor_cd c0
      have L := cor_0 B t
      refine ⟨rfl, [false], _, L, pickL_ok ?_ _⟩
      repeat' (first | exact cd_nil | refine cd_cons ?_ ?_)
      all_goals first | rfl | with_reducible assumption
    · cases hg
  · cases hg
theorem fnsIx_ok : FnsOk Try.prog [(31, Try.f31)] := fns_cons Try.func31 rfl Try.call31 (fns_nil _)
theorem ctS_ok (B : Nat) : (locSp cxN ctG).ok Try.prog (fctI B) 10 := by
  refine locSp_ok (ctxIn_ok (lib1_nil _ _) (eq_none _) fnsIx_ok) (by kernel_rfl) Try.func10 rfl lps_nil rfl fun args bs x cd hg hc => ?_
  simp only [ctG] at hg
  split at hg
  · rename_i x ty a b c d
    cases hq : Nat.beq ty 29 with
    | false => rw [hq] at hg; cases hg
    | true =>
      rw [hq] at hg; simp only [cond_true] at hg
      have hq := Nat.eq_of_beq_eq_true hq
      subst hq
      split at hg
      · rename_i t ht
        cases hg
        have hx := dInt_dec ht
        subst hx
        rcases Bool.eq_false_or_eq_true (t == a) with k0 | k0
        · have L := cnt_11 B a b c d t
          refine ⟨rfl, rfl, [true, true], _, _, L, ?_, pickL_ok ?_ _⟩
          · intro E u hu
            rw [show in4 t a b c d = true by unfold in4; simp_all]
            exact hu
          repeat' (first | exact cd_nil | refine cd_cons ?_ ?_)
          all_goals first | rfl | with_reducible assumption
        ·
          rcases Bool.eq_false_or_eq_true (t == b) with k1 | k1
          · have L := cnt_1011 B a b c d t
            refine ⟨rfl, rfl, [true, false, true, true], _, _, L, ?_, pickL_ok ?_ _⟩
            · intro E u hu
              rw [show in4 t a b c d = true by unfold in4; simp_all]
              exact hu
            repeat' (first | exact cd_nil | refine cd_cons ?_ ?_)
            all_goals first | rfl | with_reducible assumption
          ·
            rcases Bool.eq_false_or_eq_true (t == c) with k2 | k2
            · have L := cnt_101011 B a b c d t
              refine ⟨rfl, rfl, [true, false, true, false, true, true], _, _, L, ?_, pickL_ok ?_ _⟩
              · intro E u hu
                rw [show in4 t a b c d = true by unfold in4; simp_all]
                exact hu
              repeat' (first | exact cd_nil | refine cd_cons ?_ ?_)
              all_goals first | rfl | with_reducible assumption
            ·
              rcases Bool.eq_false_or_eq_true (t == d) with k3 | k3
              · have L := cnt_10101011 B a b c d t
                refine ⟨rfl, rfl, [true, false, true, false, true, false, true, true], _, _, L, ?_, pickL_ok ?_ _⟩
                · intro E u hu
                  rw [show in4 t a b c d = true by unfold in4; simp_all]
                  exact hu
                repeat' (first | exact cd_nil | refine cd_cons ?_ ?_)
                all_goals first | rfl | with_reducible assumption
              ·
                have L := cnt_101010100 B a b c d t
                refine ⟨rfl, rfl, [true, false, true, false, true, false, true, false, false], _, _, L, ?_, pickL_ok ?_ _⟩
                · intro E u hu
                  rw [show in4 t a b c d = false by unfold in4; simp_all]
                  exact hu
                repeat' (first | exact cd_nil | refine cd_cons ?_ ?_)
                all_goals first | rfl | with_reducible assumption

      · cases hg
  · cases hg
end
end Go.Proofs.Ytbkeohcoahdgcaa.AtTl

