/-
  Package clock: what Check, Uniform, Show and Sync return.
  Conditions: those of each theorem.
-/
import Derived.Test.YtjegnlnnjcchaaaBT
import Derived.Test.YtjegnlnnjcchaaaNS
set_option linter.unusedVariables false
set_option linter.unusedSimpArgs false
namespace Go.Proofs.Ytjegnlnnjcchaaa.AtCk
open Go.RowKit Ev Wd
open Go.Proofs.Ytjegnlnnjcchaaa
variable {F : Type}
noncomputable section

structure Ck where
  s : Int
  b : Bd
  d : Int
abbrev ckV (c : Ck) : Value := .agg #[.int .i64 c.s, .int .i64 c.b.lo, .int .i64 c.b.hi, .bool c.b.u, .int .i64 c.d]
abbrev ckA (c : Ck) : AV F := .w (.agg [.int .i64 c.s, .int .i64 c.b.lo, .int .i64 c.b.hi, .bool c.b.u, .int .i64 c.d])
def dCk : Dec F Ck where
  dec := fun x => match x with
    | .w (.agg [.int .i64 s, .int .i64 lo, .int .i64 hi, .bool u, .int .i64 d]) => some ⟨s, ⟨lo, hi, u⟩, d⟩
    | .w (.agg [.int .i64 s, .int .i64 lo, .int .i64 hi, .yes u, .int .i64 d]) => some ⟨s, ⟨lo, hi, u⟩, d⟩
    | _ => none
  enc := ckV
  ok := fun x a h => by
    split at h
    · cases h; rfl
    · cases h; rfl
    · cases h
def tmC (t : Int) : Bool := decide (-17592186044416 ≤ t) && decide (t ≤ 17592186044416)
def drC (d : Int) : Bool := decide (0 ≤ d) && decide (d ≤ 100000)
def gnC (g : Int) : Bool := decide (0 ≤ g) && decide (g ≤ 70368744177664)
def raC (r : Int) : Bool := decide (900000 ≤ r) && decide (r ≤ 1100000)
/-- The error of Check. -/
def ckE (c : Ck) : Int := if chkB c.b = 0 then (if (tmC c.s && (tmC c.b.lo && (tmC c.b.hi && drC c.d))) = true then 0 else 4) else chkB c.b
def tlC (c : Ck) : Bool := (ckE c == 0) && !c.b.u
def shC (g d : Int) : Int := g * 1000000 / (1000000 + d)
def loC (g d : Int) : Int := -(-(g * 1000000) / (1000000 - d))
def gaC (t r : Int) : Int := t * r / 1000000
def uniC (c : Ck) (x : Int) : Bd := bif tlC c && (tmC x && decide (c.s ≤ x)) then ofB (c.b.lo + shC (maxI (x - c.s - 1) 0) c.d) (c.b.hi + loC (x - c.s + 1) c.d) else noneB
def shoC (c : Ck) (t : Int) : Bd := bif tlC c && (tmC t && decide (c.b.hi ≤ t)) then ofB (c.s + gaC (t - c.b.hi) (1000000 - c.d)) (c.s + gaC (t - c.b.lo) (1000000 + c.d) + 1) else noneB
/-- What the answer tells of the time at which it came. -/
def camC (c : Ck) (sent got : Int) (told : Bd) : Bd := addB told (ofB 0 (loC (got - sent + 1) c.d))
def nxC (c : Ck) (sent got : Int) (told : Bd) : Ck := ⟨got, meetB (uniC c got) (camC c sent got told), c.d⟩
def syE (c : Ck) (sent got : Int) (told : Bd) : Int := if ckE c ≠ 0 then ckE c else if ¬ (tmC sent && tmC got) = true then 4 else if sent < c.s ∨ got < sent then 11 else if meetO (uniC c got) (camC c sent got told) = false then 15 else ckE (nxC c sent got told)
def syC (c : Ck) (sent got : Int) (told : Bd) : Ck := if syE c sent got told = 0 then nxC c sent got told else ⟨0, ⟨0, 0, false⟩, 0⟩
abbrev tmS : FnSp F := sp1 (dInt .i64) (fun t => aBool (tmC t)) (fun _ => [])
abbrev ckS : FnSp F := sp1 dCk (fun c => aInt .i64 (ckE c)) (fun _ => [])
abbrev tlS : FnSp F := sp1 dCk (fun c => aBool (tlC c)) (fun _ => [])
abbrev shS : FnSp F := sp2 (dInt .i64) (dInt .i64) (fun g d => aInt .i64 (shC g d)) (fun g d => [(gnC g, true), (drC d, true)])
abbrev loS : FnSp F := sp2 (dInt .i64) (dInt .i64) (fun g d => aInt .i64 (loC g d)) (fun g d => [(gnC g, true), (drC d, true)])
abbrev gaS : FnSp F := sp2 (dInt .i64) (dInt .i64) (fun t r => aInt .i64 (gaC t r)) (fun t r => [(gnC t, true), (raC r, true)])
abbrev unS : FnSp F := sp2 dCk (dInt .i64) (fun c x => bA (uniC c x)) (fun _ _ => [])
abbrev hoS : FnSp F := sp2 dCk (dInt .i64) (fun c t => bA (shoC c t)) (fun _ _ => [])
theorem v64 {x : Int} (h1 : -9223372036854775808 ≤ x) (h2 : x ≤ 9223372036854775807) : IntKind.i64.wrap x = x := by rw [IntKind.wrap_i64]; omega
theorem c1' {a : Bool} (h : ∀ p ∈ [(a, true)], p.1 = p.2) : a = true := h (a, true) (by simp)
theorem c2' {a b : Bool} (h : ∀ p ∈ [(a, true), (b, true)], p.1 = p.2) : a = true ∧ b = true := ⟨h (a, true) (by simp), h (b, true) (by simp)⟩
theorem tmC_iff {t : Int} : tmC t = true ↔ -17592186044416 ≤ t ∧ t ≤ 17592186044416 := by unfold tmC; simp
theorem drC_iff {d : Int} : drC d = true ↔ 0 ≤ d ∧ d ≤ 100000 := by unfold drC; simp
theorem gnC_iff {g : Int} : gnC g = true ↔ 0 ≤ g ∧ g ≤ 70368744177664 := by unfold gnC; simp
theorem raC_iff {r : Int} : raC r = true ↔ 900000 ≤ r ∧ r ≤ 1100000 := by unfold raC; simp
theorem divC {n d : Int} (hd : 1 ≤ d) (h1 : -9223372036854775808 ≤ n / d) (h2 : n / d ≤ 9223372036854775807) : divV n d = n / d := by
  unfold divV; rw [if_neg (by omega), if_neg (by omega)]
theorem ceC {m d : Int} (hd : 1 ≤ d) : (m + (d - 1)) / d = -(-m / d) := by
  have e1 := Int.emod_add_mul_ediv (-m) d
  have e2 := Int.emod_lt_of_pos (-m) (show 0 < d by omega)
  have e3 := Int.emod_nonneg (-m) (show d ≠ 0 by omega)
  generalize -m / d = q at *
  apply Int.le_antisymm
  · have : (m + (d - 1)) / d < -q + 1 := Int.ediv_lt_of_lt_mul (by omega) (by rw [Int.add_mul, Int.neg_mul, Int.mul_comm q d]; omega)
    omega
  · exact Int.le_ediv_of_mul_le (by omega) (by rw [Int.neg_mul, Int.mul_comm q d]; omega)
theorem shC_in {g d : Int} (hg : gnC g = true) (hd : drC d = true) : 0 ≤ shC g d ∧ shC g d ≤ g := by
  rw [gnC_iff] at hg
  rw [drC_iff] at hd
  unfold shC
  constructor
  · exact Int.ediv_nonneg (by omega) (by omega)
  · refine Int.ediv_le_of_le_mul (by omega) ?_
    have : g * 1000000 ≤ g * (1000000 + d) := Int.mul_le_mul_of_nonneg_left (by omega) (by omega)
    omega
theorem loC_in {g d : Int} (hg : gnC g = true) (hd : drC d = true) : 0 ≤ loC g d ∧ loC g d ≤ 2 * g := by
  rw [gnC_iff] at hg
  rw [drC_iff] at hd
  unfold loC
  have h2 : g * 2 * 900000 ≤ g * 2 * (1000000 - d) := Int.mul_le_mul_of_nonneg_left (by omega) (by omega)
  constructor
  · have : -(g * 1000000) / (1000000 - d) ≤ 0 := Int.ediv_le_of_le_mul (by omega) (by omega)
    omega
  · have : -(g * 2) ≤ -(g * 1000000) / (1000000 - d) := Int.le_ediv_of_mul_le (by omega) (by rw [Int.neg_mul]; omega)
    omega
theorem gaC_in {t r : Int} (ht : gnC t = true) (hr : raC r = true) : 0 ≤ gaC t r ∧ gaC t r ≤ 2 * t := by
  rw [gnC_iff] at ht
  rw [raC_iff] at hr
  unfold gaC
  have h2 : t * r ≤ t * 1100000 := Int.mul_le_mul_of_nonneg_left (by omega) (by omega)
  have h3 : 0 ≤ t * r := Int.mul_nonneg (by omega) (by omega)
  constructor
  · exact Int.ediv_nonneg h3 (by omega)
  · exact Int.ediv_le_of_le_mul (by omega) (by omega)
theorem ck_in {c : Ck} (h : ckE c = 0) : chkB c.b = 0 ∧ (-17592186044416 ≤ c.s ∧ c.s ≤ 17592186044416) ∧ (-17592186044416 ≤ c.b.lo ∧ c.b.lo ≤ 17592186044416) ∧ (-17592186044416 ≤ c.b.hi ∧ c.b.hi ≤ 17592186044416) ∧ 0 ≤ c.d ∧ c.d ≤ 100000 := by
  unfold ckE at h
  by_cases h1 : chkB c.b = 0
  · rw [if_pos h1] at h
    by_cases h2 : (tmC c.s && (tmC c.b.lo && (tmC c.b.hi && drC c.d))) = true
    · simp only [Bool.and_eq_true, tmC_iff, drC_iff] at h2
      exact ⟨h1, by omega, by omega, by omega, by omega, by omega⟩
    · rw [if_neg h2] at h; omega
  · rw [if_neg h1] at h; exact absurd h h1
theorem tl_iff {c : Ck} : tlC c = true ↔ ckE c = 0 ∧ c.b.u = false := by
  unfold tlC
  rw [Bool.and_eq_true, beq_iff_eq, Bool.not_eq_true']
theorem chk_kn {b : Bd} (h : chkB b = 0) (hu : b.u = false) : knB b = true := by
  unfold chkB at h
  unfold knB
  rw [hu] at h ⊢
  cases h1 : inB b.lo && inB b.hi with
  | false => rw [h1] at h; cases h
  | true =>
    rw [h1] at h
    by_cases h2 : b.lo ≤ b.hi
    · rw [decide_eq_true h2]; rfl
    · rw [decide_eq_true (show b.lo > b.hi by omega)] at h; cases h
theorem ofB_inC {x y : Int} (h1 : -1152921504606846976 ≤ x) (h2 : x ≤ y) (h3 : y ≤ 1152921504606846976) : ofB x y = ⟨x, y, false⟩ := by
  unfold ofB normB
  rw [knB_iff.2 ⟨rfl, h1, h2, h3⟩]; rfl
/-- The sum with the bound of what passed. -/
theorem addC {b : Bd} {x y : Int} (hb : knB b = true) (h1 : 0 ≤ x) (h2 : x ≤ y) (h3 : y ≤ 1152921504606846976) : addB b (ofB x y) = ofB (b.lo + x) (b.hi + y) := by
  rw [ofB_inC (by omega) h2 h3]
  unfold addB
  rw [hb, knB_iff.2 ⟨rfl, by simp only; omega, h2, h3⟩]
  rfl
theorem shlo {g h d : Int} (hg : 0 ≤ g) (hgh : g ≤ h) (hd : drC d = true) (hh : gnC h = true) : shC g d ≤ loC h d := by
  have h0 : gnC g = true := by rw [gnC_iff] at hh ⊢; omega
  have e1 := (shC_in h0 hd).2
  rw [drC_iff] at hd
  unfold loC
  have : -(h * 1000000) / (1000000 - d) ≤ -h := by
    refine Int.ediv_le_of_le_mul (by omega) ?_
    rw [Int.neg_mul]
    have : h * (1000000 - d) ≤ h * 1000000 := Int.mul_le_mul_of_nonneg_left (by omega) (by rw [gnC_iff] at hh; omega)
    omega
  omega
set_option maxRecDepth 100000 in
theorem tmf_l0 (t : Int) : evR (ctxOf Try.prog noFacts (fun _ => false) []) Try.f93 [(.w (.one (.int .i64 t)))] [true] = some (AV.w (AW.one (AC.bool (decide (t ≤ 17592186044416)))), [(decide (-17592186044416 ≤ t), true), (decide (-17592186044416 ≤ t), true), (decide (-17592186044416 ≤ t), true)]) := by kernel_rfl
set_option maxRecDepth 100000 in
theorem tmf_l1 (t : Int) : evR (ctxOf Try.prog noFacts (fun _ => false) []) Try.f93 [(.w (.one (.int .i64 t)))] [false] = some (AV.w (AW.one (AC.yes false)), [(decide (-17592186044416 ≤ t), false), (decide (-17592186044416 ≤ t), false), (decide (-17592186044416 ≤ t), false)]) := by kernel_rfl
set_option maxRecDepth 100000 in
theorem tmf_t (t : Int) : Pl Try.prog 93 [.int .i64 t] (AV.get ((bif decide (-17592186044416 ≤ t) then (AV.w (AW.one (AC.bool (decide (t ≤ 17592186044416))))) else (AV.w (AW.one (AC.yes false)))) : AV Empty)) :=
  (pl_node (fun h0 => (pl_leaf rfl (ctxOf_ok (lib1_nil _ _) (eq_none _)) (by kernel_rfl) Try.func93 rfl (tmf_l0 t) rfl (all2_R (.cons rfl .nil)) rfl (cd_cons h0 (cd_cons h0 (cd_cons h0 cd_nil))))) (fun h0 => (pl_leaf rfl (ctxOf_ok (lib1_nil _ _) (eq_none _)) (by kernel_rfl) Try.func93 rfl (tmf_l1 t) rfl (all2_R (.cons rfl .nil)) rfl (cd_cons h0 (cd_cons h0 (cd_cons h0 cd_nil))))))
theorem tmf_pl (t : Int)  : Pl Try.prog 93 [.int .i64 t] (.bool (tmC t)) := by
  refine Eq.mp (congrArg (Pl _ _ _) ?_) (tmf_t t)
  unfold tmC; cases decide (-17592186044416 ≤ t) <;> rfl
noncomputable abbrev libC1 : List (Nat × FnSp Empty) := [(107, sp1 dBd (fun b => aInt .i64 (chkB b)) (fun _ => [])), (93, tmS)]
theorem libC1_ok : LibOk Try.prog noFacts (lib1 libC1) := (lib1_cons (sp1_ok fun b _ => ⟨_, rfl, AtTick.check_pl b⟩) Try.call107 (lib1_cons (sp1_ok fun t _ => ⟨_, rfl, tmf_pl t⟩) Try.call93 (lib1_nil _ _)))
set_option maxRecDepth 100000 in
theorem ckf_l0 (c : Ck) : evR (ctxOf Try.prog noFacts (fun _ => false) libC1) Try.f85 [(ckA c)] [true] = some (AV.w (AW.one (AC.int IntKind.i64 (chkB c.b))), [(chkB c.b != 0, true)]) := by kernel_rfl
set_option maxRecDepth 100000 in
theorem ckf_l1 (c : Ck) : evR (ctxOf Try.prog noFacts (fun _ => false) libC1) Try.f85 [(ckA c)] [false, true] = some (AV.w (AW.one (AC.int IntKind.i64 4)), [(chkB c.b != 0, false), (!tmC c.s, true), (!tmC c.s, true), (!tmC c.s, true), (!tmC c.s, true), (!tmC c.s, true), (!tmC c.s, true), (true, true), (true, true), (true, true), (true, true), (true, true), (true, true), (true, true), (true, true), (true, true), (true, true), (true, true), (true, true), (true, true), (true, true), (true, true)]) := by kernel_rfl
set_option maxRecDepth 100000 in
theorem ckf_l2 (c : Ck) : evR (ctxOf Try.prog noFacts (fun _ => false) libC1) Try.f85 [(ckA c)] [false, false, true] = some (AV.w (AW.one (AC.int IntKind.i64 4)), [(chkB c.b != 0, false), (!tmC c.s, false), (!tmC c.s, false), (!tmC c.s, false), (!tmC c.s, false), (!tmC c.s, false), (!tmC c.s, false), (!tmC c.b.lo, true), (!tmC c.b.lo, true), (!tmC c.b.lo, true), (!tmC c.b.lo, true), (!tmC c.b.lo, true), (!tmC c.b.lo, true), (true, true), (true, true), (true, true), (true, true), (true, true), (true, true), (true, true), (true, true), (true, true)]) := by kernel_rfl
set_option maxRecDepth 100000 in
theorem ckf_l3 (c : Ck) : evR (ctxOf Try.prog noFacts (fun _ => false) libC1) Try.f85 [(ckA c)] [false, false, false, true] = some (AV.w (AW.one (AC.int IntKind.i64 4)), [(chkB c.b != 0, false), (!tmC c.s, false), (!tmC c.s, false), (!tmC c.s, false), (!tmC c.s, false), (!tmC c.s, false), (!tmC c.s, false), (!tmC c.b.lo, false), (!tmC c.b.lo, false), (!tmC c.b.lo, false), (!tmC c.b.lo, false), (!tmC c.b.lo, false), (!tmC c.b.lo, false), (!tmC c.b.hi, true), (!tmC c.b.hi, true), (!tmC c.b.hi, true), (!tmC c.b.hi, true), (true, true), (true, true), (true, true), (true, true), (true, true)]) := by kernel_rfl
set_option maxRecDepth 100000 in
theorem ckf_l4 (c : Ck) : evR (ctxOf Try.prog noFacts (fun _ => false) libC1) Try.f85 [(ckA c)] [false, false, false, false, true] = some (AV.w (AW.one (AC.int IntKind.i64 4)), [(chkB c.b != 0, false), (!tmC c.s, false), (!tmC c.s, false), (!tmC c.s, false), (!tmC c.s, false), (!tmC c.s, false), (!tmC c.s, false), (!tmC c.b.lo, false), (!tmC c.b.lo, false), (!tmC c.b.lo, false), (!tmC c.b.lo, false), (!tmC c.b.lo, false), (!tmC c.b.lo, false), (!tmC c.b.hi, false), (!tmC c.b.hi, false), (!tmC c.b.hi, false), (!tmC c.b.hi, false), (decide (c.d < 0), true), (decide (c.d < 0), true), (decide (c.d < 0), true), (decide (c.d < 0), true), (true, true)]) := by kernel_rfl
set_option maxRecDepth 100000 in
theorem ckf_l5 (c : Ck) : evR (ctxOf Try.prog noFacts (fun _ => false) libC1) Try.f85 [(ckA c)] [false, false, false, false, false, true] = some (AV.w (AW.one (AC.int IntKind.i64 4)), [(chkB c.b != 0, false), (!tmC c.s, false), (!tmC c.s, false), (!tmC c.s, false), (!tmC c.s, false), (!tmC c.s, false), (!tmC c.s, false), (!tmC c.b.lo, false), (!tmC c.b.lo, false), (!tmC c.b.lo, false), (!tmC c.b.lo, false), (!tmC c.b.lo, false), (!tmC c.b.lo, false), (!tmC c.b.hi, false), (!tmC c.b.hi, false), (!tmC c.b.hi, false), (!tmC c.b.hi, false), (decide (c.d < 0), false), (decide (c.d < 0), false), (decide (c.d < 0), false), (decide (c.d < 0), false), (decide (c.d > 100000), true)]) := by kernel_rfl
set_option maxRecDepth 100000 in
theorem ckf_l6 (c : Ck) : evR (ctxOf Try.prog noFacts (fun _ => false) libC1) Try.f85 [(ckA c)] [false, false, false, false, false, false] = some (AV.w (AW.one (AC.int IntKind.i64 0)), [(chkB c.b != 0, false), (!tmC c.s, false), (!tmC c.s, false), (!tmC c.s, false), (!tmC c.s, false), (!tmC c.s, false), (!tmC c.s, false), (!tmC c.b.lo, false), (!tmC c.b.lo, false), (!tmC c.b.lo, false), (!tmC c.b.lo, false), (!tmC c.b.lo, false), (!tmC c.b.lo, false), (!tmC c.b.hi, false), (!tmC c.b.hi, false), (!tmC c.b.hi, false), (!tmC c.b.hi, false), (decide (c.d < 0), false), (decide (c.d < 0), false), (decide (c.d < 0), false), (decide (c.d < 0), false), (decide (c.d > 100000), false)]) := by kernel_rfl
set_option maxRecDepth 100000 in
theorem ckf_t (c : Ck) : Pl Try.prog 85 [ckV c] (AV.get ((bif chkB c.b != 0 then (AV.w (AW.one (AC.int IntKind.i64 (chkB c.b)))) else (bif !tmC c.s then (AV.w (AW.one (AC.int IntKind.i64 4))) else (bif !tmC c.b.lo then (AV.w (AW.one (AC.int IntKind.i64 4))) else (bif !tmC c.b.hi then (AV.w (AW.one (AC.int IntKind.i64 4))) else (bif decide (c.d < 0) then (AV.w (AW.one (AC.int IntKind.i64 4))) else (bif decide (c.d > 100000) then (AV.w (AW.one (AC.int IntKind.i64 4))) else (AV.w (AW.one (AC.int IntKind.i64 0))))))))) : AV Empty)) :=
  (pl_node (fun h0 => (pl_leaf rfl (ctxOf_ok libC1_ok (eq_none _)) (by kernel_rfl) Try.func85 rfl (ckf_l0 c) rfl (all2_R (.cons rfl .nil)) rfl (cd_cons h0 cd_nil))) (fun h0 => (pl_node (fun h1 => (pl_leaf rfl (ctxOf_ok libC1_ok (eq_none _)) (by kernel_rfl) Try.func85 rfl (ckf_l1 c) rfl (all2_R (.cons rfl .nil)) rfl (cd_cons h0 (cd_cons h1 (cd_cons h1 (cd_cons h1 (cd_cons h1 (cd_cons h1 (cd_cons h1 (cd_cons rfl (cd_cons rfl (cd_cons rfl (cd_cons rfl (cd_cons rfl (cd_cons rfl (cd_cons rfl (cd_cons rfl (cd_cons rfl (cd_cons rfl (cd_cons rfl (cd_cons rfl (cd_cons rfl (cd_cons rfl (cd_cons rfl cd_nil)))))))))))))))))))))))) (fun h1 => (pl_node (fun h2 => (pl_leaf rfl (ctxOf_ok libC1_ok (eq_none _)) (by kernel_rfl) Try.func85 rfl (ckf_l2 c) rfl (all2_R (.cons rfl .nil)) rfl (cd_cons h0 (cd_cons h1 (cd_cons h1 (cd_cons h1 (cd_cons h1 (cd_cons h1 (cd_cons h1 (cd_cons h2 (cd_cons h2 (cd_cons h2 (cd_cons h2 (cd_cons h2 (cd_cons h2 (cd_cons rfl (cd_cons rfl (cd_cons rfl (cd_cons rfl (cd_cons rfl (cd_cons rfl (cd_cons rfl (cd_cons rfl (cd_cons rfl cd_nil)))))))))))))))))))))))) (fun h2 => (pl_node (fun h3 => (pl_leaf rfl (ctxOf_ok libC1_ok (eq_none _)) (by kernel_rfl) Try.func85 rfl (ckf_l3 c) rfl (all2_R (.cons rfl .nil)) rfl (cd_cons h0 (cd_cons h1 (cd_cons h1 (cd_cons h1 (cd_cons h1 (cd_cons h1 (cd_cons h1 (cd_cons h2 (cd_cons h2 (cd_cons h2 (cd_cons h2 (cd_cons h2 (cd_cons h2 (cd_cons h3 (cd_cons h3 (cd_cons h3 (cd_cons h3 (cd_cons rfl (cd_cons rfl (cd_cons rfl (cd_cons rfl (cd_cons rfl cd_nil)))))))))))))))))))))))) (fun h3 => (pl_node (fun h4 => (pl_leaf rfl (ctxOf_ok libC1_ok (eq_none _)) (by kernel_rfl) Try.func85 rfl (ckf_l4 c) rfl (all2_R (.cons rfl .nil)) rfl (cd_cons h0 (cd_cons h1 (cd_cons h1 (cd_cons h1 (cd_cons h1 (cd_cons h1 (cd_cons h1 (cd_cons h2 (cd_cons h2 (cd_cons h2 (cd_cons h2 (cd_cons h2 (cd_cons h2 (cd_cons h3 (cd_cons h3 (cd_cons h3 (cd_cons h3 (cd_cons h4 (cd_cons h4 (cd_cons h4 (cd_cons h4 (cd_cons rfl cd_nil)))))))))))))))))))))))) (fun h4 => (pl_node (fun h5 => (pl_leaf rfl (ctxOf_ok libC1_ok (eq_none _)) (by kernel_rfl) Try.func85 rfl (ckf_l5 c) rfl (all2_R (.cons rfl .nil)) rfl (cd_cons h0 (cd_cons h1 (cd_cons h1 (cd_cons h1 (cd_cons h1 (cd_cons h1 (cd_cons h1 (cd_cons h2 (cd_cons h2 (cd_cons h2 (cd_cons h2 (cd_cons h2 (cd_cons h2 (cd_cons h3 (cd_cons h3 (cd_cons h3 (cd_cons h3 (cd_cons h4 (cd_cons h4 (cd_cons h4 (cd_cons h4 (cd_cons h5 cd_nil)))))))))))))))))))))))) (fun h5 => (pl_leaf rfl (ctxOf_ok libC1_ok (eq_none _)) (by kernel_rfl) Try.func85 rfl (ckf_l6 c) rfl (all2_R (.cons rfl .nil)) rfl (cd_cons h0 (cd_cons h1 (cd_cons h1 (cd_cons h1 (cd_cons h1 (cd_cons h1 (cd_cons h1 (cd_cons h2 (cd_cons h2 (cd_cons h2 (cd_cons h2 (cd_cons h2 (cd_cons h2 (cd_cons h3 (cd_cons h3 (cd_cons h3 (cd_cons h3 (cd_cons h4 (cd_cons h4 (cd_cons h4 (cd_cons h4 (cd_cons h5 cd_nil)))))))))))))))))))))))))))))))))))
theorem ckf_pl (c : Ck)  : Pl Try.prog 85 [ckV c] (.int .i64 (ckE c)) := by
  refine Eq.mp (congrArg (Pl _ _ _) ?_) (ckf_t c)
  unfold ckE drC
  by_cases h : chkB c.b = 0
  · rw [if_pos h, h]
    cases tmC c.s
    · rfl
    cases tmC c.b.lo
    · rfl
    cases tmC c.b.hi
    · rfl
    by_cases h1 : c.d < 0
    · rw [decide_eq_true h1, decide_eq_false (show ¬ 0 ≤ c.d by omega)]; rfl
    rw [decide_eq_false h1, decide_eq_true (show 0 ≤ c.d by omega)]
    by_cases h2 : c.d > 100000
    · rw [decide_eq_true h2, decide_eq_false (show ¬ c.d ≤ 100000 by omega)]; rfl
    rw [decide_eq_false h2, decide_eq_true (show c.d ≤ 100000 by omega)]; rfl
  · rw [if_neg h, show (chkB c.b != 0) = true by simpa using h]; rfl
noncomputable abbrev libC2 : List (Nat × FnSp Empty) := [(85, ckS)]
theorem libC2_ok : LibOk Try.prog noFacts (lib1 libC2) := (lib1_cons (sp1_ok fun c _ => ⟨_, rfl, ckf_pl c⟩) Try.call85 (lib1_nil _ _))
set_option maxRecDepth 100000 in
theorem tlf_l0 (c : Ck) : evR (ctxOf Try.prog noFacts (fun _ => false) libC2) Try.f108 [(ckA c)] [true] = some (AV.w (AW.one (AC.bool !c.b.u)), [(ckE c == 0, true), (ckE c == 0, true), (ckE c == 0, true), (ckE c == 0, true), (ckE c == 0, true)]) := by kernel_rfl
set_option maxRecDepth 100000 in
theorem tlf_l1 (c : Ck) : evR (ctxOf Try.prog noFacts (fun _ => false) libC2) Try.f108 [(ckA c)] [false] = some (AV.w (AW.one (AC.yes false)), [(ckE c == 0, false), (ckE c == 0, false), (ckE c == 0, false), (ckE c == 0, false), (ckE c == 0, false)]) := by kernel_rfl
set_option maxRecDepth 100000 in
theorem tlf_t (c : Ck) : Pl Try.prog 108 [ckV c] (AV.get ((bif ckE c == 0 then (AV.w (AW.one (AC.bool !c.b.u))) else (AV.w (AW.one (AC.yes false)))) : AV Empty)) :=
  (pl_node (fun h0 => (pl_leaf rfl (ctxOf_ok libC2_ok (eq_none _)) (by kernel_rfl) Try.func108 rfl (tlf_l0 c) rfl (all2_R (.cons rfl .nil)) rfl (cd_cons h0 (cd_cons h0 (cd_cons h0 (cd_cons h0 (cd_cons h0 cd_nil))))))) (fun h0 => (pl_leaf rfl (ctxOf_ok libC2_ok (eq_none _)) (by kernel_rfl) Try.func108 rfl (tlf_l1 c) rfl (all2_R (.cons rfl .nil)) rfl (cd_cons h0 (cd_cons h0 (cd_cons h0 (cd_cons h0 (cd_cons h0 cd_nil))))))))
theorem tlf_pl (c : Ck)  : Pl Try.prog 108 [ckV c] (.bool (tlC c)) := by
  refine Eq.mp (congrArg (Pl _ _ _) ?_) (tlf_t c)
  unfold tlC; cases (ckE c == 0) <;> rfl
noncomputable abbrev libC3 : List (Nat × FnSp Empty) := [(97, muldivS), (98, muldivupS)]
theorem libC3_ok : LibOk Try.prog noFacts (lib1 libC3) := (lib1_cons (muldivS_ok _) Try.call97 (lib1_cons (muldivupS_ok _) Try.call98 (lib1_nil _ _)))
theorem shf_in {g d : Int} (hg : gnC g = true) (hd : drC d = true) : IntKind.i64.wrap (1000000 + d) = 1000000 + d ∧ i64B g = true ∧ i64B (1000000 + d) = true ∧ IntKind.i64.wrap (1000000 - d) = 1000000 - d ∧ i64B (1000000 - d) = true := by
  rw [gnC_iff] at hg
  rw [drC_iff] at hd
  exact ⟨v64 (by omega) (by omega), i64B_iff.2 (by omega), i64B_iff.2 (by omega), v64 (by omega) (by omega), i64B_iff.2 (by omega)⟩
theorem i64m : i64B 1000000 = true := by decide
set_option maxRecDepth 100000 in
theorem shf_l0 (g : Int) (d : Int) : evR (ctxOf Try.prog noFacts (fun _ => false) libC3) Try.f112 [(.w (.one (.int .i64 g))), (.w (.one (.int .i64 d)))] [] = some (AV.w (AW.one (AC.int IntKind.i64 (divV (g * 1000000) (IntKind.i64.wrap (1000000 + d))))), [(i64B g, true), (i64B 1000000, true), (i64B (IntKind.i64.wrap (1000000 + d)), true)]) := by kernel_rfl
set_option maxRecDepth 100000 in
theorem shf_t (g : Int) (d : Int) (s0 : (i64B (IntKind.i64.wrap (1000000 + d))) = true) (s1 : (i64B 1000000) = true) (s2 : (i64B g) = true) : Pl Try.prog 112 [.int .i64 g, .int .i64 d] (AV.get ((AV.w (AW.one (AC.int IntKind.i64 (divV (g * 1000000) (IntKind.i64.wrap (1000000 + d)))))) : AV Empty)) :=
  (pl_leaf rfl (ctxOf_ok libC3_ok (eq_none _)) (by kernel_rfl) Try.func112 rfl (shf_l0 g d) rfl (all2_R (.cons rfl (.cons rfl .nil))) rfl (cd_cons (s2 ) (cd_cons (s1 ) (cd_cons (s0 ) cd_nil))))
theorem shf_pl (g : Int) (d : Int) (hg : gnC g = true) (hd : drC d = true) : Pl Try.prog 112 [.int .i64 g, .int .i64 d] (.int .i64 (shC g d)) := by
  refine Eq.mp (congrArg (Pl _ _ _) ?_) (shf_t g d (by first | exact (shf_in hg hd).2.1 | exact i64m | (rw [(shf_in hg hd).1]; exact (shf_in hg hd).2.2.1)) (by first | exact (shf_in hg hd).2.1 | exact i64m | (rw [(shf_in hg hd).1]; exact (shf_in hg hd).2.2.1)) (by first | exact (shf_in hg hd).2.1 | exact i64m | (rw [(shf_in hg hd).1]; exact (shf_in hg hd).2.2.1)))
  refine congrArg (Value.int .i64) ?_
  have b := shC_in hg hd
  have e := (shf_in hg hd).1
  rw [gnC_iff] at hg
  rw [drC_iff] at hd
  unfold shC at b ⊢
  rw [e]
  exact divC (by omega) (by omega) (by omega)
set_option maxRecDepth 100000 in
theorem lof_l0 (g : Int) (d : Int) : evR (ctxOf Try.prog noFacts (fun _ => false) libC3) Try.f113 [(.w (.one (.int .i64 g))), (.w (.one (.int .i64 d)))] [] = some (AV.w (AW.one (AC.int IntKind.i64 (divV (g * 1000000 + (IntKind.i64.wrap (1000000 - d) - 1)) (IntKind.i64.wrap (1000000 - d))))), [(i64B g, true), (i64B 1000000, true), (i64B (IntKind.i64.wrap (1000000 - d)), true)]) := by kernel_rfl
set_option maxRecDepth 100000 in
theorem lof_t (g : Int) (d : Int) (s0 : (i64B (IntKind.i64.wrap (1000000 - d))) = true) (s1 : (i64B 1000000) = true) (s2 : (i64B g) = true) : Pl Try.prog 113 [.int .i64 g, .int .i64 d] (AV.get ((AV.w (AW.one (AC.int IntKind.i64 (divV (g * 1000000 + (IntKind.i64.wrap (1000000 - d) - 1)) (IntKind.i64.wrap (1000000 - d)))))) : AV Empty)) :=
  (pl_leaf rfl (ctxOf_ok libC3_ok (eq_none _)) (by kernel_rfl) Try.func113 rfl (lof_l0 g d) rfl (all2_R (.cons rfl (.cons rfl .nil))) rfl (cd_cons (s2 ) (cd_cons (s1 ) (cd_cons (s0 ) cd_nil))))
theorem lof_pl (g : Int) (d : Int) (hg : gnC g = true) (hd : drC d = true) : Pl Try.prog 113 [.int .i64 g, .int .i64 d] (.int .i64 (loC g d)) := by
  refine Eq.mp (congrArg (Pl _ _ _) ?_) (lof_t g d (by first | exact (shf_in hg hd).2.1 | exact i64m | (rw [(shf_in hg hd).2.2.2.1]; exact (shf_in hg hd).2.2.2.2)) (by first | exact (shf_in hg hd).2.1 | exact i64m | (rw [(shf_in hg hd).2.2.2.1]; exact (shf_in hg hd).2.2.2.2)) (by first | exact (shf_in hg hd).2.1 | exact i64m | (rw [(shf_in hg hd).2.2.2.1]; exact (shf_in hg hd).2.2.2.2)))
  refine congrArg (Value.int .i64) ?_
  have b := loC_in hg hd
  have e := (shf_in hg hd).2.2.2.1
  rw [gnC_iff] at hg
  rw [drC_iff] at hd
  unfold loC at b ⊢
  rw [e]
  rw [← ceC (by omega)] at b ⊢
  exact divC (by omega) (by omega) (by omega)
noncomputable abbrev libC4 : List (Nat × FnSp Empty) := [(108, tlS), (93, tmS), (109, sp0 (bA noneB)), (112, shS), (113, loS), (111, sp2 (dInt .i64) (dInt .i64) (fun x y => bA (ofB x y)) (fun _ _ => [])), (110, sp2 dBd dBd (fun a b => bA (addB a b)) (fun _ _ => []))]

theorem libC4_ok : LibOk Try.prog noFacts (lib1 libC4) := (lib1_cons (sp1_ok fun c _ => ⟨_, rfl, tlf_pl c⟩) Try.call108 (lib1_cons (sp1_ok fun t _ => ⟨_, rfl, tmf_pl t⟩) Try.call93 (lib1_cons (sp0_ok rfl AtTick.none_pl) Try.call109 (lib1_cons (sp2_ok fun g d hc => ⟨_, rfl, shf_pl g d (c2' hc).1 (c2' hc).2⟩) Try.call112 (lib1_cons (sp2_ok fun g d hc => ⟨_, rfl, lof_pl g d (c2' hc).1 (c2' hc).2⟩) Try.call113 (lib1_cons (sp2_ok fun x y _ => ⟨_, rfl, AtTick.of_pl x y⟩) Try.call111 (lib1_cons (sp2_ok fun a b _ => ⟨_, rfl, AtTick.add_pl a b⟩) Try.call110 (lib1_nil _ _))))))))

set_option maxRecDepth 100000 in
theorem unf_1 (c : Ck) (x : Int) : evR (ctxOf Try.prog noFacts (fun _ => false) libC4) Try.f86 [(ckA c), (.w (.one (.int .i64 x)))] [true] = some (AV.w (AW.agg [AC.int IntKind.i64 noneB.lo, AC.int IntKind.i64 noneB.hi, AC.bool noneB.u]), (pickL [(!tlC c, true), (true, true)] [0, 0, 0, 0, 1, 1, 1, 1, 1, 1])) := by kernel_rfl
set_option maxRecDepth 100000 in
theorem unf_01 (c : Ck) (x : Int) : evR (ctxOf Try.prog noFacts (fun _ => false) libC4) Try.f86 [(ckA c), (.w (.one (.int .i64 x)))] [false, true] = some (AV.w (AW.agg [AC.int IntKind.i64 noneB.lo, AC.int IntKind.i64 noneB.hi, AC.bool noneB.u]), (pickL [(!tlC c, false), (!tmC x, true), (true, true)] [0, 0, 0, 0, 1, 1, 1, 1, 1, 2])) := by kernel_rfl
set_option maxRecDepth 100000 in
theorem unf_001 (c : Ck) (x : Int) : evR (ctxOf Try.prog noFacts (fun _ => false) libC4) Try.f86 [(ckA c), (.w (.one (.int .i64 x)))] [false, false, true] = some (AV.w (AW.agg [AC.int IntKind.i64 noneB.lo, AC.int IntKind.i64 noneB.hi, AC.bool noneB.u]), (pickL [(!tlC c, false), (!tmC x, false), (decide (x < c.s), true)] [0, 0, 0, 0, 1, 1, 1, 1, 1, 2])) := by kernel_rfl
set_option maxRecDepth 100000 in
theorem unf_000 (c : Ck) (x : Int) : evR (ctxOf Try.prog noFacts (fun _ => false) libC4) Try.f86 [(ckA c), (.w (.one (.int .i64 x)))] [false, false, false] = some (AV.w (AW.agg [AC.int IntKind.i64 (addB c.b (ofB (shC (maxI (IntKind.i64.wrap (IntKind.i64.wrap (x - c.s) - 1)) 0) c.d) (loC (IntKind.i64.wrap (IntKind.i64.wrap (x - c.s) + 1)) c.d))).lo, AC.int IntKind.i64 (addB c.b (ofB (shC (maxI (IntKind.i64.wrap (IntKind.i64.wrap (x - c.s) - 1)) 0) c.d) (loC (IntKind.i64.wrap (IntKind.i64.wrap (x - c.s) + 1)) c.d))).hi, AC.bool (addB c.b (ofB (shC (maxI (IntKind.i64.wrap (IntKind.i64.wrap (x - c.s) - 1)) 0) c.d) (loC (IntKind.i64.wrap (IntKind.i64.wrap (x - c.s) + 1)) c.d))).u]), (pickL [(!tlC c, false), (!tmC x, false), (decide (x < c.s), false), (gnC (maxI (IntKind.i64.wrap (IntKind.i64.wrap (x - c.s) - 1)) 0), true), (drC c.d, true), (gnC (IntKind.i64.wrap (IntKind.i64.wrap (x - c.s) + 1)), true)] [0, 0, 0, 0, 1, 1, 1, 1, 1, 2, 3, 4, 5, 4])) := by kernel_rfl
theorem un_in {c : Ck} {x : Int} (h : tlC c = true) (hx : tmC x = true) (hs : c.s ≤ x) : IntKind.i64.wrap (IntKind.i64.wrap (x - c.s) - 1) = x - c.s - 1 ∧ IntKind.i64.wrap (IntKind.i64.wrap (x - c.s) + 1) = x - c.s + 1 ∧ gnC (maxI (x - c.s - 1) 0) = true ∧ gnC (x - c.s + 1) = true ∧ drC c.d = true ∧
    addB c.b (ofB (shC (maxI (x - c.s - 1) 0) c.d) (loC (x - c.s + 1) c.d)) = uniC c x := by
  obtain ⟨h1, h2⟩ := tl_iff.1 h
  obtain ⟨g1, g2, g3, g4, g5, g6⟩ := ck_in h1
  have hx' := tmC_iff.1 hx
  have e0 : IntKind.i64.wrap (x - c.s) = x - c.s := v64 (by omega) (by omega)
  have m : 0 ≤ maxI (x - c.s - 1) 0 ∧ maxI (x - c.s - 1) 0 ≤ x - c.s + 1 := by unfold maxI; split <;> omega
  have q1 : gnC (maxI (x - c.s - 1) 0) = true := gnC_iff.2 (by omega)
  have q2 : gnC (x - c.s + 1) = true := gnC_iff.2 (by omega)
  have q3 : drC c.d = true := drC_iff.2 (by omega)
  refine ⟨by rw [e0]; exact v64 (by omega) (by omega), by rw [e0]; exact v64 (by omega) (by omega), q1, q2, q3, ?_⟩
  have b1 := shC_in q1 q3
  have b2 := loC_in q2 q3
  rw [addC (chk_kn g1 h2) b1.1 (shlo m.1 m.2 q3 q2) (by omega)]
  unfold uniC
  rw [h, hx, decide_eq_true hs]; rfl
set_option maxHeartbeats 2000000 in
theorem unf_pl (c : Ck) (x : Int) : Pl Try.prog 86 [ckV c, .int .i64 x] (bV (uniC c x)) := fun W => by
  cases h : tlC c with
  | false =>
    have k0 : (!tlC c) = true := by rw [h]; rfl
    have e : uniC c x = noneB := by unfold uniC; rw [h]; rfl
    rw [e]
    have L := unf_1 c x
    refine evR_calls (I := noFacts) (ctxOf_ok libC4_ok (eq_none _)) (by kernel_rfl) Try.func86 rfl lps_nil L rfl (all2_R (.cons rfl (.cons rfl .nil))) rfl W (Nat.zero_le _) (pickL_ok ?_ _)
    repeat' (first | exact cd_nil | refine cd_cons ?_ ?_)
    all_goals first | rfl | with_reducible assumption
  | true =>
    have k0 : (!tlC c) = false := by rw [h]; rfl
    cases hx : tmC x with
    | false =>
      have k1 : (!tmC x) = true := by rw [hx]; rfl
      have e : uniC c x = noneB := by unfold uniC; rw [h, hx]; rfl
      rw [e]
      have L := unf_01 c x
      refine evR_calls (I := noFacts) (ctxOf_ok libC4_ok (eq_none _)) (by kernel_rfl) Try.func86 rfl lps_nil L rfl (all2_R (.cons rfl (.cons rfl .nil))) rfl W (Nat.zero_le _) (pickL_ok ?_ _)
      repeat' (first | exact cd_nil | refine cd_cons ?_ ?_)
      all_goals first | rfl | with_reducible assumption
    | true =>
      have k1 : (!tmC x) = false := by rw [hx]; rfl
      by_cases hs : x < c.s
      · have k2 : decide (x < c.s) = true := decide_eq_true hs
        have e : uniC c x = noneB := by unfold uniC; rw [h, hx, decide_eq_false (show ¬ c.s ≤ x by omega)]; rfl
        rw [e]
        have L := unf_001 c x
        refine evR_calls (I := noFacts) (ctxOf_ok libC4_ok (eq_none _)) (by kernel_rfl) Try.func86 rfl lps_nil L rfl (all2_R (.cons rfl (.cons rfl .nil))) rfl W (Nat.zero_le _) (pickL_ok ?_ _)
        repeat' (first | exact cd_nil | refine cd_cons ?_ ?_)
        all_goals first | rfl | with_reducible assumption
      · have k2 : decide (x < c.s) = false := decide_eq_false hs
        obtain ⟨g1, g2, g3, g4, g5, g6⟩ := un_in h hx (by omega)
        have L := unf_000 c x
        rw [g1, g2, g6] at L
        refine evR_calls (I := noFacts) (ctxOf_ok libC4_ok (eq_none _)) (by kernel_rfl) Try.func86 rfl lps_nil L rfl (all2_R (.cons rfl (.cons rfl .nil))) rfl W (Nat.zero_le _) (pickL_ok ?_ _)
        repeat' (first | exact cd_nil | refine cd_cons ?_ ?_)
        all_goals first | rfl | with_reducible assumption
theorem ho_in {c : Ck} {t : Int} (h : tlC c = true) (hx : tmC t = true) (hs : c.b.hi ≤ t) : IntKind.i64.wrap (t - c.b.hi) = t - c.b.hi ∧ IntKind.i64.wrap (t - c.b.lo) = t - c.b.lo ∧ IntKind.i64.wrap (1000000 - c.d) = 1000000 - c.d ∧ IntKind.i64.wrap (1000000 + c.d) = 1000000 + c.d ∧
    gnC (t - c.b.hi) = true ∧ gnC (t - c.b.lo) = true ∧ raC (1000000 - c.d) = true ∧ raC (1000000 + c.d) = true ∧ IntKind.i64.wrap (c.s + gaC (t - c.b.hi) (1000000 - c.d)) = c.s + gaC (t - c.b.hi) (1000000 - c.d) ∧ IntKind.i64.wrap (IntKind.i64.wrap (c.s + gaC (t - c.b.lo) (1000000 + c.d)) + 1) = c.s + gaC (t - c.b.lo) (1000000 + c.d) + 1 ∧
    ofB (c.s + gaC (t - c.b.hi) (1000000 - c.d)) (c.s + gaC (t - c.b.lo) (1000000 + c.d) + 1) = shoC c t := by
  obtain ⟨h1, h2⟩ := tl_iff.1 h
  obtain ⟨g1, g2, g3, g4, g5, g6⟩ := ck_in h1
  have hk := knB_iff.1 (chk_kn g1 h2)
  have hx' := tmC_iff.1 hx
  have q1 : gnC (t - c.b.hi) = true := gnC_iff.2 (by omega)
  have q2 : gnC (t - c.b.lo) = true := gnC_iff.2 (by omega)
  have q3 : raC (1000000 - c.d) = true := raC_iff.2 (by omega)
  have q4 : raC (1000000 + c.d) = true := raC_iff.2 (by omega)
  have b1 := gaC_in q1 q3
  have b2 := gaC_in q2 q4
  refine ⟨v64 (by omega) (by omega), v64 (by omega) (by omega), v64 (by omega) (by omega), v64 (by omega) (by omega), q1, q2, q3, q4, v64 (by omega) (by omega), ?_, ?_⟩
  · rw [v64 (x := c.s + gaC (t - c.b.lo) (1000000 + c.d)) (by omega) (by omega)]; exact v64 (by omega) (by omega)
  · unfold shoC
    rw [h, hx, decide_eq_true hs]; rfl
noncomputable abbrev libC5 : List (Nat × FnSp Empty) := [(85, ckS), (93, tmS), (113, loS), (111, sp2 (dInt .i64) (dInt .i64) (fun x y => bA (ofB x y)) (fun _ _ => [])), (110, sp2 dBd dBd (fun a b => bA (addB a b)) (fun _ _ => [])), (86, unS)]

theorem libC5_ok : LibOk Try.prog noFacts (lib1 libC5) := (lib1_cons (sp1_ok fun c _ => ⟨_, rfl, ckf_pl c⟩) Try.call85 (lib1_cons (sp1_ok fun t _ => ⟨_, rfl, tmf_pl t⟩) Try.call93 (lib1_cons (sp2_ok fun g d hc => ⟨_, rfl, lof_pl g d (c2' hc).1 (c2' hc).2⟩) Try.call113 (lib1_cons (sp2_ok fun x y _ => ⟨_, rfl, AtTick.of_pl x y⟩) Try.call111 (lib1_cons (sp2_ok fun a b _ => ⟨_, rfl, AtTick.add_pl a b⟩) Try.call110 (lib1_cons (sp2_ok fun c x _ => ⟨_, rfl, unf_pl c x⟩) Try.call86 (lib1_nil _ _)))))))

theorem sy_in {c : Ck} {s g : Int} (t : Bd) (h : ckE c = 0) (hs : tmC s = true) (hg : tmC g = true) (h2 : s ≤ g) : IntKind.i64.wrap (IntKind.i64.wrap (g - s) + 1) = g - s + 1 ∧ gnC (g - s + 1) = true ∧ drC c.d = true ∧ addB t (ofB 0 (loC (g - s + 1) c.d)) = camC c s g t ∧ ({ s := g, b := meetB (uniC c g) (camC c s g t), d := c.d } : Ck) = nxC c s g t := by
  obtain ⟨g1, g2, g3, g4, g5, g6⟩ := ck_in h
  rw [tmC_iff] at hs hg
  refine ⟨by rw [v64 (x := g - s) (by omega) (by omega)]; exact v64 (by omega) (by omega), gnC_iff.2 (by omega), drC_iff.2 (by omega), rfl, rfl⟩
end
end Go.Proofs.Ytjegnlnnjcchaaa.AtCk

