/-
  Package tile: numbers of tiles and places as functions, and their arithmetic.
  Conditions: those of each theorem.
-/
import Derived.Test.YtbkeohcoahdgcaaH1
set_option linter.unusedVariables false
set_option linter.unusedSimpArgs false
namespace Go.Proofs.Ytbkeohcoahdgcaa.AtTl
open Go.RowKit Ev Wd AtHz
open Go.Proofs.Ytbkeohcoahdgcaa
variable {F : Type}
/-- A tile by its face and the column and row of it. -/
def nmF (f : Int) : Int → Int → Nat → Int
  | _, _, 0 => f
  | c, r, n + 1 => 4 * nmF f (c / 2) (r / 2) n + (r % 2 * 2 + c % 2)
def coD : Int → Nat → Int
  | _, 0 => 0
  | t, n + 1 => 2 * coD (t / 4) n + t % 4 % 2
def roD : Int → Nat → Int
  | _, 0 => 0
  | t, n + 1 => 2 * roD (t / 4) n + t % 4 / 2
theorem nm_range (f : Int) : ∀ (n : Nat) (c r : Int), f * 4 ^ n ≤ nmF f c r n ∧ nmF f c r n < (f + 1) * 4 ^ n
  | 0, c, r => by simp [nmF]; omega
  | n + 1, c, r => by
    have h := nm_range f n (c / 2) (r / 2)
    rw [nmF, Int.pow_succ, ← Int.mul_assoc, ← Int.mul_assoc]
    omega
theorem nm_div (f : Int) (n : Nat) (c r : Int) : nmF f c r (n + 1) / 4 = nmF f (c / 2) (r / 2) n := by rw [nmF]; omega
theorem co_nm (f : Int) : ∀ (n : Nat) (c r : Int), 0 ≤ c → c < 2 ^ n → coD (nmF f c r n) n = c
  | 0, c, r, h1, h2 => by simp [coD] at *; omega
  | n + 1, c, r, h1, h2 => by
    rw [coD, nm_div, co_nm f n (c / 2) (r / 2) (by omega) (by rw [Int.pow_succ] at h2; omega), nmF]
    omega
theorem ro_nm (f : Int) : ∀ (n : Nat) (c r : Int), 0 ≤ r → r < 2 ^ n → roD (nmF f c r n) n = r
  | 0, c, r, h1, h2 => by simp [roD] at *; omega
  | n + 1, c, r, h1, h2 => by
    rw [roD, nm_div, ro_nm f n (c / 2) (r / 2) (by omega) (by rw [Int.pow_succ] at h2; omega), nmF]
    omega
theorem p2 (n : Nat) : (0 : Int) < 2 ^ n := Int.pow_pos (by omega)
theorem p4 (n : Nat) : (0 : Int) < 4 ^ n := Int.pow_pos (by omega)
theorem nm_face (f : Int) (n : Nat) (c r : Int) : nmF f c r n / 4 ^ n = f := by
  have h := nm_range f n c r
  have := p4 n
  refine Int.le_antisymm ?_ ?_
  · have : nmF f c r n / 4 ^ n < f + 1 := Int.ediv_lt_of_lt_mul this h.2
    omega
  · exact Int.le_ediv_of_mul_le this h.1
/-- Columns and rows. -/
def clV (u m : Int) (n : Nat) : Int := min ((u + m) * 2 ^ n / (2 * m)) (2 ^ n - 1)
theorem cl_range {u m : Int} (n : Nat) (hm : 0 < m) (h1 : -m ≤ u) : 0 ≤ clV u m n ∧ clV u m n < 2 ^ n := by
  have := p2 n
  have : 0 ≤ (u + m) * 2 ^ n / (2 * m) := Int.ediv_nonneg (Int.mul_nonneg (by omega) (by omega)) (by omega)
  unfold clV; omega
theorem cl_half {u m : Int} (n : Nat) (hm : 0 < m) : clV u m (n + 1) / 2 = clV u m n := by
  have h2 := p2 n
  have e : (u + m) * 2 ^ (n + 1) / (2 * m) / 2 = (u + m) * 2 ^ n / (2 * m) := by
    rw [Int.ediv_ediv_of_nonneg (by omega), Int.pow_succ, ← Int.mul_assoc, Int.mul_ediv_mul_of_pos_left _ _ (by omega)]
  unfold clV
  rw [← e, Int.pow_succ]
  omega
theorem cl_lo {u m : Int} (n : Nat) (hm : 0 < m) : (2 * clV u m n - 2 ^ n) * m ≤ 2 ^ n * u := by
  have h : clV u m n ≤ (u + m) * 2 ^ n / (2 * m) := by unfold clV; omega
  have h2 : clV u m n * (2 * m) ≤ (u + m) * 2 ^ n := Int.le_trans (Int.mul_le_mul_of_nonneg_right h (by omega)) (Int.ediv_mul_le _ (by omega))
  generalize clV u m n = c at *
  generalize (2 : Int) ^ n = S at *
  grind
theorem cl_hi {u m : Int} (n : Nat) (hm : 0 < m) (hu : u ≤ m) : 2 ^ n * u ≤ (2 * clV u m n + 2 - 2 ^ n) * m := by
  have hS := p2 n
  by_cases h : (u + m) * 2 ^ n / (2 * m) ≤ 2 ^ n - 1
  · have e : clV u m n = (u + m) * 2 ^ n / (2 * m) := by unfold clV; omega
    have h2 : (u + m) * 2 ^ n < (clV u m n + 1) * (2 * m) := by
      rw [e]; exact Int.lt_ediv_add_one_mul_self _ (by omega)
    generalize clV u m n = c at *
    generalize (2 : Int) ^ n = S at *
    grind
  · have e : clV u m n = 2 ^ n - 1 := by unfold clV; omega
    rw [e]
    generalize (2 : Int) ^ n = S at *
    have h3 := Int.mul_le_mul_of_nonneg_left hu (Int.le_of_lt hS)
    grind
theorem co_top : ∀ (n : Nat) (t : Int), coD t (n + 1) = t / 4 ^ n % 4 % 2 * 2 ^ n + coD t n
  | 0, t => by simp [coD]
  | n + 1, t => by
    have h := co_top n (t / 4)
    have e : t / 4 / 4 ^ n = t / 4 ^ (n + 1) := by rw [Int.ediv_ediv_of_nonneg (by omega), Int.pow_succ, Int.mul_comm]
    rw [coD, h, e, coD, Int.pow_succ]
    grind
theorem ro_top : ∀ (n : Nat) (t : Int), roD t (n + 1) = t / 4 ^ n % 4 / 2 * 2 ^ n + roD t n
  | 0, t => by simp [roD]
  | n + 1, t => by
    have h := ro_top n (t / 4)
    have e : t / 4 / 4 ^ n = t / 4 ^ (n + 1) := by rw [Int.ediv_ediv_of_nonneg (by omega), Int.pow_succ, Int.mul_comm]
    rw [roD, h, e, roD, Int.pow_succ]
    grind
theorem pow2_le {n : Nat} (h : n ≤ 12) : (2 : Int) ^ n ≤ 4096 := by
  rcases (show n = 0 ∨ n = 1 ∨ n = 2 ∨ n = 3 ∨ n = 4 ∨ n = 5 ∨ n = 6 ∨ n = 7 ∨ n = 8 ∨ n = 9 ∨ n = 10 ∨ n = 11 ∨ n = 12 by omega) with rfl | rfl | rfl | rfl | rfl | rfl | rfl | rfl | rfl | rfl | rfl | rfl | rfl <;> decide
theorem co_in : ∀ (n : Nat) (t : Int), 0 ≤ coD t n ∧ coD t n < 2 ^ n
  | 0, t => by simp [coD]
  | n + 1, t => by have := co_in n (t / 4); rw [coD, Int.pow_succ]; omega
theorem ro_in : ∀ (n : Nat) (t : Int), 0 ≤ roD t n ∧ roD t n < 2 ^ n
  | 0, t => by simp [roD]
  | n + 1, t => by have := ro_in n (t / 4); rw [roD, Int.pow_succ]; omega
/-- The program's own way to a tile's number: halves of the face, the greatest first. -/
def nmG : Nat → Int → Int → Int → Int → Int
  | 0, t, _, _, _ => t
  | n + 1, t, h, c, r => if h > 0 then nmG n (4 * t + (r / h % 2 * 2 + c / h % 2)) (h / 2) c r else t
theorem nm_top : ∀ (n : Nat) (f c r : Int), nmF f c r (n + 1) = nmF (4 * f + (r / 2 ^ n % 2 * 2 + c / 2 ^ n % 2)) c r n
  | 0, f, c, r => by simp [nmF]
  | n + 1, f, c, r => by
    have h := nm_top n f (c / 2) (r / 2)
    have e : ∀ x : Int, x / 2 / 2 ^ n = x / 2 ^ (n + 1) := fun x => by rw [Int.ediv_ediv_of_nonneg (by omega), Int.pow_succ, Int.mul_comm]
    rw [nmF, h, e, e, nmF]
theorem nmG_zero (n : Nat) (t c r : Int) : nmG n t 0 c r = t := by cases n <;> simp [nmG]
theorem nmG_pow : ∀ (n j : Nat) (t c r : Int), j < n → nmG n t (2 ^ j) c r = nmF t c r (j + 1)
  | 0, j, _, _, _, h => by omega
  | n + 1, 0, t, c, r, _ => by rw [nmG, if_pos (p2 0), show (2 : Int) ^ 0 / 2 = 0 by decide, nmG_zero, nm_top, nmF]
  | n + 1, j + 1, t, c, r, h => by
    have e : (2 : Int) ^ (j + 1) / 2 = 2 ^ j := by rw [Int.pow_succ]; omega
    rw [nmG, if_pos (p2 (j + 1)), e, nmG_pow n j _ c r (by omega), nm_top (j + 1)]
theorem nmG_all (n : Nat) (t c r : Int) (h : n ≤ 12) : nmG 13 t (2 ^ n / 2) c r = nmF t c r n := by
  cases n with
  | zero => rw [show (2 : Int) ^ 0 / 2 = 0 by decide, nmG_zero]; rfl
  | succ n =>
    have e : (2 : Int) ^ (n + 1) / 2 = 2 ^ n := by rw [Int.pow_succ]; omega
    rw [e, nmG_pow 13 n t c r (by omega)]
/-! ### The program's small functions -/
def lvB (k : Int) : Bool := decide (0 ≤ k) && decide (k ≤ 12)
def sz (n : Int) : Int := if n < 0 then -n else n
abbrev lvS : FnSp F := sp1 (dInt .i64) (fun k => aBool (lvB k)) (fun _ => [])
abbrev nmS : FnSp F := sp1 (dInt .i64) (fun k => .tup [.one (.int .i64 (8 * 4 ^ k.toNat)), .one (.int .i64 (14 * 4 ^ k.toNat))]) (fun k => [(lvB k, true)])
def i62B (n : Int) : Bool := decide (-4611686018427387904 ≤ n) && decide (n ≤ 4611686018427387904)
abbrev szS : FnSp F := sp1 (dInt .i64) (fun n => aInt .i64 (sz n)) (fun n => [(i62B n, true)])

theorem lvB_iff {k : Int} : lvB k = true ↔ 0 ≤ k ∧ k ≤ 12 := by unfold lvB; simp
theorem i62B_iff {n : Int} : i62B n = true ↔ -4611686018427387904 ≤ n ∧ n ≤ 4611686018427387904 := by unfold i62B; simp
theorem sh_lv {k : Int} (h : lvB k = true) : IntKind.i64.wrap (8 * 2 ^ min (IntKind.i64.wrap (2 * k)).toNat IntKind.i64.bits) = 8 * 4 ^ k.toNat ∧ IntKind.i64.wrap (14 * 2 ^ min (IntKind.i64.wrap (2 * k)).toNat IntKind.i64.bits) = 14 * 4 ^ k.toNat ∧ decide (IntKind.i64.wrap (2 * k) < 0) = false := by
  have h := lvB_iff.1 h
  rcases (show k = 0 ∨ k = 1 ∨ k = 2 ∨ k = 3 ∨ k = 4 ∨ k = 5 ∨ k = 6 ∨ k = 7 ∨ k = 8 ∨ k = 9 ∨ k = 10 ∨ k = 11 ∨ k = 12 by omega) with rfl | rfl | rfl | rfl | rfl | rfl | rfl | rfl | rfl | rfl | rfl | rfl | rfl <;> decide
theorem sh_one {k : Int} (h : lvB k = true) : IntKind.i64.wrap (1 * 2 ^ min k.toNat IntKind.i64.bits) = 2 ^ k.toNat ∧ decide (k < 0) = false := by
  have h := lvB_iff.1 h
  rcases (show k = 0 ∨ k = 1 ∨ k = 2 ∨ k = 3 ∨ k = 4 ∨ k = 5 ∨ k = 6 ∨ k = 7 ∨ k = 8 ∨ k = 9 ∨ k = 10 ∨ k = 11 ∨ k = 12 by omega) with rfl | rfl | rfl | rfl | rfl | rfl | rfl | rfl | rfl | rfl | rfl | rfl | rfl <;> decide
theorem sh_div {k : Int} (t : Int) (h : lvB k = true) : t.fdiv (2 ^ min (IntKind.i64.wrap (2 * k)).toNat IntKind.i64.bits) = t / 4 ^ k.toNat ∧ decide (IntKind.i64.wrap (2 * k) < 0) = false := by
  have h := lvB_iff.1 h
  have q := p4 k.toNat
  have e : (2 : Int) ^ min (IntKind.i64.wrap (2 * k)).toNat IntKind.i64.bits = 4 ^ k.toNat ∧ decide (IntKind.i64.wrap (2 * k) < 0) = false := by
    rcases (show k = 0 ∨ k = 1 ∨ k = 2 ∨ k = 3 ∨ k = 4 ∨ k = 5 ∨ k = 6 ∨ k = 7 ∨ k = 8 ∨ k = 9 ∨ k = 10 ∨ k = 11 ∨ k = 12 by omega) with rfl | rfl | rfl | rfl | rfl | rfl | rfl | rfl | rfl | rfl | rfl | rfl | rfl <;> decide
  rw [e.1, Int.fdiv_eq_ediv_of_nonneg _ (by omega)]
  exact ⟨rfl, e.2⟩
/-- The part in which a component lies. -/
def ptV (u m n : Int) : Int := min ((u + m) * n / (2 * m)) (n - 1)
def ptB (u m n : Int) : Bool := decide (1 ≤ m) && (decide (m ≤ 1048576) && (decide (-m ≤ u) && (decide (u ≤ m) && (decide (1 ≤ n) && decide (n ≤ 4096)))))
theorem ptB_iff {u m n : Int} : ptB u m n = true ↔ 1 ≤ m ∧ m ≤ 1048576 ∧ -m ≤ u ∧ u ≤ m ∧ 1 ≤ n ∧ n ≤ 4096 := by unfold ptB; simp
theorem pt_eq {u m n : Int} (h : ptB u m n = true) : (bif false then if IntKind.i64.wrap (n - 1) > IntKind.i64.wrap ((IntKind.i64.wrap (IntKind.i64.wrap (u + m) * n)).tdiv (IntKind.i64.wrap (2 * m))) then IntKind.i64.wrap (n - 1) else IntKind.i64.wrap ((IntKind.i64.wrap (IntKind.i64.wrap (u + m) * n)).tdiv (IntKind.i64.wrap (2 * m))) else if IntKind.i64.wrap (n - 1) < IntKind.i64.wrap ((IntKind.i64.wrap (IntKind.i64.wrap (u + m) * n)).tdiv (IntKind.i64.wrap (2 * m))) then IntKind.i64.wrap (n - 1) else IntKind.i64.wrap ((IntKind.i64.wrap (IntKind.i64.wrap (u + m) * n)).tdiv (IntKind.i64.wrap (2 * m)))) = ptV u m n ∧ decide (IntKind.i64.wrap (2 * m) = 0) = false := by
  obtain ⟨h1, h2, h3, h4, h5, h6⟩ := ptB_iff.1 h
  have a : IntKind.i64.wrap (2 * m) = 2 * m := v64 (by omega) (by omega)
  have b : IntKind.i64.wrap (u + m) = u + m := v64 (by omega) (by omega)
  have c : IntKind.i64.wrap (n - 1) = n - 1 := v64 (by omega) (by omega)
  have m1 := Int.mul_nonneg (show 0 ≤ u + m by omega) (show 0 ≤ n by omega)
  have m2 : (u + m) * n ≤ 2097152 * 4096 := Int.mul_le_mul (by omega) h6 (by omega) (by omega)
  have d : IntKind.i64.wrap ((u + m) * n) = (u + m) * n := v64 (by omega) (by omega)
  have e : ((u + m) * n).tdiv (2 * m) = (u + m) * n / (2 * m) := Int.tdiv_eq_ediv_of_nonneg m1
  have q1 : 0 ≤ (u + m) * n / (2 * m) := Int.ediv_nonneg m1 (by omega)
  have q2 : (u + m) * n / (2 * m) ≤ (u + m) * n := Int.ediv_le_self _ m1
  rw [a, b, c, d, e, v64 (x := (u + m) * n / (2 * m)) (by omega) (by omega)]
  unfold ptV
  refine ⟨?_, decide_eq_false (by omega)⟩
  simp only [cond_false]
  split <;> omega
def mx3 (v : V3) : Int := max (sz v.x) (max (sz v.y) (sz v.z))
def mA (v : V3) : Int := if mx3 v = sz v.x then 0 else if mx3 v = sz v.y then 1 else 2
theorem i62_in {v : V3} (h : inC v = true) : i62B v.x = true ∧ i62B v.y = true ∧ i62B v.z = true := by
  have h := inC_iff.1 h
  exact ⟨i62B_iff.2 (by omega), i62B_iff.2 (by omega), i62B_iff.2 (by omega)⟩
theorem mx_eq (v : V3) : (bif true then if sz v.z > bif true then if sz v.y > sz v.x then sz v.y else sz v.x else if sz v.y < sz v.x then sz v.y else sz v.x then sz v.z else bif true then if sz v.y > sz v.x then sz v.y else sz v.x else if sz v.y < sz v.x then sz v.y else sz v.x else if sz v.z < bif true then if sz v.y > sz v.x then sz v.y else sz v.x else if sz v.y < sz v.x then sz v.y else sz v.x then sz v.z else bif true then if sz v.y > sz v.x then sz v.y else sz v.x else if sz v.y < sz v.x then sz v.y else sz v.x) = mx3 v := by
  unfold mx3
  simp only [cond_true]
  generalize sz v.x = a
  generalize sz v.y = b
  generalize sz v.z = c
  by_cases h : b > a
  · rw [if_pos h]; split <;> omega
  · rw [if_neg h]; split <;> omega
def r3B (n : Int) : Bool := decide (0 ≤ n) && decide (n ≤ 3)
theorem r3B_iff {n : Int} : r3B n = true ↔ 0 ≤ n ∧ n ≤ 3 := by unfold r3B; simp
/-- The axes renamed. -/
def roV (v : V3) (n : Int) : V3 := if n = 1 then ⟨v.y, v.z, v.x⟩ else if n = 2 then ⟨v.z, v.x, v.y⟩ else v
/-- A place: axis, sign, size, column, row. -/
structure Pc where
  a : Int
  s : Int
  z : Int
  c : Int
  r : Int
abbrev pcV (p : Pc) : Value := .agg #[.int .i64 p.a, .int .i64 p.s, .int .i64 p.z, .int .i64 p.c, .int .i64 p.r]
abbrev pcA (p : Pc) : AV F := .w (.agg [.int .i64 p.a, .int .i64 p.s, .int .i64 p.z, .int .i64 p.c, .int .i64 p.r])
def dPc : Dec F Pc where
  dec := fun x => match x with
    | .w (.agg [.int .i64 a, .int .i64 s, .int .i64 z, .int .i64 c, .int .i64 r]) => some ⟨a, s, z, c, r⟩
    | _ => none
  enc := pcV
  ok := fun x a h => by
    split at h
    · cases h; rfl
    · cases h
def plB (p : Pc) : Bool := decide (0 ≤ p.a) && (decide (p.a ≤ 2) && (decide (-1 ≤ p.s) && (decide (p.s ≤ 1) && (decide (1 ≤ p.z) && (decide (p.z ≤ 4096) && (decide (0 ≤ p.c) && (decide (p.c ≤ 4096) && (decide (0 ≤ p.r) && decide (p.r ≤ 4096)))))))))
theorem plB_iff {p : Pc} : plB p = true ↔ 0 ≤ p.a ∧ p.a ≤ 2 ∧ -1 ≤ p.s ∧ p.s ≤ 1 ∧ 1 ≤ p.z ∧ p.z ≤ 4096 ∧ 0 ≤ p.c ∧ p.c ≤ 4096 ∧ 0 ≤ p.r ∧ p.r ≤ 4096 := by unfold plB; simp
/-- The scalar product. -/
def dtV (v u : V3) : Int := v.x * u.x + v.y * u.y + v.z * u.z
def dtB (v u : V3) : Bool := inC v && (inL u.x 2199023255552 && (inL u.y 2199023255552 && inL u.z 2199023255552))
theorem mul_in {x y a b : Int} (ha : 0 ≤ a) (hb : 0 ≤ b) (h1 : -a ≤ x ∧ x ≤ a) (h2 : -b ≤ y ∧ y ≤ b) : -(a * b) ≤ x * y ∧ x * y ≤ a * b := by
  have m := Int.mul_le_mul (show (x.natAbs : Int) ≤ a by omega) (show (y.natAbs : Int) ≤ b by omega) (by omega) ha
  have e : ((x * y).natAbs : Int) = x.natAbs * y.natAbs := by rw [Int.natAbs_mul]; simp
  omega
theorem dt_eq {v u : V3} (h : dtB v u = true) : IntKind.i64.wrap (IntKind.i64.wrap (IntKind.i64.wrap (v.x * u.x) + IntKind.i64.wrap (v.y * u.y)) + IntKind.i64.wrap (v.z * u.z)) = dtV v u := by
  unfold dtB at h
  simp only [Bool.and_eq_true, inC_iff, inL_iff] at h
  obtain ⟨⟨h1, h2, h3⟩, h4, h5, h6⟩ := h
  have a := mul_in (by omega) (by omega) h1 h4
  have b := mul_in (by omega) (by omega) h2 h5
  have c := mul_in (by omega) (by omega) h3 h6
  unfold dtV
  rw [v64 (x := v.x * u.x) (by omega) (by omega), v64 (x := v.y * u.y) (by omega) (by omega), v64 (x := v.z * u.z) (by omega) (by omega), v64 (x := v.x * u.x + v.y * u.y) (by omega) (by omega), v64 (by omega) (by omega)]
/-- The level of a number. -/
def lvF (t : Int) : Nat → Nat → Option Nat
  | 0, _ => none
  | n + 1, k => if 8 * 4 ^ k ≤ t ∧ t < 14 * 4 ^ k then some k else lvF t n (k + 1)
def lvV (t : Int) : Option Nat := lvF t 13 0
def lvT (t : Int) : Bool := (lvV t).isSome
def lvN (t : Int) : Int := match lvV t with
  | some k => k
  | none => 0
theorem lvF_some {t : Int} : ∀ {n k j : Nat}, lvF t n k = some j → k ≤ j ∧ j < k + n ∧ 8 * 4 ^ j ≤ t ∧ t < 14 * 4 ^ j
  | 0, _, _, h => by cases h
  | n + 1, k, j, h => by
    unfold lvF at h
    by_cases ha : 8 * 4 ^ k ≤ t ∧ t < 14 * 4 ^ k
    · rw [if_pos ha] at h; cases h
      exact ⟨by omega, by omega, ha⟩
    · rw [if_neg ha] at h
      have := lvF_some h
      exact ⟨by omega, by omega, this.2.2⟩
theorem four_mono {j k : Nat} (h : j < k) : (4 : Int) ^ j * 4 ≤ 4 ^ k := by
  obtain ⟨d, rfl⟩ := Nat.exists_eq_add_of_lt h
  rw [show j + d + 1 = j + 1 + d by omega, Int.pow_add, Int.pow_succ]
  have h1 := p4 j
  have h2 := p4 d
  have := Int.mul_le_mul_of_nonneg_left (show 1 ≤ (4 : Int) ^ d by omega) (show 0 ≤ (4 : Int) ^ j * 4 by omega)
  omega
theorem lvF_at {t : Int} {j : Nat} (h : 8 * 4 ^ j ≤ t ∧ t < 14 * 4 ^ j) : ∀ {n k : Nat}, k ≤ j → j < k + n → lvF t n k = some j
  | 0, k, h1, h2 => by omega
  | n + 1, k, h1, h2 => by
    unfold lvF
    by_cases e : k = j
    · subst e; rw [if_pos h]
    · have := four_mono (show k < j by omega)
      have := p4 k
      rw [if_neg (by omega)]
      exact lvF_at h (by omega) (by omega)
theorem lv_at {t : Int} {j : Nat} (h : 8 * 4 ^ j ≤ t ∧ t < 14 * 4 ^ j) (hj : j ≤ 12) : lvT t = true ∧ lvN t = j := by
  have e : lvV t = some j := lvF_at h (by omega) (by omega)
  unfold lvT lvN
  rw [e]; exact ⟨rfl, rfl⟩
theorem lv_some {t : Int} (h : lvT t = true) : ∃ j : Nat, j ≤ 12 ∧ lvN t = j ∧ 8 * 4 ^ j ≤ t ∧ t < 14 * 4 ^ j := by
  unfold lvT at h
  cases e : lvV t with
  | none => rw [e] at h; cases h
  | some j =>
    have := lvF_some e
    refine ⟨j, by omega, ?_, this.2.2⟩
    unfold lvN; rw [e]
theorem po_eq {t l c r : Int} (ok : 0 ≤ l ∧ l ≤ 12 ∧ 0 ≤ t ∧ (0 ≤ c ∧ (c + 1) * 2 ^ l.toNat ≤ 4096) ∧ 0 ≤ r ∧ (r + 1) * 2 ^ l.toNat ≤ 4096) (hk : l > 0) :
    IntKind.i64.wrap (l - 1) = l - 1 ∧ (t.fdiv (2 ^ min (IntKind.i64.wrap (2 * (l - 1))).toNat IntKind.i64.bits)).tmod 4 = t / 4 ^ (l - 1).toNat % 4 ∧
    IntKind.i64.wrap (IntKind.i64.wrap (2 * c) + (t / 4 ^ (l - 1).toNat % 4).tmod 2) = 2 * c + t / 4 ^ (l - 1).toNat % 4 % 2 ∧ IntKind.i64.wrap (IntKind.i64.wrap (2 * r) + IntKind.i64.wrap ((t / 4 ^ (l - 1).toNat % 4).tdiv 2)) = 2 * r + t / 4 ^ (l - 1).toNat % 4 / 2 ∧ decide (IntKind.i64.wrap (2 * (l - 1)) < 0) = false := by
  obtain ⟨h1, h2, h3, ⟨h4, h5⟩, h6, h7⟩ := ok
  have p := p2 l.toNat
  have c1 : c + 1 ≤ (c + 1) * 2 ^ l.toNat := by
    have := Int.mul_le_mul_of_nonneg_left (show 1 ≤ (2 : Int) ^ l.toNat by omega) (show 0 ≤ c + 1 by omega)
    omega
  have r1 : r + 1 ≤ (r + 1) * 2 ^ l.toNat := by
    have := Int.mul_le_mul_of_nonneg_left (show 1 ≤ (2 : Int) ^ l.toNat by omega) (show 0 ≤ r + 1 by omega)
    omega
  obtain ⟨d1, d2⟩ := sh_div t (show lvB (l - 1) = true from lvB_iff.2 (by omega))
  have q : 0 ≤ t / 4 ^ (l - 1).toNat := Int.ediv_nonneg h3 (Int.le_of_lt (p4 _))
  generalize ht : t / 4 ^ (l - 1).toNat = x at *
  have g1 : x.tmod 4 = x % 4 := Int.tmod_eq_emod_of_nonneg q
  have g2 : (x % 4).tmod 2 = x % 4 % 2 := Int.tmod_eq_emod_of_nonneg (by omega)
  have g3 : (x % 4).tdiv 2 = x % 4 / 2 := Int.tdiv_eq_ediv_of_nonneg (by omega)
  refine ⟨v64 (by omega) (by omega), by rw [d1, g1], ?_, ?_, d2⟩
  · rw [g2, v64 (x := 2 * c) (by omega) (by omega), v64 (by omega) (by omega)]
  · rw [g3, v64 (x := 2 * r) (by omega) (by omega), v64 (x := x % 4 / 2) (by omega) (by omega), v64 (by omega) (by omega)]
def nuB (t h c r : Int) : Bool := (decide (0 ≤ t) && decide (t ≤ 255)) && ((decide (0 ≤ h) && decide (h ≤ 4096)) && ((decide (0 ≤ c) && decide (c ≤ 4096)) && (decide (0 ≤ r) && decide (r ≤ 4096))))
theorem nuB_iff {t h c r : Int} : nuB t h c r = true ↔ (0 ≤ t ∧ t ≤ 255) ∧ (0 ≤ h ∧ h ≤ 4096) ∧ (0 ≤ c ∧ c ≤ 4096) ∧ 0 ≤ r ∧ r ≤ 4096 := by unfold nuB; simp
theorem nu_eq {t h c r : Int} (ok : 0 ≤ h ∧ h ≤ 4096 ∧ (0 ≤ t ∧ t ≤ 1152921504606846976) ∧ (0 ≤ c ∧ c ≤ 4096) ∧ 0 ≤ r ∧ r ≤ 4096) (hk : h > 0) :
    IntKind.i64.wrap (r.tdiv h) = r / h ∧ IntKind.i64.wrap (c.tdiv h) = c / h ∧ (r / h).tmod 2 = r / h % 2 ∧ (c / h).tmod 2 = c / h % 2 ∧
    IntKind.i64.wrap (IntKind.i64.wrap (r / h % 2 * 2) + c / h % 2) = r / h % 2 * 2 + c / h % 2 ∧ IntKind.i64.wrap (IntKind.i64.wrap (4 * t) + (r / h % 2 * 2 + c / h % 2)) = 4 * t + (r / h % 2 * 2 + c / h % 2) ∧ IntKind.i64.wrap (h.tdiv 2) = h / 2 ∧ True := by
  obtain ⟨h1, h2, ⟨h3, h4⟩, ⟨h5, h6⟩, h7, h8⟩ := ok
  have a := Int.ediv_nonneg h7 h1
  have b := Int.ediv_nonneg h5 h1
  have a2 := Int.ediv_le_self h h7
  have b2 := Int.ediv_le_self h h5
  have e1 : r.tdiv h = r / h := Int.tdiv_eq_ediv_of_nonneg h7
  have e2 : c.tdiv h = c / h := Int.tdiv_eq_ediv_of_nonneg h5
  have e3 : h.tdiv 2 = h / 2 := Int.tdiv_eq_ediv_of_nonneg h1
  rw [e1, e2, e3]
  generalize r / h = x at *
  generalize c / h = y at *
  have g1 : x.tmod 2 = x % 2 := Int.tmod_eq_emod_of_nonneg a
  have g2 : y.tmod 2 = y % 2 := Int.tmod_eq_emod_of_nonneg b
  refine ⟨v64 (by omega) (by omega), v64 (by omega) (by omega), g1, g2, ?_, ?_, v64 (by omega) (by omega), trivial⟩
  · rw [v64 (x := x % 2 * 2) (by omega) (by omega), v64 (by omega) (by omega)]
  · rw [v64 (x := 4 * t) (by omega) (by omega), v64 (by omega) (by omega)]
noncomputable section

set_option maxRecDepth 100000 in
theorem isl_1 (k : Int) : evR (ctxOf Try.prog noFacts (fun _ => false) []) Try.f24 [(.w (.one (.int .i64 k)))] [true] = some (AV.w (AW.one (AC.bool (decide (k ≤ 12)))), (pickL [(decide (0 ≤ k), true)] [0, 0, 0])) := by kernel_rfl
set_option maxRecDepth 100000 in
theorem isl_0 (k : Int) : evR (ctxOf Try.prog noFacts (fun _ => false) []) Try.f24 [(.w (.one (.int .i64 k)))] [false] = some (AV.w (AW.one (AC.yes false)), (pickL [(decide (0 ≤ k), false)] [0, 0, 0])) := by kernel_rfl
set_option maxRecDepth 100000 in
theorem nmb_ (k : Int) : evR (ctxOf Try.prog noFacts (fun _ => false) []) Try.f30 [(.w (.one (.int .i64 k)))] [] = some (AV.tup [AW.one (AC.int IntKind.i64 (IntKind.i64.wrap (8 * 2 ^ min (IntKind.i64.wrap (2 * k)).toNat IntKind.i64.bits))), AW.one (AC.int IntKind.i64 (IntKind.i64.wrap (14 * 2 ^ min (IntKind.i64.wrap (2 * k)).toNat IntKind.i64.bits)))], (pickL [(decide (IntKind.i64.wrap (2 * k) < 0), false)] [0, 0])) := by kernel_rfl
set_option maxRecDepth 100000 in
theorem siz_ (n : Int) : evR (ctxOf Try.prog noFacts (fun _ => false) []) Try.f28 [(.w (.one (.int .i64 n)))] [] = some (AV.w (AW.one (AC.int IntKind.i64 (bif true then if IntKind.i64.wrap (0 - n) > n then IntKind.i64.wrap (0 - n) else n else if IntKind.i64.wrap (0 - n) < n then IntKind.i64.wrap (0 - n) else n))), (pickL [] [])) := by kernel_rfl
set_option maxRecDepth 100000 in
theorem prt_ (u : Int) (m : Int) (n : Int) : evR (ctxOf Try.prog noFacts (fun _ => false) []) Try.f27 [(.w (.one (.int .i64 u))), (.w (.one (.int .i64 m))), (.w (.one (.int .i64 n)))] [] = some (AV.w (AW.one (AC.int IntKind.i64 (bif false then if IntKind.i64.wrap (n - 1) > IntKind.i64.wrap ((IntKind.i64.wrap (IntKind.i64.wrap (u + m) * n)).tdiv (IntKind.i64.wrap (2 * m))) then IntKind.i64.wrap (n - 1) else IntKind.i64.wrap ((IntKind.i64.wrap (IntKind.i64.wrap (u + m) * n)).tdiv (IntKind.i64.wrap (2 * m))) else if IntKind.i64.wrap (n - 1) < IntKind.i64.wrap ((IntKind.i64.wrap (IntKind.i64.wrap (u + m) * n)).tdiv (IntKind.i64.wrap (2 * m))) then IntKind.i64.wrap (n - 1) else IntKind.i64.wrap ((IntKind.i64.wrap (IntKind.i64.wrap (u + m) * n)).tdiv (IntKind.i64.wrap (2 * m)))))), (pickL [(decide (IntKind.i64.wrap (2 * m) = 0), false)] [0])) := by kernel_rfl
set_option maxRecDepth 100000 in
theorem rot_1110 (v : V3) (n : Int) : evR (ctxOf Try.prog noFacts (fun _ => false) []) Try.f26 [(v3A v), (.w (.one (.int .i64 n)))] [true, true, true, false] = some (AV.w (AW.agg [AC.int IntKind.i64 v.x, AC.int IntKind.i64 v.y, AC.int IntKind.i64 v.z]), (pickL [(decide (0 < n), true), (decide (IntKind.i64.wrap (0 + 1) < n), true), (decide (IntKind.i64.wrap (IntKind.i64.wrap (0 + 1) + 1) < n), true), (decide (IntKind.i64.wrap (IntKind.i64.wrap (IntKind.i64.wrap (0 + 1) + 1) + 1) < n), false)] [0, 1, 2, 3])) := by kernel_rfl
set_option maxRecDepth 100000 in
theorem rot_110 (v : V3) (n : Int) : evR (ctxOf Try.prog noFacts (fun _ => false) []) Try.f26 [(v3A v), (.w (.one (.int .i64 n)))] [true, true, false] = some (AV.w (AW.agg [AC.int IntKind.i64 v.z, AC.int IntKind.i64 v.x, AC.int IntKind.i64 v.y]), (pickL [(decide (0 < n), true), (decide (IntKind.i64.wrap (0 + 1) < n), true), (decide (IntKind.i64.wrap (IntKind.i64.wrap (0 + 1) + 1) < n), false)] [0, 1, 2])) := by kernel_rfl
set_option maxRecDepth 100000 in
theorem rot_10 (v : V3) (n : Int) : evR (ctxOf Try.prog noFacts (fun _ => false) []) Try.f26 [(v3A v), (.w (.one (.int .i64 n)))] [true, false] = some (AV.w (AW.agg [AC.int IntKind.i64 v.y, AC.int IntKind.i64 v.z, AC.int IntKind.i64 v.x]), (pickL [(decide (0 < n), true), (decide (IntKind.i64.wrap (0 + 1) < n), false)] [0, 1])) := by kernel_rfl
set_option maxRecDepth 100000 in
theorem rot_0 (v : V3) (n : Int) : evR (ctxOf Try.prog noFacts (fun _ => false) []) Try.f26 [(v3A v), (.w (.one (.int .i64 n)))] [false] = some (AV.w (AW.agg [AC.int IntKind.i64 v.x, AC.int IntKind.i64 v.y, AC.int IntKind.i64 v.z]), (pickL [(decide (0 < n), false)] [0])) := by kernel_rfl
set_option maxRecDepth 100000 in
theorem edg_ (a : Int) (s : Int) (z : Int) (c : Int) (r : Int) : evR (ctxOf Try.prog noFacts (fun _ => false) []) Try.f35 [(.w (.agg [.int .i64 a, .int .i64 s, .int .i64 z, .int .i64 c, .int .i64 r]))] [] = some (AV.tup [AW.one (AC.int IntKind.i64 (IntKind.i64.wrap (IntKind.i64.wrap (2 * c) - z))), AW.one (AC.int IntKind.i64 (IntKind.i64.wrap (IntKind.i64.wrap (IntKind.i64.wrap (2 * c) - z) + 2))), AW.one (AC.int IntKind.i64 (IntKind.i64.wrap (IntKind.i64.wrap (2 * r) - z))), AW.one (AC.int IntKind.i64 (IntKind.i64.wrap (IntKind.i64.wrap (IntKind.i64.wrap (2 * r) - z) + 2)))], (pickL [] [])) := by kernel_rfl
set_option maxRecDepth 100000 in
theorem dot_ (v : V3) (u : V3) : evR (ctxOf Try.prog noFacts (fun _ => false) []) Try.f43 [(v3A v), (v3A u)] [] = some (AV.w (AW.one (AC.int IntKind.i64 (IntKind.i64.wrap (IntKind.i64.wrap (IntKind.i64.wrap (v.x * u.x) + IntKind.i64.wrap (v.y * u.y)) + IntKind.i64.wrap (v.z * u.z))))), (pickL [] [])) := by kernel_rfl
set_option maxRecDepth 100000 in
theorem po_1 (q : Int) (l : Int) (a : Int) (s : Int) (z : Int) (c : Int) (r : Int) (rest : List (Nat × AV Empty)) : evView (ctxOf Try.prog noFacts (fun _ => false) []) 55 (false :: [false, false, true, true, true, true, true]) (loopAt (bodyOf Try.f32) [false, false, true, true, true, true, true]) ([(0, .w (.one (.int .i64 q))), (4, .w (.one (.int .i64 l)))] ++ (ptrN 0 [7] ++ rest)) [⟨59, [.int .i64 a, .int .i64 s, .int .i64 z, .int .i64 c, .int .i64 r]⟩] 1 [0, 4, 7] [true] = some ((Ex.normal, [AV.w (AW.one (AC.int IntKind.i64 q)), AV.w (AW.one (AC.int IntKind.i64 (IntKind.i64.wrap (l - 1)))), AV.w (AW.one (AC.ptr 0 0))], [{ ty := 59, cs := [AC.int IntKind.i64 a, AC.int IntKind.i64 s, AC.int IntKind.i64 z, AC.int IntKind.i64 (IntKind.i64.wrap (IntKind.i64.wrap (2 * c) + ((q.fdiv (2 ^ min (IntKind.i64.wrap (2 * IntKind.i64.wrap (l - 1))).toNat IntKind.i64.bits)).tmod 4).tmod 2)), AC.int IntKind.i64 (IntKind.i64.wrap (IntKind.i64.wrap (2 * r) + IntKind.i64.wrap (((q.fdiv (2 ^ min (IntKind.i64.wrap (2 * IntKind.i64.wrap (l - 1))).toNat IntKind.i64.bits)).tmod 4).tdiv 2)))] }]), (pickL [(decide (l > 0), true), (decide (IntKind.i64.wrap (2 * IntKind.i64.wrap (l - 1)) < 0), false), (decide ((4 : Int) = 0), false), (decide ((2 : Int) = 0), false)] [0, 1, 2, 3, 3])) := by kernel_rfl
set_option maxRecDepth 100000 in
theorem po_0 (q : Int) (l : Int) (a : Int) (s : Int) (z : Int) (c : Int) (r : Int) (rest : List (Nat × AV Empty)) : evView (ctxOf Try.prog noFacts (fun _ => false) []) 55 (false :: [false, false, true, true, true, true, true]) (loopAt (bodyOf Try.f32) [false, false, true, true, true, true, true]) ([(0, .w (.one (.int .i64 q))), (4, .w (.one (.int .i64 l)))] ++ (ptrN 0 [7] ++ rest)) [⟨59, [.int .i64 a, .int .i64 s, .int .i64 z, .int .i64 c, .int .i64 r]⟩] 1 [0, 4, 7] [false] = some ((Ex.exit 0, [AV.w (AW.one (AC.int IntKind.i64 q)), AV.w (AW.one (AC.int IntKind.i64 l)), AV.w (AW.one (AC.ptr 0 0))], [{ ty := 59, cs := [AC.int IntKind.i64 a, AC.int IntKind.i64 s, AC.int IntKind.i64 z, AC.int IntKind.i64 c, AC.int IntKind.i64 r] }]), (pickL [(decide (l > 0), false)] [0])) := by kernel_rfl
set_option maxRecDepth 100000 in
theorem nu_1 (q : Int) (g : Int) (a : Int) (s : Int) (z : Int) (c : Int) (r : Int) (rest : List (Nat × AV Empty)) : evView (ctxOf Try.prog noFacts (fun _ => false) []) 37 (false :: [false, true, false, true, true, true]) (loopAt (bodyOf Try.f29) [false, true, false, true, true, true]) ([(3, .w (.one (.int .i64 q))), (4, .w (.one (.int .i64 g)))] ++ (ptrN 0 [1] ++ rest)) [⟨59, [.int .i64 a, .int .i64 s, .int .i64 z, .int .i64 c, .int .i64 r]⟩] 1 [3, 4, 1] [true] = some ((Ex.normal, [AV.w (AW.one (AC.int IntKind.i64 (IntKind.i64.wrap (IntKind.i64.wrap (4 * q) + IntKind.i64.wrap (IntKind.i64.wrap ((IntKind.i64.wrap (r.tdiv g)).tmod 2 * 2) + (IntKind.i64.wrap (c.tdiv g)).tmod 2))))), AV.w (AW.one (AC.int IntKind.i64 (IntKind.i64.wrap (g.tdiv 2)))), AV.w (AW.one (AC.ptr 0 0))], [{ ty := 59, cs := [AC.int IntKind.i64 a, AC.int IntKind.i64 s, AC.int IntKind.i64 z, AC.int IntKind.i64 c, AC.int IntKind.i64 r] }]), (pickL [(decide (g > 0), true), (decide (g = 0), false), (decide ((2 : Int) = 0), false)] [0, 1, 2, 1, 2, 2])) := by kernel_rfl
set_option maxRecDepth 100000 in
theorem nu_0 (q : Int) (g : Int) (a : Int) (s : Int) (z : Int) (c : Int) (r : Int) (rest : List (Nat × AV Empty)) : evView (ctxOf Try.prog noFacts (fun _ => false) []) 37 (false :: [false, true, false, true, true, true]) (loopAt (bodyOf Try.f29) [false, true, false, true, true, true]) ([(3, .w (.one (.int .i64 q))), (4, .w (.one (.int .i64 g)))] ++ (ptrN 0 [1] ++ rest)) [⟨59, [.int .i64 a, .int .i64 s, .int .i64 z, .int .i64 c, .int .i64 r]⟩] 1 [3, 4, 1] [false] = some ((Ex.exit 0, [AV.w (AW.one (AC.int IntKind.i64 q)), AV.w (AW.one (AC.int IntKind.i64 g)), AV.w (AW.one (AC.ptr 0 0))], [{ ty := 59, cs := [AC.int IntKind.i64 a, AC.int IntKind.i64 s, AC.int IntKind.i64 z, AC.int IntKind.i64 c, AC.int IntKind.i64 r] }]), (pickL [(decide (g > 0), false)] [0])) := by kernel_rfl
theorem isl_pl (k : Int)  : Pl Try.prog 24 [.int .i64 k] (.bool (lvB k)) := fun w => by
  by_cases h : 0 ≤ k
  · have k0 : decide (0 ≤ k) = true := decide_eq_true h
    have V : lvB k = decide (k ≤ 12) := by unfold lvB; rw [k0]; rfl
    rw [V]
    refine evR_calls (I := noFacts) (v := .bool (decide (k ≤ 12))) (ctxOf_ok (lib1_nil _ _) (eq_none _)) (by kernel_rfl) Try.func24 rfl lps_nil (isl_1 k) rfl (all2_R (.cons rfl .nil)) rfl w (Nat.zero_le _) (pickL_ok ?_ _)
    repeat' (first | exact cd_nil | refine cd_cons ?_ ?_)
    all_goals first | rfl | with_reducible assumption

  · have k0 : decide (0 ≤ k) = false := decide_eq_false h
    have V : lvB k = false := by unfold lvB; rw [k0]; rfl
    rw [V]
    refine evR_calls (I := noFacts) (v := .bool false) (ctxOf_ok (lib1_nil _ _) (eq_none _)) (by kernel_rfl) Try.func24 rfl lps_nil (isl_0 k) rfl (all2_R (.cons rfl .nil)) rfl w (Nat.zero_le _) (pickL_ok ?_ _)
    repeat' (first | exact cd_nil | refine cd_cons ?_ ?_)
    all_goals first | rfl | with_reducible assumption

theorem nmb_pl (k : Int) (hk : lvB k = true) : Pl Try.prog 30 [.int .i64 k] (.tuple #[.int .i64 (8 * 4 ^ k.toNat), .int .i64 (14 * 4 ^ k.toNat)]) := fun w => by
  obtain ⟨e1, e2, e3⟩ := sh_lv hk
  have L := nmb_ k
  rw [e1, e2] at L
  refine evR_calls (I := noFacts) (v := .tuple #[.int .i64 (8 * 4 ^ k.toNat), .int .i64 (14 * 4 ^ k.toNat)]) (ctxOf_ok (lib1_nil _ _) (eq_none _)) (by kernel_rfl) Try.func30 rfl lps_nil L rfl (all2_R (.cons rfl .nil)) rfl w (Nat.zero_le _) (pickL_ok ?_ _)
  repeat' (first | exact cd_nil | refine cd_cons ?_ ?_)
  all_goals first | rfl | with_reducible assumption

theorem siz_pl (n : Int) (hn : i62B n = true) : Pl Try.prog 28 [.int .i64 n] (.int .i64 (sz n)) := fun w => by
  have e : (bif true then if IntKind.i64.wrap (0 - n) > n then IntKind.i64.wrap (0 - n) else n else if IntKind.i64.wrap (0 - n) < n then IntKind.i64.wrap (0 - n) else n) = sz n := by
    have hn := i62B_iff.1 hn
    rw [v64 (by omega) (by omega)]
    unfold sz
    simp only [cond_true]
    split <;> split <;> omega
  have L := siz_ n
  rw [e] at L
  refine evR_calls (I := noFacts) (v := .int .i64 (sz n)) (ctxOf_ok (lib1_nil _ _) (eq_none _)) (by kernel_rfl) Try.func28 rfl lps_nil L rfl (all2_R (.cons rfl .nil)) rfl w (Nat.zero_le _) (pickL_ok ?_ _)
  repeat' (first | exact cd_nil | refine cd_cons ?_ ?_)
  all_goals first | rfl | with_reducible assumption

theorem szS_ok (I : Interp F) : szS.ok Try.prog I 28 := sp1_ok fun n hc => ⟨_, rfl, siz_pl n (c1' hc)⟩
theorem nmS_ok (I : Interp F) : nmS.ok Try.prog I 30 := sp1_ok fun n hc => ⟨_, rfl, nmb_pl n (c1' hc)⟩
noncomputable abbrev libT0 : List (Nat × FnSp Empty) := [(28, szS)]
theorem libT0_ok : LibOk Try.prog noFacts (lib1 libT0) := lib1_cons (szS_ok _) Try.call28 (lib1_nil _ _)
noncomputable abbrev libT1 : List (Nat × FnSp Empty) := [(30, nmS)]
theorem libT1_ok : LibOk Try.prog noFacts (lib1 libT1) := lib1_cons (nmS_ok _) Try.call30 (lib1_nil _ _)
set_option maxRecDepth 100000 in
theorem max_1 (v : V3) : evR (ctxOf Try.prog noFacts (fun _ => false) libT0) Try.f25 [(v3A v)] [true] = some (AV.w (AW.one (AC.int IntKind.i64 0)), (pickL [(i62B v.x, true), (i62B v.y, true), (i62B v.z, true), ((bif true then if sz v.z > bif true then if sz v.y > sz v.x then sz v.y else sz v.x else if sz v.y < sz v.x then sz v.y else sz v.x then sz v.z else bif true then if sz v.y > sz v.x then sz v.y else sz v.x else if sz v.y < sz v.x then sz v.y else sz v.x else if sz v.z < bif true then if sz v.y > sz v.x then sz v.y else sz v.x else if sz v.y < sz v.x then sz v.y else sz v.x then sz v.z else bif true then if sz v.y > sz v.x then sz v.y else sz v.x else if sz v.y < sz v.x then sz v.y else sz v.x) == sz v.x, true)] [0, 1, 2, 3])) := by kernel_rfl
set_option maxRecDepth 100000 in
theorem max_01 (v : V3) : evR (ctxOf Try.prog noFacts (fun _ => false) libT0) Try.f25 [(v3A v)] [false, true] = some (AV.w (AW.one (AC.int IntKind.i64 1)), (pickL [(i62B v.x, true), (i62B v.y, true), (i62B v.z, true), ((bif true then if sz v.z > bif true then if sz v.y > sz v.x then sz v.y else sz v.x else if sz v.y < sz v.x then sz v.y else sz v.x then sz v.z else bif true then if sz v.y > sz v.x then sz v.y else sz v.x else if sz v.y < sz v.x then sz v.y else sz v.x else if sz v.z < bif true then if sz v.y > sz v.x then sz v.y else sz v.x else if sz v.y < sz v.x then sz v.y else sz v.x then sz v.z else bif true then if sz v.y > sz v.x then sz v.y else sz v.x else if sz v.y < sz v.x then sz v.y else sz v.x) == sz v.x, false), ((bif true then if sz v.z > bif true then if sz v.y > sz v.x then sz v.y else sz v.x else if sz v.y < sz v.x then sz v.y else sz v.x then sz v.z else bif true then if sz v.y > sz v.x then sz v.y else sz v.x else if sz v.y < sz v.x then sz v.y else sz v.x else if sz v.z < bif true then if sz v.y > sz v.x then sz v.y else sz v.x else if sz v.y < sz v.x then sz v.y else sz v.x then sz v.z else bif true then if sz v.y > sz v.x then sz v.y else sz v.x else if sz v.y < sz v.x then sz v.y else sz v.x) == sz v.y, true)] [0, 1, 2, 3, 4])) := by kernel_rfl
set_option maxRecDepth 100000 in
theorem max_00 (v : V3) : evR (ctxOf Try.prog noFacts (fun _ => false) libT0) Try.f25 [(v3A v)] [false, false] = some (AV.w (AW.one (AC.int IntKind.i64 2)), (pickL [(i62B v.x, true), (i62B v.y, true), (i62B v.z, true), ((bif true then if sz v.z > bif true then if sz v.y > sz v.x then sz v.y else sz v.x else if sz v.y < sz v.x then sz v.y else sz v.x then sz v.z else bif true then if sz v.y > sz v.x then sz v.y else sz v.x else if sz v.y < sz v.x then sz v.y else sz v.x else if sz v.z < bif true then if sz v.y > sz v.x then sz v.y else sz v.x else if sz v.y < sz v.x then sz v.y else sz v.x then sz v.z else bif true then if sz v.y > sz v.x then sz v.y else sz v.x else if sz v.y < sz v.x then sz v.y else sz v.x) == sz v.x, false), ((bif true then if sz v.z > bif true then if sz v.y > sz v.x then sz v.y else sz v.x else if sz v.y < sz v.x then sz v.y else sz v.x then sz v.z else bif true then if sz v.y > sz v.x then sz v.y else sz v.x else if sz v.y < sz v.x then sz v.y else sz v.x else if sz v.z < bif true then if sz v.y > sz v.x then sz v.y else sz v.x else if sz v.y < sz v.x then sz v.y else sz v.x then sz v.z else bif true then if sz v.y > sz v.x then sz v.y else sz v.x else if sz v.y < sz v.x then sz v.y else sz v.x) == sz v.y, false)] [0, 1, 2, 3, 4])) := by kernel_rfl
set_option maxRecDepth 100000 in
theorem lq_111 (q : Int) (k : Int) (rest : List (Nat × AV Empty)) : evView (ctxOf Try.prog noFacts (fun _ => false) libT1) 25 (false :: [false, true, false, true]) (loopAt (bodyOf Try.f9) [false, true, false, true]) ([(0, .w (.one (.int .i64 q))), (7, .w (.one (.int .i64 k)))] ++ (ptrN 0 [] ++ rest)) [] 0 [0, 7] [true, true, true] = some ((Ex.ret, [AV.w (AW.one (AC.int IntKind.i64 q)), AV.w (AW.one (AC.int IntKind.i64 k))], []), (pickL [(decide (k < 13), true), (lvB k, true), (decide (8 * 4 ^ k.toNat ≤ q), true), (decide (q < 14 * 4 ^ k.toNat), true)] [0, 1, 2, 2, 2, 2, 3])) := by kernel_rfl
set_option maxRecDepth 100000 in
theorem lq_110 (q : Int) (k : Int) (rest : List (Nat × AV Empty)) : evView (ctxOf Try.prog noFacts (fun _ => false) libT1) 25 (false :: [false, true, false, true]) (loopAt (bodyOf Try.f9) [false, true, false, true]) ([(0, .w (.one (.int .i64 q))), (7, .w (.one (.int .i64 k)))] ++ (ptrN 0 [] ++ rest)) [] 0 [0, 7] [true, true, false] = some ((Ex.normal, [AV.w (AW.one (AC.int IntKind.i64 q)), AV.w (AW.one (AC.int IntKind.i64 (IntKind.i64.wrap (k + 1))))], []), (pickL [(decide (k < 13), true), (lvB k, true), (decide (8 * 4 ^ k.toNat ≤ q), true), (decide (q < 14 * 4 ^ k.toNat), false)] [0, 1, 2, 2, 2, 2, 3])) := by kernel_rfl
set_option maxRecDepth 100000 in
theorem lq_10 (q : Int) (k : Int) (rest : List (Nat × AV Empty)) : evView (ctxOf Try.prog noFacts (fun _ => false) libT1) 25 (false :: [false, true, false, true]) (loopAt (bodyOf Try.f9) [false, true, false, true]) ([(0, .w (.one (.int .i64 q))), (7, .w (.one (.int .i64 k)))] ++ (ptrN 0 [] ++ rest)) [] 0 [0, 7] [true, false] = some ((Ex.normal, [AV.w (AW.one (AC.int IntKind.i64 q)), AV.w (AW.one (AC.int IntKind.i64 (IntKind.i64.wrap (k + 1))))], []), (pickL [(decide (k < 13), true), (lvB k, true), (decide (8 * 4 ^ k.toNat ≤ q), false), (false, false)] [0, 1, 2, 2, 2, 2, 3])) := by kernel_rfl
set_option maxRecDepth 100000 in
theorem lq_0 (q : Int) (k : Int) (rest : List (Nat × AV Empty)) : evView (ctxOf Try.prog noFacts (fun _ => false) libT1) 25 (false :: [false, true, false, true]) (loopAt (bodyOf Try.f9) [false, true, false, true]) ([(0, .w (.one (.int .i64 q))), (7, .w (.one (.int .i64 k)))] ++ (ptrN 0 [] ++ rest)) [] 0 [0, 7] [false] = some ((Ex.exit 0, [AV.w (AW.one (AC.int IntKind.i64 q)), AV.w (AW.one (AC.int IntKind.i64 k))], []), (pickL [(decide (k < 13), false)] [0])) := by kernel_rfl
set_option maxRecDepth 100000 in
theorem lqr_111 (q : Int) (k : Int) (rest : List (Nat × AV Empty)) : evView (ctxOf Try.prog noFacts (fun _ => false) libT1) 25 (false :: [false, true, false, true]) (loopAt (bodyOf Try.f9) [false, true, false, true]) ([(0, .w (.one (.int .i64 q))), (7, .w (.one (.int .i64 k)))] ++ (ptrN 0 [] ++ rest)) [] 0 [2, 3] [true, true, true] = some ((Ex.ret, [AV.w (AW.one (AC.int IntKind.i64 k)), AV.w (AW.one (AC.yes true))], []), (pickL [(decide (k < 13), true), (lvB k, true), (decide (8 * 4 ^ k.toNat ≤ q), true), (decide (q < 14 * 4 ^ k.toNat), true)] [0, 1, 2, 2, 2, 2, 3])) := by kernel_rfl
theorem prt_pl (u : Int) (m : Int) (n : Int) (h : ptB u m n = true) : Pl Try.prog 27 [.int .i64 u, .int .i64 m, .int .i64 n] (.int .i64 (ptV u m n)) := fun w => by
  obtain ⟨e, d⟩ := pt_eq h
  have e : (bif false then if IntKind.i64.wrap (n - 1) > IntKind.i64.wrap ((IntKind.i64.wrap (IntKind.i64.wrap (u + m) * n)).tdiv (IntKind.i64.wrap (2 * m))) then IntKind.i64.wrap (n - 1) else IntKind.i64.wrap ((IntKind.i64.wrap (IntKind.i64.wrap (u + m) * n)).tdiv (IntKind.i64.wrap (2 * m))) else if IntKind.i64.wrap (n - 1) < IntKind.i64.wrap ((IntKind.i64.wrap (IntKind.i64.wrap (u + m) * n)).tdiv (IntKind.i64.wrap (2 * m))) then IntKind.i64.wrap (n - 1) else IntKind.i64.wrap ((IntKind.i64.wrap (IntKind.i64.wrap (u + m) * n)).tdiv (IntKind.i64.wrap (2 * m)))) = ptV u m n := e
  have L := prt_ u m n
  rw [e] at L
  refine evR_calls (I := noFacts) (v := .int .i64 (ptV u m n)) (ctxOf_ok (lib1_nil _ _) (eq_none _)) (by kernel_rfl) Try.func27 rfl lps_nil L rfl (all2_R (.cons rfl (.cons rfl (.cons rfl .nil)))) rfl w (Nat.zero_le _) (pickL_ok ?_ _)
  repeat' (first | exact cd_nil | refine cd_cons ?_ ?_)
  all_goals first | rfl | with_reducible assumption

theorem max_pl (v : V3) (hv : inC v = true) : Pl Try.prog 25 [v3V v] (.int .i64 (mA v)) := fun w => by
  obtain ⟨h1, h2, h3⟩ := i62_in hv
  have e : (bif true then if sz v.z > bif true then if sz v.y > sz v.x then sz v.y else sz v.x else if sz v.y < sz v.x then sz v.y else sz v.x then sz v.z else bif true then if sz v.y > sz v.x then sz v.y else sz v.x else if sz v.y < sz v.x then sz v.y else sz v.x else if sz v.z < bif true then if sz v.y > sz v.x then sz v.y else sz v.x else if sz v.y < sz v.x then sz v.y else sz v.x then sz v.z else bif true then if sz v.y > sz v.x then sz v.y else sz v.x else if sz v.y < sz v.x then sz v.y else sz v.x) = mx3 v := mx_eq v
  by_cases a : mx3 v = sz v.x
  · have V : mA v = 0 := by unfold mA; rw [if_pos a]
    rw [V]
    have k0 : (mx3 v == sz v.x) = true := by simpa using a
    have L := max_1 v
    rw [e] at L
    refine evR_calls (I := noFacts) (v := .int .i64 0) (ctxOf_ok libT0_ok (eq_none _)) (by kernel_rfl) Try.func25 rfl lps_nil L rfl (all2_R (.cons rfl .nil)) rfl w (Nat.zero_le _) (pickL_ok ?_ _)
    repeat' (first | exact cd_nil | refine cd_cons ?_ ?_)
    all_goals first | rfl | with_reducible assumption
  · have k0 : (mx3 v == sz v.x) = false := by simpa using a
    by_cases b : mx3 v = sz v.y
    · have V : mA v = 1 := by unfold mA; rw [if_neg a, if_pos b]
      rw [V]
      have k1 : (mx3 v == sz v.y) = true := by simpa using b
      have L := max_01 v
      rw [e] at L
      refine evR_calls (I := noFacts) (v := .int .i64 1) (ctxOf_ok libT0_ok (eq_none _)) (by kernel_rfl) Try.func25 rfl lps_nil L rfl (all2_R (.cons rfl .nil)) rfl w (Nat.zero_le _) (pickL_ok ?_ _)
      repeat' (first | exact cd_nil | refine cd_cons ?_ ?_)
      all_goals first | rfl | with_reducible assumption
    · have V : mA v = 2 := by unfold mA; rw [if_neg a, if_neg b]
      rw [V]
      have k1 : (mx3 v == sz v.y) = false := by simpa using b
      have L := max_00 v
      rw [e] at L
      refine evR_calls (I := noFacts) (v := .int .i64 2) (ctxOf_ok libT0_ok (eq_none _)) (by kernel_rfl) Try.func25 rfl lps_nil L rfl (all2_R (.cons rfl .nil)) rfl w (Nat.zero_le _) (pickL_ok ?_ _)
      repeat' (first | exact cd_nil | refine cd_cons ?_ ?_)
      all_goals first | rfl | with_reducible assumption

theorem rot_pl (v : V3) (n : Int) (hn : r3B n = true) : Pl Try.prog 26 [v3V v, .int .i64 n] (v3V (roV v n)) := fun w => by
  have w1 : IntKind.i64.wrap (0 + 1) = 1 := rfl
  have w2 : IntKind.i64.wrap (1 + 1) = 2 := rfl
  have w3 : IntKind.i64.wrap (2 + 1) = 3 := rfl
  have hn := r3B_iff.1 hn
  rcases (show n = 0 ∨ n = 1 ∨ n = 2 ∨ n = 3 by omega) with rfl | rfl | rfl | rfl
  · exact (show Pl Try.prog 26 [v3V v, .int .i64 0] (v3V v) from fun w => by
      refine evR_calls (I := noFacts) (v := v3V v) (ctxOf_ok (lib1_nil _ _) (eq_none _)) (by kernel_rfl) Try.func26 rfl lps_nil (rot_0 v 0) rfl (all2_R (.cons rfl (.cons rfl .nil))) rfl w (Nat.zero_le _) (pickL_ok ?_ _)
      repeat' (first | exact cd_nil | refine cd_cons ?_ ?_)
      all_goals first | rfl | with_reducible assumption
      ) w
  · exact (show Pl Try.prog 26 [v3V v, .int .i64 1] (v3V ⟨v.y, v.z, v.x⟩) from fun w => by
      refine evR_calls (I := noFacts) (v := v3V ⟨v.y, v.z, v.x⟩) (ctxOf_ok (lib1_nil _ _) (eq_none _)) (by kernel_rfl) Try.func26 rfl lps_nil (rot_10 v 1) rfl (all2_R (.cons rfl (.cons rfl .nil))) rfl w (Nat.zero_le _) (pickL_ok ?_ _)
      repeat' (first | exact cd_nil | refine cd_cons ?_ ?_)
      all_goals first | rfl | with_reducible assumption
      ) w
  · exact (show Pl Try.prog 26 [v3V v, .int .i64 2] (v3V ⟨v.z, v.x, v.y⟩) from fun w => by
      refine evR_calls (I := noFacts) (v := v3V ⟨v.z, v.x, v.y⟩) (ctxOf_ok (lib1_nil _ _) (eq_none _)) (by kernel_rfl) Try.func26 rfl lps_nil (rot_110 v 2) rfl (all2_R (.cons rfl (.cons rfl .nil))) rfl w (Nat.zero_le _) (pickL_ok ?_ _)
      repeat' (first | exact cd_nil | refine cd_cons ?_ ?_)
      all_goals first | rfl | with_reducible assumption
      ) w
  · exact (show Pl Try.prog 26 [v3V v, .int .i64 3] (v3V v) from fun w => by
      refine evR_calls (I := noFacts) (v := v3V v) (ctxOf_ok (lib1_nil _ _) (eq_none _)) (by kernel_rfl) Try.func26 rfl lps_nil (rot_1110 v 3) rfl (all2_R (.cons rfl (.cons rfl .nil))) rfl w (Nat.zero_le _) (pickL_ok ?_ _)
      repeat' (first | exact cd_nil | refine cd_cons ?_ ?_)
      all_goals first | rfl | with_reducible assumption
      ) w

theorem edg_pl (a : Int) (s : Int) (z : Int) (c : Int) (r : Int) (h : plB ⟨a, s, z, c, r⟩ = true) : Pl Try.prog 35 [.agg #[.int .i64 a, .int .i64 s, .int .i64 z, .int .i64 c, .int .i64 r]] (.tuple #[.int .i64 (2 * c - z), .int .i64 (2 * c - z + 2), .int .i64 (2 * r - z), .int .i64 (2 * r - z + 2)]) := fun w => by
  have h := plB_iff.1 h
  simp only at h
  have e0 : IntKind.i64.wrap (2 * c) = 2 * c := v64 (by omega) (by omega)
  have e1 : IntKind.i64.wrap (2 * c - z) = 2 * c - z := v64 (by omega) (by omega)
  have e2 : IntKind.i64.wrap (2 * c - z + 2) = 2 * c - z + 2 := v64 (by omega) (by omega)
  have e3 : IntKind.i64.wrap (2 * r) = 2 * r := v64 (by omega) (by omega)
  have e4 : IntKind.i64.wrap (2 * r - z) = 2 * r - z := v64 (by omega) (by omega)
  have e5 : IntKind.i64.wrap (2 * r - z + 2) = 2 * r - z + 2 := v64 (by omega) (by omega)
  have L := edg_ a s z c r
  rw [e0, e1, e2, e3, e4, e5] at L
  refine evR_calls (I := noFacts) (v := .tuple #[.int .i64 (2 * c - z), .int .i64 (2 * c - z + 2), .int .i64 (2 * r - z), .int .i64 (2 * r - z + 2)]) (ctxOf_ok (lib1_nil _ _) (eq_none _)) (by kernel_rfl) Try.func35 rfl lps_nil L rfl (all2_R (.cons rfl .nil)) rfl w (Nat.zero_le _) (pickL_ok ?_ _)
  repeat' (first | exact cd_nil | refine cd_cons ?_ ?_)
  all_goals first | rfl | with_reducible assumption

theorem dot_pl (v : V3) (u : V3) (h : dtB v u = true) : Pl Try.prog 43 [v3V v, v3V u] (.int .i64 (dtV v u)) := fun w => by
  have e := dt_eq h
  have L := dot_ v u
  rw [e] at L
  refine evR_calls (I := noFacts) (v := .int .i64 (dtV v u)) (ctxOf_ok (lib1_nil _ _) (eq_none _)) (by kernel_rfl) Try.func43 rfl lps_nil L rfl (all2_R (.cons rfl (.cons rfl .nil))) rfl w (Nat.zero_le _) (pickL_ok ?_ _)
  repeat' (first | exact cd_nil | refine cd_cons ?_ ?_)
  all_goals first | rfl | with_reducible assumption

structure lqT where
  q : Int
  k : Int
def lqP (q : Int) (k : Int) : Prop := 0 ≤ k ∧ k ≤ 13
instance (q : Int) (k : Int) : Decidable (lqP q k) := by unfold lqP; infer_instance
def lqTm (q : Int) (k : Int) : List (Nat × AV Empty) := [(0, .w (.one (.int .i64 q))), (7, .w (.one (.int .i64 k)))]
def lqS : LpSt lqT Empty where
  ps := []
  tm := fun t => lqTm t.q t.k
  hp := fun t => []
def lqNx (q : Int) (k : Int) : Nxt lqT Empty := if k < 13 then (if 8 * 4 ^ k.toNat ≤ q then (if q < 14 * 4 ^ k.toNat then .out .ret [(2, .w (.one (.int .i64 k))), (3, .w (.one (.yes true)))] [] else .go ⟨q, k + 1⟩) else .go ⟨q, k + 1⟩) else .out (.exit 0) (lqTm q k) []
def lqStep (t : lqT) : Nxt lqT Empty := if lqP t.q t.k then lqNx t.q t.k else .bad
theorem lq_go {q k : Int} (h : lqP q k) : lqStep ⟨q, k⟩ = lqNx q k := if_pos h
set_option maxRecDepth 100000 in
set_option maxHeartbeats 4000000 in
theorem lq_round (t : lqT) (hb : (lqStep t).isBad = false) (rest : List (Nat × AV Empty)) : ∃ fuel path r, evC (ctxOf Try.prog noFacts (fun _ => false) libT1) fuel 25 (false :: [false, true, false, true]) (loopAt (bodyOf Try.f9) [false, true, false, true]) (lqS.tm t ++ (ptrN 0 lqS.ps ++ rest)) (numb 0 (lqS.hp t)) 0 path = some r ∧ (∀ p ∈ r.cd, p.1 = p.2) ∧ Gives lqS 0 r (lqStep t) := by
  obtain ⟨q, k⟩ := t
  by_cases ok : lqP q k
  · rw [lq_go ok]
    clear hb
    unfold lqNx
    obtain ⟨h1, h2⟩ := ok
    have e1 : IntKind.i64.wrap (k + 1) = k + 1 := v64 (by omega) (by omega)
    by_cases hk : k < 13
    · have c0 : decide (k < 13) = true := decide_eq_true hk
      have c1 : lvB k = true := lvB_iff.2 (by omega)
      rw [if_pos hk]
      by_cases ha : 8 * 4 ^ k.toNat ≤ q
      · have c2 : decide (8 * 4 ^ k.toNat ≤ q) = true := decide_eq_true ha
        rw [if_pos ha]
        by_cases hb : q < 14 * 4 ^ k.toNat
        · have c3 : decide (q < 14 * 4 ^ k.toNat) = true := decide_eq_true hb
          rw [if_pos hb]
          have L := lqr_111 q k rest
          refine round_out L rfl (pickL_ok ?_ _) rfl rfl rfl
          repeat' (first | exact cd_nil | refine cd_cons ?_ ?_)
          all_goals first | rfl | with_reducible assumption
        · have c3 : decide (q < 14 * 4 ^ k.toNat) = false := decide_eq_false hb
          rw [if_neg hb]
          have L := lq_110 q k rest
          rw [e1] at L
          refine round_go L (pickL_ok ?_ _) rfl rfl rfl rfl
          repeat' (first | exact cd_nil | refine cd_cons ?_ ?_)
          all_goals first | rfl | with_reducible assumption
      · have c2 : decide (8 * 4 ^ k.toNat ≤ q) = false := decide_eq_false ha
        rw [if_neg ha]
        have L := lq_10 q k rest
        rw [e1] at L
        refine round_go L (pickL_ok ?_ _) rfl rfl rfl rfl
        repeat' (first | exact cd_nil | refine cd_cons ?_ ?_)
        all_goals first | rfl | with_reducible assumption
    · have c0 : decide (k < 13) = false := decide_eq_false hk
      rw [if_neg hk]
      have L := lq_0 q k rest
      refine round_out L rfl (pickL_ok ?_ _) rfl rfl rfl
      repeat' (first | exact cd_nil | refine cd_cons ?_ ?_)
      all_goals first | rfl | with_reducible assumption
  · exfalso
    have : lqStep ⟨q, k⟩ = .bad := if_neg ok
    rw [this] at hb; cases hb
theorem lq_runs (q : Int) : ∀ (n k : Nat), k + n = 13 → ∃ m, runs lqStep m ⟨q, k⟩ = (match lvF q n k with
    | some j => some (.ret, [(2, .w (.one (.int .i64 j))), (3, .w (.one (.yes true)))], [])
    | none => some (.exit 0, lqTm q 13, []))
  | 0, k, h => by
    obtain rfl : k = 13 := by omega
    refine ⟨1, ?_⟩
    rw [runs, lq_go ⟨by omega, by omega⟩]
    unfold lqNx
    rw [if_neg (by omega)]
    rfl
  | n + 1, k, h => by
    have hgo : lqStep ⟨q, (k : Int)⟩ = lqNx q k := lq_go ⟨by omega, by omega⟩
    obtain ⟨m, hm⟩ := lq_runs q n (k + 1) (by omega)
    have e : ((k + 1 : Nat) : Int) = (k : Int) + 1 := by omega
    rw [e] at hm
    unfold lvF
    by_cases ha : 8 * 4 ^ k ≤ q ∧ q < 14 * 4 ^ k
    · refine ⟨1, ?_⟩
      rw [runs, hgo]
      unfold lqNx
      rw [if_pos (by omega), if_pos (by rw [Int.toNat_natCast]; exact ha.1), if_pos (by rw [Int.toNat_natCast]; exact ha.2), if_pos ha]
    · refine ⟨m + 1, ?_⟩
      rw [runs, hgo, if_neg ha]
      unfold lqNx
      rw [if_pos (by omega), Int.toNat_natCast]
      by_cases h1 : 8 * 4 ^ k ≤ q
      · rw [if_pos h1, if_neg (fun h2 => ha ⟨h1, h2⟩)]; exact hm
      · rw [if_neg h1]; exact hm
def lqD : LpDefR lqT Empty where
  ts := [0, 7]
  ps := []
  rs := []
  W := [0, 2, 3, 4, 5, 6, 7, 8, 9, 10, 11, 12, 13, 14, 15, 16, 17, 18, 19, 20, 21, 22, 23, 24]
  dec := fun vs tr ks => match vs, tr, ks with
    | [.w (.one (.int .i64 q)), .w (.one (.int .i64 k))], [], [] => some ⟨q, k⟩
    | _, _, _ => none
  fk := fun t => some (lvT t.q)
  spec := fun t β => match β with
    | true => some (.ret, [(2, .w (.one (.int .i64 (lvN t.q)))), (3, .w (.one (.yes true)))], [], [], [(decide (t.k = 0), true)])
    | false => some (.exit 0, lqTm t.q 13, [], [], [(decide (t.k = 0), true)])
theorem lqD_ok (x : Code) (hx : codeAt (bodyOf Try.f9) [false, true, false, true] = some (.loop x)) : LpOk Try.prog noFacts 25 x (lqD.sp (fun _ => true)) := by
  obtain rfl := loopAt_eq hx
  refine lpR_ok (c := ctxOf Try.prog noFacts (fun _ => false) libT1) (ctxOf_ok libT1_ok (eq_none _)) (by kernel_rfl) (fun f _ _ _ => nomatch f) hx lps_nil (S := lqS) (step := lqStep) (fun _ _ => rfl) (by kernel_rfl) (by kernel_rfl) ?_ rfl (fun t e he => ?_) (fun t hb rest => lq_round t hb rest) ?_
  · intro vs tr ks s hv1 hv2 h hv3
    simp only [lqD] at h
    split at h
    · cases h
      exact ⟨rfl, fun e he => .inl he⟩
    · cases h
  · simp only [lqS, lqTm, List.mem_cons, List.not_mem_nil, or_false] at he
    rcases he with rfl | rfl <;> rfl
  · intro s β ex outs rts wb cd h hfk hc
    obtain ⟨q, k⟩ := s
    have hβ := hfk _ rfl
    cases β with
    | true =>
      simp only [lqD] at h hβ
      cases h
      obtain rfl := of_decide_eq_true (c1' hc)
      obtain ⟨m, hm⟩ := lq_runs q 13 0 rfl
      refine ⟨m, ?_⟩
      cases hv : lvF q 13 0 with
      | none => simp [lvT, lvV, hv] at hβ
      | some j =>
        rw [hv] at hm
        have e : lvN q = (j : Int) := by unfold lvN lvV; rw [hv]
        rw [e]
        exact hm
    | false =>
      simp only [lqD] at h hβ
      cases h
      obtain rfl := of_decide_eq_true (c1' hc)
      obtain ⟨m, hm⟩ := lq_runs q 13 0 rfl
      refine ⟨m, ?_⟩
      cases hv : lvF q 13 0 with
      | some j => simp [lvT, lvV, hv] at hβ
      | none =>
        rw [hv] at hm
        exact hm
structure poT where
  q : Int
  l : Int
  a : Int
  s : Int
  z : Int
  c : Int
  r : Int
def poP (q : Int) (l : Int) (a : Int) (s : Int) (z : Int) (c : Int) (r : Int) : Prop := 0 ≤ l ∧ l ≤ 12 ∧ 0 ≤ q ∧ (0 ≤ c ∧ (c + 1) * 2 ^ l.toNat ≤ 4096) ∧ 0 ≤ r ∧ (r + 1) * 2 ^ l.toNat ≤ 4096
instance (q : Int) (l : Int) (a : Int) (s : Int) (z : Int) (c : Int) (r : Int) : Decidable (poP q l a s z c r) := by unfold poP; infer_instance
def poTm (q : Int) (l : Int) (a : Int) (s : Int) (z : Int) (c : Int) (r : Int) : List (Nat × AV Empty) := [(0, .w (.one (.int .i64 q))), (4, .w (.one (.int .i64 l)))]
def poS : LpSt poT Empty where
  ps := [7]
  tm := fun t => poTm t.q t.l t.a t.s t.z t.c t.r
  hp := fun t => [⟨59, [.int .i64 t.a, .int .i64 t.s, .int .i64 t.z, .int .i64 t.c, .int .i64 t.r]⟩]
def poNx (q : Int) (l : Int) (a : Int) (s : Int) (z : Int) (c : Int) (r : Int) : Nxt poT Empty := if l > 0 then .go ⟨q, l - 1, a, s, z, 2 * c + q / 4 ^ (l - 1).toNat % 4 % 2, 2 * r + q / 4 ^ (l - 1).toNat % 4 / 2⟩ else .out (.exit 0) (poTm q l a s z c r) [⟨59, [.int .i64 a, .int .i64 s, .int .i64 z, .int .i64 (c), .int .i64 (r)]⟩]
def poStep (t : poT) : Nxt poT Empty := if poP t.q t.l t.a t.s t.z t.c t.r then poNx t.q t.l t.a t.s t.z t.c t.r else .bad
theorem po_go {q l a s z c r : Int} (h : poP q l a s z c r) : poStep ⟨q, l, a, s, z, c, r⟩ = poNx q l a s z c r := if_pos h
set_option maxRecDepth 100000 in
set_option maxHeartbeats 4000000 in
theorem po_round (t : poT) (hb : (poStep t).isBad = false) (rest : List (Nat × AV Empty)) : ∃ fuel path r, evC (ctxOf Try.prog noFacts (fun _ => false) []) fuel 55 (false :: [false, false, true, true, true, true, true]) (loopAt (bodyOf Try.f32) [false, false, true, true, true, true, true]) (poS.tm t ++ (ptrN 0 poS.ps ++ rest)) (numb 0 (poS.hp t)) 1 path = some r ∧ (∀ p ∈ r.cd, p.1 = p.2) ∧ Gives poS 1 r (poStep t) := by
  obtain ⟨q, l, a, s, z, c, r⟩ := t
  by_cases ok : poP q l a s z c r
  · rw [po_go ok]
    clear hb
    unfold poNx
    by_cases hk : l > 0
    · have c0 : decide (l > 0) = true := decide_eq_true hk
      rw [if_pos hk]
      obtain ⟨e1, e2, e3, e4, e5⟩ := po_eq ok hk
      have L := po_1 q l a s z c r rest
      rw [e1, e2, e3, e4] at L
      refine round_go L (pickL_ok ?_ _) rfl rfl rfl rfl
      repeat' (first | exact cd_nil | refine cd_cons ?_ ?_)
      all_goals first | rfl | with_reducible assumption
    · have c0 : decide (l > 0) = false := decide_eq_false hk
      rw [if_neg hk]
      have L := po_0 q l a s z c r rest
      refine round_out L rfl (pickL_ok ?_ _) rfl rfl rfl
      repeat' (first | exact cd_nil | refine cd_cons ?_ ?_)
      all_goals first | rfl | with_reducible assumption
  · exfalso
    have : poStep ⟨q, l, a, s, z, c, r⟩ = .bad := if_neg ok
    rw [this] at hb; cases hb
theorem po_runs {q : Int} (ht : 0 ≤ q) (a s z : Int) : ∀ (n : Nat) (c r : Int), n ≤ 12 → 0 ≤ c → (c + 1) * 2 ^ n ≤ 4096 → 0 ≤ r → (r + 1) * 2 ^ n ≤ 4096 → ∃ m, runs poStep m ⟨q, n, a, s, z, c, r⟩ = some (.exit 0, poTm q 0 a s z c r, [⟨59, [.int .i64 a, .int .i64 s, .int .i64 z, .int .i64 (c * 2 ^ n + coD q n), .int .i64 (r * 2 ^ n + roD q n)]⟩])
  | 0, c, r, hn, h1, h2, h3, h4 => by
    refine ⟨1, ?_⟩
    have hgo : poStep ⟨q, ((0 : Nat) : Int), a, s, z, c, r⟩ = poNx q ((0 : Nat) : Int) a s z c r := po_go ⟨by omega, by omega, ht, ⟨h1, h2⟩, h3, h4⟩
    rw [runs, hgo]
    unfold poNx
    rw [if_neg (by omega)]
    simp [coD, roD, poTm]
  | n + 1, c, r, hn, h1, h2, h3, h4 => by
    have hgo : poStep ⟨q, ((n + 1 : Nat) : Int), a, s, z, c, r⟩ = poNx q ((n + 1 : Nat) : Int) a s z c r := po_go ⟨by omega, by omega, ht, ⟨h1, h2⟩, h3, h4⟩
    have e : ((n + 1 : Nat) : Int) - 1 = (n : Int) := by omega
    have d1 : 0 ≤ q / 4 ^ n % 4 ∧ q / 4 ^ n % 4 ≤ 3 := by omega
    rw [Int.pow_succ] at h2 h4
    have p := p2 n
    obtain ⟨m, hm⟩ := po_runs ht a s z n (2 * c + q / 4 ^ n % 4 % 2) (2 * r + q / 4 ^ n % 4 / 2) (by omega) (by omega) (by
      have := Int.mul_le_mul_of_nonneg_right (show 2 * c + q / 4 ^ n % 4 % 2 + 1 ≤ 2 * (c + 1) by omega) (Int.le_of_lt p)
      grind) (by omega) (by
      have := Int.mul_le_mul_of_nonneg_right (show 2 * r + q / 4 ^ n % 4 / 2 + 1 ≤ 2 * (r + 1) by omega) (Int.le_of_lt p)
      grind)
    refine ⟨m + 1, ?_⟩
    rw [runs, hgo]
    unfold poNx
    rw [if_pos (by omega), e, Int.toNat_natCast]
    have g1 : (2 * c + q / 4 ^ n % 4 % 2) * 2 ^ n + coD q n = c * 2 ^ (n + 1) + coD q (n + 1) := by rw [co_top, Int.pow_succ]; grind
    have g2 : (2 * r + q / 4 ^ n % 4 / 2) * 2 ^ n + roD q n = r * 2 ^ (n + 1) + roD q (n + 1) := by rw [ro_top, Int.pow_succ]; grind
    rw [g1, g2] at hm
    exact hm
def poD : LpDef poT Empty where
  ts := [0, 4]
  ps := [7]
  W := [0, 4, 7, 8, 31, 32, 33, 34, 35, 36, 37, 38, 39, 40, 41, 42, 43, 44, 45, 46, 47, 48, 49, 50, 51, 52, 53]
  dec := fun vs ks => match vs, ks with
    | [.w (.one (.int .i64 q)), .w (.one (.int .i64 l))], [⟨59, [.int .i64 a, .int .i64 s, .int .i64 z, .int .i64 c, .int .i64 r]⟩] => some ⟨q, l, a, s, z, c, r⟩
    | _, _ => none
  spec := fun t => some (.exit 0, poTm t.q 0 t.a t.s t.z 0 0, [⟨59, [.int .i64 t.a, .int .i64 t.s, .int .i64 t.z, .int .i64 (coD t.q t.l.toNat), .int .i64 (roD t.q t.l.toNat)]⟩], [(lvB t.l && decide (0 ≤ t.q) && decide (t.c = 0) && decide (t.r = 0), true)])
theorem poD_ok (x : Code) (hx : codeAt (bodyOf Try.f32) [false, false, true, true, true, true, true] = some (.loop x)) : LpOk Try.prog noFacts 55 x (poD.sp (fun _ => true)) := by
  obtain rfl := loopAt_eq hx
  refine lp_ok (c := ctxOf Try.prog noFacts (fun _ => false) []) (ctxOf_ok (lib1_nil _ _) (eq_none _)) (by kernel_rfl) hx lps_nil (S := poS) (step := poStep) (fun _ _ => rfl) (by kernel_rfl) (by kernel_rfl) ?_ rfl (fun t e he => ?_) (fun t hb rest => po_round t hb rest) ?_
  · intro vs ks s hv1 h hv2
    simp only [poD] at h
    split at h
    · cases h
      exact ⟨rfl, fun e he => he⟩
    · cases h
  · simp only [poS, poTm, List.mem_cons, List.not_mem_nil, or_false] at he
    rcases he with rfl | rfl <;> rfl
  · intro s ex outs wb cd h hc
    obtain ⟨q, l, a, s, z, c, r⟩ := s
    simp only [poD] at h
    cases h
    have h := c1' hc
    simp only [Bool.and_eq_true, decide_eq_true_eq] at h
    obtain ⟨⟨⟨h1, h2⟩, rfl⟩, rfl⟩ := h
    have h1 := lvB_iff.1 h1
    obtain ⟨n, rfl⟩ := Int.eq_ofNat_of_zero_le h1.1
    have p : (2 : Int) ^ n ≤ 4096 := pow2_le (by omega)
    obtain ⟨m, hm⟩ := po_runs h2 a s z n 0 0 (by omega) (by omega) (by omega) (by omega) (by omega)
    refine ⟨m, ?_⟩
    simp only [Int.zero_mul, Int.zero_add] at hm
    rw [Int.toNat_natCast]
    exact hm
structure nuT where
  q : Int
  g : Int
  a : Int
  s : Int
  z : Int
  c : Int
  r : Int
def nuP (q : Int) (g : Int) (a : Int) (s : Int) (z : Int) (c : Int) (r : Int) : Prop := 0 ≤ g ∧ g ≤ 4096 ∧ (0 ≤ q ∧ q ≤ 1152921504606846976) ∧ (0 ≤ c ∧ c ≤ 4096) ∧ 0 ≤ r ∧ r ≤ 4096
instance (q : Int) (g : Int) (a : Int) (s : Int) (z : Int) (c : Int) (r : Int) : Decidable (nuP q g a s z c r) := by unfold nuP; infer_instance
def nuTm (q : Int) (g : Int) (a : Int) (s : Int) (z : Int) (c : Int) (r : Int) : List (Nat × AV Empty) := [(3, .w (.one (.int .i64 q))), (4, .w (.one (.int .i64 g)))]
def nuS : LpSt nuT Empty where
  ps := [1]
  tm := fun t => nuTm t.q t.g t.a t.s t.z t.c t.r
  hp := fun t => [⟨59, [.int .i64 t.a, .int .i64 t.s, .int .i64 t.z, .int .i64 t.c, .int .i64 t.r]⟩]
def nuNx (q : Int) (g : Int) (a : Int) (s : Int) (z : Int) (c : Int) (r : Int) : Nxt nuT Empty := if g > 0 then .go ⟨4 * q + (r / g % 2 * 2 + c / g % 2), g / 2, a, s, z, c, r⟩ else .out (.exit 0) (nuTm q g a s z c r) [⟨59, [.int .i64 a, .int .i64 s, .int .i64 z, .int .i64 (c), .int .i64 (r)]⟩]
def nuStep (t : nuT) : Nxt nuT Empty := if nuP t.q t.g t.a t.s t.z t.c t.r then nuNx t.q t.g t.a t.s t.z t.c t.r else .bad
theorem nu_go {q g a s z c r : Int} (h : nuP q g a s z c r) : nuStep ⟨q, g, a, s, z, c, r⟩ = nuNx q g a s z c r := if_pos h
set_option maxRecDepth 100000 in
set_option maxHeartbeats 4000000 in
theorem nu_round (t : nuT) (hb : (nuStep t).isBad = false) (rest : List (Nat × AV Empty)) : ∃ fuel path r, evC (ctxOf Try.prog noFacts (fun _ => false) []) fuel 37 (false :: [false, true, false, true, true, true]) (loopAt (bodyOf Try.f29) [false, true, false, true, true, true]) (nuS.tm t ++ (ptrN 0 nuS.ps ++ rest)) (numb 0 (nuS.hp t)) 1 path = some r ∧ (∀ p ∈ r.cd, p.1 = p.2) ∧ Gives nuS 1 r (nuStep t) := by
  obtain ⟨q, g, a, s, z, c, r⟩ := t
  by_cases ok : nuP q g a s z c r
  · rw [nu_go ok]
    clear hb
    unfold nuNx
    by_cases hk : g > 0
    · have c0 : decide (g > 0) = true := decide_eq_true hk
      have c1 : decide (g = 0) = false := decide_eq_false (by omega)
      rw [if_pos hk]
      obtain ⟨e1, e2, e3, e4, e5, e6, e7, e8⟩ := nu_eq ok hk
      have L := nu_1 q g a s z c r rest
      rw [e1, e2, e3, e4, e5, e6, e7] at L
      refine round_go L (pickL_ok ?_ _) rfl rfl rfl rfl
      repeat' (first | exact cd_nil | refine cd_cons ?_ ?_)
      all_goals first | rfl | with_reducible assumption
    · have c0 : decide (g > 0) = false := decide_eq_false hk
      rw [if_neg hk]
      have L := nu_0 q g a s z c r rest
      refine round_out L rfl (pickL_ok ?_ _) rfl rfl rfl
      repeat' (first | exact cd_nil | refine cd_cons ?_ ?_)
      all_goals first | rfl | with_reducible assumption
  · exfalso
    have : nuStep ⟨q, g, a, s, z, c, r⟩ = .bad := if_neg ok
    rw [this] at hb; cases hb
theorem nu_runs {c r : Int} (hc : 0 ≤ c ∧ c ≤ 4096) (hr : 0 ≤ r ∧ r ≤ 4096) (a s z : Int) : ∀ (n : Nat) (q g : Int), 0 ≤ q → (q + 1) * 4 ^ n ≤ 1152921504606846976 → 0 ≤ g → g ≤ 4096 → g < 2 ^ n → ∃ m, runs nuStep m ⟨q, g, a, s, z, c, r⟩ = some (.exit 0, nuTm (nmG n q g c r) 0 a s z c r, [⟨59, [.int .i64 a, .int .i64 s, .int .i64 z, .int .i64 (c), .int .i64 (r)]⟩])
  | 0, q, g, h1, h2, h3, h4, h5 => by
    obtain rfl : g = 0 := by simp at h5; omega
    refine ⟨1, ?_⟩
    rw [runs, nu_go ⟨h3, h4, ⟨h1, by simp at h2; omega⟩, hc, hr⟩]
    unfold nuNx
    rw [if_neg (by omega)]
    rfl
  | n + 1, q, g, h1, h2, h3, h4, h5 => by
    have pq := p4 n
    rw [Int.pow_succ] at h2 h5
    have ht : q ≤ 1152921504606846976 := by
      have := Int.mul_le_mul_of_nonneg_left (show 1 ≤ 4 ^ n * 4 by omega) (show 0 ≤ q + 1 by omega)
      omega
    have hgo : nuStep ⟨q, g, a, s, z, c, r⟩ = nuNx q g a s z c r := nu_go ⟨h3, h4, ⟨h1, ht⟩, hc, hr⟩
    by_cases hk : g > 0
    · have d1 : 0 ≤ r / g % 2 * 2 + c / g % 2 ∧ r / g % 2 * 2 + c / g % 2 ≤ 3 := by omega
      generalize hd : r / g % 2 * 2 + c / g % 2 = d at *
      obtain ⟨m, hm⟩ := nu_runs hc hr a s z n (4 * q + d) (g / 2) (by omega) (by
        have := Int.mul_le_mul_of_nonneg_right (show 4 * q + d + 1 ≤ 4 * (q + 1) by omega) (Int.le_of_lt pq)
        grind) (by omega) (by omega) (by omega)
      refine ⟨m + 1, ?_⟩
      rw [runs, hgo]
      unfold nuNx
      rw [if_pos hk, nmG, if_pos hk, hd]
      exact hm
    · obtain rfl : g = 0 := by omega
      refine ⟨1, ?_⟩
      rw [runs, hgo]
      unfold nuNx
      rw [if_neg hk, nmG, if_neg hk]
def nuD : LpDef nuT Empty where
  ts := [3, 4]
  ps := [1]
  W := [1, 3, 4, 17, 18, 19, 20, 21, 22, 23, 24, 25, 26, 27, 28, 29, 30, 31, 32, 33, 34, 35]
  dec := fun vs ks => match vs, ks with
    | [.w (.one (.int .i64 q)), .w (.one (.int .i64 g))], [⟨59, [.int .i64 a, .int .i64 s, .int .i64 z, .int .i64 c, .int .i64 r]⟩] => some ⟨q, g, a, s, z, c, r⟩
    | _, _ => none
  spec := fun t => some (.exit 0, nuTm (nmG 13 t.q t.g t.c t.r) 0 t.a t.s t.z t.c t.r, [⟨59, [.int .i64 t.a, .int .i64 t.s, .int .i64 t.z, .int .i64 t.c, .int .i64 t.r]⟩], [(nuB t.q t.g t.c t.r, true)])
theorem nuD_ok (x : Code) (hx : codeAt (bodyOf Try.f29) [false, true, false, true, true, true] = some (.loop x)) : LpOk Try.prog noFacts 37 x (nuD.sp (fun _ => true)) := by
  obtain rfl := loopAt_eq hx
  refine lp_ok (c := ctxOf Try.prog noFacts (fun _ => false) []) (ctxOf_ok (lib1_nil _ _) (eq_none _)) (by kernel_rfl) hx lps_nil (S := nuS) (step := nuStep) (fun _ _ => rfl) (by kernel_rfl) (by kernel_rfl) ?_ rfl (fun t e he => ?_) (fun t hb rest => nu_round t hb rest) ?_
  · intro vs ks s hv1 h hv2
    simp only [nuD] at h
    split at h
    · cases h
      exact ⟨rfl, fun e he => he⟩
    · cases h
  · simp only [nuS, nuTm, List.mem_cons, List.not_mem_nil, or_false] at he
    rcases he with rfl | rfl <;> rfl
  · intro s ex outs wb cd h hc
    obtain ⟨q, g, a, s, z, c, r⟩ := s
    simp only [nuD] at h
    cases h
    have hb := nuB_iff.1 (c1' hc)
    exact nu_runs hb.2.2.1 hb.2.2.2 a s z 13 q g hb.1.1 (by have := hb.1.2; omega) hb.2.1.1 hb.2.1.2 (by have := hb.2.1.2; omega)
end
end Go.Proofs.Ytbkeohcoahdgcaa.AtTl

