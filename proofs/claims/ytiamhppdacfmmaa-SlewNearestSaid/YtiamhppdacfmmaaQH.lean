/-
  Package spymake's axes, positions and mounts out of streams: they are valid.
  Conditions: those of each theorem.
-/
import Derived.Test.YtiamhppdacfmmaaQF
import Derived.Test.YtiamhppdacfmmaaST
set_option linter.unusedVariables false
set_option linter.unusedSimpArgs false
namespace Go.Proofs.Ytiamhppdacfmmaa.AtSl
open Go.RowKit Ev Wd
open Go.Proofs.Ytiamhppdacfmmaa
variable {F : Type}
noncomputable section

abbrev libH0 : List (Nat × FnSp Fct) := (71, rangeS) :: libS2
/-- A power of two. -/
def spX (k : Int) : Int := IntKind.i64.wrap (1 * 2 ^ min k.toNat IntKind.i64.bits)
def ps (k : Int) : Int := spX k
/-- The changed speed and acceleration. -/
def spY (k n : Int) : Int := spX k - n * mi 1 ((spX k - 16777216) / 1024)
def acX (k r : Int) : Int := spX k / r
def acY (k r n m : Int) : Int := mi (acX k r + m) (spY k n)
def axF (l : List Int) (a : Int) : Ax :=
  bif nextV l (a + 1 + 1) 3 == 0 then (bif nextV l (a + 1 + 1 + 1 + 1 + 1 + 1 + 1) 4 == 0 then ⟨-rangeV l (a + 1 + 1 + 1 + 1 + 1) 0 6 * 1073741824 + nextV l (a + 1 + 1 + 1 + 1 + 1 + 1 + 1 + 1) 1048576, rangeV l (a + 1 + 1 + 1 + 1 + 1 + 1) 1 6 * 1073741824 - nextV l (a + 1 + 1 + 1 + 1 + 1 + 1 + 1 + 1 + 1) 1048576, spY (rangeV l a 24 30) (nextV l (a + 1 + 1 + 1) 1000), acY (rangeV l a 24 30) (rangeV l (a + 1) 1 8) (nextV l (a + 1 + 1 + 1) 1000) (nextV l (a + 1 + 1 + 1 + 1) 1000)⟩ else
    ⟨-rangeV l (a + 1 + 1 + 1 + 1 + 1) 0 6 * 1073741824, rangeV l (a + 1 + 1 + 1 + 1 + 1 + 1) 1 6 * 1073741824, spY (rangeV l a 24 30) (nextV l (a + 1 + 1 + 1) 1000), acY (rangeV l a 24 30) (rangeV l (a + 1) 1 8) (nextV l (a + 1 + 1 + 1) 1000) (nextV l (a + 1 + 1 + 1 + 1) 1000)⟩) else
  (bif nextV l (a + 1 + 1 + 1 + 1 + 1) 4 == 0 then ⟨-rangeV l (a + 1 + 1 + 1) 0 6 * 1073741824 + nextV l (a + 1 + 1 + 1 + 1 + 1 + 1) 1048576, rangeV l (a + 1 + 1 + 1 + 1) 1 6 * 1073741824 - nextV l (a + 1 + 1 + 1 + 1 + 1 + 1 + 1) 1048576, spX (rangeV l a 24 30), acX (rangeV l a 24 30) (rangeV l (a + 1) 1 8)⟩ else
    ⟨-rangeV l (a + 1 + 1 + 1) 0 6 * 1073741824, rangeV l (a + 1 + 1 + 1 + 1) 1 6 * 1073741824, spX (rangeV l a 24 30), acX (rangeV l a 24 30) (rangeV l (a + 1) 1 8)⟩)
def axAt (l : List Int) (a : Int) : Int := bif nextV l (a + 1 + 1) 3 == 0 then (bif nextV l (a + 1 + 1 + 1 + 1 + 1 + 1 + 1) 4 == 0 then (a + 1 + 1 + 1 + 1 + 1 + 1 + 1 + 1 + 1 + 1) else (a + 1 + 1 + 1 + 1 + 1 + 1 + 1 + 1)) else (bif nextV l (a + 1 + 1 + 1 + 1 + 1) 4 == 0 then (a + 1 + 1 + 1 + 1 + 1 + 1 + 1 + 1) else (a + 1 + 1 + 1 + 1 + 1 + 1))
def inV (l : List Int) (a : Int) (x : Ax) : Int := bif nextV l a 6 == 0 then x.mn else bif nextV l a 6 == 1 then x.mx else x.mn + (x.mx - x.mn) / 1000 * nextV l (a + 1) 1000 + nextV l (a + 1 + 1) ((x.mx - x.mn) / 1000 + 1)
def inAt (l : List Int) (a : Int) : Int := bif nextV l a 6 == 0 then a + 1 else bif nextV l a 6 == 1 then a + 1 else (a + 1 + 1 + 1)
abbrev axG (l : List Int) (a : Int) (rest : List (AV Fct)) : Option (AV Fct × Int × List (Bool × Bool)) := match rest with
  | [] => some (axA (axF l a), axAt l a, (atB (a + 12), true) :: stC l a)
  | _ => none
abbrev inG (l : List Int) (a : Int) (rest : List (AV Fct)) : Option (AV Fct × Int × List (Bool × Bool)) := match rest with
  | [.w (.agg [.int .i64 x, .int .i64 y, .int .i64 z, .int .i64 t])] => some (aInt .i64 (inV l a ⟨x, y, z, t⟩), inAt l a, (decide (axE ⟨x, y, z, t⟩ = 0), true) :: (atB (a + 4), true) :: stC l a)
  | _ => none
abbrev axSt : FnSp Fct := stream 71 axG
abbrev inSt : FnSp Fct := stream 71 inG
abbrev libH1 : List (Nat × FnSp Fct) := [(40, axSt), (41, inSt), (44, nextS)]
theorem spX_in {k : Int} (h1 : 24 ≤ k) (h2 : k ≤ 30) : 16777216 ≤ spX k ∧ spX k ≤ 1073741824 := by
  have : k = 24 ∨ k = 25 ∨ k = 26 ∨ k = 27 ∨ k = 28 ∨ k = 29 ∨ k = 30 := by omega
  rcases this with rfl | rfl | rfl | rfl | rfl | rfl | rfl <;> decide
theorem acX_in {k r : Int} (h1 : 24 ≤ k) (h2 : k ≤ 30) (h3 : 1 ≤ r) (h4 : r ≤ 8) : 2097152 ≤ acX k r ∧ acX k r ≤ spX k ∧ spX k ≤ 64 * acX k r - 1000000 ∧ (spX k).tdiv r = acX k r ∧ IntKind.i64.wrap (acX k r) = acX k r := by
  have hs := spX_in h1 h2
  unfold acX
  rw [Int.tdiv_eq_ediv_of_nonneg (by omega)]
  have hw : 0 ≤ spX k / r ∧ spX k / r ≤ spX k := ⟨Int.ediv_nonneg (by omega) (by omega), Int.ediv_le_self _ (by omega)⟩
  refine ⟨?_, hw.2, ?_, rfl, v64 (by omega) (by omega)⟩
  · have : r = 1 ∨ r = 2 ∨ r = 3 ∨ r = 4 ∨ r = 5 ∨ r = 6 ∨ r = 7 ∨ r = 8 := by omega
    rcases this with rfl | rfl | rfl | rfl | rfl | rfl | rfl | rfl <;> omega
  · have : r = 1 ∨ r = 2 ∨ r = 3 ∨ r = 4 ∨ r = 5 ∨ r = 6 ∨ r = 7 ∨ r = 8 := by omega
    rcases this with rfl | rfl | rfl | rfl | rfl | rfl | rfl | rfl <;> omega
theorem spY_in {k n : Int} (h1 : 24 ≤ k) (h2 : k ≤ 30) (h3 : 0 ≤ n) (h4 : n < 1000) : 16777216 ≤ spY k n ∧ spY k n ≤ spX k ∧ spX k ≤ spY k n + 1000 ∧
    (IntKind.i64.wrap (spX k - 16777216)).fdiv (2 ^ min (Int.toNat 10) IntKind.i64.bits) = (spX k - 16777216) / 1024 ∧ IntKind.i64.wrap (n * mi 1 ((spX k - 16777216) / 1024)) = n * mi 1 ((spX k - 16777216) / 1024) ∧ IntKind.i64.wrap (spX k - n * mi 1 ((spX k - 16777216) / 1024)) = spY k n := by
  have hs := spX_in h1 h2
  have hk : spX k = 16777216 ∨ 33554432 ≤ spX k := by
    have : k = 24 ∨ k = 25 ∨ k = 26 ∨ k = 27 ∨ k = 28 ∨ k = 29 ∨ k = 30 := by omega
    rcases this with rfl | rfl | rfl | rfl | rfl | rfl | rfl
    · exact .inl (by decide)
    all_goals exact .inr (by decide)
  have e0 : IntKind.i64.wrap (spX k - 16777216) = spX k - 16777216 := v64 (by omega) (by omega)
  have e1 : ((2 : Int) ^ min (Int.toNat 10) IntKind.i64.bits) = 1024 := by decide
  unfold spY
  have hq : mi 1 ((spX k - 16777216) / 1024) = 0 ∧ spX k = 16777216 ∨ mi 1 ((spX k - 16777216) / 1024) = 1 ∧ 33554432 ≤ spX k := by
    rw [mi_eq]; omega
  rw [e0, e1, Int.fdiv_eq_ediv_of_nonneg _ (by omega)]
  rcases hq with ⟨q, h⟩ | ⟨q, h⟩
  · rw [q, Int.mul_zero]
    exact ⟨by omega, by omega, by omega, rfl, v64 (by omega) (by omega), v64 (by omega) (by omega)⟩
  · rw [q, Int.mul_one]
    exact ⟨by omega, by omega, by omega, rfl, v64 (by omega) (by omega), v64 (by omega) (by omega)⟩
theorem acY_in {k r n m : Int} (h1 : 24 ≤ k) (h2 : k ≤ 30) (h3 : 1 ≤ r) (h4 : r ≤ 8) (h5 : 0 ≤ n) (h6 : n < 1000) (h7 : 0 ≤ m) (h8 : m < 1000) : 1 ≤ acY k r n m ∧ acY k r n m ≤ spY k n ∧ spY k n ≤ 64 * acY k r n m ∧ IntKind.i64.wrap (acX k r + m) = acX k r + m := by
  have hs := spX_in h1 h2
  obtain ⟨a1, a2, a3, _, _⟩ := acX_in h1 h2 h3 h4
  obtain ⟨b1, b2, b3, _, _, _⟩ := spY_in h1 h2 h5 h6
  unfold acY
  rw [mi_eq]
  refine ⟨by omega, by omega, by omega, v64 (by omega) (by omega)⟩
theorem nx {l : List Int} {p n : Int} (h : 1 ≤ n) : 0 ≤ nextV l p n ∧ nextV l p n < n := nextV_in l p n h
theorem axF_ok (l : List Int) (a : Int) : axE (axF l a) = 0 ∧ (-6442450944 ≤ (axF l a).mn ∧ (axF l a).mn ≤ 1048576) ∧ (axF l a).mx ≤ 6442450944 ∧ 1072693248 ≤ (axF l a).mx ∧ 262144 ≤ (axF l a).ac := by
  have k1 := rangeV_in l a 24 30 (by omega)
  have k2 := rangeV_in l (a + 1) 1 8 (by omega)
  have sx := spX_in k1.1 k1.2
  obtain ⟨c1, c2, c3, _, _⟩ := acX_in k1.1 k1.2 k2.1 k2.2
  rw [axE_ok]
  unfold axF okA
  cases nextV l (a + 1 + 1) 3 == 0 with
  | true =>
    have k3 := nx (l := l) (p := a + 1 + 1 + 1) (n := 1000) (by omega)
    have k4 := nx (l := l) (p := a + 1 + 1 + 1 + 1) (n := 1000) (by omega)
    obtain ⟨b1, b2, b3, _, _, _⟩ := spY_in k1.1 k1.2 k3.1 k3.2
    obtain ⟨d1, d2, d3, _⟩ := acY_in k1.1 k1.2 k2.1 k2.2 k3.1 k3.2 k4.1 k4.2
    have r1 := rangeV_in l (a + 1 + 1 + 1 + 1 + 1) 0 6 (by omega)
    have r2 := rangeV_in l (a + 1 + 1 + 1 + 1 + 1 + 1) 1 6 (by omega)
    have k5 := nx (l := l) (p := a + 1 + 1 + 1 + 1 + 1 + 1 + 1 + 1) (n := 1048576) (by omega)
    have k6 := nx (l := l) (p := a + 1 + 1 + 1 + 1 + 1 + 1 + 1 + 1 + 1) (n := 1048576) (by omega)
    cases nextV l (a + 1 + 1 + 1 + 1 + 1 + 1 + 1) 4 == 0 <;> simp only [cond_true, cond_false] <;> omega
  | false =>
    have r1 := rangeV_in l (a + 1 + 1 + 1) 0 6 (by omega)
    have r2 := rangeV_in l (a + 1 + 1 + 1 + 1) 1 6 (by omega)
    have k5 := nx (l := l) (p := a + 1 + 1 + 1 + 1 + 1 + 1) (n := 1048576) (by omega)
    have k6 := nx (l := l) (p := a + 1 + 1 + 1 + 1 + 1 + 1 + 1) (n := 1048576) (by omega)
    cases nextV l (a + 1 + 1 + 1 + 1 + 1) 4 == 0 <;> simp only [cond_true, cond_false] <;> omega
theorem axAt_in (l : List Int) (a : Int) : a + 6 ≤ axAt l a ∧ axAt l a ≤ a + 10 := by
  unfold axAt
  cases nextV l (a + 1 + 1) 3 == 0 <;> cases nextV l (a + 1 + 1 + 1 + 1 + 1 + 1 + 1) 4 == 0 <;> cases nextV l (a + 1 + 1 + 1 + 1 + 1) 4 == 0 <;> simp only [cond_true, cond_false] <;> omega
theorem inAt_in (l : List Int) (a : Int) : a + 1 ≤ inAt l a ∧ inAt l a ≤ a + 3 := by
  unfold inAt
  cases nextV l a 6 == 0 <;> cases nextV l a 6 == 1 <;> simp only [cond_true, cond_false] <;> omega
theorem inV_in (l : List Int) (a : Int) {x : Ax} (h : axE x = 0) : inA x (inV l a x) = true := by
  have hx := axE_ok.1 h
  unfold okA at hx
  have k1 := nx (l := l) (p := a + 1) (n := 1000) (by omega)
  have k2 := nx (l := l) (p := a + 1 + 1) (n := (x.mx - x.mn) / 1000 + 1) (by omega)
  have p1 : 0 ≤ (x.mx - x.mn) / 1000 * nextV l (a + 1) 1000 := Int.mul_nonneg (by omega) k1.1
  have p2 : (x.mx - x.mn) / 1000 * nextV l (a + 1) 1000 ≤ (x.mx - x.mn) / 1000 * 999 := Int.mul_le_mul_of_nonneg_left (by omega) (by omega)
  rw [inA_iff]
  unfold inV
  cases nextV l a 6 == 0 <;> cases nextV l a 6 == 1 <;> simp only [cond_true, cond_false] <;> omega
set_option maxRecDepth 100000 in
theorem sax_11 (B : Nat) (l : List Int) (a : Int) : evS (ctxOf Try.prog (fctI B) (fun _ => false) libH0) Try.f40 71 l a [] [true, true] = some (AV.w (AW.agg [AC.int IntKind.i64 (IntKind.i64.wrap (IntKind.i64.wrap (IntKind.i64.wrap (0 - rangeV l (a + 1 + 1 + 1 + 1 + 1) 0 6) * 1073741824) + nextV l (a + 1 + 1 + 1 + 1 + 1 + 1 + 1 + 1) 1048576)), AC.int IntKind.i64 (IntKind.i64.wrap (IntKind.i64.wrap (rangeV l (a + 1 + 1 + 1 + 1 + 1 + 1) 1 6 * 1073741824) - nextV l (a + 1 + 1 + 1 + 1 + 1 + 1 + 1 + 1 + 1) 1048576)), AC.int IntKind.i64 (IntKind.i64.wrap (spX (rangeV l a 24 30) - IntKind.i64.wrap (nextV l (a + 1 + 1 + 1) 1000 * mi 1 ((IntKind.i64.wrap (spX (rangeV l a 24 30) - 16777216)).fdiv (2 ^ min (Int.toNat 10) IntKind.i64.bits))))), AC.int IntKind.i64 (mi (IntKind.i64.wrap (IntKind.i64.wrap ((spX (rangeV l a 24 30)).tdiv (rangeV l (a + 1) 1 8)) + nextV l (a + 1 + 1 + 1 + 1) 1000)) (IntKind.i64.wrap (spX (rangeV l a 24 30) - IntKind.i64.wrap (nextV l (a + 1 + 1 + 1) 1000 * mi 1 ((IntKind.i64.wrap (spX (rangeV l a 24 30) - 16777216)).fdiv (2 ^ min (Int.toNat 10) IntKind.i64.bits))))))]), a + 1 + 1 + 1 + 1 + 1 + 1 + 1 + 1 + 1 + 1, (pickL [(decide ((30 : Int) < 24), false), (rB 24, true), (rB 30, true), (listB l, true), (atB a, true), (decide (rangeV l a 24 30 < 0), false), (decide ((8 : Int) < 1), false), (rB 1, true), (rB 8, true), (atB (a + 1), true), (decide (rangeV l (a + 1) 1 8 = 0), false), (i64B 3, true), (atB (a + 1 + 1), true), (nextV l (a + 1 + 1) 3 == 0, true), (i64B 1000, true), (atB (a + 1 + 1 + 1), true), (decide ((10 : Int) < 0), false), (atB (a + 1 + 1 + 1 + 1), true), (decide ((6 : Int) < 0), false), (rB 0, true), (rB 6, true), (atB (a + 1 + 1 + 1 + 1 + 1), true), (decide ((6 : Int) < 1), false), (atB (a + 1 + 1 + 1 + 1 + 1 + 1), true), (i64B 4, true), (atB (a + 1 + 1 + 1 + 1 + 1 + 1 + 1), true), (nextV l (a + 1 + 1 + 1 + 1 + 1 + 1 + 1) 4 == 0, true), (i64B 1048576, true), (atB (a + 1 + 1 + 1 + 1 + 1 + 1 + 1 + 1), true), (atB (a + 1 + 1 + 1 + 1 + 1 + 1 + 1 + 1 + 1), true)] [0, 1, 2, 3, 4, 5, 6, 7, 8, 3, 9, 10, 11, 3, 12, 13, 14, 3, 15, 16, 14, 3, 17, 18, 19, 20, 3, 21, 22, 7, 20, 3, 23, 24, 3, 25, 26, 27, 3, 28, 27, 3, 29])) := by kernel_rfl
set_option maxRecDepth 100000 in
theorem sax_10 (B : Nat) (l : List Int) (a : Int) : evS (ctxOf Try.prog (fctI B) (fun _ => false) libH0) Try.f40 71 l a [] [true, false] = some (AV.w (AW.agg [AC.int IntKind.i64 (IntKind.i64.wrap (IntKind.i64.wrap (0 - rangeV l (a + 1 + 1 + 1 + 1 + 1) 0 6) * 1073741824)), AC.int IntKind.i64 (IntKind.i64.wrap (rangeV l (a + 1 + 1 + 1 + 1 + 1 + 1) 1 6 * 1073741824)), AC.int IntKind.i64 (IntKind.i64.wrap (spX (rangeV l a 24 30) - IntKind.i64.wrap (nextV l (a + 1 + 1 + 1) 1000 * mi 1 ((IntKind.i64.wrap (spX (rangeV l a 24 30) - 16777216)).fdiv (2 ^ min (Int.toNat 10) IntKind.i64.bits))))), AC.int IntKind.i64 (mi (IntKind.i64.wrap (IntKind.i64.wrap ((spX (rangeV l a 24 30)).tdiv (rangeV l (a + 1) 1 8)) + nextV l (a + 1 + 1 + 1 + 1) 1000)) (IntKind.i64.wrap (spX (rangeV l a 24 30) - IntKind.i64.wrap (nextV l (a + 1 + 1 + 1) 1000 * mi 1 ((IntKind.i64.wrap (spX (rangeV l a 24 30) - 16777216)).fdiv (2 ^ min (Int.toNat 10) IntKind.i64.bits))))))]), a + 1 + 1 + 1 + 1 + 1 + 1 + 1 + 1, (pickL [(decide ((30 : Int) < 24), false), (rB 24, true), (rB 30, true), (listB l, true), (atB a, true), (decide (rangeV l a 24 30 < 0), false), (decide ((8 : Int) < 1), false), (rB 1, true), (rB 8, true), (atB (a + 1), true), (decide (rangeV l (a + 1) 1 8 = 0), false), (i64B 3, true), (atB (a + 1 + 1), true), (nextV l (a + 1 + 1) 3 == 0, true), (i64B 1000, true), (atB (a + 1 + 1 + 1), true), (decide ((10 : Int) < 0), false), (atB (a + 1 + 1 + 1 + 1), true), (decide ((6 : Int) < 0), false), (rB 0, true), (rB 6, true), (atB (a + 1 + 1 + 1 + 1 + 1), true), (decide ((6 : Int) < 1), false), (atB (a + 1 + 1 + 1 + 1 + 1 + 1), true), (i64B 4, true), (atB (a + 1 + 1 + 1 + 1 + 1 + 1 + 1), true), (nextV l (a + 1 + 1 + 1 + 1 + 1 + 1 + 1) 4 == 0, false)] [0, 1, 2, 3, 4, 5, 6, 7, 8, 3, 9, 10, 11, 3, 12, 13, 14, 3, 15, 16, 14, 3, 17, 18, 19, 20, 3, 21, 22, 7, 20, 3, 23, 24, 3, 25, 26])) := by kernel_rfl
set_option maxRecDepth 100000 in
theorem sax_01 (B : Nat) (l : List Int) (a : Int) : evS (ctxOf Try.prog (fctI B) (fun _ => false) libH0) Try.f40 71 l a [] [false, true] = some (AV.w (AW.agg [AC.int IntKind.i64 (IntKind.i64.wrap (IntKind.i64.wrap (IntKind.i64.wrap (0 - rangeV l (a + 1 + 1 + 1) 0 6) * 1073741824) + nextV l (a + 1 + 1 + 1 + 1 + 1 + 1) 1048576)), AC.int IntKind.i64 (IntKind.i64.wrap (IntKind.i64.wrap (rangeV l (a + 1 + 1 + 1 + 1) 1 6 * 1073741824) - nextV l (a + 1 + 1 + 1 + 1 + 1 + 1 + 1) 1048576)), AC.int IntKind.i64 (spX (rangeV l a 24 30)), AC.int IntKind.i64 (IntKind.i64.wrap ((spX (rangeV l a 24 30)).tdiv (rangeV l (a + 1) 1 8)))]), a + 1 + 1 + 1 + 1 + 1 + 1 + 1 + 1, (pickL [(decide ((30 : Int) < 24), false), (rB 24, true), (rB 30, true), (listB l, true), (atB a, true), (decide (rangeV l a 24 30 < 0), false), (decide ((8 : Int) < 1), false), (rB 1, true), (rB 8, true), (atB (a + 1), true), (decide (rangeV l (a + 1) 1 8 = 0), false), (i64B 3, true), (atB (a + 1 + 1), true), (nextV l (a + 1 + 1) 3 == 0, false), (decide ((6 : Int) < 0), false), (rB 0, true), (rB 6, true), (atB (a + 1 + 1 + 1), true), (decide ((6 : Int) < 1), false), (atB (a + 1 + 1 + 1 + 1), true), (i64B 4, true), (atB (a + 1 + 1 + 1 + 1 + 1), true), (nextV l (a + 1 + 1 + 1 + 1 + 1) 4 == 0, true), (i64B 1048576, true), (atB (a + 1 + 1 + 1 + 1 + 1 + 1), true), (atB (a + 1 + 1 + 1 + 1 + 1 + 1 + 1), true)] [0, 1, 2, 3, 4, 5, 6, 7, 8, 3, 9, 10, 11, 3, 12, 13, 14, 15, 16, 3, 17, 18, 7, 16, 3, 19, 20, 3, 21, 22, 23, 3, 24, 23, 3, 25])) := by kernel_rfl
set_option maxRecDepth 100000 in
theorem sax_00 (B : Nat) (l : List Int) (a : Int) : evS (ctxOf Try.prog (fctI B) (fun _ => false) libH0) Try.f40 71 l a [] [false, false] = some (AV.w (AW.agg [AC.int IntKind.i64 (IntKind.i64.wrap (IntKind.i64.wrap (0 - rangeV l (a + 1 + 1 + 1) 0 6) * 1073741824)), AC.int IntKind.i64 (IntKind.i64.wrap (rangeV l (a + 1 + 1 + 1 + 1) 1 6 * 1073741824)), AC.int IntKind.i64 (spX (rangeV l a 24 30)), AC.int IntKind.i64 (IntKind.i64.wrap ((spX (rangeV l a 24 30)).tdiv (rangeV l (a + 1) 1 8)))]), a + 1 + 1 + 1 + 1 + 1 + 1, (pickL [(decide ((30 : Int) < 24), false), (rB 24, true), (rB 30, true), (listB l, true), (atB a, true), (decide (rangeV l a 24 30 < 0), false), (decide ((8 : Int) < 1), false), (rB 1, true), (rB 8, true), (atB (a + 1), true), (decide (rangeV l (a + 1) 1 8 = 0), false), (i64B 3, true), (atB (a + 1 + 1), true), (nextV l (a + 1 + 1) 3 == 0, false), (decide ((6 : Int) < 0), false), (rB 0, true), (rB 6, true), (atB (a + 1 + 1 + 1), true), (decide ((6 : Int) < 1), false), (atB (a + 1 + 1 + 1 + 1), true), (i64B 4, true), (atB (a + 1 + 1 + 1 + 1 + 1), true), (nextV l (a + 1 + 1 + 1 + 1 + 1) 4 == 0, false)] [0, 1, 2, 3, 4, 5, 6, 7, 8, 3, 9, 10, 11, 3, 12, 13, 14, 15, 16, 3, 17, 18, 7, 16, 3, 19, 20, 3, 21, 22])) := by kernel_rfl
theorem libH0_ok (B : Nat) : LibOk Try.prog (fctI B) (lib1 libH0) := lib1_cons (rangeS_ok B) Try.call71 (libS2_ok B)
set_option maxHeartbeats 4000000 in
theorem axSt_ok (B : Nat) : axSt.ok Try.prog (fctI B) 40 := by
  refine stream_ok (ctxOf_ok (libH0_ok B) (eq_none _)) (by kernel_rfl) Try.func40 rfl fun l a rest v a' cd hg hc => ?_
  simp only [axG] at hg
  split at hg
  · cases hg
    have hl : listB l = true := hc (listB l, true) (by simp)
    have ha : atB a = true := hc (atB a, true) (by simp)
    have ha1 := atB_iff.1 ha
    have ha5 := atB_iff.1 (hc (atB (a + 12), true) (by simp))
    have k1 := rangeV_in l a 24 30 (by omega)
    have k2 := rangeV_in l (a + 1) 1 8 (by omega)
    obtain ⟨_, _, _, y4, y5⟩ := acX_in k1.1 k1.2 k2.1 k2.2
    cases h1 : (nextV l (a + 1 + 1) 3 == 0) with
    | true =>
      cases h2 : (nextV l (a + 1 + 1 + 1 + 1 + 1 + 1 + 1) 4 == 0) with
      | true =>
        have e1 : axF l a = ⟨-rangeV l (a + 1 + 1 + 1 + 1 + 1) 0 6 * 1073741824 + nextV l (a + 1 + 1 + 1 + 1 + 1 + 1 + 1 + 1) 1048576, rangeV l (a + 1 + 1 + 1 + 1 + 1 + 1) 1 6 * 1073741824 - nextV l (a + 1 + 1 + 1 + 1 + 1 + 1 + 1 + 1 + 1) 1048576, spY (rangeV l a 24 30) (nextV l (a + 1 + 1 + 1) 1000), acY (rangeV l a 24 30) (rangeV l (a + 1) 1 8) (nextV l (a + 1 + 1 + 1) 1000) (nextV l (a + 1 + 1 + 1 + 1) 1000)⟩ := by unfold axF; rw [h1, h2]; rfl
        have e2 : axAt l a = (a + 1 + 1 + 1 + 1 + 1 + 1 + 1 + 1 + 1 + 1) := by unfold axAt; rw [h1, h2]; rfl
        have r1 := rangeV_in l (a + 1 + 1 + 1 + 1 + 1) 0 6 (by omega)
        have r2 := rangeV_in l (a + 1 + 1 + 1 + 1 + 1 + 1) 1 6 (by omega)
        have w1 : IntKind.i64.wrap (0 - rangeV l (a + 1 + 1 + 1 + 1 + 1) 0 6) = -rangeV l (a + 1 + 1 + 1 + 1 + 1) 0 6 := by rw [v64 (by omega) (by omega)]; omega
        have w2 : IntKind.i64.wrap (-rangeV l (a + 1 + 1 + 1 + 1 + 1) 0 6 * 1073741824) = -rangeV l (a + 1 + 1 + 1 + 1 + 1) 0 6 * 1073741824 := v64 (by omega) (by omega)
        have w3 : IntKind.i64.wrap (rangeV l (a + 1 + 1 + 1 + 1 + 1 + 1) 1 6 * 1073741824) = rangeV l (a + 1 + 1 + 1 + 1 + 1 + 1) 1 6 * 1073741824 := v64 (by omega) (by omega)
        have k5 := nx (l := l) (p := (a + 1 + 1 + 1 + 1 + 1 + 1 + 1 + 1)) (n := 1048576) (by omega)
        have k6 := nx (l := l) (p := (a + 1 + 1 + 1 + 1 + 1 + 1 + 1 + 1 + 1)) (n := 1048576) (by omega)
        have w4 : IntKind.i64.wrap (-rangeV l (a + 1 + 1 + 1 + 1 + 1) 0 6 * 1073741824 + nextV l (a + 1 + 1 + 1 + 1 + 1 + 1 + 1 + 1) 1048576) = -rangeV l (a + 1 + 1 + 1 + 1 + 1) 0 6 * 1073741824 + nextV l (a + 1 + 1 + 1 + 1 + 1 + 1 + 1 + 1) 1048576 := v64 (by omega) (by omega)
        have w5 : IntKind.i64.wrap (rangeV l (a + 1 + 1 + 1 + 1 + 1 + 1) 1 6 * 1073741824 - nextV l (a + 1 + 1 + 1 + 1 + 1 + 1 + 1 + 1 + 1) 1048576) = rangeV l (a + 1 + 1 + 1 + 1 + 1 + 1) 1 6 * 1073741824 - nextV l (a + 1 + 1 + 1 + 1 + 1 + 1 + 1 + 1 + 1) 1048576 := v64 (by omega) (by omega)
        have k3 := nx (l := l) (p := (a + 1 + 1 + 1)) (n := 1000) (by omega)
        have k4 := nx (l := l) (p := (a + 1 + 1 + 1 + 1)) (n := 1000) (by omega)
        obtain ⟨_, _, _, x1, x2, x3⟩ := spY_in k1.1 k1.2 k3.1 k3.2
        obtain ⟨_, _, _, x4⟩ := acY_in k1.1 k1.2 k2.1 k2.2 k3.1 k3.2 k4.1 k4.2
        rw [e1, e2]
        have L := sax_11 B l a
        rw [w1, w2, w3, w4, w5, x1, x2, x3, y4, y5, x4] at L
        refine ⟨[], _, [true, true], _, _, [], .nil, .nil, rfl, rfl, rfl, L, pickL_ok ?_ _⟩
        repeat' (first | exact cd_nil | refine cd_cons ?_ ?_)
        all_goals first | with_reducible rfl | with_reducible assumption | rfl | (with_reducible refine atB_iff.2 ?_; omega) | (with_reducible refine decide_eq_false ?_; omega) | (with_reducible refine decide_eq_true ?_; omega)

      | false =>
        have e1 : axF l a = ⟨-rangeV l (a + 1 + 1 + 1 + 1 + 1) 0 6 * 1073741824, rangeV l (a + 1 + 1 + 1 + 1 + 1 + 1) 1 6 * 1073741824, spY (rangeV l a 24 30) (nextV l (a + 1 + 1 + 1) 1000), acY (rangeV l a 24 30) (rangeV l (a + 1) 1 8) (nextV l (a + 1 + 1 + 1) 1000) (nextV l (a + 1 + 1 + 1 + 1) 1000)⟩ := by unfold axF; rw [h1, h2]; rfl
        have e2 : axAt l a = (a + 1 + 1 + 1 + 1 + 1 + 1 + 1 + 1) := by unfold axAt; rw [h1, h2]; rfl
        have r1 := rangeV_in l (a + 1 + 1 + 1 + 1 + 1) 0 6 (by omega)
        have r2 := rangeV_in l (a + 1 + 1 + 1 + 1 + 1 + 1) 1 6 (by omega)
        have w1 : IntKind.i64.wrap (0 - rangeV l (a + 1 + 1 + 1 + 1 + 1) 0 6) = -rangeV l (a + 1 + 1 + 1 + 1 + 1) 0 6 := by rw [v64 (by omega) (by omega)]; omega
        have w2 : IntKind.i64.wrap (-rangeV l (a + 1 + 1 + 1 + 1 + 1) 0 6 * 1073741824) = -rangeV l (a + 1 + 1 + 1 + 1 + 1) 0 6 * 1073741824 := v64 (by omega) (by omega)
        have w3 : IntKind.i64.wrap (rangeV l (a + 1 + 1 + 1 + 1 + 1 + 1) 1 6 * 1073741824) = rangeV l (a + 1 + 1 + 1 + 1 + 1 + 1) 1 6 * 1073741824 := v64 (by omega) (by omega)
        have k3 := nx (l := l) (p := (a + 1 + 1 + 1)) (n := 1000) (by omega)
        have k4 := nx (l := l) (p := (a + 1 + 1 + 1 + 1)) (n := 1000) (by omega)
        obtain ⟨_, _, _, x1, x2, x3⟩ := spY_in k1.1 k1.2 k3.1 k3.2
        obtain ⟨_, _, _, x4⟩ := acY_in k1.1 k1.2 k2.1 k2.2 k3.1 k3.2 k4.1 k4.2
        rw [e1, e2]
        have L := sax_10 B l a
        rw [w1, w2, w3, x1, x2, x3, y4, y5, x4] at L
        refine ⟨[], _, [true, false], _, _, [], .nil, .nil, rfl, rfl, rfl, L, pickL_ok ?_ _⟩
        repeat' (first | exact cd_nil | refine cd_cons ?_ ?_)
        all_goals first | with_reducible rfl | with_reducible assumption | rfl | (with_reducible refine atB_iff.2 ?_; omega) | (with_reducible refine decide_eq_false ?_; omega) | (with_reducible refine decide_eq_true ?_; omega)

    | false =>
      cases h2 : (nextV l (a + 1 + 1 + 1 + 1 + 1) 4 == 0) with
      | true =>
        have e1 : axF l a = ⟨-rangeV l (a + 1 + 1 + 1) 0 6 * 1073741824 + nextV l (a + 1 + 1 + 1 + 1 + 1 + 1) 1048576, rangeV l (a + 1 + 1 + 1 + 1) 1 6 * 1073741824 - nextV l (a + 1 + 1 + 1 + 1 + 1 + 1 + 1) 1048576, spX (rangeV l a 24 30), acX (rangeV l a 24 30) (rangeV l (a + 1) 1 8)⟩ := by unfold axF; rw [h1, h2]; rfl
        have e2 : axAt l a = (a + 1 + 1 + 1 + 1 + 1 + 1 + 1 + 1) := by unfold axAt; rw [h1, h2]; rfl
        have r1 := rangeV_in l (a + 1 + 1 + 1) 0 6 (by omega)
        have r2 := rangeV_in l (a + 1 + 1 + 1 + 1) 1 6 (by omega)
        have w1 : IntKind.i64.wrap (0 - rangeV l (a + 1 + 1 + 1) 0 6) = -rangeV l (a + 1 + 1 + 1) 0 6 := by rw [v64 (by omega) (by omega)]; omega
        have w2 : IntKind.i64.wrap (-rangeV l (a + 1 + 1 + 1) 0 6 * 1073741824) = -rangeV l (a + 1 + 1 + 1) 0 6 * 1073741824 := v64 (by omega) (by omega)
        have w3 : IntKind.i64.wrap (rangeV l (a + 1 + 1 + 1 + 1) 1 6 * 1073741824) = rangeV l (a + 1 + 1 + 1 + 1) 1 6 * 1073741824 := v64 (by omega) (by omega)
        have k5 := nx (l := l) (p := (a + 1 + 1 + 1 + 1 + 1 + 1)) (n := 1048576) (by omega)
        have k6 := nx (l := l) (p := (a + 1 + 1 + 1 + 1 + 1 + 1 + 1)) (n := 1048576) (by omega)
        have w4 : IntKind.i64.wrap (-rangeV l (a + 1 + 1 + 1) 0 6 * 1073741824 + nextV l (a + 1 + 1 + 1 + 1 + 1 + 1) 1048576) = -rangeV l (a + 1 + 1 + 1) 0 6 * 1073741824 + nextV l (a + 1 + 1 + 1 + 1 + 1 + 1) 1048576 := v64 (by omega) (by omega)
        have w5 : IntKind.i64.wrap (rangeV l (a + 1 + 1 + 1 + 1) 1 6 * 1073741824 - nextV l (a + 1 + 1 + 1 + 1 + 1 + 1 + 1) 1048576) = rangeV l (a + 1 + 1 + 1 + 1) 1 6 * 1073741824 - nextV l (a + 1 + 1 + 1 + 1 + 1 + 1 + 1) 1048576 := v64 (by omega) (by omega)
        rw [e1, e2]
        have L := sax_01 B l a
        rw [w1, w2, w3, w4, w5, y4, y5] at L
        refine ⟨[], _, [false, true], _, _, [], .nil, .nil, rfl, rfl, rfl, L, pickL_ok ?_ _⟩
        repeat' (first | exact cd_nil | refine cd_cons ?_ ?_)
        all_goals first | with_reducible rfl | with_reducible assumption | rfl | (with_reducible refine atB_iff.2 ?_; omega) | (with_reducible refine decide_eq_false ?_; omega) | (with_reducible refine decide_eq_true ?_; omega)

      | false =>
        have e1 : axF l a = ⟨-rangeV l (a + 1 + 1 + 1) 0 6 * 1073741824, rangeV l (a + 1 + 1 + 1 + 1) 1 6 * 1073741824, spX (rangeV l a 24 30), acX (rangeV l a 24 30) (rangeV l (a + 1) 1 8)⟩ := by unfold axF; rw [h1, h2]; rfl
        have e2 : axAt l a = (a + 1 + 1 + 1 + 1 + 1 + 1) := by unfold axAt; rw [h1, h2]; rfl
        have r1 := rangeV_in l (a + 1 + 1 + 1) 0 6 (by omega)
        have r2 := rangeV_in l (a + 1 + 1 + 1 + 1) 1 6 (by omega)
        have w1 : IntKind.i64.wrap (0 - rangeV l (a + 1 + 1 + 1) 0 6) = -rangeV l (a + 1 + 1 + 1) 0 6 := by rw [v64 (by omega) (by omega)]; omega
        have w2 : IntKind.i64.wrap (-rangeV l (a + 1 + 1 + 1) 0 6 * 1073741824) = -rangeV l (a + 1 + 1 + 1) 0 6 * 1073741824 := v64 (by omega) (by omega)
        have w3 : IntKind.i64.wrap (rangeV l (a + 1 + 1 + 1 + 1) 1 6 * 1073741824) = rangeV l (a + 1 + 1 + 1 + 1) 1 6 * 1073741824 := v64 (by omega) (by omega)
        rw [e1, e2]
        have L := sax_00 B l a
        rw [w1, w2, w3, y4, y5] at L
        refine ⟨[], _, [false, false], _, _, [], .nil, .nil, rfl, rfl, rfl, L, pickL_ok ?_ _⟩
        repeat' (first | exact cd_nil | refine cd_cons ?_ ?_)
        all_goals first | with_reducible rfl | with_reducible assumption | rfl | (with_reducible refine atB_iff.2 ?_; omega) | (with_reducible refine decide_eq_false ?_; omega) | (with_reducible refine decide_eq_true ?_; omega)

  · cases hg
set_option maxRecDepth 100000 in
theorem sin_1 (B : Nat) (l : List Int) (a : Int) (x : Ax) : evS (ctxOf Try.prog (fctI B) (fun _ => false) libH0) Try.f41 71 l a [(axA x)] [true] = some (AV.w (AW.one (AC.int IntKind.i64 x.mn)), a + 1, (pickL [(i64B 6, true), (listB l, true), (atB a, true), (nextV l a 6 == 0, true)] [0, 1, 2, 3])) := by kernel_rfl
set_option maxRecDepth 100000 in
theorem sin_01 (B : Nat) (l : List Int) (a : Int) (x : Ax) : evS (ctxOf Try.prog (fctI B) (fun _ => false) libH0) Try.f41 71 l a [(axA x)] [false, true] = some (AV.w (AW.one (AC.int IntKind.i64 x.mx)), a + 1, (pickL [(i64B 6, true), (listB l, true), (atB a, true), (nextV l a 6 == 0, false), (nextV l a 6 == 1, true)] [0, 1, 2, 3, 4])) := by kernel_rfl
set_option maxRecDepth 100000 in
theorem sin_00 (B : Nat) (l : List Int) (a : Int) (x : Ax) : evS (ctxOf Try.prog (fctI B) (fun _ => false) libH0) Try.f41 71 l a [(axA x)] [false, false] = some (AV.w (AW.one (AC.int IntKind.i64 (IntKind.i64.wrap (IntKind.i64.wrap (x.mn + IntKind.i64.wrap (IntKind.i64.wrap ((IntKind.i64.wrap (x.mx - x.mn)).tdiv 1000) * nextV l (a + 1) 1000)) + nextV l (a + 1 + 1) (IntKind.i64.wrap (IntKind.i64.wrap ((IntKind.i64.wrap (x.mx - x.mn)).tdiv 1000) + 1)))))), a + 1 + 1 + 1, (pickL [(i64B 6, true), (listB l, true), (atB a, true), (nextV l a 6 == 0, false), (nextV l a 6 == 1, false), (decide ((1000 : Int) = 0), false), (i64B 1000, true), (atB (a + 1), true), (i64B (IntKind.i64.wrap (IntKind.i64.wrap ((IntKind.i64.wrap (x.mx - x.mn)).tdiv 1000) + 1)), true), (atB (a + 1 + 1), true)] [0, 1, 2, 3, 4, 5, 6, 1, 7, 8, 1, 9])) := by kernel_rfl
set_option maxHeartbeats 4000000 in
theorem inSt_ok (B : Nat) : inSt.ok Try.prog (fctI B) 41 := by
  refine stream_ok (ctxOf_ok (libH0_ok B) (eq_none _)) (by kernel_rfl) Try.func41 rfl fun l a rest v a' cd hg hc => ?_
  simp only [inG] at hg
  split at hg
  · rename_i x y z t
    cases hg
    have hl : listB l = true := hc (listB l, true) (by simp)
    have ha : atB a = true := hc (atB a, true) (by simp)
    have ha1 := atB_iff.1 ha
    have ha5 := atB_iff.1 (hc (atB (a + 4), true) (by simp))
    have hx := axE_ok.1 (of_decide_eq_true (hc (decide (axE ⟨x, y, z, t⟩ = 0), true) (by simp)))
    unfold okA at hx
    simp only at hx
    cases h1 : (nextV l a 6 == 0) with
    | true =>
      have e1 : inV l a ⟨x, y, z, t⟩ = x := by unfold inV; rw [h1]; rfl
      have e2 : inAt l a = a + 1 := by unfold inAt; rw [h1]; rfl
      rw [e1, e2]
      have L := sin_1 B l a ⟨x, y, z, t⟩
      refine ⟨[axV ⟨x, y, z, t⟩], _, [true], _, _, _, (.cons rfl .nil), (.cons rfl .nil), rfl, rfl, rfl, L, pickL_ok ?_ _⟩
      repeat' (first | exact cd_nil | refine cd_cons ?_ ?_)
      all_goals first | with_reducible rfl | with_reducible assumption | rfl | (with_reducible refine atB_iff.2 ?_; omega) | (with_reducible refine decide_eq_false ?_; omega) | (with_reducible refine decide_eq_true ?_; omega)

    | false =>
      cases h2 : (nextV l a 6 == 1) with
      | true =>
        have e1 : inV l a ⟨x, y, z, t⟩ = y := by unfold inV; rw [h1, h2]; rfl
        have e2 : inAt l a = a + 1 := by unfold inAt; rw [h1, h2]; rfl
        rw [e1, e2]
        have L := sin_01 B l a ⟨x, y, z, t⟩
        refine ⟨[axV ⟨x, y, z, t⟩], _, [false, true], _, _, _, (.cons rfl .nil), (.cons rfl .nil), rfl, rfl, rfl, L, pickL_ok ?_ _⟩
        repeat' (first | exact cd_nil | refine cd_cons ?_ ?_)
        all_goals first | with_reducible rfl | with_reducible assumption | rfl | (with_reducible refine atB_iff.2 ?_; omega) | (with_reducible refine decide_eq_false ?_; omega) | (with_reducible refine decide_eq_true ?_; omega)

      | false =>
        have k1 := nx (l := l) (p := a + 1) (n := 1000) (by omega)
        have k2 := nx (l := l) (p := a + 1 + 1) (n := (y - x) / 1000 + 1) (by omega)
        have p1 : 0 ≤ (y - x) / 1000 * nextV l (a + 1) 1000 := Int.mul_nonneg (by omega) k1.1
        have p2 : (y - x) / 1000 * nextV l (a + 1) 1000 ≤ (y - x) / 1000 * 999 := Int.mul_le_mul_of_nonneg_left (by omega) (by omega)
        have w1 : IntKind.i64.wrap (y - x) = y - x := v64 (by omega) (by omega)
        have w2 : (y - x).tdiv 1000 = (y - x) / 1000 := Int.tdiv_eq_ediv_of_nonneg (by omega)
        have w3 : IntKind.i64.wrap ((y - x) / 1000) = (y - x) / 1000 := v64 (by omega) (by omega)
        have w4 : IntKind.i64.wrap ((y - x) / 1000 * nextV l (a + 1) 1000) = (y - x) / 1000 * nextV l (a + 1) 1000 := v64 (by omega) (by omega)
        have w5 : IntKind.i64.wrap (x + (y - x) / 1000 * nextV l (a + 1) 1000) = x + (y - x) / 1000 * nextV l (a + 1) 1000 := v64 (by omega) (by omega)
        have w6 : IntKind.i64.wrap ((y - x) / 1000 + 1) = (y - x) / 1000 + 1 := v64 (by omega) (by omega)
        have w7 : IntKind.i64.wrap (x + (y - x) / 1000 * nextV l (a + 1) 1000 + nextV l (a + 1 + 1) ((y - x) / 1000 + 1)) = x + (y - x) / 1000 * nextV l (a + 1) 1000 + nextV l (a + 1 + 1) ((y - x) / 1000 + 1) := v64 (by omega) (by omega)
        have i1 : i64B ((y - x) / 1000 + 1) = true := i64B_iff.2 (by omega)
        have e1 : inV l a ⟨x, y, z, t⟩ = x + (y - x) / 1000 * nextV l (a + 1) 1000 + nextV l (a + 1 + 1) ((y - x) / 1000 + 1) := by unfold inV; rw [h1, h2]; rfl
        have e2 : inAt l a = a + 1 + 1 + 1 := by unfold inAt; rw [h1, h2]; rfl
        rw [e1, e2]
        have L := sin_00 B l a ⟨x, y, z, t⟩
        simp only [w1, w2, w3, w4, w5, w6, w7] at L
        refine ⟨[axV ⟨x, y, z, t⟩], _, [false, false], _, _, _, (.cons rfl .nil), (.cons rfl .nil), rfl, rfl, rfl, L, pickL_ok ?_ _⟩
        repeat' (first | exact cd_nil | refine cd_cons ?_ ?_)
        all_goals first | with_reducible rfl | with_reducible assumption | rfl | (with_reducible refine atB_iff.2 ?_; omega) | (with_reducible refine decide_eq_false ?_; omega) | (with_reducible refine decide_eq_true ?_; omega)

  · cases hg
end
end Go.Proofs.Ytiamhppdacfmmaa.AtSl

