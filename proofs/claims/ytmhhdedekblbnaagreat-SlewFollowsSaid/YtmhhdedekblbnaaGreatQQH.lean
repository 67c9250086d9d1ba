/-
 Package spymake's axes, positions and mounts out of streams: they are valid.
 Conditions: those of each theorem.
-/
import Derived.Test.YtmhhdedekblbnaaGreatQQE
import Derived.Test.YtmhhdedekblbnaaGreatQGO
import Derived.Test.YtmhhdedekblbnaaGreatQST
set_option maxRecDepth 100000
set_option linter.unusedVariables false
set_option linter.unusedSimpArgs false
namespace Go.Proofs.YtmhhdedekblbnaaGreat.AtSl
open Go.RowKit Ev Wd
open Go.Proofs.YtmhhdedekblbnaaGreat
variable {F : Type}
noncomputable section

def spX (k : Int) : Int := IntKind.i64.wrap (1 * 2 ^ min k.toNat IntKind.i64.bits)
def spY (k n : Int) : Int := spX k - n * mi 1 ((spX k - 16777216) / 1024)
def acX (k r : Int) : Int := spX k / r
def acY (k r n m : Int) : Int := mi (acX k r + m) (spY k n)
def axF (l : List Int) (a : Int) : Ax :=
 bif nextV l (a + 1 + 1) 3 == 0 then (bif nextV l (a + 1 + 1 + 1 + 1 + 1 + 1 + 1) 4 == 0 then ⟨-rangeV l (a + 1 + 1 + 1 + 1 + 1) 0 6 * 1073741824 + nextV l (a + 1 + 1 + 1 + 1 + 1 + 1 + 1 + 1) 1048576, rangeV l (a + 1 + 1 + 1 + 1 + 1 + 1) 1 6 * 1073741824 - nextV l (a + 1 + 1 + 1 + 1 + 1 + 1 + 1 + 1 + 1) 1048576, spY (rangeV l a 24 30) (nextV l (a + 1 + 1 + 1) 1000), acY (rangeV l a 24 30) (rangeV l (a + 1) 1 8) (nextV l (a + 1 + 1 + 1) 1000) (nextV l (a + 1 + 1 + 1 + 1) 1000)⟩ else
   ⟨-rangeV l (a + 1 + 1 + 1 + 1 + 1) 0 6 * 1073741824, rangeV l (a + 1 + 1 + 1 + 1 + 1 + 1) 1 6 * 1073741824, spY (rangeV l a 24 30) (nextV l (a + 1 + 1 + 1) 1000), acY (rangeV l a 24 30) (rangeV l (a + 1) 1 8) (nextV l (a + 1 + 1 + 1) 1000) (nextV l (a + 1 + 1 + 1 + 1) 1000)⟩) else
 (bif nextV l (a + 1 + 1 + 1 + 1 + 1) 4 == 0 then ⟨-rangeV l (a + 1 + 1 + 1) 0 6 * 1073741824 + nextV l (a + 1 + 1 + 1 + 1 + 1 + 1) 1048576, rangeV l (a + 1 + 1 + 1 + 1) 1 6 * 1073741824 - nextV l (a + 1 + 1 + 1 + 1 + 1 + 1 + 1) 1048576, spX (rangeV l a 24 30), acX (rangeV l a 24 30) (rangeV l (a + 1) 1 8)⟩ else
   ⟨-rangeV l (a + 1 + 1 + 1) 0 6 * 1073741824, rangeV l (a + 1 + 1 + 1 + 1) 1 6 * 1073741824, spX (rangeV l a 24 30), acX (rangeV l a 24 30) (rangeV l (a + 1) 1 8)⟩)
def axAt (l : List Int) (a : Int) : Int := bif nextV l (a + 1 + 1) 3 == 0 then (bif nextV l (a + 1 + 1 + 1 + 1 + 1 + 1 + 1) 4 == 0 then (a + 1 + 1 + 1 + 1 + 1 + 1 + 1 + 1 + 1 + 1) else (a + 1 + 1 + 1 + 1 + 1 + 1 + 1 + 1)) else (bif nextV l (a + 1 + 1 + 1 + 1 + 1) 4 == 0 then (a + 1 + 1 + 1 + 1 + 1 + 1 + 1 + 1) else (a + 1 + 1 + 1 + 1 + 1 + 1))
def inV (l : List Int) (a : Int) (x : Ax) : Int := bif nextV l a 6 == 0 then x.mn else bif nextV l a 6 == 1 then x.mx else x.mn + (x.mx - x.mn) / 1000 * nextV l (a + 1) 1000 + nextV l (a + 1 + 1) ((x.mx - x.mn) / 1000 + 1)
def inAt (l : List Int) (a : Int) : Int := bif nextV l a 6 == 0 then a + 1 else bif nextV l a 6 == 1 then a + 1 else (a + 1 + 1 + 1)
theorem spX_in {k : Int} (h1 : 24 <= k) (h2 : k <= 30) : 16777216 <= spX k /\ spX k <= 1073741824 := by
 have : k = 24 \/ k = 25 \/ k = 26 \/ k = 27 \/ k = 28 \/ k = 29 \/ k = 30 := by omega
 rcases this with rfl | rfl | rfl | rfl | rfl | rfl | rfl <;> decide
theorem acX_in {k r : Int} (h1 : 24 <= k) (h2 : k <= 30) (h3 : 1 <= r) (h4 : r <= 8) : 2097152 <= acX k r /\ acX k r <= spX k /\ spX k <= 64 * acX k r - 1000000 /\ (spX k).tdiv r = acX k r /\ IntKind.i64.wrap (acX k r) = acX k r := by
 have hs := spX_in h1 h2
 unfold acX
 rw [Int.tdiv_eq_ediv_of_nonneg (by omega)]
 have hw : 0 <= spX k / r /\ spX k / r <= spX k := ⟨Int.ediv_nonneg (by omega) (by omega), Int.ediv_le_self _ (by omega)⟩
 refine ⟨?_, hw.2, ?_, rfl, v64 (by omega) (by omega)⟩
 · have : r = 1 \/ r = 2 \/ r = 3 \/ r = 4 \/ r = 5 \/ r = 6 \/ r = 7 \/ r = 8 := by omega
   rcases this with rfl | rfl | rfl | rfl | rfl | rfl | rfl | rfl <;> omega
 · have : r = 1 \/ r = 2 \/ r = 3 \/ r = 4 \/ r = 5 \/ r = 6 \/ r = 7 \/ r = 8 := by omega
   rcases this with rfl | rfl | rfl | rfl | rfl | rfl | rfl | rfl <;> omega
theorem spY_in {k n : Int} (h1 : 24 <= k) (h2 : k <= 30) (h3 : 0 <= n) (h4 : n < 1000) : 16777216 <= spY k n /\ spY k n <= spX k /\ spX k <= spY k n + 1000 /\
   (IntKind.i64.wrap (spX k - 16777216)).fdiv (2 ^ min (Int.toNat 10) IntKind.i64.bits) = (spX k - 16777216) / 1024 /\ IntKind.i64.wrap (n * mi 1 ((spX k - 16777216) / 1024)) = n * mi 1 ((spX k - 16777216) / 1024) /\ IntKind.i64.wrap (spX k - n * mi 1 ((spX k - 16777216) / 1024)) = spY k n := by
 have hs := spX_in h1 h2
 have hk : spX k = 16777216 \/ 33554432 <= spX k := by
   have : k = 24 \/ k = 25 \/ k = 26 \/ k = 27 \/ k = 28 \/ k = 29 \/ k = 30 := by omega
   rcases this with rfl | rfl | rfl | rfl | rfl | rfl | rfl
   · exact .inl (by decide)
   all_goals exact .inr (by decide)
 have e0 : IntKind.i64.wrap (spX k - 16777216) = spX k - 16777216 := v64 (by omega) (by omega)
 have e1 : ((2 : Int) ^ min (Int.toNat 10) IntKind.i64.bits) = 1024 := by decide
 unfold spY
 have hq : mi 1 ((spX k - 16777216) / 1024) = 0 /\ spX k = 16777216 \/ mi 1 ((spX k - 16777216) / 1024) = 1 /\ 33554432 <= spX k := by
   rw [mi_eq]; omega
 rw [e0, e1, Int.fdiv_eq_ediv_of_nonneg _ (by omega)]
 rcases hq with ⟨q, h⟩ | ⟨q, h⟩
 · rw [q, Int.mul_zero]
   exact ⟨by omega, by omega, by omega, rfl, v64 (by omega) (by omega), v64 (by omega) (by omega)⟩
 · rw [q, Int.mul_one]
   exact ⟨by omega, by omega, by omega, rfl, v64 (by omega) (by omega), v64 (by omega) (by omega)⟩
theorem acY_in {k r n m : Int} (h1 : 24 <= k) (h2 : k <= 30) (h3 : 1 <= r) (h4 : r <= 8) (h5 : 0 <= n) (h6 : n < 1000) (h7 : 0 <= m) (h8 : m < 1000) : 1 <= acY k r n m /\ acY k r n m <= spY k n /\ spY k n <= 64 * acY k r n m /\ IntKind.i64.wrap (acX k r + m) = acX k r + m := by
 have hs := spX_in h1 h2
 obtain ⟨a1, a2, a3, _, _⟩ := acX_in h1 h2 h3 h4
 obtain ⟨b1, b2, b3, _, _, _⟩ := spY_in h1 h2 h5 h6
 unfold acY
 rw [mi_eq]
 refine ⟨by omega, by omega, by omega, v64 (by omega) (by omega)⟩
theorem nx {l : List Int} {p n : Int} (h : 1 <= n) : 0 <= nextV l p n /\ nextV l p n < n := nextV_in l p n h
theorem axF_ok (l : List Int) (a : Int) : axE (axF l a) = 0 /\ (-6442450944 <= (axF l a).mn /\ (axF l a).mn <= 1048576) /\ (axF l a).mx <= 6442450944 /\ 1072693248 <= (axF l a).mx /\ 262144 <= (axF l a).ac := by
 have k1 := rangeV_in l a 24 30 (by omega)
 have k2 := rangeV_in l (a + 1) 1 8 (by omega)
 have sx := spX_in k1.1 k1.2
 obtain ⟨c1, c2, c3, _, _⟩ := acX_in k1.1 k1.2 k2.1 k2.2
 rw [axE_ok]
 unfold axF okA
 cases nextV l (a + 1 + 1) 3 == 0 with
 | true =>
   have k3 := nx (l := l) (p := a + 1 + 1 + 1) (n := 1000) (by omega)
   have k4 := nx (l := l) (p := a + 1 + 1 + 1 + 1) (n := 1000) (by omega)
   obtain ⟨b1, b2, b3, _, _, _⟩ := spY_in k1.1 k1.2 k3.1 k3.2
   obtain ⟨d1, d2, d3, _⟩ := acY_in k1.1 k1.2 k2.1 k2.2 k3.1 k3.2 k4.1 k4.2
   have r1 := rangeV_in l (a + 1 + 1 + 1 + 1 + 1) 0 6 (by omega)
   have r2 := rangeV_in l (a + 1 + 1 + 1 + 1 + 1 + 1) 1 6 (by omega)
   have k5 := nx (l := l) (p := a + 1 + 1 + 1 + 1 + 1 + 1 + 1 + 1) (n := 1048576) (by omega)
   have k6 := nx (l := l) (p := a + 1 + 1 + 1 + 1 + 1 + 1 + 1 + 1 + 1) (n := 1048576) (by omega)
   cases nextV l (a + 1 + 1 + 1 + 1 + 1 + 1 + 1) 4 == 0 <;> simp only [cond_true, cond_false] <;> omega
 | false =>
   have r1 := rangeV_in l (a + 1 + 1 + 1) 0 6 (by omega)
   have r2 := rangeV_in l (a + 1 + 1 + 1 + 1) 1 6 (by omega)
   have k5 := nx (l := l) (p := a + 1 + 1 + 1 + 1 + 1 + 1) (n := 1048576) (by omega)
   have k6 := nx (l := l) (p := a + 1 + 1 + 1 + 1 + 1 + 1 + 1) (n := 1048576) (by omega)
   cases nextV l (a + 1 + 1 + 1 + 1 + 1) 4 == 0 <;> simp only [cond_true, cond_false] <;> omega
theorem axAt_in (l : List Int) (a : Int) : a + 6 <= axAt l a /\ axAt l a <= a + 10 := by
 unfold axAt
 cases nextV l (a + 1 + 1) 3 == 0 <;> cases nextV l (a + 1 + 1 + 1 + 1 + 1 + 1 + 1) 4 == 0 <;> cases nextV l (a + 1 + 1 + 1 + 1 + 1) 4 == 0 <;> simp only [cond_true, cond_false] <;> omega
theorem inAt_in (l : List Int) (a : Int) : a + 1 <= inAt l a /\ inAt l a <= a + 3 := by
 unfold inAt
 cases nextV l a 6 == 0 <;> cases nextV l a 6 == 1 <;> simp only [cond_true, cond_false] <;> omega
theorem inV_in (l : List Int) (a : Int) {x : Ax} (h : axE x = 0) : inA x (inV l a x) = true := by
 have hx := axE_ok.1 h
 unfold okA at hx
 have k1 := nx (l := l) (p := a + 1) (n := 1000) (by omega)
 have k2 := nx (l := l) (p := a + 1 + 1) (n := (x.mx - x.mn) / 1000 + 1) (by omega)
 have p1 : 0 <= (x.mx - x.mn) / 1000 * nextV l (a + 1) 1000 := Int.mul_nonneg (by omega) k1.1
 have p2 : (x.mx - x.mn) / 1000 * nextV l (a + 1) 1000 <= (x.mx - x.mn) / 1000 * 999 := Int.mul_le_mul_of_nonneg_left (by omega) (by omega)
 rw [inA_iff]
 unfold inV
 cases nextV l a 6 == 0 <;> cases nextV l a 6 == 1 <;> simp only [cond_true, cond_false] <;> omega
end
end Go.Proofs.YtmhhdedekblbnaaGreat.AtSl
