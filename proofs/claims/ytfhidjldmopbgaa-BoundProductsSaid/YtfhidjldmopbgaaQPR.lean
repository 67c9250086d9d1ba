/-
  The reference's Ratios over local slices of four and of two numbers.
  Conditions: those of each theorem.
-/
import Derived.Test.YtfhidjldmopbgaaQBR
import Derived.Test.YtfhidjldmopbgaaQLS

set_option linter.unusedVariables false
set_option linter.unusedSimpArgs false
namespace Go.Proofs.Ytfhidjldmopbgaa.AtBr
open Ev Go.RowKit Go.Shelf Zd Wd
open Go.Proofs.Ytfhidjldmopbgaa
noncomputable section

/-- A number as it stands in a cell: its sign and its value. -/
structure Zn where
  s : Bool
  x : Int
def phZ : Option Int → List (AC Nm)
  | none => [.yes false, .lit (.slice none 0 0)]
  | some a => [.bool (decide (a < 0)), .fv (.num a)]
noncomputable abbrev libP1 : List (Nat × FnSp Nm) := [(9, nfn nMinus), (37, nfn nFloor), (38, nfn nCeil), (25, nfn nCmp)]
theorem libP1_ok : LibOk Try.prog numI (lib1 libP1) := (lib1_cons nMinus_ok Try.call9 (lib1_cons nFloor_ok Try.call37 (lib1_cons nCeil_ok Try.call38 (lib1_cons nCmp_ok Try.call25 (lib1_nil _ _)))))
def dlB (z : Int) : Bool := decide ((digs z.natAbs).length ≤ 20)
def dm (z : Int) : Bool := decide ((digs z.natAbs).length ≤ 30)
theorem dm_of {z : Int} (h : dm z = true) : Dl 30 z := by
  unfold dm at h
  unfold Dl
  exact of_decide_eq_true h
theorem of_dm {z : Int} (h : Dl 30 z) : dm z = true := by
  unfold Dl at h
  unfold dm
  exact decide_eq_true h
theorem dm_0 : dm 0 = true := of_dm ((Dl.i64 (show i64B 0 = true by decide)).le (by omega))
theorem runs_s {σ : Type} (step : σ → Nxt σ Nm) (n : Nat) (s : σ) : runs step (n + 1) s = match step s with
  | .go s' => runs step n s'
  | .out ex outs wb => some (ex, outs, wb)
  | .bad => none := by rw [runs]; cases step s <;> rfl
/-- A ratio's numbers: their signs are told, the lower one is not 0. -/
def okZ (x y : Zn) : Bool := (x.s == decide (x.x < 0)) && ((y.s == decide (y.x < 0)) && ((!decide (y.x = 0)) && (dlB x.x && dlB y.x)))
theorem okZ_iff {x y : Zn} : okZ x y = true ↔ (x.s == decide (x.x < 0)) = true ∧ (y.s == decide (y.x < 0)) = true ∧ y.x ≠ 0 ∧ Dl 20 x.x ∧ Dl 20 y.x := by
  unfold okZ dlB Dl
  simp only [Bool.and_eq_true, Bool.not_eq_true', decide_eq_true_eq, decide_eq_false_iff_not, ne_eq]
def flZ (x y : Zn) : Int := bif y.s then -x.x / -y.x else x.x / y.x
def ceZ (x y : Zn) : Int := bif y.s then -(- -x.x / -y.x) else -(-x.x / y.x)
def mnZ (f a : Int) : Int := if f < a then f else a
def mxZ (c b : Int) : Int := if b < c then c else b
theorem fl_dm {x y : Zn} (h : okZ x y = true) : Dl 30 (flZ x y) ∧ Dl 30 (ceZ x y) := by
  obtain ⟨_, _, _, h1, h2⟩ := okZ_iff.1 h
  unfold flZ ceZ
  cases y.s
  · exact ⟨h1.div.le (by omega), ((h1.neg).div).neg.le (by omega)⟩
  · exact ⟨h1.neg.div.le (by omega), ((h1.neg.neg).div).neg.le (by omega)⟩
theorem mn_dm {f a : Int} (h1 : Dl 30 f) (h2 : Dl 30 a) : Dl 30 (mnZ f a) := by unfold mnZ; split <;> assumption
theorem mx_dm {f a : Int} (h1 : Dl 30 f) (h2 : Dl 30 a) : Dl 30 (mxZ f a) := by unfold mxZ; split <;> assumption
theorem fl_t {x y : Zn} (h : y.s = true) : flZ x y = -x.x / -y.x ∧ ceZ x y = -(- -x.x / -y.x) := by unfold flZ ceZ; rw [h]; exact ⟨rfl, rfl⟩
theorem fl_f {x y : Zn} (h : y.s = false) : flZ x y = x.x / y.x ∧ ceZ x y = -(-x.x / y.x) := by unfold flZ ceZ; rw [h]; exact ⟨rfl, rfl⟩
abbrev zc4 (x0 x1 x2 x3 : Zn) : List (AC Nm) := [.bool x0.s, .fv (.num x0.x), .bool x1.s, .fv (.num x1.x), .bool x2.s, .fv (.num x2.x), .bool x3.s, .fv (.num x3.x)]
noncomputable abbrev evRa := evView (ctxOf Try.prog numI (fun _ => false) libP1) 57 (false :: [false, true, false, true, true]) (loopAt (bodyOf Try.f18) [false, true, false, true, true])
set_option maxRecDepth 100000 in
theorem r4f0_1111 (x0 : Zn) (x1 : Zn) (x2 : Zn) (x3 : Zn) (y0 : Zn) (y1 : Zn) (y2 : Zn) (y3 : Zn) (rest : List (Nat × AV Nm)) : evRa ([(13, .w (.one (.int .i64 4))), (14, .w (.one (.int .i64 0)))] ++ (ptrN 0 [(65536 * (4294967296 + 4 + 1) + 12), (65536 * (4294967296 + 4 + 1) + 1), 5, 6] ++ rest)) [⟨28, (zc4 x0 x1 x2 x3)⟩, ⟨28, (zc4 y0 y1 y2 y3)⟩, ⟨28, phZ none⟩, ⟨28, phZ none⟩] 4 [13, 14, 12, 1, 5, 6] [true, true, true, true] = some ((Ex.normal, [AV.w (AW.one (AC.int IntKind.i64 4)), AV.w (AW.one (AC.int IntKind.i64 (IntKind.i64.wrap (0 + 1)))), AV.w (AW.one (AC.slc 0 0 4 4)), AV.w (AW.one (AC.slc 1 0 4 4)), AV.w (AW.one (AC.ptr 2 0)), AV.w (AW.one (AC.ptr 3 0))], [{ ty := 28, cs := (zc4 x0 x1 x2 x3) }, { ty := 28, cs := (zc4 y0 y1 y2 y3) }, { ty := 28, cs := [AC.bool (decide (-x0.x / -y0.x < 0)), AC.fv (Nm.num (-x0.x / -y0.x))] }, { ty := 28, cs := [AC.bool (decide (-(- -x0.x / -y0.x) < 0)), AC.fv (Nm.num (-(- -x0.x / -y0.x)))] }]), (pickL [(decide ((0 : Int) < 4), true), (decide ((0 : Int) ≤ 0), true), (decide (0 < ((4294967300 - 4294967296 : Nat) : Int)), true), (y0.s, true), (x0.s == decide (x0.x < 0), true), (szB x0.x, true), (y0.s == decide (y0.x < 0), true), (szB y0.x, true), (decide (-x0.x < 0) == decide (-x0.x < 0), true), (decide (-y0.x < 0) == decide (-y0.x < 0), true), (szB (-x0.x), true), (szB (-y0.x), true), (decide (-y0.x = 0), false), ((0 : Int) == 0, true), (true, true)] [0, 1, 2, 1, 2, 3, 4, 5, 6, 7, 8, 9, 10, 11, 12, 8, 9, 10, 11, 12, 13, 13, 13, 13, 13, 14, 13, 13, 13, 13, 13, 14])) := by kernel_rfl
set_option maxRecDepth 100000 in
theorem r4f0_1011 (x0 : Zn) (x1 : Zn) (x2 : Zn) (x3 : Zn) (y0 : Zn) (y1 : Zn) (y2 : Zn) (y3 : Zn) (rest : List (Nat × AV Nm)) : evRa ([(13, .w (.one (.int .i64 4))), (14, .w (.one (.int .i64 0)))] ++ (ptrN 0 [(65536 * (4294967296 + 4 + 1) + 12), (65536 * (4294967296 + 4 + 1) + 1), 5, 6] ++ rest)) [⟨28, (zc4 x0 x1 x2 x3)⟩, ⟨28, (zc4 y0 y1 y2 y3)⟩, ⟨28, phZ none⟩, ⟨28, phZ none⟩] 4 [13, 14, 12, 1, 5, 6] [true, false, true, true] = some ((Ex.normal, [AV.w (AW.one (AC.int IntKind.i64 4)), AV.w (AW.one (AC.int IntKind.i64 (IntKind.i64.wrap (0 + 1)))), AV.w (AW.one (AC.slc 0 0 4 4)), AV.w (AW.one (AC.slc 1 0 4 4)), AV.w (AW.one (AC.ptr 2 0)), AV.w (AW.one (AC.ptr 3 0))], [{ ty := 28, cs := (zc4 x0 x1 x2 x3) }, { ty := 28, cs := (zc4 y0 y1 y2 y3) }, { ty := 28, cs := [AC.bool (decide (x0.x / y0.x < 0)), AC.fv (Nm.num (x0.x / y0.x))] }, { ty := 28, cs := [AC.bool (decide (-(-x0.x / y0.x) < 0)), AC.fv (Nm.num (-(-x0.x / y0.x)))] }]), (pickL [(decide ((0 : Int) < 4), true), (decide ((0 : Int) ≤ 0), true), (decide (0 < ((4294967300 - 4294967296 : Nat) : Int)), true), (y0.s, false), (x0.s == decide (x0.x < 0), true), (y0.s == decide (y0.x < 0), true), (szB x0.x, true), (szB y0.x, true), (decide (y0.x = 0), false), ((0 : Int) == 0, true), (true, true)] [0, 1, 2, 1, 2, 3, 4, 5, 6, 7, 8, 4, 5, 6, 7, 8, 9, 9, 9, 9, 9, 10, 9, 9, 9, 9, 9, 10])) := by kernel_rfl
set_option maxRecDepth 100000 in
theorem r4f1_110101 (x0 : Zn) (x1 : Zn) (x2 : Zn) (x3 : Zn) (y0 : Zn) (y1 : Zn) (y2 : Zn) (y3 : Zn) (a : Int) (b : Int) (rest : List (Nat × AV Nm)) : evRa ([(13, .w (.one (.int .i64 4))), (14, .w (.one (.int .i64 1)))] ++ (ptrN 0 [(65536 * (4294967296 + 4 + 1) + 12), (65536 * (4294967296 + 4 + 1) + 1), 5, 6] ++ rest)) [⟨28, (zc4 x0 x1 x2 x3)⟩, ⟨28, (zc4 y0 y1 y2 y3)⟩, ⟨28, phZ (some a)⟩, ⟨28, phZ (some b)⟩] 4 [13, 14, 12, 1, 5, 6] [true, true, false, true, false, true] = some ((Ex.normal, [AV.w (AW.one (AC.int IntKind.i64 4)), AV.w (AW.one (AC.int IntKind.i64 (IntKind.i64.wrap (1 + 1)))), AV.w (AW.one (AC.slc 0 0 4 4)), AV.w (AW.one (AC.slc 1 0 4 4)), AV.w (AW.one (AC.ptr 2 0)), AV.w (AW.one (AC.ptr 3 0))], [{ ty := 28, cs := (zc4 x0 x1 x2 x3) }, { ty := 28, cs := (zc4 y0 y1 y2 y3) }, { ty := 28, cs := [AC.bool (decide (-x1.x / -y1.x < 0)), AC.fv (Nm.num (-x1.x / -y1.x))] }, { ty := 28, cs := [AC.bool (decide (-(- -x1.x / -y1.x) < 0)), AC.fv (Nm.num (-(- -x1.x / -y1.x)))] }]), (pickL [(decide ((1 : Int) < 4), true), (decide ((0 : Int) ≤ 1), true), (decide (1 < ((4294967300 - 4294967296 : Nat) : Int)), true), (y1.s, true), (x1.s == decide (x1.x < 0), true), (szB x1.x, true), (y1.s == decide (y1.x < 0), true), (szB y1.x, true), (decide (-x1.x < 0) == decide (-x1.x < 0), true), (decide (-y1.x < 0) == decide (-y1.x < 0), true), (szB (-x1.x), true), (szB (-y1.x), true), (decide (-y1.x = 0), false), ((1 : Int) == 0, false), (decide (-x1.x / -y1.x < 0) == decide (-x1.x / -y1.x < 0), true), (decide (a < 0) == decide (a < 0), true), (szB (-x1.x / -y1.x), true), (szB a, true), (decide (cmpI (-x1.x / -y1.x) a < 0), true), (decide (-(- -x1.x / -y1.x) < 0) == decide (-(- -x1.x / -y1.x) < 0), true), (decide (b < 0) == decide (b < 0), true), (szB (-(- -x1.x / -y1.x)), true), (szB b, true), (decide (cmpI (-(- -x1.x / -y1.x)) b > 0), true)] [0, 1, 2, 1, 2, 3, 4, 5, 6, 7, 8, 9, 10, 11, 12, 8, 9, 10, 11, 12, 13, 13, 13, 14, 15, 16, 17, 13, 13, 18, 13, 13, 13, 19, 20, 21, 22, 13, 13, 23])) := by kernel_rfl
set_option maxRecDepth 100000 in
theorem r4f1_110100 (x0 : Zn) (x1 : Zn) (x2 : Zn) (x3 : Zn) (y0 : Zn) (y1 : Zn) (y2 : Zn) (y3 : Zn) (a : Int) (b : Int) (rest : List (Nat × AV Nm)) : evRa ([(13, .w (.one (.int .i64 4))), (14, .w (.one (.int .i64 1)))] ++ (ptrN 0 [(65536 * (4294967296 + 4 + 1) + 12), (65536 * (4294967296 + 4 + 1) + 1), 5, 6] ++ rest)) [⟨28, (zc4 x0 x1 x2 x3)⟩, ⟨28, (zc4 y0 y1 y2 y3)⟩, ⟨28, phZ (some a)⟩, ⟨28, phZ (some b)⟩] 4 [13, 14, 12, 1, 5, 6] [true, true, false, true, false, false] = some ((Ex.normal, [AV.w (AW.one (AC.int IntKind.i64 4)), AV.w (AW.one (AC.int IntKind.i64 (IntKind.i64.wrap (1 + 1)))), AV.w (AW.one (AC.slc 0 0 4 4)), AV.w (AW.one (AC.slc 1 0 4 4)), AV.w (AW.one (AC.ptr 2 0)), AV.w (AW.one (AC.ptr 3 0))], [{ ty := 28, cs := (zc4 x0 x1 x2 x3) }, { ty := 28, cs := (zc4 y0 y1 y2 y3) }, { ty := 28, cs := [AC.bool (decide (-x1.x / -y1.x < 0)), AC.fv (Nm.num (-x1.x / -y1.x))] }, { ty := 28, cs := [AC.bool (decide (b < 0)), AC.fv (Nm.num b)] }]), (pickL [(decide ((1 : Int) < 4), true), (decide ((0 : Int) ≤ 1), true), (decide (1 < ((4294967300 - 4294967296 : Nat) : Int)), true), (y1.s, true), (x1.s == decide (x1.x < 0), true), (szB x1.x, true), (y1.s == decide (y1.x < 0), true), (szB y1.x, true), (decide (-x1.x < 0) == decide (-x1.x < 0), true), (decide (-y1.x < 0) == decide (-y1.x < 0), true), (szB (-x1.x), true), (szB (-y1.x), true), (decide (-y1.x = 0), false), ((1 : Int) == 0, false), (decide (-x1.x / -y1.x < 0) == decide (-x1.x / -y1.x < 0), true), (decide (a < 0) == decide (a < 0), true), (szB (-x1.x / -y1.x), true), (szB a, true), (decide (cmpI (-x1.x / -y1.x) a < 0), true), (decide (-(- -x1.x / -y1.x) < 0) == decide (-(- -x1.x / -y1.x) < 0), true), (decide (b < 0) == decide (b < 0), true), (szB (-(- -x1.x / -y1.x)), true), (szB b, true), (decide (cmpI (-(- -x1.x / -y1.x)) b > 0), false)] [0, 1, 2, 1, 2, 3, 4, 5, 6, 7, 8, 9, 10, 11, 12, 8, 9, 10, 11, 12, 13, 13, 13, 14, 15, 16, 17, 13, 13, 18, 13, 13, 13, 19, 20, 21, 22, 13, 13, 23])) := by kernel_rfl
set_option maxRecDepth 100000 in
theorem r4f1_110001 (x0 : Zn) (x1 : Zn) (x2 : Zn) (x3 : Zn) (y0 : Zn) (y1 : Zn) (y2 : Zn) (y3 : Zn) (a : Int) (b : Int) (rest : List (Nat × AV Nm)) : evRa ([(13, .w (.one (.int .i64 4))), (14, .w (.one (.int .i64 1)))] ++ (ptrN 0 [(65536 * (4294967296 + 4 + 1) + 12), (65536 * (4294967296 + 4 + 1) + 1), 5, 6] ++ rest)) [⟨28, (zc4 x0 x1 x2 x3)⟩, ⟨28, (zc4 y0 y1 y2 y3)⟩, ⟨28, phZ (some a)⟩, ⟨28, phZ (some b)⟩] 4 [13, 14, 12, 1, 5, 6] [true, true, false, false, false, true] = some ((Ex.normal, [AV.w (AW.one (AC.int IntKind.i64 4)), AV.w (AW.one (AC.int IntKind.i64 (IntKind.i64.wrap (1 + 1)))), AV.w (AW.one (AC.slc 0 0 4 4)), AV.w (AW.one (AC.slc 1 0 4 4)), AV.w (AW.one (AC.ptr 2 0)), AV.w (AW.one (AC.ptr 3 0))], [{ ty := 28, cs := (zc4 x0 x1 x2 x3) }, { ty := 28, cs := (zc4 y0 y1 y2 y3) }, { ty := 28, cs := [AC.bool (decide (a < 0)), AC.fv (Nm.num a)] }, { ty := 28, cs := [AC.bool (decide (-(- -x1.x / -y1.x) < 0)), AC.fv (Nm.num (-(- -x1.x / -y1.x)))] }]), (pickL [(decide ((1 : Int) < 4), true), (decide ((0 : Int) ≤ 1), true), (decide (1 < ((4294967300 - 4294967296 : Nat) : Int)), true), (y1.s, true), (x1.s == decide (x1.x < 0), true), (szB x1.x, true), (y1.s == decide (y1.x < 0), true), (szB y1.x, true), (decide (-x1.x < 0) == decide (-x1.x < 0), true), (decide (-y1.x < 0) == decide (-y1.x < 0), true), (szB (-x1.x), true), (szB (-y1.x), true), (decide (-y1.x = 0), false), ((1 : Int) == 0, false), (decide (-x1.x / -y1.x < 0) == decide (-x1.x / -y1.x < 0), true), (decide (a < 0) == decide (a < 0), true), (szB (-x1.x / -y1.x), true), (szB a, true), (decide (cmpI (-x1.x / -y1.x) a < 0), false), (decide (-(- -x1.x / -y1.x) < 0) == decide (-(- -x1.x / -y1.x) < 0), true), (decide (b < 0) == decide (b < 0), true), (szB (-(- -x1.x / -y1.x)), true), (szB b, true), (decide (cmpI (-(- -x1.x / -y1.x)) b > 0), true)] [0, 1, 2, 1, 2, 3, 4, 5, 6, 7, 8, 9, 10, 11, 12, 8, 9, 10, 11, 12, 13, 13, 13, 14, 15, 16, 17, 13, 13, 18, 13, 13, 13, 19, 20, 21, 22, 13, 13, 23])) := by kernel_rfl
set_option maxRecDepth 100000 in
theorem r4f1_110000 (x0 : Zn) (x1 : Zn) (x2 : Zn) (x3 : Zn) (y0 : Zn) (y1 : Zn) (y2 : Zn) (y3 : Zn) (a : Int) (b : Int) (rest : List (Nat × AV Nm)) : evRa ([(13, .w (.one (.int .i64 4))), (14, .w (.one (.int .i64 1)))] ++ (ptrN 0 [(65536 * (4294967296 + 4 + 1) + 12), (65536 * (4294967296 + 4 + 1) + 1), 5, 6] ++ rest)) [⟨28, (zc4 x0 x1 x2 x3)⟩, ⟨28, (zc4 y0 y1 y2 y3)⟩, ⟨28, phZ (some a)⟩, ⟨28, phZ (some b)⟩] 4 [13, 14, 12, 1, 5, 6] [true, true, false, false, false, false] = some ((Ex.normal, [AV.w (AW.one (AC.int IntKind.i64 4)), AV.w (AW.one (AC.int IntKind.i64 (IntKind.i64.wrap (1 + 1)))), AV.w (AW.one (AC.slc 0 0 4 4)), AV.w (AW.one (AC.slc 1 0 4 4)), AV.w (AW.one (AC.ptr 2 0)), AV.w (AW.one (AC.ptr 3 0))], [{ ty := 28, cs := (zc4 x0 x1 x2 x3) }, { ty := 28, cs := (zc4 y0 y1 y2 y3) }, { ty := 28, cs := [AC.bool (decide (a < 0)), AC.fv (Nm.num a)] }, { ty := 28, cs := [AC.bool (decide (b < 0)), AC.fv (Nm.num b)] }]), (pickL [(decide ((1 : Int) < 4), true), (decide ((0 : Int) ≤ 1), true), (decide (1 < ((4294967300 - 4294967296 : Nat) : Int)), true), (y1.s, true), (x1.s == decide (x1.x < 0), true), (szB x1.x, true), (y1.s == decide (y1.x < 0), true), (szB y1.x, true), (decide (-x1.x < 0) == decide (-x1.x < 0), true), (decide (-y1.x < 0) == decide (-y1.x < 0), true), (szB (-x1.x), true), (szB (-y1.x), true), (decide (-y1.x = 0), false), ((1 : Int) == 0, false), (decide (-x1.x / -y1.x < 0) == decide (-x1.x / -y1.x < 0), true), (decide (a < 0) == decide (a < 0), true), (szB (-x1.x / -y1.x), true), (szB a, true), (decide (cmpI (-x1.x / -y1.x) a < 0), false), (decide (-(- -x1.x / -y1.x) < 0) == decide (-(- -x1.x / -y1.x) < 0), true), (decide (b < 0) == decide (b < 0), true), (szB (-(- -x1.x / -y1.x)), true), (szB b, true), (decide (cmpI (-(- -x1.x / -y1.x)) b > 0), false)] [0, 1, 2, 1, 2, 3, 4, 5, 6, 7, 8, 9, 10, 11, 12, 8, 9, 10, 11, 12, 13, 13, 13, 14, 15, 16, 17, 13, 13, 18, 13, 13, 13, 19, 20, 21, 22, 13, 13, 23])) := by kernel_rfl
set_option maxRecDepth 100000 in
theorem r4f1_100101 (x0 : Zn) (x1 : Zn) (x2 : Zn) (x3 : Zn) (y0 : Zn) (y1 : Zn) (y2 : Zn) (y3 : Zn) (a : Int) (b : Int) (rest : List (Nat × AV Nm)) : evRa ([(13, .w (.one (.int .i64 4))), (14, .w (.one (.int .i64 1)))] ++ (ptrN 0 [(65536 * (4294967296 + 4 + 1) + 12), (65536 * (4294967296 + 4 + 1) + 1), 5, 6] ++ rest)) [⟨28, (zc4 x0 x1 x2 x3)⟩, ⟨28, (zc4 y0 y1 y2 y3)⟩, ⟨28, phZ (some a)⟩, ⟨28, phZ (some b)⟩] 4 [13, 14, 12, 1, 5, 6] [true, false, false, true, false, true] = some ((Ex.normal, [AV.w (AW.one (AC.int IntKind.i64 4)), AV.w (AW.one (AC.int IntKind.i64 (IntKind.i64.wrap (1 + 1)))), AV.w (AW.one (AC.slc 0 0 4 4)), AV.w (AW.one (AC.slc 1 0 4 4)), AV.w (AW.one (AC.ptr 2 0)), AV.w (AW.one (AC.ptr 3 0))], [{ ty := 28, cs := (zc4 x0 x1 x2 x3) }, { ty := 28, cs := (zc4 y0 y1 y2 y3) }, { ty := 28, cs := [AC.bool (decide (x1.x / y1.x < 0)), AC.fv (Nm.num (x1.x / y1.x))] }, { ty := 28, cs := [AC.bool (decide (-(-x1.x / y1.x) < 0)), AC.fv (Nm.num (-(-x1.x / y1.x)))] }]), (pickL [(decide ((1 : Int) < 4), true), (decide ((0 : Int) ≤ 1), true), (decide (1 < ((4294967300 - 4294967296 : Nat) : Int)), true), (y1.s, false), (x1.s == decide (x1.x < 0), true), (y1.s == decide (y1.x < 0), true), (szB x1.x, true), (szB y1.x, true), (decide (y1.x = 0), false), ((1 : Int) == 0, false), (decide (x1.x / y1.x < 0) == decide (x1.x / y1.x < 0), true), (decide (a < 0) == decide (a < 0), true), (szB (x1.x / y1.x), true), (szB a, true), (decide (cmpI (x1.x / y1.x) a < 0), true), (decide (-(-x1.x / y1.x) < 0) == decide (-(-x1.x / y1.x) < 0), true), (decide (b < 0) == decide (b < 0), true), (szB (-(-x1.x / y1.x)), true), (szB b, true), (decide (cmpI (-(-x1.x / y1.x)) b > 0), true)] [0, 1, 2, 1, 2, 3, 4, 5, 6, 7, 8, 4, 5, 6, 7, 8, 9, 9, 9, 10, 11, 12, 13, 9, 9, 14, 9, 9, 9, 15, 16, 17, 18, 9, 9, 19])) := by kernel_rfl
set_option maxRecDepth 100000 in
theorem r4f1_100100 (x0 : Zn) (x1 : Zn) (x2 : Zn) (x3 : Zn) (y0 : Zn) (y1 : Zn) (y2 : Zn) (y3 : Zn) (a : Int) (b : Int) (rest : List (Nat × AV Nm)) : evRa ([(13, .w (.one (.int .i64 4))), (14, .w (.one (.int .i64 1)))] ++ (ptrN 0 [(65536 * (4294967296 + 4 + 1) + 12), (65536 * (4294967296 + 4 + 1) + 1), 5, 6] ++ rest)) [⟨28, (zc4 x0 x1 x2 x3)⟩, ⟨28, (zc4 y0 y1 y2 y3)⟩, ⟨28, phZ (some a)⟩, ⟨28, phZ (some b)⟩] 4 [13, 14, 12, 1, 5, 6] [true, false, false, true, false, false] = some ((Ex.normal, [AV.w (AW.one (AC.int IntKind.i64 4)), AV.w (AW.one (AC.int IntKind.i64 (IntKind.i64.wrap (1 + 1)))), AV.w (AW.one (AC.slc 0 0 4 4)), AV.w (AW.one (AC.slc 1 0 4 4)), AV.w (AW.one (AC.ptr 2 0)), AV.w (AW.one (AC.ptr 3 0))], [{ ty := 28, cs := (zc4 x0 x1 x2 x3) }, { ty := 28, cs := (zc4 y0 y1 y2 y3) }, { ty := 28, cs := [AC.bool (decide (x1.x / y1.x < 0)), AC.fv (Nm.num (x1.x / y1.x))] }, { ty := 28, cs := [AC.bool (decide (b < 0)), AC.fv (Nm.num b)] }]), (pickL [(decide ((1 : Int) < 4), true), (decide ((0 : Int) ≤ 1), true), (decide (1 < ((4294967300 - 4294967296 : Nat) : Int)), true), (y1.s, false), (x1.s == decide (x1.x < 0), true), (y1.s == decide (y1.x < 0), true), (szB x1.x, true), (szB y1.x, true), (decide (y1.x = 0), false), ((1 : Int) == 0, false), (decide (x1.x / y1.x < 0) == decide (x1.x / y1.x < 0), true), (decide (a < 0) == decide (a < 0), true), (szB (x1.x / y1.x), true), (szB a, true), (decide (cmpI (x1.x / y1.x) a < 0), true), (decide (-(-x1.x / y1.x) < 0) == decide (-(-x1.x / y1.x) < 0), true), (decide (b < 0) == decide (b < 0), true), (szB (-(-x1.x / y1.x)), true), (szB b, true), (decide (cmpI (-(-x1.x / y1.x)) b > 0), false)] [0, 1, 2, 1, 2, 3, 4, 5, 6, 7, 8, 4, 5, 6, 7, 8, 9, 9, 9, 10, 11, 12, 13, 9, 9, 14, 9, 9, 9, 15, 16, 17, 18, 9, 9, 19])) := by kernel_rfl
set_option maxRecDepth 100000 in
theorem r4f1_100001 (x0 : Zn) (x1 : Zn) (x2 : Zn) (x3 : Zn) (y0 : Zn) (y1 : Zn) (y2 : Zn) (y3 : Zn) (a : Int) (b : Int) (rest : List (Nat × AV Nm)) : evRa ([(13, .w (.one (.int .i64 4))), (14, .w (.one (.int .i64 1)))] ++ (ptrN 0 [(65536 * (4294967296 + 4 + 1) + 12), (65536 * (4294967296 + 4 + 1) + 1), 5, 6] ++ rest)) [⟨28, (zc4 x0 x1 x2 x3)⟩, ⟨28, (zc4 y0 y1 y2 y3)⟩, ⟨28, phZ (some a)⟩, ⟨28, phZ (some b)⟩] 4 [13, 14, 12, 1, 5, 6] [true, false, false, false, false, true] = some ((Ex.normal, [AV.w (AW.one (AC.int IntKind.i64 4)), AV.w (AW.one (AC.int IntKind.i64 (IntKind.i64.wrap (1 + 1)))), AV.w (AW.one (AC.slc 0 0 4 4)), AV.w (AW.one (AC.slc 1 0 4 4)), AV.w (AW.one (AC.ptr 2 0)), AV.w (AW.one (AC.ptr 3 0))], [{ ty := 28, cs := (zc4 x0 x1 x2 x3) }, { ty := 28, cs := (zc4 y0 y1 y2 y3) }, { ty := 28, cs := [AC.bool (decide (a < 0)), AC.fv (Nm.num a)] }, { ty := 28, cs := [AC.bool (decide (-(-x1.x / y1.x) < 0)), AC.fv (Nm.num (-(-x1.x / y1.x)))] }]), (pickL [(decide ((1 : Int) < 4), true), (decide ((0 : Int) ≤ 1), true), (decide (1 < ((4294967300 - 4294967296 : Nat) : Int)), true), (y1.s, false), (x1.s == decide (x1.x < 0), true), (y1.s == decide (y1.x < 0), true), (szB x1.x, true), (szB y1.x, true), (decide (y1.x = 0), false), ((1 : Int) == 0, false), (decide (x1.x / y1.x < 0) == decide (x1.x / y1.x < 0), true), (decide (a < 0) == decide (a < 0), true), (szB (x1.x / y1.x), true), (szB a, true), (decide (cmpI (x1.x / y1.x) a < 0), false), (decide (-(-x1.x / y1.x) < 0) == decide (-(-x1.x / y1.x) < 0), true), (decide (b < 0) == decide (b < 0), true), (szB (-(-x1.x / y1.x)), true), (szB b, true), (decide (cmpI (-(-x1.x / y1.x)) b > 0), true)] [0, 1, 2, 1, 2, 3, 4, 5, 6, 7, 8, 4, 5, 6, 7, 8, 9, 9, 9, 10, 11, 12, 13, 9, 9, 14, 9, 9, 9, 15, 16, 17, 18, 9, 9, 19])) := by kernel_rfl
set_option maxRecDepth 100000 in
theorem r4f1_100000 (x0 : Zn) (x1 : Zn) (x2 : Zn) (x3 : Zn) (y0 : Zn) (y1 : Zn) (y2 : Zn) (y3 : Zn) (a : Int) (b : Int) (rest : List (Nat × AV Nm)) : evRa ([(13, .w (.one (.int .i64 4))), (14, .w (.one (.int .i64 1)))] ++ (ptrN 0 [(65536 * (4294967296 + 4 + 1) + 12), (65536 * (4294967296 + 4 + 1) + 1), 5, 6] ++ rest)) [⟨28, (zc4 x0 x1 x2 x3)⟩, ⟨28, (zc4 y0 y1 y2 y3)⟩, ⟨28, phZ (some a)⟩, ⟨28, phZ (some b)⟩] 4 [13, 14, 12, 1, 5, 6] [true, false, false, false, false, false] = some ((Ex.normal, [AV.w (AW.one (AC.int IntKind.i64 4)), AV.w (AW.one (AC.int IntKind.i64 (IntKind.i64.wrap (1 + 1)))), AV.w (AW.one (AC.slc 0 0 4 4)), AV.w (AW.one (AC.slc 1 0 4 4)), AV.w (AW.one (AC.ptr 2 0)), AV.w (AW.one (AC.ptr 3 0))], [{ ty := 28, cs := (zc4 x0 x1 x2 x3) }, { ty := 28, cs := (zc4 y0 y1 y2 y3) }, { ty := 28, cs := [AC.bool (decide (a < 0)), AC.fv (Nm.num a)] }, { ty := 28, cs := [AC.bool (decide (b < 0)), AC.fv (Nm.num b)] }]), (pickL [(decide ((1 : Int) < 4), true), (decide ((0 : Int) ≤ 1), true), (decide (1 < ((4294967300 - 4294967296 : Nat) : Int)), true), (y1.s, false), (x1.s == decide (x1.x < 0), true), (y1.s == decide (y1.x < 0), true), (szB x1.x, true), (szB y1.x, true), (decide (y1.x = 0), false), ((1 : Int) == 0, false), (decide (x1.x / y1.x < 0) == decide (x1.x / y1.x < 0), true), (decide (a < 0) == decide (a < 0), true), (szB (x1.x / y1.x), true), (szB a, true), (decide (cmpI (x1.x / y1.x) a < 0), false), (decide (-(-x1.x / y1.x) < 0) == decide (-(-x1.x / y1.x) < 0), true), (decide (b < 0) == decide (b < 0), true), (szB (-(-x1.x / y1.x)), true), (szB b, true), (decide (cmpI (-(-x1.x / y1.x)) b > 0), false)] [0, 1, 2, 1, 2, 3, 4, 5, 6, 7, 8, 4, 5, 6, 7, 8, 9, 9, 9, 10, 11, 12, 13, 9, 9, 14, 9, 9, 9, 15, 16, 17, 18, 9, 9, 19])) := by kernel_rfl
set_option maxRecDepth 100000 in
theorem r4f2_110101 (x0 : Zn) (x1 : Zn) (x2 : Zn) (x3 : Zn) (y0 : Zn) (y1 : Zn) (y2 : Zn) (y3 : Zn) (a : Int) (b : Int) (rest : List (Nat × AV Nm)) : evRa ([(13, .w (.one (.int .i64 4))), (14, .w (.one (.int .i64 2)))] ++ (ptrN 0 [(65536 * (4294967296 + 4 + 1) + 12), (65536 * (4294967296 + 4 + 1) + 1), 5, 6] ++ rest)) [⟨28, (zc4 x0 x1 x2 x3)⟩, ⟨28, (zc4 y0 y1 y2 y3)⟩, ⟨28, phZ (some a)⟩, ⟨28, phZ (some b)⟩] 4 [13, 14, 12, 1, 5, 6] [true, true, false, true, false, true] = some ((Ex.normal, [AV.w (AW.one (AC.int IntKind.i64 4)), AV.w (AW.one (AC.int IntKind.i64 (IntKind.i64.wrap (2 + 1)))), AV.w (AW.one (AC.slc 0 0 4 4)), AV.w (AW.one (AC.slc 1 0 4 4)), AV.w (AW.one (AC.ptr 2 0)), AV.w (AW.one (AC.ptr 3 0))], [{ ty := 28, cs := (zc4 x0 x1 x2 x3) }, { ty := 28, cs := (zc4 y0 y1 y2 y3) }, { ty := 28, cs := [AC.bool (decide (-x2.x / -y2.x < 0)), AC.fv (Nm.num (-x2.x / -y2.x))] }, { ty := 28, cs := [AC.bool (decide (-(- -x2.x / -y2.x) < 0)), AC.fv (Nm.num (-(- -x2.x / -y2.x)))] }]), (pickL [(decide ((2 : Int) < 4), true), (decide ((0 : Int) ≤ 2), true), (decide (2 < ((4294967300 - 4294967296 : Nat) : Int)), true), (y2.s, true), (x2.s == decide (x2.x < 0), true), (szB x2.x, true), (y2.s == decide (y2.x < 0), true), (szB y2.x, true), (decide (-x2.x < 0) == decide (-x2.x < 0), true), (decide (-y2.x < 0) == decide (-y2.x < 0), true), (szB (-x2.x), true), (szB (-y2.x), true), (decide (-y2.x = 0), false), ((2 : Int) == 0, false), (decide (-x2.x / -y2.x < 0) == decide (-x2.x / -y2.x < 0), true), (decide (a < 0) == decide (a < 0), true), (szB (-x2.x / -y2.x), true), (szB a, true), (decide (cmpI (-x2.x / -y2.x) a < 0), true), (decide (-(- -x2.x / -y2.x) < 0) == decide (-(- -x2.x / -y2.x) < 0), true), (decide (b < 0) == decide (b < 0), true), (szB (-(- -x2.x / -y2.x)), true), (szB b, true), (decide (cmpI (-(- -x2.x / -y2.x)) b > 0), true)] [0, 1, 2, 1, 2, 3, 4, 5, 6, 7, 8, 9, 10, 11, 12, 8, 9, 10, 11, 12, 13, 13, 13, 14, 15, 16, 17, 13, 13, 18, 13, 13, 13, 19, 20, 21, 22, 13, 13, 23])) := by kernel_rfl
set_option maxRecDepth 100000 in
theorem r4f2_110100 (x0 : Zn) (x1 : Zn) (x2 : Zn) (x3 : Zn) (y0 : Zn) (y1 : Zn) (y2 : Zn) (y3 : Zn) (a : Int) (b : Int) (rest : List (Nat × AV Nm)) : evRa ([(13, .w (.one (.int .i64 4))), (14, .w (.one (.int .i64 2)))] ++ (ptrN 0 [(65536 * (4294967296 + 4 + 1) + 12), (65536 * (4294967296 + 4 + 1) + 1), 5, 6] ++ rest)) [⟨28, (zc4 x0 x1 x2 x3)⟩, ⟨28, (zc4 y0 y1 y2 y3)⟩, ⟨28, phZ (some a)⟩, ⟨28, phZ (some b)⟩] 4 [13, 14, 12, 1, 5, 6] [true, true, false, true, false, false] = some ((Ex.normal, [AV.w (AW.one (AC.int IntKind.i64 4)), AV.w (AW.one (AC.int IntKind.i64 (IntKind.i64.wrap (2 + 1)))), AV.w (AW.one (AC.slc 0 0 4 4)), AV.w (AW.one (AC.slc 1 0 4 4)), AV.w (AW.one (AC.ptr 2 0)), AV.w (AW.one (AC.ptr 3 0))], [{ ty := 28, cs := (zc4 x0 x1 x2 x3) }, { ty := 28, cs := (zc4 y0 y1 y2 y3) }, { ty := 28, cs := [AC.bool (decide (-x2.x / -y2.x < 0)), AC.fv (Nm.num (-x2.x / -y2.x))] }, { ty := 28, cs := [AC.bool (decide (b < 0)), AC.fv (Nm.num b)] }]), (pickL [(decide ((2 : Int) < 4), true), (decide ((0 : Int) ≤ 2), true), (decide (2 < ((4294967300 - 4294967296 : Nat) : Int)), true), (y2.s, true), (x2.s == decide (x2.x < 0), true), (szB x2.x, true), (y2.s == decide (y2.x < 0), true), (szB y2.x, true), (decide (-x2.x < 0) == decide (-x2.x < 0), true), (decide (-y2.x < 0) == decide (-y2.x < 0), true), (szB (-x2.x), true), (szB (-y2.x), true), (decide (-y2.x = 0), false), ((2 : Int) == 0, false), (decide (-x2.x / -y2.x < 0) == decide (-x2.x / -y2.x < 0), true), (decide (a < 0) == decide (a < 0), true), (szB (-x2.x / -y2.x), true), (szB a, true), (decide (cmpI (-x2.x / -y2.x) a < 0), true), (decide (-(- -x2.x / -y2.x) < 0) == decide (-(- -x2.x / -y2.x) < 0), true), (decide (b < 0) == decide (b < 0), true), (szB (-(- -x2.x / -y2.x)), true), (szB b, true), (decide (cmpI (-(- -x2.x / -y2.x)) b > 0), false)] [0, 1, 2, 1, 2, 3, 4, 5, 6, 7, 8, 9, 10, 11, 12, 8, 9, 10, 11, 12, 13, 13, 13, 14, 15, 16, 17, 13, 13, 18, 13, 13, 13, 19, 20, 21, 22, 13, 13, 23])) := by kernel_rfl
set_option maxRecDepth 100000 in
theorem r4f2_110001 (x0 : Zn) (x1 : Zn) (x2 : Zn) (x3 : Zn) (y0 : Zn) (y1 : Zn) (y2 : Zn) (y3 : Zn) (a : Int) (b : Int) (rest : List (Nat × AV Nm)) : evRa ([(13, .w (.one (.int .i64 4))), (14, .w (.one (.int .i64 2)))] ++ (ptrN 0 [(65536 * (4294967296 + 4 + 1) + 12), (65536 * (4294967296 + 4 + 1) + 1), 5, 6] ++ rest)) [⟨28, (zc4 x0 x1 x2 x3)⟩, ⟨28, (zc4 y0 y1 y2 y3)⟩, ⟨28, phZ (some a)⟩, ⟨28, phZ (some b)⟩] 4 [13, 14, 12, 1, 5, 6] [true, true, false, false, false, true] = some ((Ex.normal, [AV.w (AW.one (AC.int IntKind.i64 4)), AV.w (AW.one (AC.int IntKind.i64 (IntKind.i64.wrap (2 + 1)))), AV.w (AW.one (AC.slc 0 0 4 4)), AV.w (AW.one (AC.slc 1 0 4 4)), AV.w (AW.one (AC.ptr 2 0)), AV.w (AW.one (AC.ptr 3 0))], [{ ty := 28, cs := (zc4 x0 x1 x2 x3) }, { ty := 28, cs := (zc4 y0 y1 y2 y3) }, { ty := 28, cs := [AC.bool (decide (a < 0)), AC.fv (Nm.num a)] }, { ty := 28, cs := [AC.bool (decide (-(- -x2.x / -y2.x) < 0)), AC.fv (Nm.num (-(- -x2.x / -y2.x)))] }]), (pickL [(decide ((2 : Int) < 4), true), (decide ((0 : Int) ≤ 2), true), (decide (2 < ((4294967300 - 4294967296 : Nat) : Int)), true), (y2.s, true), (x2.s == decide (x2.x < 0), true), (szB x2.x, true), (y2.s == decide (y2.x < 0), true), (szB y2.x, true), (decide (-x2.x < 0) == decide (-x2.x < 0), true), (decide (-y2.x < 0) == decide (-y2.x < 0), true), (szB (-x2.x), true), (szB (-y2.x), true), (decide (-y2.x = 0), false), ((2 : Int) == 0, false), (decide (-x2.x / -y2.x < 0) == decide (-x2.x / -y2.x < 0), true), (decide (a < 0) == decide (a < 0), true), (szB (-x2.x / -y2.x), true), (szB a, true), (decide (cmpI (-x2.x / -y2.x) a < 0), false), (decide (-(- -x2.x / -y2.x) < 0) == decide (-(- -x2.x / -y2.x) < 0), true), (decide (b < 0) == decide (b < 0), true), (szB (-(- -x2.x / -y2.x)), true), (szB b, true), (decide (cmpI (-(- -x2.x / -y2.x)) b > 0), true)] [0, 1, 2, 1, 2, 3, 4, 5, 6, 7, 8, 9, 10, 11, 12, 8, 9, 10, 11, 12, 13, 13, 13, 14, 15, 16, 17, 13, 13, 18, 13, 13, 13, 19, 20, 21, 22, 13, 13, 23])) := by kernel_rfl
set_option maxRecDepth 100000 in
theorem r4f2_110000 (x0 : Zn) (x1 : Zn) (x2 : Zn) (x3 : Zn) (y0 : Zn) (y1 : Zn) (y2 : Zn) (y3 : Zn) (a : Int) (b : Int) (rest : List (Nat × AV Nm)) : evRa ([(13, .w (.one (.int .i64 4))), (14, .w (.one (.int .i64 2)))] ++ (ptrN 0 [(65536 * (4294967296 + 4 + 1) + 12), (65536 * (4294967296 + 4 + 1) + 1), 5, 6] ++ rest)) [⟨28, (zc4 x0 x1 x2 x3)⟩, ⟨28, (zc4 y0 y1 y2 y3)⟩, ⟨28, phZ (some a)⟩, ⟨28, phZ (some b)⟩] 4 [13, 14, 12, 1, 5, 6] [true, true, false, false, false, false] = some ((Ex.normal, [AV.w (AW.one (AC.int IntKind.i64 4)), AV.w (AW.one (AC.int IntKind.i64 (IntKind.i64.wrap (2 + 1)))), AV.w (AW.one (AC.slc 0 0 4 4)), AV.w (AW.one (AC.slc 1 0 4 4)), AV.w (AW.one (AC.ptr 2 0)), AV.w (AW.one (AC.ptr 3 0))], [{ ty := 28, cs := (zc4 x0 x1 x2 x3) }, { ty := 28, cs := (zc4 y0 y1 y2 y3) }, { ty := 28, cs := [AC.bool (decide (a < 0)), AC.fv (Nm.num a)] }, { ty := 28, cs := [AC.bool (decide (b < 0)), AC.fv (Nm.num b)] }]), (pickL [(decide ((2 : Int) < 4), true), (decide ((0 : Int) ≤ 2), true), (decide (2 < ((4294967300 - 4294967296 : Nat) : Int)), true), (y2.s, true), (x2.s == decide (x2.x < 0), true), (szB x2.x, true), (y2.s == decide (y2.x < 0), true), (szB y2.x, true), (decide (-x2.x < 0) == decide (-x2.x < 0), true), (decide (-y2.x < 0) == decide (-y2.x < 0), true), (szB (-x2.x), true), (szB (-y2.x), true), (decide (-y2.x = 0), false), ((2 : Int) == 0, false), (decide (-x2.x / -y2.x < 0) == decide (-x2.x / -y2.x < 0), true), (decide (a < 0) == decide (a < 0), true), (szB (-x2.x / -y2.x), true), (szB a, true), (decide (cmpI (-x2.x / -y2.x) a < 0), false), (decide (-(- -x2.x / -y2.x) < 0) == decide (-(- -x2.x / -y2.x) < 0), true), (decide (b < 0) == decide (b < 0), true), (szB (-(- -x2.x / -y2.x)), true), (szB b, true), (decide (cmpI (-(- -x2.x / -y2.x)) b > 0), false)] [0, 1, 2, 1, 2, 3, 4, 5, 6, 7, 8, 9, 10, 11, 12, 8, 9, 10, 11, 12, 13, 13, 13, 14, 15, 16, 17, 13, 13, 18, 13, 13, 13, 19, 20, 21, 22, 13, 13, 23])) := by kernel_rfl
set_option maxRecDepth 100000 in
theorem r4f2_100101 (x0 : Zn) (x1 : Zn) (x2 : Zn) (x3 : Zn) (y0 : Zn) (y1 : Zn) (y2 : Zn) (y3 : Zn) (a : Int) (b : Int) (rest : List (Nat × AV Nm)) : evRa ([(13, .w (.one (.int .i64 4))), (14, .w (.one (.int .i64 2)))] ++ (ptrN 0 [(65536 * (4294967296 + 4 + 1) + 12), (65536 * (4294967296 + 4 + 1) + 1), 5, 6] ++ rest)) [⟨28, (zc4 x0 x1 x2 x3)⟩, ⟨28, (zc4 y0 y1 y2 y3)⟩, ⟨28, phZ (some a)⟩, ⟨28, phZ (some b)⟩] 4 [13, 14, 12, 1, 5, 6] [true, false, false, true, false, true] = some ((Ex.normal, [AV.w (AW.one (AC.int IntKind.i64 4)), AV.w (AW.one (AC.int IntKind.i64 (IntKind.i64.wrap (2 + 1)))), AV.w (AW.one (AC.slc 0 0 4 4)), AV.w (AW.one (AC.slc 1 0 4 4)), AV.w (AW.one (AC.ptr 2 0)), AV.w (AW.one (AC.ptr 3 0))], [{ ty := 28, cs := (zc4 x0 x1 x2 x3) }, { ty := 28, cs := (zc4 y0 y1 y2 y3) }, { ty := 28, cs := [AC.bool (decide (x2.x / y2.x < 0)), AC.fv (Nm.num (x2.x / y2.x))] }, { ty := 28, cs := [AC.bool (decide (-(-x2.x / y2.x) < 0)), AC.fv (Nm.num (-(-x2.x / y2.x)))] }]), (pickL [(decide ((2 : Int) < 4), true), (decide ((0 : Int) ≤ 2), true), (decide (2 < ((4294967300 - 4294967296 : Nat) : Int)), true), (y2.s, false), (x2.s == decide (x2.x < 0), true), (y2.s == decide (y2.x < 0), true), (szB x2.x, true), (szB y2.x, true), (decide (y2.x = 0), false), ((2 : Int) == 0, false), (decide (x2.x / y2.x < 0) == decide (x2.x / y2.x < 0), true), (decide (a < 0) == decide (a < 0), true), (szB (x2.x / y2.x), true), (szB a, true), (decide (cmpI (x2.x / y2.x) a < 0), true), (decide (-(-x2.x / y2.x) < 0) == decide (-(-x2.x / y2.x) < 0), true), (decide (b < 0) == decide (b < 0), true), (szB (-(-x2.x / y2.x)), true), (szB b, true), (decide (cmpI (-(-x2.x / y2.x)) b > 0), true)] [0, 1, 2, 1, 2, 3, 4, 5, 6, 7, 8, 4, 5, 6, 7, 8, 9, 9, 9, 10, 11, 12, 13, 9, 9, 14, 9, 9, 9, 15, 16, 17, 18, 9, 9, 19])) := by kernel_rfl
set_option maxRecDepth 100000 in
theorem r4f2_100100 (x0 : Zn) (x1 : Zn) (x2 : Zn) (x3 : Zn) (y0 : Zn) (y1 : Zn) (y2 : Zn) (y3 : Zn) (a : Int) (b : Int) (rest : List (Nat × AV Nm)) : evRa ([(13, .w (.one (.int .i64 4))), (14, .w (.one (.int .i64 2)))] ++ (ptrN 0 [(65536 * (4294967296 + 4 + 1) + 12), (65536 * (4294967296 + 4 + 1) + 1), 5, 6] ++ rest)) [⟨28, (zc4 x0 x1 x2 x3)⟩, ⟨28, (zc4 y0 y1 y2 y3)⟩, ⟨28, phZ (some a)⟩, ⟨28, phZ (some b)⟩] 4 [13, 14, 12, 1, 5, 6] [true, false, false, true, false, false] = some ((Ex.normal, [AV.w (AW.one (AC.int IntKind.i64 4)), AV.w (AW.one (AC.int IntKind.i64 (IntKind.i64.wrap (2 + 1)))), AV.w (AW.one (AC.slc 0 0 4 4)), AV.w (AW.one (AC.slc 1 0 4 4)), AV.w (AW.one (AC.ptr 2 0)), AV.w (AW.one (AC.ptr 3 0))], [{ ty := 28, cs := (zc4 x0 x1 x2 x3) }, { ty := 28, cs := (zc4 y0 y1 y2 y3) }, { ty := 28, cs := [AC.bool (decide (x2.x / y2.x < 0)), AC.fv (Nm.num (x2.x / y2.x))] }, { ty := 28, cs := [AC.bool (decide (b < 0)), AC.fv (Nm.num b)] }]), (pickL [(decide ((2 : Int) < 4), true), (decide ((0 : Int) ≤ 2), true), (decide (2 < ((4294967300 - 4294967296 : Nat) : Int)), true), (y2.s, false), (x2.s == decide (x2.x < 0), true), (y2.s == decide (y2.x < 0), true), (szB x2.x, true), (szB y2.x, true), (decide (y2.x = 0), false), ((2 : Int) == 0, false), (decide (x2.x / y2.x < 0) == decide (x2.x / y2.x < 0), true), (decide (a < 0) == decide (a < 0), true), (szB (x2.x / y2.x), true), (szB a, true), (decide (cmpI (x2.x / y2.x) a < 0), true), (decide (-(-x2.x / y2.x) < 0) == decide (-(-x2.x / y2.x) < 0), true), (decide (b < 0) == decide (b < 0), true), (szB (-(-x2.x / y2.x)), true), (szB b, true), (decide (cmpI (-(-x2.x / y2.x)) b > 0), false)] [0, 1, 2, 1, 2, 3, 4, 5, 6, 7, 8, 4, 5, 6, 7, 8, 9, 9, 9, 10, 11, 12, 13, 9, 9, 14, 9, 9, 9, 15, 16, 17, 18, 9, 9, 19])) := by kernel_rfl
set_option maxRecDepth 100000 in
theorem r4f2_100001 (x0 : Zn) (x1 : Zn) (x2 : Zn) (x3 : Zn) (y0 : Zn) (y1 : Zn) (y2 : Zn) (y3 : Zn) (a : Int) (b : Int) (rest : List (Nat × AV Nm)) : evRa ([(13, .w (.one (.int .i64 4))), (14, .w (.one (.int .i64 2)))] ++ (ptrN 0 [(65536 * (4294967296 + 4 + 1) + 12), (65536 * (4294967296 + 4 + 1) + 1), 5, 6] ++ rest)) [⟨28, (zc4 x0 x1 x2 x3)⟩, ⟨28, (zc4 y0 y1 y2 y3)⟩, ⟨28, phZ (some a)⟩, ⟨28, phZ (some b)⟩] 4 [13, 14, 12, 1, 5, 6] [true, false, false, false, false, true] = some ((Ex.normal, [AV.w (AW.one (AC.int IntKind.i64 4)), AV.w (AW.one (AC.int IntKind.i64 (IntKind.i64.wrap (2 + 1)))), AV.w (AW.one (AC.slc 0 0 4 4)), AV.w (AW.one (AC.slc 1 0 4 4)), AV.w (AW.one (AC.ptr 2 0)), AV.w (AW.one (AC.ptr 3 0))], [{ ty := 28, cs := (zc4 x0 x1 x2 x3) }, { ty := 28, cs := (zc4 y0 y1 y2 y3) }, { ty := 28, cs := [AC.bool (decide (a < 0)), AC.fv (Nm.num a)] }, { ty := 28, cs := [AC.bool (decide (-(-x2.x / y2.x) < 0)), AC.fv (Nm.num (-(-x2.x / y2.x)))] }]), (pickL [(decide ((2 : Int) < 4), true), (decide ((0 : Int) ≤ 2), true), (decide (2 < ((4294967300 - 4294967296 : Nat) : Int)), true), (y2.s, false), (x2.s == decide (x2.x < 0), true), (y2.s == decide (y2.x < 0), true), (szB x2.x, true), (szB y2.x, true), (decide (y2.x = 0), false), ((2 : Int) == 0, false), (decide (x2.x / y2.x < 0) == decide (x2.x / y2.x < 0), true), (decide (a < 0) == decide (a < 0), true), (szB (x2.x / y2.x), true), (szB a, true), (decide (cmpI (x2.x / y2.x) a < 0), false), (decide (-(-x2.x / y2.x) < 0) == decide (-(-x2.x / y2.x) < 0), true), (decide (b < 0) == decide (b < 0), true), (szB (-(-x2.x / y2.x)), true), (szB b, true), (decide (cmpI (-(-x2.x / y2.x)) b > 0), true)] [0, 1, 2, 1, 2, 3, 4, 5, 6, 7, 8, 4, 5, 6, 7, 8, 9, 9, 9, 10, 11, 12, 13, 9, 9, 14, 9, 9, 9, 15, 16, 17, 18, 9, 9, 19])) := by kernel_rfl
set_option maxRecDepth 100000 in
theorem r4f2_100000 (x0 : Zn) (x1 : Zn) (x2 : Zn) (x3 : Zn) (y0 : Zn) (y1 : Zn) (y2 : Zn) (y3 : Zn) (a : Int) (b : Int) (rest : List (Nat × AV Nm)) : evRa ([(13, .w (.one (.int .i64 4))), (14, .w (.one (.int .i64 2)))] ++ (ptrN 0 [(65536 * (4294967296 + 4 + 1) + 12), (65536 * (4294967296 + 4 + 1) + 1), 5, 6] ++ rest)) [⟨28, (zc4 x0 x1 x2 x3)⟩, ⟨28, (zc4 y0 y1 y2 y3)⟩, ⟨28, phZ (some a)⟩, ⟨28, phZ (some b)⟩] 4 [13, 14, 12, 1, 5, 6] [true, false, false, false, false, false] = some ((Ex.normal, [AV.w (AW.one (AC.int IntKind.i64 4)), AV.w (AW.one (AC.int IntKind.i64 (IntKind.i64.wrap (2 + 1)))), AV.w (AW.one (AC.slc 0 0 4 4)), AV.w (AW.one (AC.slc 1 0 4 4)), AV.w (AW.one (AC.ptr 2 0)), AV.w (AW.one (AC.ptr 3 0))], [{ ty := 28, cs := (zc4 x0 x1 x2 x3) }, { ty := 28, cs := (zc4 y0 y1 y2 y3) }, { ty := 28, cs := [AC.bool (decide (a < 0)), AC.fv (Nm.num a)] }, { ty := 28, cs := [AC.bool (decide (b < 0)), AC.fv (Nm.num b)] }]), (pickL [(decide ((2 : Int) < 4), true), (decide ((0 : Int) ≤ 2), true), (decide (2 < ((4294967300 - 4294967296 : Nat) : Int)), true), (y2.s, false), (x2.s == decide (x2.x < 0), true), (y2.s == decide (y2.x < 0), true), (szB x2.x, true), (szB y2.x, true), (decide (y2.x = 0), false), ((2 : Int) == 0, false), (decide (x2.x / y2.x < 0) == decide (x2.x / y2.x < 0), true), (decide (a < 0) == decide (a < 0), true), (szB (x2.x / y2.x), true), (szB a, true), (decide (cmpI (x2.x / y2.x) a < 0), false), (decide (-(-x2.x / y2.x) < 0) == decide (-(-x2.x / y2.x) < 0), true), (decide (b < 0) == decide (b < 0), true), (szB (-(-x2.x / y2.x)), true), (szB b, true), (decide (cmpI (-(-x2.x / y2.x)) b > 0), false)] [0, 1, 2, 1, 2, 3, 4, 5, 6, 7, 8, 4, 5, 6, 7, 8, 9, 9, 9, 10, 11, 12, 13, 9, 9, 14, 9, 9, 9, 15, 16, 17, 18, 9, 9, 19])) := by kernel_rfl
set_option maxRecDepth 100000 in
theorem r4f3_110101 (x0 : Zn) (x1 : Zn) (x2 : Zn) (x3 : Zn) (y0 : Zn) (y1 : Zn) (y2 : Zn) (y3 : Zn) (a : Int) (b : Int) (rest : List (Nat × AV Nm)) : evRa ([(13, .w (.one (.int .i64 4))), (14, .w (.one (.int .i64 3)))] ++ (ptrN 0 [(65536 * (4294967296 + 4 + 1) + 12), (65536 * (4294967296 + 4 + 1) + 1), 5, 6] ++ rest)) [⟨28, (zc4 x0 x1 x2 x3)⟩, ⟨28, (zc4 y0 y1 y2 y3)⟩, ⟨28, phZ (some a)⟩, ⟨28, phZ (some b)⟩] 4 [13, 14, 12, 1, 5, 6] [true, true, false, true, false, true] = some ((Ex.normal, [AV.w (AW.one (AC.int IntKind.i64 4)), AV.w (AW.one (AC.int IntKind.i64 (IntKind.i64.wrap (3 + 1)))), AV.w (AW.one (AC.slc 0 0 4 4)), AV.w (AW.one (AC.slc 1 0 4 4)), AV.w (AW.one (AC.ptr 2 0)), AV.w (AW.one (AC.ptr 3 0))], [{ ty := 28, cs := (zc4 x0 x1 x2 x3) }, { ty := 28, cs := (zc4 y0 y1 y2 y3) }, { ty := 28, cs := [AC.bool (decide (-x3.x / -y3.x < 0)), AC.fv (Nm.num (-x3.x / -y3.x))] }, { ty := 28, cs := [AC.bool (decide (-(- -x3.x / -y3.x) < 0)), AC.fv (Nm.num (-(- -x3.x / -y3.x)))] }]), (pickL [(decide ((3 : Int) < 4), true), (decide ((0 : Int) ≤ 3), true), (decide (3 < ((4294967300 - 4294967296 : Nat) : Int)), true), (y3.s, true), (x3.s == decide (x3.x < 0), true), (szB x3.x, true), (y3.s == decide (y3.x < 0), true), (szB y3.x, true), (decide (-x3.x < 0) == decide (-x3.x < 0), true), (decide (-y3.x < 0) == decide (-y3.x < 0), true), (szB (-x3.x), true), (szB (-y3.x), true), (decide (-y3.x = 0), false), ((3 : Int) == 0, false), (decide (-x3.x / -y3.x < 0) == decide (-x3.x / -y3.x < 0), true), (decide (a < 0) == decide (a < 0), true), (szB (-x3.x / -y3.x), true), (szB a, true), (decide (cmpI (-x3.x / -y3.x) a < 0), true), (decide (-(- -x3.x / -y3.x) < 0) == decide (-(- -x3.x / -y3.x) < 0), true), (decide (b < 0) == decide (b < 0), true), (szB (-(- -x3.x / -y3.x)), true), (szB b, true), (decide (cmpI (-(- -x3.x / -y3.x)) b > 0), true)] [0, 1, 2, 1, 2, 3, 4, 5, 6, 7, 8, 9, 10, 11, 12, 8, 9, 10, 11, 12, 13, 13, 13, 14, 15, 16, 17, 13, 13, 18, 13, 13, 13, 19, 20, 21, 22, 13, 13, 23])) := by kernel_rfl
set_option maxRecDepth 100000 in
theorem r4f3_110100 (x0 : Zn) (x1 : Zn) (x2 : Zn) (x3 : Zn) (y0 : Zn) (y1 : Zn) (y2 : Zn) (y3 : Zn) (a : Int) (b : Int) (rest : List (Nat × AV Nm)) : evRa ([(13, .w (.one (.int .i64 4))), (14, .w (.one (.int .i64 3)))] ++ (ptrN 0 [(65536 * (4294967296 + 4 + 1) + 12), (65536 * (4294967296 + 4 + 1) + 1), 5, 6] ++ rest)) [⟨28, (zc4 x0 x1 x2 x3)⟩, ⟨28, (zc4 y0 y1 y2 y3)⟩, ⟨28, phZ (some a)⟩, ⟨28, phZ (some b)⟩] 4 [13, 14, 12, 1, 5, 6] [true, true, false, true, false, false] = some ((Ex.normal, [AV.w (AW.one (AC.int IntKind.i64 4)), AV.w (AW.one (AC.int IntKind.i64 (IntKind.i64.wrap (3 + 1)))), AV.w (AW.one (AC.slc 0 0 4 4)), AV.w (AW.one (AC.slc 1 0 4 4)), AV.w (AW.one (AC.ptr 2 0)), AV.w (AW.one (AC.ptr 3 0))], [{ ty := 28, cs := (zc4 x0 x1 x2 x3) }, { ty := 28, cs := (zc4 y0 y1 y2 y3) }, { ty := 28, cs := [AC.bool (decide (-x3.x / -y3.x < 0)), AC.fv (Nm.num (-x3.x / -y3.x))] }, { ty := 28, cs := [AC.bool (decide (b < 0)), AC.fv (Nm.num b)] }]), (pickL [(decide ((3 : Int) < 4), true), (decide ((0 : Int) ≤ 3), true), (decide (3 < ((4294967300 - 4294967296 : Nat) : Int)), true), (y3.s, true), (x3.s == decide (x3.x < 0), true), (szB x3.x, true), (y3.s == decide (y3.x < 0), true), (szB y3.x, true), (decide (-x3.x < 0) == decide (-x3.x < 0), true), (decide (-y3.x < 0) == decide (-y3.x < 0), true), (szB (-x3.x), true), (szB (-y3.x), true), (decide (-y3.x = 0), false), ((3 : Int) == 0, false), (decide (-x3.x / -y3.x < 0) == decide (-x3.x / -y3.x < 0), true), (decide (a < 0) == decide (a < 0), true), (szB (-x3.x / -y3.x), true), (szB a, true), (decide (cmpI (-x3.x / -y3.x) a < 0), true), (decide (-(- -x3.x / -y3.x) < 0) == decide (-(- -x3.x / -y3.x) < 0), true), (decide (b < 0) == decide (b < 0), true), (szB (-(- -x3.x / -y3.x)), true), (szB b, true), (decide (cmpI (-(- -x3.x / -y3.x)) b > 0), false)] [0, 1, 2, 1, 2, 3, 4, 5, 6, 7, 8, 9, 10, 11, 12, 8, 9, 10, 11, 12, 13, 13, 13, 14, 15, 16, 17, 13, 13, 18, 13, 13, 13, 19, 20, 21, 22, 13, 13, 23])) := by kernel_rfl
set_option maxRecDepth 100000 in
theorem r4f3_110001 (x0 : Zn) (x1 : Zn) (x2 : Zn) (x3 : Zn) (y0 : Zn) (y1 : Zn) (y2 : Zn) (y3 : Zn) (a : Int) (b : Int) (rest : List (Nat × AV Nm)) : evRa ([(13, .w (.one (.int .i64 4))), (14, .w (.one (.int .i64 3)))] ++ (ptrN 0 [(65536 * (4294967296 + 4 + 1) + 12), (65536 * (4294967296 + 4 + 1) + 1), 5, 6] ++ rest)) [⟨28, (zc4 x0 x1 x2 x3)⟩, ⟨28, (zc4 y0 y1 y2 y3)⟩, ⟨28, phZ (some a)⟩, ⟨28, phZ (some b)⟩] 4 [13, 14, 12, 1, 5, 6] [true, true, false, false, false, true] = some ((Ex.normal, [AV.w (AW.one (AC.int IntKind.i64 4)), AV.w (AW.one (AC.int IntKind.i64 (IntKind.i64.wrap (3 + 1)))), AV.w (AW.one (AC.slc 0 0 4 4)), AV.w (AW.one (AC.slc 1 0 4 4)), AV.w (AW.one (AC.ptr 2 0)), AV.w (AW.one (AC.ptr 3 0))], [{ ty := 28, cs := (zc4 x0 x1 x2 x3) }, { ty := 28, cs := (zc4 y0 y1 y2 y3) }, { ty := 28, cs := [AC.bool (decide (a < 0)), AC.fv (Nm.num a)] }, { ty := 28, cs := [AC.bool (decide (-(- -x3.x / -y3.x) < 0)), AC.fv (Nm.num (-(- -x3.x / -y3.x)))] }]), (pickL [(decide ((3 : Int) < 4), true), (decide ((0 : Int) ≤ 3), true), (decide (3 < ((4294967300 - 4294967296 : Nat) : Int)), true), (y3.s, true), (x3.s == decide (x3.x < 0), true), (szB x3.x, true), (y3.s == decide (y3.x < 0), true), (szB y3.x, true), (decide (-x3.x < 0) == decide (-x3.x < 0), true), (decide (-y3.x < 0) == decide (-y3.x < 0), true), (szB (-x3.x), true), (szB (-y3.x), true), (decide (-y3.x = 0), false), ((3 : Int) == 0, false), (decide (-x3.x / -y3.x < 0) == decide (-x3.x / -y3.x < 0), true), (decide (a < 0) == decide (a < 0), true), (szB (-x3.x / -y3.x), true), (szB a, true), (decide (cmpI (-x3.x / -y3.x) a < 0), false), (decide (-(- -x3.x / -y3.x) < 0) == decide (-(- -x3.x / -y3.x) < 0), true), (decide (b < 0) == decide (b < 0), true), (szB (-(- -x3.x / -y3.x)), true), (szB b, true), (decide (cmpI (-(- -x3.x / -y3.x)) b > 0), true)] [0, 1, 2, 1, 2, 3, 4, 5, 6, 7, 8, 9, 10, 11, 12, 8, 9, 10, 11, 12, 13, 13, 13, 14, 15, 16, 17, 13, 13, 18, 13, 13, 13, 19, 20, 21, 22, 13, 13, 23])) := by kernel_rfl
set_option maxRecDepth 100000 in
theorem r4f3_110000 (x0 : Zn) (x1 : Zn) (x2 : Zn) (x3 : Zn) (y0 : Zn) (y1 : Zn) (y2 : Zn) (y3 : Zn) (a : Int) (b : Int) (rest : List (Nat × AV Nm)) : evRa ([(13, .w (.one (.int .i64 4))), (14, .w (.one (.int .i64 3)))] ++ (ptrN 0 [(65536 * (4294967296 + 4 + 1) + 12), (65536 * (4294967296 + 4 + 1) + 1), 5, 6] ++ rest)) [⟨28, (zc4 x0 x1 x2 x3)⟩, ⟨28, (zc4 y0 y1 y2 y3)⟩, ⟨28, phZ (some a)⟩, ⟨28, phZ (some b)⟩] 4 [13, 14, 12, 1, 5, 6] [true, true, false, false, false, false] = some ((Ex.normal, [AV.w (AW.one (AC.int IntKind.i64 4)), AV.w (AW.one (AC.int IntKind.i64 (IntKind.i64.wrap (3 + 1)))), AV.w (AW.one (AC.slc 0 0 4 4)), AV.w (AW.one (AC.slc 1 0 4 4)), AV.w (AW.one (AC.ptr 2 0)), AV.w (AW.one (AC.ptr 3 0))], [{ ty := 28, cs := (zc4 x0 x1 x2 x3) }, { ty := 28, cs := (zc4 y0 y1 y2 y3) }, { ty := 28, cs := [AC.bool (decide (a < 0)), AC.fv (Nm.num a)] }, { ty := 28, cs := [AC.bool (decide (b < 0)), AC.fv (Nm.num b)] }]), (pickL [(decide ((3 : Int) < 4), true), (decide ((0 : Int) ≤ 3), true), (decide (3 < ((4294967300 - 4294967296 : Nat) : Int)), true), (y3.s, true), (x3.s == decide (x3.x < 0), true), (szB x3.x, true), (y3.s == decide (y3.x < 0), true), (szB y3.x, true), (decide (-x3.x < 0) == decide (-x3.x < 0), true), (decide (-y3.x < 0) == decide (-y3.x < 0), true), (szB (-x3.x), true), (szB (-y3.x), true), (decide (-y3.x = 0), false), ((3 : Int) == 0, false), (decide (-x3.x / -y3.x < 0) == decide (-x3.x / -y3.x < 0), true), (decide (a < 0) == decide (a < 0), true), (szB (-x3.x / -y3.x), true), (szB a, true), (decide (cmpI (-x3.x / -y3.x) a < 0), false), (decide (-(- -x3.x / -y3.x) < 0) == decide (-(- -x3.x / -y3.x) < 0), true), (decide (b < 0) == decide (b < 0), true), (szB (-(- -x3.x / -y3.x)), true), (szB b, true), (decide (cmpI (-(- -x3.x / -y3.x)) b > 0), false)] [0, 1, 2, 1, 2, 3, 4, 5, 6, 7, 8, 9, 10, 11, 12, 8, 9, 10, 11, 12, 13, 13, 13, 14, 15, 16, 17, 13, 13, 18, 13, 13, 13, 19, 20, 21, 22, 13, 13, 23])) := by kernel_rfl
set_option maxRecDepth 100000 in
theorem r4f3_100101 (x0 : Zn) (x1 : Zn) (x2 : Zn) (x3 : Zn) (y0 : Zn) (y1 : Zn) (y2 : Zn) (y3 : Zn) (a : Int) (b : Int) (rest : List (Nat × AV Nm)) : evRa ([(13, .w (.one (.int .i64 4))), (14, .w (.one (.int .i64 3)))] ++ (ptrN 0 [(65536 * (4294967296 + 4 + 1) + 12), (65536 * (4294967296 + 4 + 1) + 1), 5, 6] ++ rest)) [⟨28, (zc4 x0 x1 x2 x3)⟩, ⟨28, (zc4 y0 y1 y2 y3)⟩, ⟨28, phZ (some a)⟩, ⟨28, phZ (some b)⟩] 4 [13, 14, 12, 1, 5, 6] [true, false, false, true, false, true] = some ((Ex.normal, [AV.w (AW.one (AC.int IntKind.i64 4)), AV.w (AW.one (AC.int IntKind.i64 (IntKind.i64.wrap (3 + 1)))), AV.w (AW.one (AC.slc 0 0 4 4)), AV.w (AW.one (AC.slc 1 0 4 4)), AV.w (AW.one (AC.ptr 2 0)), AV.w (AW.one (AC.ptr 3 0))], [{ ty := 28, cs := (zc4 x0 x1 x2 x3) }, { ty := 28, cs := (zc4 y0 y1 y2 y3) }, { ty := 28, cs := [AC.bool (decide (x3.x / y3.x < 0)), AC.fv (Nm.num (x3.x / y3.x))] }, { ty := 28, cs := [AC.bool (decide (-(-x3.x / y3.x) < 0)), AC.fv (Nm.num (-(-x3.x / y3.x)))] }]), (pickL [(decide ((3 : Int) < 4), true), (decide ((0 : Int) ≤ 3), true), (decide (3 < ((4294967300 - 4294967296 : Nat) : Int)), true), (y3.s, false), (x3.s == decide (x3.x < 0), true), (y3.s == decide (y3.x < 0), true), (szB x3.x, true), (szB y3.x, true), (decide (y3.x = 0), false), ((3 : Int) == 0, false), (decide (x3.x / y3.x < 0) == decide (x3.x / y3.x < 0), true), (decide (a < 0) == decide (a < 0), true), (szB (x3.x / y3.x), true), (szB a, true), (decide (cmpI (x3.x / y3.x) a < 0), true), (decide (-(-x3.x / y3.x) < 0) == decide (-(-x3.x / y3.x) < 0), true), (decide (b < 0) == decide (b < 0), true), (szB (-(-x3.x / y3.x)), true), (szB b, true), (decide (cmpI (-(-x3.x / y3.x)) b > 0), true)] [0, 1, 2, 1, 2, 3, 4, 5, 6, 7, 8, 4, 5, 6, 7, 8, 9, 9, 9, 10, 11, 12, 13, 9, 9, 14, 9, 9, 9, 15, 16, 17, 18, 9, 9, 19])) := by kernel_rfl
set_option maxRecDepth 100000 in
theorem r4f3_100100 (x0 : Zn) (x1 : Zn) (x2 : Zn) (x3 : Zn) (y0 : Zn) (y1 : Zn) (y2 : Zn) (y3 : Zn) (a : Int) (b : Int) (rest : List (Nat × AV Nm)) : evRa ([(13, .w (.one (.int .i64 4))), (14, .w (.one (.int .i64 3)))] ++ (ptrN 0 [(65536 * (4294967296 + 4 + 1) + 12), (65536 * (4294967296 + 4 + 1) + 1), 5, 6] ++ rest)) [⟨28, (zc4 x0 x1 x2 x3)⟩, ⟨28, (zc4 y0 y1 y2 y3)⟩, ⟨28, phZ (some a)⟩, ⟨28, phZ (some b)⟩] 4 [13, 14, 12, 1, 5, 6] [true, false, false, true, false, false] = some ((Ex.normal, [AV.w (AW.one (AC.int IntKind.i64 4)), AV.w (AW.one (AC.int IntKind.i64 (IntKind.i64.wrap (3 + 1)))), AV.w (AW.one (AC.slc 0 0 4 4)), AV.w (AW.one (AC.slc 1 0 4 4)), AV.w (AW.one (AC.ptr 2 0)), AV.w (AW.one (AC.ptr 3 0))], [{ ty := 28, cs := (zc4 x0 x1 x2 x3) }, { ty := 28, cs := (zc4 y0 y1 y2 y3) }, { ty := 28, cs := [AC.bool (decide (x3.x / y3.x < 0)), AC.fv (Nm.num (x3.x / y3.x))] }, { ty := 28, cs := [AC.bool (decide (b < 0)), AC.fv (Nm.num b)] }]), (pickL [(decide ((3 : Int) < 4), true), (decide ((0 : Int) ≤ 3), true), (decide (3 < ((4294967300 - 4294967296 : Nat) : Int)), true), (y3.s, false), (x3.s == decide (x3.x < 0), true), (y3.s == decide (y3.x < 0), true), (szB x3.x, true), (szB y3.x, true), (decide (y3.x = 0), false), ((3 : Int) == 0, false), (decide (x3.x / y3.x < 0) == decide (x3.x / y3.x < 0), true), (decide (a < 0) == decide (a < 0), true), (szB (x3.x / y3.x), true), (szB a, true), (decide (cmpI (x3.x / y3.x) a < 0), true), (decide (-(-x3.x / y3.x) < 0) == decide (-(-x3.x / y3.x) < 0), true), (decide (b < 0) == decide (b < 0), true), (szB (-(-x3.x / y3.x)), true), (szB b, true), (decide (cmpI (-(-x3.x / y3.x)) b > 0), false)] [0, 1, 2, 1, 2, 3, 4, 5, 6, 7, 8, 4, 5, 6, 7, 8, 9, 9, 9, 10, 11, 12, 13, 9, 9, 14, 9, 9, 9, 15, 16, 17, 18, 9, 9, 19])) := by kernel_rfl
set_option maxRecDepth 100000 in
theorem r4f3_100001 (x0 : Zn) (x1 : Zn) (x2 : Zn) (x3 : Zn) (y0 : Zn) (y1 : Zn) (y2 : Zn) (y3 : Zn) (a : Int) (b : Int) (rest : List (Nat × AV Nm)) : evRa ([(13, .w (.one (.int .i64 4))), (14, .w (.one (.int .i64 3)))] ++ (ptrN 0 [(65536 * (4294967296 + 4 + 1) + 12), (65536 * (4294967296 + 4 + 1) + 1), 5, 6] ++ rest)) [⟨28, (zc4 x0 x1 x2 x3)⟩, ⟨28, (zc4 y0 y1 y2 y3)⟩, ⟨28, phZ (some a)⟩, ⟨28, phZ (some b)⟩] 4 [13, 14, 12, 1, 5, 6] [true, false, false, false, false, true] = some ((Ex.normal, [AV.w (AW.one (AC.int IntKind.i64 4)), AV.w (AW.one (AC.int IntKind.i64 (IntKind.i64.wrap (3 + 1)))), AV.w (AW.one (AC.slc 0 0 4 4)), AV.w (AW.one (AC.slc 1 0 4 4)), AV.w (AW.one (AC.ptr 2 0)), AV.w (AW.one (AC.ptr 3 0))], [{ ty := 28, cs := (zc4 x0 x1 x2 x3) }, { ty := 28, cs := (zc4 y0 y1 y2 y3) }, { ty := 28, cs := [AC.bool (decide (a < 0)), AC.fv (Nm.num a)] }, { ty := 28, cs := [AC.bool (decide (-(-x3.x / y3.x) < 0)), AC.fv (Nm.num (-(-x3.x / y3.x)))] }]), (pickL [(decide ((3 : Int) < 4), true), (decide ((0 : Int) ≤ 3), true), (decide (3 < ((4294967300 - 4294967296 : Nat) : Int)), true), (y3.s, false), (x3.s == decide (x3.x < 0), true), (y3.s == decide (y3.x < 0), true), (szB x3.x, true), (szB y3.x, true), (decide (y3.x = 0), false), ((3 : Int) == 0, false), (decide (x3.x / y3.x < 0) == decide (x3.x / y3.x < 0), true), (decide (a < 0) == decide (a < 0), true), (szB (x3.x / y3.x), true), (szB a, true), (decide (cmpI (x3.x / y3.x) a < 0), false), (decide (-(-x3.x / y3.x) < 0) == decide (-(-x3.x / y3.x) < 0), true), (decide (b < 0) == decide (b < 0), true), (szB (-(-x3.x / y3.x)), true), (szB b, true), (decide (cmpI (-(-x3.x / y3.x)) b > 0), true)] [0, 1, 2, 1, 2, 3, 4, 5, 6, 7, 8, 4, 5, 6, 7, 8, 9, 9, 9, 10, 11, 12, 13, 9, 9, 14, 9, 9, 9, 15, 16, 17, 18, 9, 9, 19])) := by kernel_rfl
set_option maxRecDepth 100000 in
theorem r4f3_100000 (x0 : Zn) (x1 : Zn) (x2 : Zn) (x3 : Zn) (y0 : Zn) (y1 : Zn) (y2 : Zn) (y3 : Zn) (a : Int) (b : Int) (rest : List (Nat × AV Nm)) : evRa ([(13, .w (.one (.int .i64 4))), (14, .w (.one (.int .i64 3)))] ++ (ptrN 0 [(65536 * (4294967296 + 4 + 1) + 12), (65536 * (4294967296 + 4 + 1) + 1), 5, 6] ++ rest)) [⟨28, (zc4 x0 x1 x2 x3)⟩, ⟨28, (zc4 y0 y1 y2 y3)⟩, ⟨28, phZ (some a)⟩, ⟨28, phZ (some b)⟩] 4 [13, 14, 12, 1, 5, 6] [true, false, false, false, false, false] = some ((Ex.normal, [AV.w (AW.one (AC.int IntKind.i64 4)), AV.w (AW.one (AC.int IntKind.i64 (IntKind.i64.wrap (3 + 1)))), AV.w (AW.one (AC.slc 0 0 4 4)), AV.w (AW.one (AC.slc 1 0 4 4)), AV.w (AW.one (AC.ptr 2 0)), AV.w (AW.one (AC.ptr 3 0))], [{ ty := 28, cs := (zc4 x0 x1 x2 x3) }, { ty := 28, cs := (zc4 y0 y1 y2 y3) }, { ty := 28, cs := [AC.bool (decide (a < 0)), AC.fv (Nm.num a)] }, { ty := 28, cs := [AC.bool (decide (b < 0)), AC.fv (Nm.num b)] }]), (pickL [(decide ((3 : Int) < 4), true), (decide ((0 : Int) ≤ 3), true), (decide (3 < ((4294967300 - 4294967296 : Nat) : Int)), true), (y3.s, false), (x3.s == decide (x3.x < 0), true), (y3.s == decide (y3.x < 0), true), (szB x3.x, true), (szB y3.x, true), (decide (y3.x = 0), false), ((3 : Int) == 0, false), (decide (x3.x / y3.x < 0) == decide (x3.x / y3.x < 0), true), (decide (a < 0) == decide (a < 0), true), (szB (x3.x / y3.x), true), (szB a, true), (decide (cmpI (x3.x / y3.x) a < 0), false), (decide (-(-x3.x / y3.x) < 0) == decide (-(-x3.x / y3.x) < 0), true), (decide (b < 0) == decide (b < 0), true), (szB (-(-x3.x / y3.x)), true), (szB b, true), (decide (cmpI (-(-x3.x / y3.x)) b > 0), false)] [0, 1, 2, 1, 2, 3, 4, 5, 6, 7, 8, 4, 5, 6, 7, 8, 9, 9, 9, 10, 11, 12, 13, 9, 9, 14, 9, 9, 9, 15, 16, 17, 18, 9, 9, 19])) := by kernel_rfl
set_option maxRecDepth 100000 in
theorem r4f4_0 (x0 : Zn) (x1 : Zn) (x2 : Zn) (x3 : Zn) (y0 : Zn) (y1 : Zn) (y2 : Zn) (y3 : Zn) (a : Int) (b : Int) (rest : List (Nat × AV Nm)) : evRa ([(13, .w (.one (.int .i64 4))), (14, .w (.one (.int .i64 4)))] ++ (ptrN 0 [(65536 * (4294967296 + 4 + 1) + 12), (65536 * (4294967296 + 4 + 1) + 1), 5, 6] ++ rest)) [⟨28, (zc4 x0 x1 x2 x3)⟩, ⟨28, (zc4 y0 y1 y2 y3)⟩, ⟨28, phZ (some a)⟩, ⟨28, phZ (some b)⟩] 4 [13, 14, 12, 1, 5, 6] [false] = some ((Ex.exit 0, [AV.w (AW.one (AC.int IntKind.i64 4)), AV.w (AW.one (AC.int IntKind.i64 4)), AV.w (AW.one (AC.slc 0 0 4 4)), AV.w (AW.one (AC.slc 1 0 4 4)), AV.w (AW.one (AC.ptr 2 0)), AV.w (AW.one (AC.ptr 3 0))], [{ ty := 28, cs := (zc4 x0 x1 x2 x3) }, { ty := 28, cs := (zc4 y0 y1 y2 y3) }, { ty := 28, cs := [AC.bool (decide (a < 0)), AC.fv (Nm.num a)] }, { ty := 28, cs := [AC.bool (decide (b < 0)), AC.fv (Nm.num b)] }]), (pickL [(decide ((4 : Int) < 4), false)] [0])) := by kernel_rfl
def lo4 (x0 : Zn) (x1 : Zn) (x2 : Zn) (x3 : Zn) (y0 : Zn) (y1 : Zn) (y2 : Zn) (y3 : Zn) : Int := mnZ (flZ x3 y3) (mnZ (flZ x2 y2) (mnZ (flZ x1 y1) (flZ x0 y0)))
def hi4 (x0 : Zn) (x1 : Zn) (x2 : Zn) (x3 : Zn) (y0 : Zn) (y1 : Zn) (y2 : Zn) (y3 : Zn) : Int := mxZ (ceZ x3 y3) (mxZ (ceZ x2 y2) (mxZ (ceZ x1 y1) (ceZ x0 y0)))
structure r4T where
  i : Int
  x0 : Zn
  x1 : Zn
  x2 : Zn
  x3 : Zn
  y0 : Zn
  y1 : Zn
  y2 : Zn
  y3 : Zn
  o : Option Int
  p : Option Int
def r4P (i : Int) (x0 : Zn) (x1 : Zn) (x2 : Zn) (x3 : Zn) (y0 : Zn) (y1 : Zn) (y2 : Zn) (y3 : Zn) (o : Option Int) (p : Option Int) : Prop := (0 ≤ i ∧ i ≤ 4) ∧ o.isSome = decide (0 < i) ∧ p.isSome = decide (0 < i) ∧ dm (o.getD 0) = true ∧ dm (p.getD 0) = true ∧ okZ x0 y0 = true ∧ okZ x1 y1 = true ∧ okZ x2 y2 = true ∧ okZ x3 y3 = true
instance (i : Int) (x0 : Zn) (x1 : Zn) (x2 : Zn) (x3 : Zn) (y0 : Zn) (y1 : Zn) (y2 : Zn) (y3 : Zn) (o : Option Int) (p : Option Int) : Decidable (r4P i x0 x1 x2 x3 y0 y1 y2 y3 o p) := by unfold r4P; infer_instance
def r4Tm (i : Int) (x0 : Zn) (x1 : Zn) (x2 : Zn) (x3 : Zn) (y0 : Zn) (y1 : Zn) (y2 : Zn) (y3 : Zn) (o : Option Int) (p : Option Int) : List (Nat × AV Nm) := [(13, .w (.one (.int .i64 4))), (14, .w (.one (.int .i64 i)))]
def r4S : LpSt r4T Nm where
  ps := [(65536 * (4294967296 + 4 + 1) + 12), (65536 * (4294967296 + 4 + 1) + 1), 5, 6]
  tm := fun t => r4Tm t.i t.x0 t.x1 t.x2 t.x3 t.y0 t.y1 t.y2 t.y3 t.o t.p
  hp := fun t => [⟨28, [.bool t.x0.s, .fv (.num t.x0.x), .bool t.x1.s, .fv (.num t.x1.x), .bool t.x2.s, .fv (.num t.x2.x), .bool t.x3.s, .fv (.num t.x3.x)]⟩, ⟨28, [.bool t.y0.s, .fv (.num t.y0.x), .bool t.y1.s, .fv (.num t.y1.x), .bool t.y2.s, .fv (.num t.y2.x), .bool t.y3.s, .fv (.num t.y3.x)]⟩, ⟨28, phZ t.o⟩, ⟨28, phZ t.p⟩]
def r4Nx (i : Int) (x0 : Zn) (x1 : Zn) (x2 : Zn) (x3 : Zn) (y0 : Zn) (y1 : Zn) (y2 : Zn) (y3 : Zn) (o : Option Int) (p : Option Int) : Nxt r4T Nm := if i = 0 then .go ⟨1, x0, x1, x2, x3, y0, y1, y2, y3, some (flZ x0 y0), some (ceZ x0 y0)⟩ else if i = 1 then .go ⟨2, x0, x1, x2, x3, y0, y1, y2, y3, some (mnZ (flZ x1 y1) (o.getD 0)), some (mxZ (ceZ x1 y1) (p.getD 0))⟩ else if i = 2 then .go ⟨3, x0, x1, x2, x3, y0, y1, y2, y3, some (mnZ (flZ x2 y2) (o.getD 0)), some (mxZ (ceZ x2 y2) (p.getD 0))⟩ else if i = 3 then .go ⟨4, x0, x1, x2, x3, y0, y1, y2, y3, some (mnZ (flZ x3 y3) (o.getD 0)), some (mxZ (ceZ x3 y3) (p.getD 0))⟩ else .out (.exit 0) (r4Tm i x0 x1 x2 x3 y0 y1 y2 y3 o p) [⟨28, [.bool x0.s, .fv (.num x0.x), .bool x1.s, .fv (.num x1.x), .bool x2.s, .fv (.num x2.x), .bool x3.s, .fv (.num x3.x)]⟩, ⟨28, [.bool y0.s, .fv (.num y0.x), .bool y1.s, .fv (.num y1.x), .bool y2.s, .fv (.num y2.x), .bool y3.s, .fv (.num y3.x)]⟩, ⟨28, phZ o⟩, ⟨28, phZ p⟩]
def r4Step (t : r4T) : Nxt r4T Nm := if r4P t.i t.x0 t.x1 t.x2 t.x3 t.y0 t.y1 t.y2 t.y3 t.o t.p then r4Nx t.i t.x0 t.x1 t.x2 t.x3 t.y0 t.y1 t.y2 t.y3 t.o t.p else .bad
theorem r4_go {i : Int} {x0 : Zn} {x1 : Zn} {x2 : Zn} {x3 : Zn} {y0 : Zn} {y1 : Zn} {y2 : Zn} {y3 : Zn} {o : Option Int} {p : Option Int} (h : r4P i x0 x1 x2 x3 y0 y1 y2 y3 o p) : r4Step ⟨i, x0, x1, x2, x3, y0, y1, y2, y3, o, p⟩ = r4Nx i x0 x1 x2 x3 y0 y1 y2 y3 o p := if_pos h
set_option maxRecDepth 100000 in
set_option maxHeartbeats 4000000 in
theorem r4_round (t : r4T) (hb : (r4Step t).isBad = false) (rest : List (Nat × AV Nm)) : ∃ fuel path r, evC (ctxOf Try.prog numI (fun _ => false) libP1) fuel 57 (false :: [false, true, false, true, true]) (loopAt (bodyOf Try.f18) [false, true, false, true, true]) (r4S.tm t ++ (ptrN 0 r4S.ps ++ rest)) (numb 0 (r4S.hp t)) 4 path = some r ∧ (∀ p ∈ r.cd, p.1 = p.2) ∧ Gives r4S 4 r (r4Step t) := by
  obtain ⟨i, x0, x1, x2, x3, y0, y1, y2, y3, o, p⟩ := t
  by_cases ok : r4P i x0 x1 x2 x3 y0 y1 y2 y3 o p
  · rw [r4_go ok]
    clear hb
    unfold r4Nx
    obtain ⟨⟨h1, h2⟩, ho, hp, do_, dp, z0, z1, z2, z3⟩ := ok
    rcases (show i = 0 ∨ i = 1 ∨ i = 2 ∨ i = 3 ∨ i = 4 by omega) with rfl | rfl | rfl | rfl | rfl
    · obtain ⟨g1, g2, g3, g4, g5⟩ := okZ_iff.1 z0
      rw [if_pos rfl]
      obtain rfl : o = none := by simpa using ho
      obtain rfl : p = none := by simpa using hp
      have s1 := g4.sz (by omega)
      have s2 := g5.sz (by omega)
      have s3 := g4.neg.sz (by omega)
      have s4 := g5.neg.sz (by omega)
      have s5 : decide (y0.x = 0) = false := decide_eq_false g3
      have s6 : decide (-y0.x = 0) = false := decide_eq_false (by omega)
      obtain ⟨q1, q2⟩ := fl_dm z0
      have q3 := q1.sz (by omega)
      have q4 := q2.sz (by omega)
      have e1 : IntKind.i64.wrap (0 + 1) = 1 := by decide
      rcases Bool.eq_false_or_eq_true (y0.s) with hs | hs
      · have hs : y0.s = true := hs
        obtain ⟨f1, f2⟩ := fl_t (x := x0) hs
        have L := r4f0_1111 x0 x1 x2 x3 y0 y1 y2 y3 rest
        rw [← f1, ← f2, e1] at L
        refine round_go L (pickL_ok ?_ _) rfl rfl rfl rfl
        repeat' (first | exact cd_nil | refine cd_cons ?_ ?_)
        all_goals first | rfl | with_reducible assumption | exact eqB _
      · have hs : y0.s = false := hs
        obtain ⟨f1, f2⟩ := fl_f (x := x0) hs
        have L := r4f0_1011 x0 x1 x2 x3 y0 y1 y2 y3 rest
        rw [← f1, ← f2, e1] at L
        refine round_go L (pickL_ok ?_ _) rfl rfl rfl rfl
        repeat' (first | exact cd_nil | refine cd_cons ?_ ?_)
        all_goals first | rfl | with_reducible assumption | exact eqB _
    · obtain ⟨g1, g2, g3, g4, g5⟩ := okZ_iff.1 z1
      rw [if_neg (by decide)]
      rw [if_pos rfl]
      obtain ⟨a, rfl⟩ := Option.isSome_iff_exists.1 (show o.isSome = true by rw [ho]; decide)
      obtain ⟨b, rfl⟩ := Option.isSome_iff_exists.1 (show p.isSome = true by rw [hp]; decide)
      simp only [Option.getD_some] at do_ dp ⊢
      have ea := (dm_of do_).sz (by omega)
      have eb := (dm_of dp).sz (by omega)
      have s1 := g4.sz (by omega)
      have s2 := g5.sz (by omega)
      have s3 := g4.neg.sz (by omega)
      have s4 := g5.neg.sz (by omega)
      have s5 : decide (y1.x = 0) = false := decide_eq_false g3
      have s6 : decide (-y1.x = 0) = false := decide_eq_false (by omega)
      obtain ⟨q1, q2⟩ := fl_dm z1
      have q3 := q1.sz (by omega)
      have q4 := q2.sz (by omega)
      have e1 : IntKind.i64.wrap (1 + 1) = 2 := by decide
      rcases Bool.eq_false_or_eq_true (y1.s) with hs | hs
      · have hs : y1.s = true := hs
        obtain ⟨f1, f2⟩ := fl_t (x := x1) hs
        by_cases hf : flZ x1 y1 < a
        · have c1 : decide (cmpI (flZ x1 y1) a < 0) = true := by rw [cmp_lt']; exact decide_eq_true hf
          rw [show mnZ (flZ x1 y1) a = flZ x1 y1 from if_pos hf]
          by_cases hc : b < ceZ x1 y1
          · have c2 : decide (cmpI (ceZ x1 y1) b > 0) = true := by rw [cmp_gt]; exact decide_eq_true hc
            rw [show mxZ (ceZ x1 y1) b = ceZ x1 y1 from if_pos hc]
            have L := r4f1_110101 x0 x1 x2 x3 y0 y1 y2 y3 a b rest
            rw [← f1, ← f2, e1] at L
            refine round_go L (pickL_ok ?_ _) rfl rfl rfl rfl
            repeat' (first | exact cd_nil | refine cd_cons ?_ ?_)
            all_goals first | rfl | with_reducible assumption | exact eqB _
          · have c2 : decide (cmpI (ceZ x1 y1) b > 0) = false := by rw [cmp_gt]; exact decide_eq_false hc
            rw [show mxZ (ceZ x1 y1) b = b from if_neg hc]
            have L := r4f1_110100 x0 x1 x2 x3 y0 y1 y2 y3 a b rest
            rw [← f1, ← f2, e1] at L
            refine round_go L (pickL_ok ?_ _) rfl rfl rfl rfl
            repeat' (first | exact cd_nil | refine cd_cons ?_ ?_)
            all_goals first | rfl | with_reducible assumption | exact eqB _
        · have c1 : decide (cmpI (flZ x1 y1) a < 0) = false := by rw [cmp_lt']; exact decide_eq_false hf
          rw [show mnZ (flZ x1 y1) a = a from if_neg hf]
          by_cases hc : b < ceZ x1 y1
          · have c2 : decide (cmpI (ceZ x1 y1) b > 0) = true := by rw [cmp_gt]; exact decide_eq_true hc
            rw [show mxZ (ceZ x1 y1) b = ceZ x1 y1 from if_pos hc]
            have L := r4f1_110001 x0 x1 x2 x3 y0 y1 y2 y3 a b rest
            rw [← f1, ← f2, e1] at L
            refine round_go L (pickL_ok ?_ _) rfl rfl rfl rfl
            repeat' (first | exact cd_nil | refine cd_cons ?_ ?_)
            all_goals first | rfl | with_reducible assumption | exact eqB _
          · have c2 : decide (cmpI (ceZ x1 y1) b > 0) = false := by rw [cmp_gt]; exact decide_eq_false hc
            rw [show mxZ (ceZ x1 y1) b = b from if_neg hc]
            have L := r4f1_110000 x0 x1 x2 x3 y0 y1 y2 y3 a b rest
            rw [← f1, ← f2, e1] at L
            refine round_go L (pickL_ok ?_ _) rfl rfl rfl rfl
            repeat' (first | exact cd_nil | refine cd_cons ?_ ?_)
            all_goals first | rfl | with_reducible assumption | exact eqB _
      · have hs : y1.s = false := hs
        obtain ⟨f1, f2⟩ := fl_f (x := x1) hs
        by_cases hf : flZ x1 y1 < a
        · have c1 : decide (cmpI (flZ x1 y1) a < 0) = true := by rw [cmp_lt']; exact decide_eq_true hf
          rw [show mnZ (flZ x1 y1) a = flZ x1 y1 from if_pos hf]
          by_cases hc : b < ceZ x1 y1
          · have c2 : decide (cmpI (ceZ x1 y1) b > 0) = true := by rw [cmp_gt]; exact decide_eq_true hc
            rw [show mxZ (ceZ x1 y1) b = ceZ x1 y1 from if_pos hc]
            have L := r4f1_100101 x0 x1 x2 x3 y0 y1 y2 y3 a b rest
            rw [← f1, ← f2, e1] at L
            refine round_go L (pickL_ok ?_ _) rfl rfl rfl rfl
            repeat' (first | exact cd_nil | refine cd_cons ?_ ?_)
            all_goals first | rfl | with_reducible assumption | exact eqB _
          · have c2 : decide (cmpI (ceZ x1 y1) b > 0) = false := by rw [cmp_gt]; exact decide_eq_false hc
            rw [show mxZ (ceZ x1 y1) b = b from if_neg hc]
            have L := r4f1_100100 x0 x1 x2 x3 y0 y1 y2 y3 a b rest
            rw [← f1, ← f2, e1] at L
            refine round_go L (pickL_ok ?_ _) rfl rfl rfl rfl
            repeat' (first | exact cd_nil | refine cd_cons ?_ ?_)
            all_goals first | rfl | with_reducible assumption | exact eqB _
        · have c1 : decide (cmpI (flZ x1 y1) a < 0) = false := by rw [cmp_lt']; exact decide_eq_false hf
          rw [show mnZ (flZ x1 y1) a = a from if_neg hf]
          by_cases hc : b < ceZ x1 y1
          · have c2 : decide (cmpI (ceZ x1 y1) b > 0) = true := by rw [cmp_gt]; exact decide_eq_true hc
            rw [show mxZ (ceZ x1 y1) b = ceZ x1 y1 from if_pos hc]
            have L := r4f1_100001 x0 x1 x2 x3 y0 y1 y2 y3 a b rest
            rw [← f1, ← f2, e1] at L
            refine round_go L (pickL_ok ?_ _) rfl rfl rfl rfl
            repeat' (first | exact cd_nil | refine cd_cons ?_ ?_)
            all_goals first | rfl | with_reducible assumption | exact eqB _
          · have c2 : decide (cmpI (ceZ x1 y1) b > 0) = false := by rw [cmp_gt]; exact decide_eq_false hc
            rw [show mxZ (ceZ x1 y1) b = b from if_neg hc]
            have L := r4f1_100000 x0 x1 x2 x3 y0 y1 y2 y3 a b rest
            rw [← f1, ← f2, e1] at L
            refine round_go L (pickL_ok ?_ _) rfl rfl rfl rfl
            repeat' (first | exact cd_nil | refine cd_cons ?_ ?_)
            all_goals first | rfl | with_reducible assumption | exact eqB _
    · obtain ⟨g1, g2, g3, g4, g5⟩ := okZ_iff.1 z2
      rw [if_neg (by decide)]
      rw [if_neg (by decide)]
      rw [if_pos rfl]
      obtain ⟨a, rfl⟩ := Option.isSome_iff_exists.1 (show o.isSome = true by rw [ho]; decide)
      obtain ⟨b, rfl⟩ := Option.isSome_iff_exists.1 (show p.isSome = true by rw [hp]; decide)
      simp only [Option.getD_some] at do_ dp ⊢
      have ea := (dm_of do_).sz (by omega)
      have eb := (dm_of dp).sz (by omega)
      have s1 := g4.sz (by omega)
      have s2 := g5.sz (by omega)
      have s3 := g4.neg.sz (by omega)
      have s4 := g5.neg.sz (by omega)
      have s5 : decide (y2.x = 0) = false := decide_eq_false g3
      have s6 : decide (-y2.x = 0) = false := decide_eq_false (by omega)
      obtain ⟨q1, q2⟩ := fl_dm z2
      have q3 := q1.sz (by omega)
      have q4 := q2.sz (by omega)
      have e1 : IntKind.i64.wrap (2 + 1) = 3 := by decide
      rcases Bool.eq_false_or_eq_true (y2.s) with hs | hs
      · have hs : y2.s = true := hs
        obtain ⟨f1, f2⟩ := fl_t (x := x2) hs
        by_cases hf : flZ x2 y2 < a
        · have c1 : decide (cmpI (flZ x2 y2) a < 0) = true := by rw [cmp_lt']; exact decide_eq_true hf
          rw [show mnZ (flZ x2 y2) a = flZ x2 y2 from if_pos hf]
          by_cases hc : b < ceZ x2 y2
          · have c2 : decide (cmpI (ceZ x2 y2) b > 0) = true := by rw [cmp_gt]; exact decide_eq_true hc
            rw [show mxZ (ceZ x2 y2) b = ceZ x2 y2 from if_pos hc]
            have L := r4f2_110101 x0 x1 x2 x3 y0 y1 y2 y3 a b rest
            rw [← f1, ← f2, e1] at L
            refine round_go L (pickL_ok ?_ _) rfl rfl rfl rfl
            repeat' (first | exact cd_nil | refine cd_cons ?_ ?_)
            all_goals first | rfl | with_reducible assumption | exact eqB _
          · have c2 : decide (cmpI (ceZ x2 y2) b > 0) = false := by rw [cmp_gt]; exact decide_eq_false hc
            rw [show mxZ (ceZ x2 y2) b = b from if_neg hc]
            have L := r4f2_110100 x0 x1 x2 x3 y0 y1 y2 y3 a b rest
            rw [← f1, ← f2, e1] at L
            refine round_go L (pickL_ok ?_ _) rfl rfl rfl rfl
            repeat' (first | exact cd_nil | refine cd_cons ?_ ?_)
            all_goals first | rfl | with_reducible assumption | exact eqB _
        · have c1 : decide (cmpI (flZ x2 y2) a < 0) = false := by rw [cmp_lt']; exact decide_eq_false hf
          rw [show mnZ (flZ x2 y2) a = a from if_neg hf]
          by_cases hc : b < ceZ x2 y2
          · have c2 : decide (cmpI (ceZ x2 y2) b > 0) = true := by rw [cmp_gt]; exact decide_eq_true hc
            rw [show mxZ (ceZ x2 y2) b = ceZ x2 y2 from if_pos hc]
            have L := r4f2_110001 x0 x1 x2 x3 y0 y1 y2 y3 a b rest
            rw [← f1, ← f2, e1] at L
            refine round_go L (pickL_ok ?_ _) rfl rfl rfl rfl
            repeat' (first | exact cd_nil | refine cd_cons ?_ ?_)
            all_goals first | rfl | with_reducible assumption | exact eqB _
          · have c2 : decide (cmpI (ceZ x2 y2) b > 0) = false := by rw [cmp_gt]; exact decide_eq_false hc
            rw [show mxZ (ceZ x2 y2) b = b from if_neg hc]
            have L := r4f2_110000 x0 x1 x2 x3 y0 y1 y2 y3 a b rest
            rw [← f1, ← f2, e1] at L
            refine round_go L (pickL_ok ?_ _) rfl rfl rfl rfl
            repeat' (first | exact cd_nil | refine cd_cons ?_ ?_)
            all_goals first | rfl | with_reducible assumption | exact eqB _
      · have hs : y2.s = false := hs
        obtain ⟨f1, f2⟩ := fl_f (x := x2) hs
        by_cases hf : flZ x2 y2 < a
        · have c1 : decide (cmpI (flZ x2 y2) a < 0) = true := by rw [cmp_lt']; exact decide_eq_true hf
          rw [show mnZ (flZ x2 y2) a = flZ x2 y2 from if_pos hf]
          by_cases hc : b < ceZ x2 y2
          · have c2 : decide (cmpI (ceZ x2 y2) b > 0) = true := by rw [cmp_gt]; exact decide_eq_true hc
            rw [show mxZ (ceZ x2 y2) b = ceZ x2 y2 from if_pos hc]
            have L := r4f2_100101 x0 x1 x2 x3 y0 y1 y2 y3 a b rest
            rw [← f1, ← f2, e1] at L
            refine round_go L (pickL_ok ?_ _) rfl rfl rfl rfl
            repeat' (first | exact cd_nil | refine cd_cons ?_ ?_)
            all_goals first | rfl | with_reducible assumption | exact eqB _
          · have c2 : decide (cmpI (ceZ x2 y2) b > 0) = false := by rw [cmp_gt]; exact decide_eq_false hc
            rw [show mxZ (ceZ x2 y2) b = b from if_neg hc]
            have L := r4f2_100100 x0 x1 x2 x3 y0 y1 y2 y3 a b rest
            rw [← f1, ← f2, e1] at L
            refine round_go L (pickL_ok ?_ _) rfl rfl rfl rfl
            repeat' (first | exact cd_nil | refine cd_cons ?_ ?_)
            all_goals first | rfl | with_reducible assumption | exact eqB _
        · have c1 : decide (cmpI (flZ x2 y2) a < 0) = false := by rw [cmp_lt']; exact decide_eq_false hf
          rw [show mnZ (flZ x2 y2) a = a from if_neg hf]
          by_cases hc : b < ceZ x2 y2
          · have c2 : decide (cmpI (ceZ x2 y2) b > 0) = true := by rw [cmp_gt]; exact decide_eq_true hc
            rw [show mxZ (ceZ x2 y2) b = ceZ x2 y2 from if_pos hc]
            have L := r4f2_100001 x0 x1 x2 x3 y0 y1 y2 y3 a b rest
            rw [← f1, ← f2, e1] at L
            refine round_go L (pickL_ok ?_ _) rfl rfl rfl rfl
            repeat' (first | exact cd_nil | refine cd_cons ?_ ?_)
            all_goals first | rfl | with_reducible assumption | exact eqB _
          · have c2 : decide (cmpI (ceZ x2 y2) b > 0) = false := by rw [cmp_gt]; exact decide_eq_false hc
            rw [show mxZ (ceZ x2 y2) b = b from if_neg hc]
            have L := r4f2_100000 x0 x1 x2 x3 y0 y1 y2 y3 a b rest
            rw [← f1, ← f2, e1] at L
            refine round_go L (pickL_ok ?_ _) rfl rfl rfl rfl
            repeat' (first | exact cd_nil | refine cd_cons ?_ ?_)
            all_goals first | rfl | with_reducible assumption | exact eqB _
    · obtain ⟨g1, g2, g3, g4, g5⟩ := okZ_iff.1 z3
      rw [if_neg (by decide)]
      rw [if_neg (by decide)]
      rw [if_neg (by decide)]
      rw [if_pos rfl]
      obtain ⟨a, rfl⟩ := Option.isSome_iff_exists.1 (show o.isSome = true by rw [ho]; decide)
      obtain ⟨b, rfl⟩ := Option.isSome_iff_exists.1 (show p.isSome = true by rw [hp]; decide)
      simp only [Option.getD_some] at do_ dp ⊢
      have ea := (dm_of do_).sz (by omega)
      have eb := (dm_of dp).sz (by omega)
      have s1 := g4.sz (by omega)
      have s2 := g5.sz (by omega)
      have s3 := g4.neg.sz (by omega)
      have s4 := g5.neg.sz (by omega)
      have s5 : decide (y3.x = 0) = false := decide_eq_false g3
      have s6 : decide (-y3.x = 0) = false := decide_eq_false (by omega)
      obtain ⟨q1, q2⟩ := fl_dm z3
      have q3 := q1.sz (by omega)
      have q4 := q2.sz (by omega)
      have e1 : IntKind.i64.wrap (3 + 1) = 4 := by decide
      rcases Bool.eq_false_or_eq_true (y3.s) with hs | hs
      · have hs : y3.s = true := hs
        obtain ⟨f1, f2⟩ := fl_t (x := x3) hs
        by_cases hf : flZ x3 y3 < a
        · have c1 : decide (cmpI (flZ x3 y3) a < 0) = true := by rw [cmp_lt']; exact decide_eq_true hf
          rw [show mnZ (flZ x3 y3) a = flZ x3 y3 from if_pos hf]
          by_cases hc : b < ceZ x3 y3
          · have c2 : decide (cmpI (ceZ x3 y3) b > 0) = true := by rw [cmp_gt]; exact decide_eq_true hc
            rw [show mxZ (ceZ x3 y3) b = ceZ x3 y3 from if_pos hc]
            have L := r4f3_110101 x0 x1 x2 x3 y0 y1 y2 y3 a b rest
            rw [← f1, ← f2, e1] at L
            refine round_go L (pickL_ok ?_ _) rfl rfl rfl rfl
            repeat' (first | exact cd_nil | refine cd_cons ?_ ?_)
            all_goals first | rfl | with_reducible assumption | exact eqB _
          · have c2 : decide (cmpI (ceZ x3 y3) b > 0) = false := by rw [cmp_gt]; exact decide_eq_false hc
            rw [show mxZ (ceZ x3 y3) b = b from if_neg hc]
            have L := r4f3_110100 x0 x1 x2 x3 y0 y1 y2 y3 a b rest
            rw [← f1, ← f2, e1] at L
            refine round_go L (pickL_ok ?_ _) rfl rfl rfl rfl
            repeat' (first | exact cd_nil | refine cd_cons ?_ ?_)
            all_goals first | rfl | with_reducible assumption | exact eqB _
        · have c1 : decide (cmpI (flZ x3 y3) a < 0) = false := by rw [cmp_lt']; exact decide_eq_false hf
          rw [show mnZ (flZ x3 y3) a = a from if_neg hf]
          by_cases hc : b < ceZ x3 y3
          · have c2 : decide (cmpI (ceZ x3 y3) b > 0) = true := by rw [cmp_gt]; exact decide_eq_true hc
            rw [show mxZ (ceZ x3 y3) b = ceZ x3 y3 from if_pos hc]
            have L := r4f3_110001 x0 x1 x2 x3 y0 y1 y2 y3 a b rest
            rw [← f1, ← f2, e1] at L
            refine round_go L (pickL_ok ?_ _) rfl rfl rfl rfl
            repeat' (first | exact cd_nil | refine cd_cons ?_ ?_)
            all_goals first | rfl | with_reducible assumption | exact eqB _
          · have c2 : decide (cmpI (ceZ x3 y3) b > 0) = false := by rw [cmp_gt]; exact decide_eq_false hc
            rw [show mxZ (ceZ x3 y3) b = b from if_neg hc]
            have L := r4f3_110000 x0 x1 x2 x3 y0 y1 y2 y3 a b rest
            rw [← f1, ← f2, e1] at L
            refine round_go L (pickL_ok ?_ _) rfl rfl rfl rfl
            repeat' (first | exact cd_nil | refine cd_cons ?_ ?_)
            all_goals first | rfl | with_reducible assumption | exact eqB _
      · have hs : y3.s = false := hs
        obtain ⟨f1, f2⟩ := fl_f (x := x3) hs
        by_cases hf : flZ x3 y3 < a
        · have c1 : decide (cmpI (flZ x3 y3) a < 0) = true := by rw [cmp_lt']; exact decide_eq_true hf
          rw [show mnZ (flZ x3 y3) a = flZ x3 y3 from if_pos hf]
          by_cases hc : b < ceZ x3 y3
          · have c2 : decide (cmpI (ceZ x3 y3) b > 0) = true := by rw [cmp_gt]; exact decide_eq_true hc
            rw [show mxZ (ceZ x3 y3) b = ceZ x3 y3 from if_pos hc]
            have L := r4f3_100101 x0 x1 x2 x3 y0 y1 y2 y3 a b rest
            rw [← f1, ← f2, e1] at L
            refine round_go L (pickL_ok ?_ _) rfl rfl rfl rfl
            repeat' (first | exact cd_nil | refine cd_cons ?_ ?_)
            all_goals first | rfl | with_reducible assumption | exact eqB _
          · have c2 : decide (cmpI (ceZ x3 y3) b > 0) = false := by rw [cmp_gt]; exact decide_eq_false hc
            rw [show mxZ (ceZ x3 y3) b = b from if_neg hc]
            have L := r4f3_100100 x0 x1 x2 x3 y0 y1 y2 y3 a b rest
            rw [← f1, ← f2, e1] at L
            refine round_go L (pickL_ok ?_ _) rfl rfl rfl rfl
            repeat' (first | exact cd_nil | refine cd_cons ?_ ?_)
            all_goals first | rfl | with_reducible assumption | exact eqB _
        · have c1 : decide (cmpI (flZ x3 y3) a < 0) = false := by rw [cmp_lt']; exact decide_eq_false hf
          rw [show mnZ (flZ x3 y3) a = a from if_neg hf]
          by_cases hc : b < ceZ x3 y3
          · have c2 : decide (cmpI (ceZ x3 y3) b > 0) = true := by rw [cmp_gt]; exact decide_eq_true hc
            rw [show mxZ (ceZ x3 y3) b = ceZ x3 y3 from if_pos hc]
            have L := r4f3_100001 x0 x1 x2 x3 y0 y1 y2 y3 a b rest
            rw [← f1, ← f2, e1] at L
            refine round_go L (pickL_ok ?_ _) rfl rfl rfl rfl
            repeat' (first | exact cd_nil | refine cd_cons ?_ ?_)
            all_goals first | rfl | with_reducible assumption | exact eqB _
          · have c2 : decide (cmpI (ceZ x3 y3) b > 0) = false := by rw [cmp_gt]; exact decide_eq_false hc
            rw [show mxZ (ceZ x3 y3) b = b from if_neg hc]
            have L := r4f3_100000 x0 x1 x2 x3 y0 y1 y2 y3 a b rest
            rw [← f1, ← f2, e1] at L
            refine round_go L (pickL_ok ?_ _) rfl rfl rfl rfl
            repeat' (first | exact cd_nil | refine cd_cons ?_ ?_)
            all_goals first | rfl | with_reducible assumption | exact eqB _
    · rw [if_neg (by decide)]
      rw [if_neg (by decide)]
      rw [if_neg (by decide)]
      rw [if_neg (by decide)]
      obtain ⟨a, rfl⟩ := Option.isSome_iff_exists.1 (show o.isSome = true by rw [ho]; decide)
      obtain ⟨b, rfl⟩ := Option.isSome_iff_exists.1 (show p.isSome = true by rw [hp]; decide)
      have L := r4f4_0 x0 x1 x2 x3 y0 y1 y2 y3 a b rest
      refine round_out L rfl (pickL_ok ?_ _) rfl rfl rfl
      repeat' (first | exact cd_nil | refine cd_cons ?_ ?_)
      all_goals first | rfl | with_reducible assumption | exact eqB _
  · exfalso
    have : r4Step ⟨i, x0, x1, x2, x3, y0, y1, y2, y3, o, p⟩ = .bad := if_neg ok
    rw [this] at hb; cases hb
theorem r4_runs {x0 x1 x2 x3 y0 y1 y2 y3 : Zn} (hz : (okZ x0 y0 && okZ x1 y1 && okZ x2 y2 && okZ x3 y3) = true) : runs r4Step 5 ⟨0, x0, x1, x2, x3, y0, y1, y2, y3, none, none⟩ = some (.exit 0, r4Tm 4 x0 x1 x2 x3 y0 y1 y2 y3 none none, [⟨28, [.bool x0.s, .fv (.num x0.x), .bool x1.s, .fv (.num x1.x), .bool x2.s, .fv (.num x2.x), .bool x3.s, .fv (.num x3.x)]⟩, ⟨28, [.bool y0.s, .fv (.num y0.x), .bool y1.s, .fv (.num y1.x), .bool y2.s, .fv (.num y2.x), .bool y3.s, .fv (.num y3.x)]⟩, ⟨28, [.bool (decide (lo4 x0 x1 x2 x3 y0 y1 y2 y3 < 0)), .fv (.num (lo4 x0 x1 x2 x3 y0 y1 y2 y3))]⟩, ⟨28, [.bool (decide (hi4 x0 x1 x2 x3 y0 y1 y2 y3 < 0)), .fv (.num (hi4 x0 x1 x2 x3 y0 y1 y2 y3))]⟩]) := by
  simp only [Bool.and_eq_true] at hz
  obtain ⟨⟨⟨z0, z1⟩, z2⟩, z3⟩ := hz
  obtain ⟨u0, v0⟩ := fl_dm z0
  obtain ⟨u1, v1⟩ := fl_dm z1
  obtain ⟨u2, v2⟩ := fl_dm z2
  obtain ⟨u3, v3⟩ := fl_dm z3
  have g0 : r4Step ⟨0, x0, x1, x2, x3, y0, y1, y2, y3, none, none⟩ = r4Nx 0 x0 x1 x2 x3 y0 y1 y2 y3 (none) (none) := r4_go ⟨⟨by omega, by omega⟩, by simp, by simp, dm_0, dm_0, z0, z1, z2, z3⟩
  have m0 : Dl 30 (flZ x0 y0) := u0
  have k0 : Dl 30 (ceZ x0 y0) := v0
  have g1 : r4Step ⟨1, x0, x1, x2, x3, y0, y1, y2, y3, some (flZ x0 y0), some (ceZ x0 y0)⟩ = r4Nx 1 x0 x1 x2 x3 y0 y1 y2 y3 (some (flZ x0 y0)) (some (ceZ x0 y0)) := r4_go ⟨⟨by omega, by omega⟩, by simp, by simp, (of_dm m0), (of_dm k0), z0, z1, z2, z3⟩
  have m1 : Dl 30 (mnZ (flZ x1 y1) (flZ x0 y0)) := mn_dm u1 m0
  have k1 : Dl 30 (mxZ (ceZ x1 y1) (ceZ x0 y0)) := mx_dm v1 k0
  have g2 : r4Step ⟨2, x0, x1, x2, x3, y0, y1, y2, y3, some (mnZ (flZ x1 y1) (flZ x0 y0)), some (mxZ (ceZ x1 y1) (ceZ x0 y0))⟩ = r4Nx 2 x0 x1 x2 x3 y0 y1 y2 y3 (some (mnZ (flZ x1 y1) (flZ x0 y0))) (some (mxZ (ceZ x1 y1) (ceZ x0 y0))) := r4_go ⟨⟨by omega, by omega⟩, by simp, by simp, (of_dm m1), (of_dm k1), z0, z1, z2, z3⟩
  have m2 : Dl 30 (mnZ (flZ x2 y2) (mnZ (flZ x1 y1) (flZ x0 y0))) := mn_dm u2 m1
  have k2 : Dl 30 (mxZ (ceZ x2 y2) (mxZ (ceZ x1 y1) (ceZ x0 y0))) := mx_dm v2 k1
  have g3 : r4Step ⟨3, x0, x1, x2, x3, y0, y1, y2, y3, some (mnZ (flZ x2 y2) (mnZ (flZ x1 y1) (flZ x0 y0))), some (mxZ (ceZ x2 y2) (mxZ (ceZ x1 y1) (ceZ x0 y0)))⟩ = r4Nx 3 x0 x1 x2 x3 y0 y1 y2 y3 (some (mnZ (flZ x2 y2) (mnZ (flZ x1 y1) (flZ x0 y0)))) (some (mxZ (ceZ x2 y2) (mxZ (ceZ x1 y1) (ceZ x0 y0)))) := r4_go ⟨⟨by omega, by omega⟩, by simp, by simp, (of_dm m2), (of_dm k2), z0, z1, z2, z3⟩
  have m3 : Dl 30 (mnZ (flZ x3 y3) (mnZ (flZ x2 y2) (mnZ (flZ x1 y1) (flZ x0 y0)))) := mn_dm u3 m2
  have k3 : Dl 30 (mxZ (ceZ x3 y3) (mxZ (ceZ x2 y2) (mxZ (ceZ x1 y1) (ceZ x0 y0)))) := mx_dm v3 k2
  have g4 : r4Step ⟨4, x0, x1, x2, x3, y0, y1, y2, y3, some (mnZ (flZ x3 y3) (mnZ (flZ x2 y2) (mnZ (flZ x1 y1) (flZ x0 y0)))), some (mxZ (ceZ x3 y3) (mxZ (ceZ x2 y2) (mxZ (ceZ x1 y1) (ceZ x0 y0))))⟩ = r4Nx 4 x0 x1 x2 x3 y0 y1 y2 y3 (some (mnZ (flZ x3 y3) (mnZ (flZ x2 y2) (mnZ (flZ x1 y1) (flZ x0 y0))))) (some (mxZ (ceZ x3 y3) (mxZ (ceZ x2 y2) (mxZ (ceZ x1 y1) (ceZ x0 y0))))) := r4_go ⟨⟨by omega, by omega⟩, by simp, by simp, of_dm m3, of_dm k3, z0, z1, z2, z3⟩
  rw [runs_s, g0]
  unfold r4Nx
  rw [if_pos rfl]
  dsimp only
  rw [runs_s, g1]
  unfold r4Nx
  rw [if_neg (by decide)]
  rw [if_pos rfl]
  simp only [Option.getD_some]
  rw [runs_s, g2]
  unfold r4Nx
  rw [if_neg (by decide)]
  rw [if_neg (by decide)]
  rw [if_pos rfl]
  simp only [Option.getD_some]
  rw [runs_s, g3]
  unfold r4Nx
  rw [if_neg (by decide)]
  rw [if_neg (by decide)]
  rw [if_neg (by decide)]
  rw [if_pos rfl]
  simp only [Option.getD_some]
  rw [runs_s, g4]
  unfold r4Nx
  rw [if_neg (by decide)]
  rw [if_neg (by decide)]
  rw [if_neg (by decide)]
  rw [if_neg (by decide)]
  rfl
def r4D : LpDef r4T Nm where
  ts := [13, 14]
  ps := [(65536 * (4294967296 + 4 + 1) + 12), (65536 * (4294967296 + 4 + 1) + 1), 5, 6]
  W := [1, 5, 6, 7, 8, 9, 10, 11, 12, 13, 14, 15, 16, 17, 18, 19, 20, 21, 22, 23, 24, 25, 26, 27, 28, 29, 30, 31, 32, 33, 34, 35, 36, 37, 38, 39, 40, 41, 42, 43, 44, 45, 46, 47, 48, 49, 50, 51, 52, 53]
  dec := fun vs ks => match vs, ks with
    | [.w (.one (.int .i64 4)), .w (.one (.int .i64 i))], [⟨28, [.bool x0s, .fv (.num x0x), .bool x1s, .fv (.num x1x), .bool x2s, .fv (.num x2x), .bool x3s, .fv (.num x3x)]⟩, ⟨28, [.bool y0s, .fv (.num y0x), .bool y1s, .fv (.num y1x), .bool y2s, .fv (.num y2x), .bool y3s, .fv (.num y3x)]⟩, ⟨28, [.yes false, .lit (.slice none 0 0)]⟩, ⟨28, [.yes false, .lit (.slice none 0 0)]⟩] => some ⟨i, ⟨x0s, x0x⟩, ⟨x1s, x1x⟩, ⟨x2s, x2x⟩, ⟨x3s, x3x⟩, ⟨y0s, y0x⟩, ⟨y1s, y1x⟩, ⟨y2s, y2x⟩, ⟨y3s, y3x⟩, none, none⟩
    | _, _ => none
  spec := fun t => some (.exit 0, r4Tm 4 t.x0 t.x1 t.x2 t.x3 t.y0 t.y1 t.y2 t.y3 none none, [⟨28, [.bool t.x0.s, .fv (.num t.x0.x), .bool t.x1.s, .fv (.num t.x1.x), .bool t.x2.s, .fv (.num t.x2.x), .bool t.x3.s, .fv (.num t.x3.x)]⟩, ⟨28, [.bool t.y0.s, .fv (.num t.y0.x), .bool t.y1.s, .fv (.num t.y1.x), .bool t.y2.s, .fv (.num t.y2.x), .bool t.y3.s, .fv (.num t.y3.x)]⟩, ⟨28, [.bool (decide (lo4 t.x0 t.x1 t.x2 t.x3 t.y0 t.y1 t.y2 t.y3 < 0)), .fv (.num (lo4 t.x0 t.x1 t.x2 t.x3 t.y0 t.y1 t.y2 t.y3))]⟩, ⟨28, [.bool (decide (hi4 t.x0 t.x1 t.x2 t.x3 t.y0 t.y1 t.y2 t.y3 < 0)), .fv (.num (hi4 t.x0 t.x1 t.x2 t.x3 t.y0 t.y1 t.y2 t.y3))]⟩], [(decide (t.i = 0) && decide (t.o = none) && decide (t.p = none), true), ((okZ t.x0 t.y0 && okZ t.x1 t.y1 && okZ t.x2 t.y2 && okZ t.x3 t.y3), true)])
theorem r4D_ok (x : Code) (hx : codeAt (bodyOf Try.f18) [false, true, false, true, true] = some (.loop x)) : LpOk Try.prog numI 57 x (r4D.sp nmSafe) := by
  obtain rfl := loopAt_eq hx
  refine lp_ok (c := ctxOf Try.prog numI (fun _ => false) libP1) (ctxOf_ok libP1_ok (eq_none _)) (by kernel_rfl) hx lps_nil (S := r4S) (step := r4Step) (fun _ h => h) (by kernel_rfl) (by kernel_rfl) ?_ rfl (fun t e he => ?_) (fun t hb rest => r4_round t hb rest) ?_
  · intro vs ks s hv1 h hv2
    simp only [r4D] at h
    split at h
    · cases h
      exact ⟨rfl, fun e he => he⟩
    · cases h
  · simp only [r4S, r4Tm, List.mem_cons, List.not_mem_nil, or_false] at he
    rcases he with rfl | rfl <;> rfl
  · intro s ex outs wb cd h hc
    obtain ⟨i, x0, x1, x2, x3, y0, y1, y2, y3, o, p⟩ := s
    simp only [r4D] at h
    cases h
    obtain ⟨c1, c2⟩ := cd2 hc
    simp only [Bool.and_eq_true, decide_eq_true_eq] at c1
    obtain ⟨⟨rfl, rfl⟩, rfl⟩ := c1
    exact ⟨5, r4_runs c2⟩
abbrev zc2 (x0 x1 : Zn) : List (AC Nm) := [.bool x0.s, .fv (.num x0.x), .bool x1.s, .fv (.num x1.x)]
set_option maxRecDepth 100000 in
theorem r2f0_1111 (x0 : Zn) (x1 : Zn) (y0 : Zn) (y1 : Zn) (rest : List (Nat × AV Nm)) : evRa ([(13, .w (.one (.int .i64 2))), (14, .w (.one (.int .i64 0)))] ++ (ptrN 0 [(65536 * (4294967296 + 2 + 1) + 12), (65536 * (4294967296 + 2 + 1) + 1), 5, 6] ++ rest)) [⟨28, (zc2 x0 x1)⟩, ⟨28, (zc2 y0 y1)⟩, ⟨28, phZ none⟩, ⟨28, phZ none⟩] 4 [13, 14, 12, 1, 5, 6] [true, true, true, true] = some ((Ex.normal, [AV.w (AW.one (AC.int IntKind.i64 2)), AV.w (AW.one (AC.int IntKind.i64 (IntKind.i64.wrap (0 + 1)))), AV.w (AW.one (AC.slc 0 0 2 2)), AV.w (AW.one (AC.slc 1 0 2 2)), AV.w (AW.one (AC.ptr 2 0)), AV.w (AW.one (AC.ptr 3 0))], [{ ty := 28, cs := (zc2 x0 x1) }, { ty := 28, cs := (zc2 y0 y1) }, { ty := 28, cs := [AC.bool (decide (-x0.x / -y0.x < 0)), AC.fv (Nm.num (-x0.x / -y0.x))] }, { ty := 28, cs := [AC.bool (decide (-(- -x0.x / -y0.x) < 0)), AC.fv (Nm.num (-(- -x0.x / -y0.x)))] }]), (pickL [(decide ((0 : Int) < 2), true), (decide ((0 : Int) ≤ 0), true), (decide (0 < ((4294967298 - 4294967296 : Nat) : Int)), true), (y0.s, true), (x0.s == decide (x0.x < 0), true), (szB x0.x, true), (y0.s == decide (y0.x < 0), true), (szB y0.x, true), (decide (-x0.x < 0) == decide (-x0.x < 0), true), (decide (-y0.x < 0) == decide (-y0.x < 0), true), (szB (-x0.x), true), (szB (-y0.x), true), (decide (-y0.x = 0), false), ((0 : Int) == 0, true), (true, true)] [0, 1, 2, 1, 2, 3, 4, 5, 6, 7, 8, 9, 10, 11, 12, 8, 9, 10, 11, 12, 13, 13, 13, 13, 13, 14, 13, 13, 13, 13, 13, 14])) := by kernel_rfl
set_option maxRecDepth 100000 in
theorem r2f0_1011 (x0 : Zn) (x1 : Zn) (y0 : Zn) (y1 : Zn) (rest : List (Nat × AV Nm)) : evRa ([(13, .w (.one (.int .i64 2))), (14, .w (.one (.int .i64 0)))] ++ (ptrN 0 [(65536 * (4294967296 + 2 + 1) + 12), (65536 * (4294967296 + 2 + 1) + 1), 5, 6] ++ rest)) [⟨28, (zc2 x0 x1)⟩, ⟨28, (zc2 y0 y1)⟩, ⟨28, phZ none⟩, ⟨28, phZ none⟩] 4 [13, 14, 12, 1, 5, 6] [true, false, true, true] = some ((Ex.normal, [AV.w (AW.one (AC.int IntKind.i64 2)), AV.w (AW.one (AC.int IntKind.i64 (IntKind.i64.wrap (0 + 1)))), AV.w (AW.one (AC.slc 0 0 2 2)), AV.w (AW.one (AC.slc 1 0 2 2)), AV.w (AW.one (AC.ptr 2 0)), AV.w (AW.one (AC.ptr 3 0))], [{ ty := 28, cs := (zc2 x0 x1) }, { ty := 28, cs := (zc2 y0 y1) }, { ty := 28, cs := [AC.bool (decide (x0.x / y0.x < 0)), AC.fv (Nm.num (x0.x / y0.x))] }, { ty := 28, cs := [AC.bool (decide (-(-x0.x / y0.x) < 0)), AC.fv (Nm.num (-(-x0.x / y0.x)))] }]), (pickL [(decide ((0 : Int) < 2), true), (decide ((0 : Int) ≤ 0), true), (decide (0 < ((4294967298 - 4294967296 : Nat) : Int)), true), (y0.s, false), (x0.s == decide (x0.x < 0), true), (y0.s == decide (y0.x < 0), true), (szB x0.x, true), (szB y0.x, true), (decide (y0.x = 0), false), ((0 : Int) == 0, true), (true, true)] [0, 1, 2, 1, 2, 3, 4, 5, 6, 7, 8, 4, 5, 6, 7, 8, 9, 9, 9, 9, 9, 10, 9, 9, 9, 9, 9, 10])) := by kernel_rfl
set_option maxRecDepth 100000 in
theorem r2f1_110101 (x0 : Zn) (x1 : Zn) (y0 : Zn) (y1 : Zn) (a : Int) (b : Int) (rest : List (Nat × AV Nm)) : evRa ([(13, .w (.one (.int .i64 2))), (14, .w (.one (.int .i64 1)))] ++ (ptrN 0 [(65536 * (4294967296 + 2 + 1) + 12), (65536 * (4294967296 + 2 + 1) + 1), 5, 6] ++ rest)) [⟨28, (zc2 x0 x1)⟩, ⟨28, (zc2 y0 y1)⟩, ⟨28, phZ (some a)⟩, ⟨28, phZ (some b)⟩] 4 [13, 14, 12, 1, 5, 6] [true, true, false, true, false, true] = some ((Ex.normal, [AV.w (AW.one (AC.int IntKind.i64 2)), AV.w (AW.one (AC.int IntKind.i64 (IntKind.i64.wrap (1 + 1)))), AV.w (AW.one (AC.slc 0 0 2 2)), AV.w (AW.one (AC.slc 1 0 2 2)), AV.w (AW.one (AC.ptr 2 0)), AV.w (AW.one (AC.ptr 3 0))], [{ ty := 28, cs := (zc2 x0 x1) }, { ty := 28, cs := (zc2 y0 y1) }, { ty := 28, cs := [AC.bool (decide (-x1.x / -y1.x < 0)), AC.fv (Nm.num (-x1.x / -y1.x))] }, { ty := 28, cs := [AC.bool (decide (-(- -x1.x / -y1.x) < 0)), AC.fv (Nm.num (-(- -x1.x / -y1.x)))] }]), (pickL [(decide ((1 : Int) < 2), true), (decide ((0 : Int) ≤ 1), true), (decide (1 < ((4294967298 - 4294967296 : Nat) : Int)), true), (y1.s, true), (x1.s == decide (x1.x < 0), true), (szB x1.x, true), (y1.s == decide (y1.x < 0), true), (szB y1.x, true), (decide (-x1.x < 0) == decide (-x1.x < 0), true), (decide (-y1.x < 0) == decide (-y1.x < 0), true), (szB (-x1.x), true), (szB (-y1.x), true), (decide (-y1.x = 0), false), ((1 : Int) == 0, false), (decide (-x1.x / -y1.x < 0) == decide (-x1.x / -y1.x < 0), true), (decide (a < 0) == decide (a < 0), true), (szB (-x1.x / -y1.x), true), (szB a, true), (decide (cmpI (-x1.x / -y1.x) a < 0), true), (decide (-(- -x1.x / -y1.x) < 0) == decide (-(- -x1.x / -y1.x) < 0), true), (decide (b < 0) == decide (b < 0), true), (szB (-(- -x1.x / -y1.x)), true), (szB b, true), (decide (cmpI (-(- -x1.x / -y1.x)) b > 0), true)] [0, 1, 2, 1, 2, 3, 4, 5, 6, 7, 8, 9, 10, 11, 12, 8, 9, 10, 11, 12, 13, 13, 13, 14, 15, 16, 17, 13, 13, 18, 13, 13, 13, 19, 20, 21, 22, 13, 13, 23])) := by kernel_rfl
set_option maxRecDepth 100000 in
theorem r2f1_110100 (x0 : Zn) (x1 : Zn) (y0 : Zn) (y1 : Zn) (a : Int) (b : Int) (rest : List (Nat × AV Nm)) : evRa ([(13, .w (.one (.int .i64 2))), (14, .w (.one (.int .i64 1)))] ++ (ptrN 0 [(65536 * (4294967296 + 2 + 1) + 12), (65536 * (4294967296 + 2 + 1) + 1), 5, 6] ++ rest)) [⟨28, (zc2 x0 x1)⟩, ⟨28, (zc2 y0 y1)⟩, ⟨28, phZ (some a)⟩, ⟨28, phZ (some b)⟩] 4 [13, 14, 12, 1, 5, 6] [true, true, false, true, false, false] = some ((Ex.normal, [AV.w (AW.one (AC.int IntKind.i64 2)), AV.w (AW.one (AC.int IntKind.i64 (IntKind.i64.wrap (1 + 1)))), AV.w (AW.one (AC.slc 0 0 2 2)), AV.w (AW.one (AC.slc 1 0 2 2)), AV.w (AW.one (AC.ptr 2 0)), AV.w (AW.one (AC.ptr 3 0))], [{ ty := 28, cs := (zc2 x0 x1) }, { ty := 28, cs := (zc2 y0 y1) }, { ty := 28, cs := [AC.bool (decide (-x1.x / -y1.x < 0)), AC.fv (Nm.num (-x1.x / -y1.x))] }, { ty := 28, cs := [AC.bool (decide (b < 0)), AC.fv (Nm.num b)] }]), (pickL [(decide ((1 : Int) < 2), true), (decide ((0 : Int) ≤ 1), true), (decide (1 < ((4294967298 - 4294967296 : Nat) : Int)), true), (y1.s, true), (x1.s == decide (x1.x < 0), true), (szB x1.x, true), (y1.s == decide (y1.x < 0), true), (szB y1.x, true), (decide (-x1.x < 0) == decide (-x1.x < 0), true), (decide (-y1.x < 0) == decide (-y1.x < 0), true), (szB (-x1.x), true), (szB (-y1.x), true), (decide (-y1.x = 0), false), ((1 : Int) == 0, false), (decide (-x1.x / -y1.x < 0) == decide (-x1.x / -y1.x < 0), true), (decide (a < 0) == decide (a < 0), true), (szB (-x1.x / -y1.x), true), (szB a, true), (decide (cmpI (-x1.x / -y1.x) a < 0), true), (decide (-(- -x1.x / -y1.x) < 0) == decide (-(- -x1.x / -y1.x) < 0), true), (decide (b < 0) == decide (b < 0), true), (szB (-(- -x1.x / -y1.x)), true), (szB b, true), (decide (cmpI (-(- -x1.x / -y1.x)) b > 0), false)] [0, 1, 2, 1, 2, 3, 4, 5, 6, 7, 8, 9, 10, 11, 12, 8, 9, 10, 11, 12, 13, 13, 13, 14, 15, 16, 17, 13, 13, 18, 13, 13, 13, 19, 20, 21, 22, 13, 13, 23])) := by kernel_rfl
set_option maxRecDepth 100000 in
theorem r2f1_110001 (x0 : Zn) (x1 : Zn) (y0 : Zn) (y1 : Zn) (a : Int) (b : Int) (rest : List (Nat × AV Nm)) : evRa ([(13, .w (.one (.int .i64 2))), (14, .w (.one (.int .i64 1)))] ++ (ptrN 0 [(65536 * (4294967296 + 2 + 1) + 12), (65536 * (4294967296 + 2 + 1) + 1), 5, 6] ++ rest)) [⟨28, (zc2 x0 x1)⟩, ⟨28, (zc2 y0 y1)⟩, ⟨28, phZ (some a)⟩, ⟨28, phZ (some b)⟩] 4 [13, 14, 12, 1, 5, 6] [true, true, false, false, false, true] = some ((Ex.normal, [AV.w (AW.one (AC.int IntKind.i64 2)), AV.w (AW.one (AC.int IntKind.i64 (IntKind.i64.wrap (1 + 1)))), AV.w (AW.one (AC.slc 0 0 2 2)), AV.w (AW.one (AC.slc 1 0 2 2)), AV.w (AW.one (AC.ptr 2 0)), AV.w (AW.one (AC.ptr 3 0))], [{ ty := 28, cs := (zc2 x0 x1) }, { ty := 28, cs := (zc2 y0 y1) }, { ty := 28, cs := [AC.bool (decide (a < 0)), AC.fv (Nm.num a)] }, { ty := 28, cs := [AC.bool (decide (-(- -x1.x / -y1.x) < 0)), AC.fv (Nm.num (-(- -x1.x / -y1.x)))] }]), (pickL [(decide ((1 : Int) < 2), true), (decide ((0 : Int) ≤ 1), true), (decide (1 < ((4294967298 - 4294967296 : Nat) : Int)), true), (y1.s, true), (x1.s == decide (x1.x < 0), true), (szB x1.x, true), (y1.s == decide (y1.x < 0), true), (szB y1.x, true), (decide (-x1.x < 0) == decide (-x1.x < 0), true), (decide (-y1.x < 0) == decide (-y1.x < 0), true), (szB (-x1.x), true), (szB (-y1.x), true), (decide (-y1.x = 0), false), ((1 : Int) == 0, false), (decide (-x1.x / -y1.x < 0) == decide (-x1.x / -y1.x < 0), true), (decide (a < 0) == decide (a < 0), true), (szB (-x1.x / -y1.x), true), (szB a, true), (decide (cmpI (-x1.x / -y1.x) a < 0), false), (decide (-(- -x1.x / -y1.x) < 0) == decide (-(- -x1.x / -y1.x) < 0), true), (decide (b < 0) == decide (b < 0), true), (szB (-(- -x1.x / -y1.x)), true), (szB b, true), (decide (cmpI (-(- -x1.x / -y1.x)) b > 0), true)] [0, 1, 2, 1, 2, 3, 4, 5, 6, 7, 8, 9, 10, 11, 12, 8, 9, 10, 11, 12, 13, 13, 13, 14, 15, 16, 17, 13, 13, 18, 13, 13, 13, 19, 20, 21, 22, 13, 13, 23])) := by kernel_rfl
set_option maxRecDepth 100000 in
theorem r2f1_110000 (x0 : Zn) (x1 : Zn) (y0 : Zn) (y1 : Zn) (a : Int) (b : Int) (rest : List (Nat × AV Nm)) : evRa ([(13, .w (.one (.int .i64 2))), (14, .w (.one (.int .i64 1)))] ++ (ptrN 0 [(65536 * (4294967296 + 2 + 1) + 12), (65536 * (4294967296 + 2 + 1) + 1), 5, 6] ++ rest)) [⟨28, (zc2 x0 x1)⟩, ⟨28, (zc2 y0 y1)⟩, ⟨28, phZ (some a)⟩, ⟨28, phZ (some b)⟩] 4 [13, 14, 12, 1, 5, 6] [true, true, false, false, false, false] = some ((Ex.normal, [AV.w (AW.one (AC.int IntKind.i64 2)), AV.w (AW.one (AC.int IntKind.i64 (IntKind.i64.wrap (1 + 1)))), AV.w (AW.one (AC.slc 0 0 2 2)), AV.w (AW.one (AC.slc 1 0 2 2)), AV.w (AW.one (AC.ptr 2 0)), AV.w (AW.one (AC.ptr 3 0))], [{ ty := 28, cs := (zc2 x0 x1) }, { ty := 28, cs := (zc2 y0 y1) }, { ty := 28, cs := [AC.bool (decide (a < 0)), AC.fv (Nm.num a)] }, { ty := 28, cs := [AC.bool (decide (b < 0)), AC.fv (Nm.num b)] }]), (pickL [(decide ((1 : Int) < 2), true), (decide ((0 : Int) ≤ 1), true), (decide (1 < ((4294967298 - 4294967296 : Nat) : Int)), true), (y1.s, true), (x1.s == decide (x1.x < 0), true), (szB x1.x, true), (y1.s == decide (y1.x < 0), true), (szB y1.x, true), (decide (-x1.x < 0) == decide (-x1.x < 0), true), (decide (-y1.x < 0) == decide (-y1.x < 0), true), (szB (-x1.x), true), (szB (-y1.x), true), (decide (-y1.x = 0), false), ((1 : Int) == 0, false), (decide (-x1.x / -y1.x < 0) == decide (-x1.x / -y1.x < 0), true), (decide (a < 0) == decide (a < 0), true), (szB (-x1.x / -y1.x), true), (szB a, true), (decide (cmpI (-x1.x / -y1.x) a < 0), false), (decide (-(- -x1.x / -y1.x) < 0) == decide (-(- -x1.x / -y1.x) < 0), true), (decide (b < 0) == decide (b < 0), true), (szB (-(- -x1.x / -y1.x)), true), (szB b, true), (decide (cmpI (-(- -x1.x / -y1.x)) b > 0), false)] [0, 1, 2, 1, 2, 3, 4, 5, 6, 7, 8, 9, 10, 11, 12, 8, 9, 10, 11, 12, 13, 13, 13, 14, 15, 16, 17, 13, 13, 18, 13, 13, 13, 19, 20, 21, 22, 13, 13, 23])) := by kernel_rfl
set_option maxRecDepth 100000 in
theorem r2f1_100101 (x0 : Zn) (x1 : Zn) (y0 : Zn) (y1 : Zn) (a : Int) (b : Int) (rest : List (Nat × AV Nm)) : evRa ([(13, .w (.one (.int .i64 2))), (14, .w (.one (.int .i64 1)))] ++ (ptrN 0 [(65536 * (4294967296 + 2 + 1) + 12), (65536 * (4294967296 + 2 + 1) + 1), 5, 6] ++ rest)) [⟨28, (zc2 x0 x1)⟩, ⟨28, (zc2 y0 y1)⟩, ⟨28, phZ (some a)⟩, ⟨28, phZ (some b)⟩] 4 [13, 14, 12, 1, 5, 6] [true, false, false, true, false, true] = some ((Ex.normal, [AV.w (AW.one (AC.int IntKind.i64 2)), AV.w (AW.one (AC.int IntKind.i64 (IntKind.i64.wrap (1 + 1)))), AV.w (AW.one (AC.slc 0 0 2 2)), AV.w (AW.one (AC.slc 1 0 2 2)), AV.w (AW.one (AC.ptr 2 0)), AV.w (AW.one (AC.ptr 3 0))], [{ ty := 28, cs := (zc2 x0 x1) }, { ty := 28, cs := (zc2 y0 y1) }, { ty := 28, cs := [AC.bool (decide (x1.x / y1.x < 0)), AC.fv (Nm.num (x1.x / y1.x))] }, { ty := 28, cs := [AC.bool (decide (-(-x1.x / y1.x) < 0)), AC.fv (Nm.num (-(-x1.x / y1.x)))] }]), (pickL [(decide ((1 : Int) < 2), true), (decide ((0 : Int) ≤ 1), true), (decide (1 < ((4294967298 - 4294967296 : Nat) : Int)), true), (y1.s, false), (x1.s == decide (x1.x < 0), true), (y1.s == decide (y1.x < 0), true), (szB x1.x, true), (szB y1.x, true), (decide (y1.x = 0), false), ((1 : Int) == 0, false), (decide (x1.x / y1.x < 0) == decide (x1.x / y1.x < 0), true), (decide (a < 0) == decide (a < 0), true), (szB (x1.x / y1.x), true), (szB a, true), (decide (cmpI (x1.x / y1.x) a < 0), true), (decide (-(-x1.x / y1.x) < 0) == decide (-(-x1.x / y1.x) < 0), true), (decide (b < 0) == decide (b < 0), true), (szB (-(-x1.x / y1.x)), true), (szB b, true), (decide (cmpI (-(-x1.x / y1.x)) b > 0), true)] [0, 1, 2, 1, 2, 3, 4, 5, 6, 7, 8, 4, 5, 6, 7, 8, 9, 9, 9, 10, 11, 12, 13, 9, 9, 14, 9, 9, 9, 15, 16, 17, 18, 9, 9, 19])) := by kernel_rfl
set_option maxRecDepth 100000 in
theorem r2f1_100100 (x0 : Zn) (x1 : Zn) (y0 : Zn) (y1 : Zn) (a : Int) (b : Int) (rest : List (Nat × AV Nm)) : evRa ([(13, .w (.one (.int .i64 2))), (14, .w (.one (.int .i64 1)))] ++ (ptrN 0 [(65536 * (4294967296 + 2 + 1) + 12), (65536 * (4294967296 + 2 + 1) + 1), 5, 6] ++ rest)) [⟨28, (zc2 x0 x1)⟩, ⟨28, (zc2 y0 y1)⟩, ⟨28, phZ (some a)⟩, ⟨28, phZ (some b)⟩] 4 [13, 14, 12, 1, 5, 6] [true, false, false, true, false, false] = some ((Ex.normal, [AV.w (AW.one (AC.int IntKind.i64 2)), AV.w (AW.one (AC.int IntKind.i64 (IntKind.i64.wrap (1 + 1)))), AV.w (AW.one (AC.slc 0 0 2 2)), AV.w (AW.one (AC.slc 1 0 2 2)), AV.w (AW.one (AC.ptr 2 0)), AV.w (AW.one (AC.ptr 3 0))], [{ ty := 28, cs := (zc2 x0 x1) }, { ty := 28, cs := (zc2 y0 y1) }, { ty := 28, cs := [AC.bool (decide (x1.x / y1.x < 0)), AC.fv (Nm.num (x1.x / y1.x))] }, { ty := 28, cs := [AC.bool (decide (b < 0)), AC.fv (Nm.num b)] }]), (pickL [(decide ((1 : Int) < 2), true), (decide ((0 : Int) ≤ 1), true), (decide (1 < ((4294967298 - 4294967296 : Nat) : Int)), true), (y1.s, false), (x1.s == decide (x1.x < 0), true), (y1.s == decide (y1.x < 0), true), (szB x1.x, true), (szB y1.x, true), (decide (y1.x = 0), false), ((1 : Int) == 0, false), (decide (x1.x / y1.x < 0) == decide (x1.x / y1.x < 0), true), (decide (a < 0) == decide (a < 0), true), (szB (x1.x / y1.x), true), (szB a, true), (decide (cmpI (x1.x / y1.x) a < 0), true), (decide (-(-x1.x / y1.x) < 0) == decide (-(-x1.x / y1.x) < 0), true), (decide (b < 0) == decide (b < 0), true), (szB (-(-x1.x / y1.x)), true), (szB b, true), (decide (cmpI (-(-x1.x / y1.x)) b > 0), false)] [0, 1, 2, 1, 2, 3, 4, 5, 6, 7, 8, 4, 5, 6, 7, 8, 9, 9, 9, 10, 11, 12, 13, 9, 9, 14, 9, 9, 9, 15, 16, 17, 18, 9, 9, 19])) := by kernel_rfl
set_option maxRecDepth 100000 in
theorem r2f1_100001 (x0 : Zn) (x1 : Zn) (y0 : Zn) (y1 : Zn) (a : Int) (b : Int) (rest : List (Nat × AV Nm)) : evRa ([(13, .w (.one (.int .i64 2))), (14, .w (.one (.int .i64 1)))] ++ (ptrN 0 [(65536 * (4294967296 + 2 + 1) + 12), (65536 * (4294967296 + 2 + 1) + 1), 5, 6] ++ rest)) [⟨28, (zc2 x0 x1)⟩, ⟨28, (zc2 y0 y1)⟩, ⟨28, phZ (some a)⟩, ⟨28, phZ (some b)⟩] 4 [13, 14, 12, 1, 5, 6] [true, false, false, false, false, true] = some ((Ex.normal, [AV.w (AW.one (AC.int IntKind.i64 2)), AV.w (AW.one (AC.int IntKind.i64 (IntKind.i64.wrap (1 + 1)))), AV.w (AW.one (AC.slc 0 0 2 2)), AV.w (AW.one (AC.slc 1 0 2 2)), AV.w (AW.one (AC.ptr 2 0)), AV.w (AW.one (AC.ptr 3 0))], [{ ty := 28, cs := (zc2 x0 x1) }, { ty := 28, cs := (zc2 y0 y1) }, { ty := 28, cs := [AC.bool (decide (a < 0)), AC.fv (Nm.num a)] }, { ty := 28, cs := [AC.bool (decide (-(-x1.x / y1.x) < 0)), AC.fv (Nm.num (-(-x1.x / y1.x)))] }]), (pickL [(decide ((1 : Int) < 2), true), (decide ((0 : Int) ≤ 1), true), (decide (1 < ((4294967298 - 4294967296 : Nat) : Int)), true), (y1.s, false), (x1.s == decide (x1.x < 0), true), (y1.s == decide (y1.x < 0), true), (szB x1.x, true), (szB y1.x, true), (decide (y1.x = 0), false), ((1 : Int) == 0, false), (decide (x1.x / y1.x < 0) == decide (x1.x / y1.x < 0), true), (decide (a < 0) == decide (a < 0), true), (szB (x1.x / y1.x), true), (szB a, true), (decide (cmpI (x1.x / y1.x) a < 0), false), (decide (-(-x1.x / y1.x) < 0) == decide (-(-x1.x / y1.x) < 0), true), (decide (b < 0) == decide (b < 0), true), (szB (-(-x1.x / y1.x)), true), (szB b, true), (decide (cmpI (-(-x1.x / y1.x)) b > 0), true)] [0, 1, 2, 1, 2, 3, 4, 5, 6, 7, 8, 4, 5, 6, 7, 8, 9, 9, 9, 10, 11, 12, 13, 9, 9, 14, 9, 9, 9, 15, 16, 17, 18, 9, 9, 19])) := by kernel_rfl
set_option maxRecDepth 100000 in
theorem r2f1_100000 (x0 : Zn) (x1 : Zn) (y0 : Zn) (y1 : Zn) (a : Int) (b : Int) (rest : List (Nat × AV Nm)) : evRa ([(13, .w (.one (.int .i64 2))), (14, .w (.one (.int .i64 1)))] ++ (ptrN 0 [(65536 * (4294967296 + 2 + 1) + 12), (65536 * (4294967296 + 2 + 1) + 1), 5, 6] ++ rest)) [⟨28, (zc2 x0 x1)⟩, ⟨28, (zc2 y0 y1)⟩, ⟨28, phZ (some a)⟩, ⟨28, phZ (some b)⟩] 4 [13, 14, 12, 1, 5, 6] [true, false, false, false, false, false] = some ((Ex.normal, [AV.w (AW.one (AC.int IntKind.i64 2)), AV.w (AW.one (AC.int IntKind.i64 (IntKind.i64.wrap (1 + 1)))), AV.w (AW.one (AC.slc 0 0 2 2)), AV.w (AW.one (AC.slc 1 0 2 2)), AV.w (AW.one (AC.ptr 2 0)), AV.w (AW.one (AC.ptr 3 0))], [{ ty := 28, cs := (zc2 x0 x1) }, { ty := 28, cs := (zc2 y0 y1) }, { ty := 28, cs := [AC.bool (decide (a < 0)), AC.fv (Nm.num a)] }, { ty := 28, cs := [AC.bool (decide (b < 0)), AC.fv (Nm.num b)] }]), (pickL [(decide ((1 : Int) < 2), true), (decide ((0 : Int) ≤ 1), true), (decide (1 < ((4294967298 - 4294967296 : Nat) : Int)), true), (y1.s, false), (x1.s == decide (x1.x < 0), true), (y1.s == decide (y1.x < 0), true), (szB x1.x, true), (szB y1.x, true), (decide (y1.x = 0), false), ((1 : Int) == 0, false), (decide (x1.x / y1.x < 0) == decide (x1.x / y1.x < 0), true), (decide (a < 0) == decide (a < 0), true), (szB (x1.x / y1.x), true), (szB a, true), (decide (cmpI (x1.x / y1.x) a < 0), false), (decide (-(-x1.x / y1.x) < 0) == decide (-(-x1.x / y1.x) < 0), true), (decide (b < 0) == decide (b < 0), true), (szB (-(-x1.x / y1.x)), true), (szB b, true), (decide (cmpI (-(-x1.x / y1.x)) b > 0), false)] [0, 1, 2, 1, 2, 3, 4, 5, 6, 7, 8, 4, 5, 6, 7, 8, 9, 9, 9, 10, 11, 12, 13, 9, 9, 14, 9, 9, 9, 15, 16, 17, 18, 9, 9, 19])) := by kernel_rfl
set_option maxRecDepth 100000 in
theorem r2f2_0 (x0 : Zn) (x1 : Zn) (y0 : Zn) (y1 : Zn) (a : Int) (b : Int) (rest : List (Nat × AV Nm)) : evRa ([(13, .w (.one (.int .i64 2))), (14, .w (.one (.int .i64 2)))] ++ (ptrN 0 [(65536 * (4294967296 + 2 + 1) + 12), (65536 * (4294967296 + 2 + 1) + 1), 5, 6] ++ rest)) [⟨28, (zc2 x0 x1)⟩, ⟨28, (zc2 y0 y1)⟩, ⟨28, phZ (some a)⟩, ⟨28, phZ (some b)⟩] 4 [13, 14, 12, 1, 5, 6] [false] = some ((Ex.exit 0, [AV.w (AW.one (AC.int IntKind.i64 2)), AV.w (AW.one (AC.int IntKind.i64 2)), AV.w (AW.one (AC.slc 0 0 2 2)), AV.w (AW.one (AC.slc 1 0 2 2)), AV.w (AW.one (AC.ptr 2 0)), AV.w (AW.one (AC.ptr 3 0))], [{ ty := 28, cs := (zc2 x0 x1) }, { ty := 28, cs := (zc2 y0 y1) }, { ty := 28, cs := [AC.bool (decide (a < 0)), AC.fv (Nm.num a)] }, { ty := 28, cs := [AC.bool (decide (b < 0)), AC.fv (Nm.num b)] }]), (pickL [(decide ((2 : Int) < 2), false)] [0])) := by kernel_rfl
def lo2 (x0 : Zn) (x1 : Zn) (y0 : Zn) (y1 : Zn) : Int := mnZ (flZ x1 y1) (flZ x0 y0)
def hi2 (x0 : Zn) (x1 : Zn) (y0 : Zn) (y1 : Zn) : Int := mxZ (ceZ x1 y1) (ceZ x0 y0)
structure r2T where
  i : Int
  x0 : Zn
  x1 : Zn
  y0 : Zn
  y1 : Zn
  o : Option Int
  p : Option Int
def r2P (i : Int) (x0 : Zn) (x1 : Zn) (y0 : Zn) (y1 : Zn) (o : Option Int) (p : Option Int) : Prop := (0 ≤ i ∧ i ≤ 2) ∧ o.isSome = decide (0 < i) ∧ p.isSome = decide (0 < i) ∧ dm (o.getD 0) = true ∧ dm (p.getD 0) = true ∧ okZ x0 y0 = true ∧ okZ x1 y1 = true
instance (i : Int) (x0 : Zn) (x1 : Zn) (y0 : Zn) (y1 : Zn) (o : Option Int) (p : Option Int) : Decidable (r2P i x0 x1 y0 y1 o p) := by unfold r2P; infer_instance
def r2Tm (i : Int) (x0 : Zn) (x1 : Zn) (y0 : Zn) (y1 : Zn) (o : Option Int) (p : Option Int) : List (Nat × AV Nm) := [(13, .w (.one (.int .i64 2))), (14, .w (.one (.int .i64 i)))]
def r2S : LpSt r2T Nm where
  ps := [(65536 * (4294967296 + 2 + 1) + 12), (65536 * (4294967296 + 2 + 1) + 1), 5, 6]
  tm := fun t => r2Tm t.i t.x0 t.x1 t.y0 t.y1 t.o t.p
  hp := fun t => [⟨28, [.bool t.x0.s, .fv (.num t.x0.x), .bool t.x1.s, .fv (.num t.x1.x)]⟩, ⟨28, [.bool t.y0.s, .fv (.num t.y0.x), .bool t.y1.s, .fv (.num t.y1.x)]⟩, ⟨28, phZ t.o⟩, ⟨28, phZ t.p⟩]
def r2Nx (i : Int) (x0 : Zn) (x1 : Zn) (y0 : Zn) (y1 : Zn) (o : Option Int) (p : Option Int) : Nxt r2T Nm := if i = 0 then .go ⟨1, x0, x1, y0, y1, some (flZ x0 y0), some (ceZ x0 y0)⟩ else if i = 1 then .go ⟨2, x0, x1, y0, y1, some (mnZ (flZ x1 y1) (o.getD 0)), some (mxZ (ceZ x1 y1) (p.getD 0))⟩ else .out (.exit 0) (r2Tm i x0 x1 y0 y1 o p) [⟨28, [.bool x0.s, .fv (.num x0.x), .bool x1.s, .fv (.num x1.x)]⟩, ⟨28, [.bool y0.s, .fv (.num y0.x), .bool y1.s, .fv (.num y1.x)]⟩, ⟨28, phZ o⟩, ⟨28, phZ p⟩]
def r2Step (t : r2T) : Nxt r2T Nm := if r2P t.i t.x0 t.x1 t.y0 t.y1 t.o t.p then r2Nx t.i t.x0 t.x1 t.y0 t.y1 t.o t.p else .bad
theorem r2_go {i : Int} {x0 : Zn} {x1 : Zn} {y0 : Zn} {y1 : Zn} {o : Option Int} {p : Option Int} (h : r2P i x0 x1 y0 y1 o p) : r2Step ⟨i, x0, x1, y0, y1, o, p⟩ = r2Nx i x0 x1 y0 y1 o p := if_pos h
set_option maxRecDepth 100000 in
set_option maxHeartbeats 4000000 in
theorem r2_round (t : r2T) (hb : (r2Step t).isBad = false) (rest : List (Nat × AV Nm)) : ∃ fuel path r, evC (ctxOf Try.prog numI (fun _ => false) libP1) fuel 57 (false :: [false, true, false, true, true]) (loopAt (bodyOf Try.f18) [false, true, false, true, true]) (r2S.tm t ++ (ptrN 0 r2S.ps ++ rest)) (numb 0 (r2S.hp t)) 4 path = some r ∧ (∀ p ∈ r.cd, p.1 = p.2) ∧ Gives r2S 4 r (r2Step t) := by
  obtain ⟨i, x0, x1, y0, y1, o, p⟩ := t
  by_cases ok : r2P i x0 x1 y0 y1 o p
  · rw [r2_go ok]
    clear hb
    unfold r2Nx
    obtain ⟨⟨h1, h2⟩, ho, hp, do_, dp, z0, z1⟩ := ok
    rcases (show i = 0 ∨ i = 1 ∨ i = 2 by omega) with rfl | rfl | rfl
    · obtain ⟨g1, g2, g3, g4, g5⟩ := okZ_iff.1 z0
      rw [if_pos rfl]
      obtain rfl : o = none := by simpa using ho
      obtain rfl : p = none := by simpa using hp
      have s1 := g4.sz (by omega)
      have s2 := g5.sz (by omega)
      have s3 := g4.neg.sz (by omega)
      have s4 := g5.neg.sz (by omega)
      have s5 : decide (y0.x = 0) = false := decide_eq_false g3
      have s6 : decide (-y0.x = 0) = false := decide_eq_false (by omega)
      obtain ⟨q1, q2⟩ := fl_dm z0
      have q3 := q1.sz (by omega)
      have q4 := q2.sz (by omega)
      have e1 : IntKind.i64.wrap (0 + 1) = 1 := by decide
      rcases Bool.eq_false_or_eq_true (y0.s) with hs | hs
      · have hs : y0.s = true := hs
        obtain ⟨f1, f2⟩ := fl_t (x := x0) hs
        have L := r2f0_1111 x0 x1 y0 y1 rest
        rw [← f1, ← f2, e1] at L
        refine round_go L (pickL_ok ?_ _) rfl rfl rfl rfl
        repeat' (first | exact cd_nil | refine cd_cons ?_ ?_)
        all_goals first | rfl | with_reducible assumption | exact eqB _
      · have hs : y0.s = false := hs
        obtain ⟨f1, f2⟩ := fl_f (x := x0) hs
        have L := r2f0_1011 x0 x1 y0 y1 rest
        rw [← f1, ← f2, e1] at L
        refine round_go L (pickL_ok ?_ _) rfl rfl rfl rfl
        repeat' (first | exact cd_nil | refine cd_cons ?_ ?_)
        all_goals first | rfl | with_reducible assumption | exact eqB _
    · obtain ⟨g1, g2, g3, g4, g5⟩ := okZ_iff.1 z1
      rw [if_neg (by decide)]
      rw [if_pos rfl]
      obtain ⟨a, rfl⟩ := Option.isSome_iff_exists.1 (show o.isSome = true by rw [ho]; decide)
      obtain ⟨b, rfl⟩ := Option.isSome_iff_exists.1 (show p.isSome = true by rw [hp]; decide)
      simp only [Option.getD_some] at do_ dp ⊢
      have ea := (dm_of do_).sz (by omega)
      have eb := (dm_of dp).sz (by omega)
      have s1 := g4.sz (by omega)
      have s2 := g5.sz (by omega)
      have s3 := g4.neg.sz (by omega)
      have s4 := g5.neg.sz (by omega)
      have s5 : decide (y1.x = 0) = false := decide_eq_false g3
      have s6 : decide (-y1.x = 0) = false := decide_eq_false (by omega)
      obtain ⟨q1, q2⟩ := fl_dm z1
      have q3 := q1.sz (by omega)
      have q4 := q2.sz (by omega)
      have e1 : IntKind.i64.wrap (1 + 1) = 2 := by decide
      rcases Bool.eq_false_or_eq_true (y1.s) with hs | hs
      · have hs : y1.s = true := hs
        obtain ⟨f1, f2⟩ := fl_t (x := x1) hs
        by_cases hf : flZ x1 y1 < a
        · have c1 : decide (cmpI (flZ x1 y1) a < 0) = true := by rw [cmp_lt']; exact decide_eq_true hf
          rw [show mnZ (flZ x1 y1) a = flZ x1 y1 from if_pos hf]
          by_cases hc : b < ceZ x1 y1
          · have c2 : decide (cmpI (ceZ x1 y1) b > 0) = true := by rw [cmp_gt]; exact decide_eq_true hc
            rw [show mxZ (ceZ x1 y1) b = ceZ x1 y1 from if_pos hc]
            have L := r2f1_110101 x0 x1 y0 y1 a b rest
            rw [← f1, ← f2, e1] at L
            refine round_go L (pickL_ok ?_ _) rfl rfl rfl rfl
            repeat' (first | exact cd_nil | refine cd_cons ?_ ?_)
            all_goals first | rfl | with_reducible assumption | exact eqB _
          · have c2 : decide (cmpI (ceZ x1 y1) b > 0) = false := by rw [cmp_gt]; exact decide_eq_false hc
            rw [show mxZ (ceZ x1 y1) b = b from if_neg hc]
            have L := r2f1_110100 x0 x1 y0 y1 a b rest
            rw [← f1, ← f2, e1] at L
            refine round_go L (pickL_ok ?_ _) rfl rfl rfl rfl
            repeat' (first | exact cd_nil | refine cd_cons ?_ ?_)
            all_goals first | rfl | with_reducible assumption | exact eqB _
        · have c1 : decide (cmpI (flZ x1 y1) a < 0) = false := by rw [cmp_lt']; exact decide_eq_false hf
          rw [show mnZ (flZ x1 y1) a = a from if_neg hf]
          by_cases hc : b < ceZ x1 y1
          · have c2 : decide (cmpI (ceZ x1 y1) b > 0) = true := by rw [cmp_gt]; exact decide_eq_true hc
            rw [show mxZ (ceZ x1 y1) b = ceZ x1 y1 from if_pos hc]
            have L := r2f1_110001 x0 x1 y0 y1 a b rest
            rw [← f1, ← f2, e1] at L
            refine round_go L (pickL_ok ?_ _) rfl rfl rfl rfl
            repeat' (first | exact cd_nil | refine cd_cons ?_ ?_)
            all_goals first | rfl | with_reducible assumption | exact eqB _
          · have c2 : decide (cmpI (ceZ x1 y1) b > 0) = false := by rw [cmp_gt]; exact decide_eq_false hc
            rw [show mxZ (ceZ x1 y1) b = b from if_neg hc]
            have L := r2f1_110000 x0 x1 y0 y1 a b rest
            rw [← f1, ← f2, e1] at L
            refine round_go L (pickL_ok ?_ _) rfl rfl rfl rfl
            repeat' (first | exact cd_nil | refine cd_cons ?_ ?_)
            all_goals first | rfl | with_reducible assumption | exact eqB _
      · have hs : y1.s = false := hs
        obtain ⟨f1, f2⟩ := fl_f (x := x1) hs
        by_cases hf : flZ x1 y1 < a
        · have c1 : decide (cmpI (flZ x1 y1) a < 0) = true := by rw [cmp_lt']; exact decide_eq_true hf
          rw [show mnZ (flZ x1 y1) a = flZ x1 y1 from if_pos hf]
          by_cases hc : b < ceZ x1 y1
          · have c2 : decide (cmpI (ceZ x1 y1) b > 0) = true := by rw [cmp_gt]; exact decide_eq_true hc
            rw [show mxZ (ceZ x1 y1) b = ceZ x1 y1 from if_pos hc]
            have L := r2f1_100101 x0 x1 y0 y1 a b rest
            rw [← f1, ← f2, e1] at L
            refine round_go L (pickL_ok ?_ _) rfl rfl rfl rfl
            repeat' (first | exact cd_nil | refine cd_cons ?_ ?_)
            all_goals first | rfl | with_reducible assumption | exact eqB _
          · have c2 : decide (cmpI (ceZ x1 y1) b > 0) = false := by rw [cmp_gt]; exact decide_eq_false hc
            rw [show mxZ (ceZ x1 y1) b = b from if_neg hc]
            have L := r2f1_100100 x0 x1 y0 y1 a b rest
            rw [← f1, ← f2, e1] at L
            refine round_go L (pickL_ok ?_ _) rfl rfl rfl rfl
            repeat' (first | exact cd_nil | refine cd_cons ?_ ?_)
            all_goals first | rfl | with_reducible assumption | exact eqB _
        · have c1 : decide (cmpI (flZ x1 y1) a < 0) = false := by rw [cmp_lt']; exact decide_eq_false hf
          rw [show mnZ (flZ x1 y1) a = a from if_neg hf]
          by_cases hc : b < ceZ x1 y1
          · have c2 : decide (cmpI (ceZ x1 y1) b > 0) = true := by rw [cmp_gt]; exact decide_eq_true hc
            rw [show mxZ (ceZ x1 y1) b = ceZ x1 y1 from if_pos hc]
            have L := r2f1_100001 x0 x1 y0 y1 a b rest
            rw [← f1, ← f2, e1] at L
            refine round_go L (pickL_ok ?_ _) rfl rfl rfl rfl
            repeat' (first | exact cd_nil | refine cd_cons ?_ ?_)
            all_goals first | rfl | with_reducible assumption | exact eqB _
          · have c2 : decide (cmpI (ceZ x1 y1) b > 0) = false := by rw [cmp_gt]; exact decide_eq_false hc
            rw [show mxZ (ceZ x1 y1) b = b from if_neg hc]
            have L := r2f1_100000 x0 x1 y0 y1 a b rest
            rw [← f1, ← f2, e1] at L
            refine round_go L (pickL_ok ?_ _) rfl rfl rfl rfl
            repeat' (first | exact cd_nil | refine cd_cons ?_ ?_)
            all_goals first | rfl | with_reducible assumption | exact eqB _
    · rw [if_neg (by decide)]
      rw [if_neg (by decide)]
      obtain ⟨a, rfl⟩ := Option.isSome_iff_exists.1 (show o.isSome = true by rw [ho]; decide)
      obtain ⟨b, rfl⟩ := Option.isSome_iff_exists.1 (show p.isSome = true by rw [hp]; decide)
      have L := r2f2_0 x0 x1 y0 y1 a b rest
      refine round_out L rfl (pickL_ok ?_ _) rfl rfl rfl
      repeat' (first | exact cd_nil | refine cd_cons ?_ ?_)
      all_goals first | rfl | with_reducible assumption | exact eqB _
  · exfalso
    have : r2Step ⟨i, x0, x1, y0, y1, o, p⟩ = .bad := if_neg ok
    rw [this] at hb; cases hb
theorem r2_runs {x0 x1 y0 y1 : Zn} (hz : (okZ x0 y0 && okZ x1 y1) = true) : runs r2Step 3 ⟨0, x0, x1, y0, y1, none, none⟩ = some (.exit 0, r2Tm 2 x0 x1 y0 y1 none none, [⟨28, [.bool x0.s, .fv (.num x0.x), .bool x1.s, .fv (.num x1.x)]⟩, ⟨28, [.bool y0.s, .fv (.num y0.x), .bool y1.s, .fv (.num y1.x)]⟩, ⟨28, [.bool (decide (lo2 x0 x1 y0 y1 < 0)), .fv (.num (lo2 x0 x1 y0 y1))]⟩, ⟨28, [.bool (decide (hi2 x0 x1 y0 y1 < 0)), .fv (.num (hi2 x0 x1 y0 y1))]⟩]) := by
  simp only [Bool.and_eq_true] at hz
  obtain ⟨z0, z1⟩ := hz
  obtain ⟨u0, v0⟩ := fl_dm z0
  obtain ⟨u1, v1⟩ := fl_dm z1
  have g0 : r2Step ⟨0, x0, x1, y0, y1, none, none⟩ = r2Nx 0 x0 x1 y0 y1 (none) (none) := r2_go ⟨⟨by omega, by omega⟩, by simp, by simp, dm_0, dm_0, z0, z1⟩
  have m0 : Dl 30 (flZ x0 y0) := u0
  have k0 : Dl 30 (ceZ x0 y0) := v0
  have g1 : r2Step ⟨1, x0, x1, y0, y1, some (flZ x0 y0), some (ceZ x0 y0)⟩ = r2Nx 1 x0 x1 y0 y1 (some (flZ x0 y0)) (some (ceZ x0 y0)) := r2_go ⟨⟨by omega, by omega⟩, by simp, by simp, (of_dm m0), (of_dm k0), z0, z1⟩
  have m1 : Dl 30 (mnZ (flZ x1 y1) (flZ x0 y0)) := mn_dm u1 m0
  have k1 : Dl 30 (mxZ (ceZ x1 y1) (ceZ x0 y0)) := mx_dm v1 k0
  have g2 : r2Step ⟨2, x0, x1, y0, y1, some (mnZ (flZ x1 y1) (flZ x0 y0)), some (mxZ (ceZ x1 y1) (ceZ x0 y0))⟩ = r2Nx 2 x0 x1 y0 y1 (some (mnZ (flZ x1 y1) (flZ x0 y0))) (some (mxZ (ceZ x1 y1) (ceZ x0 y0))) := r2_go ⟨⟨by omega, by omega⟩, by simp, by simp, of_dm m1, of_dm k1, z0, z1⟩
  rw [runs_s, g0]
  unfold r2Nx
  rw [if_pos rfl]
  dsimp only
  rw [runs_s, g1]
  unfold r2Nx
  rw [if_neg (by decide)]
  rw [if_pos rfl]
  simp only [Option.getD_some]
  rw [runs_s, g2]
  unfold r2Nx
  rw [if_neg (by decide)]
  rw [if_neg (by decide)]
  rfl
def r2D : LpDef r2T Nm where
  ts := [13, 14]
  ps := [(65536 * (4294967296 + 2 + 1) + 12), (65536 * (4294967296 + 2 + 1) + 1), 5, 6]
  W := [1, 5, 6, 7, 8, 9, 10, 11, 12, 13, 14, 15, 16, 17, 18, 19, 20, 21, 22, 23, 24, 25, 26, 27, 28, 29, 30, 31, 32, 33, 34, 35, 36, 37, 38, 39, 40, 41, 42, 43, 44, 45, 46, 47, 48, 49, 50, 51, 52, 53]
  dec := fun vs ks => match vs, ks with
    | [.w (.one (.int .i64 2)), .w (.one (.int .i64 i))], [⟨28, [.bool x0s, .fv (.num x0x), .bool x1s, .fv (.num x1x)]⟩, ⟨28, [.bool y0s, .fv (.num y0x), .bool y1s, .fv (.num y1x)]⟩, ⟨28, [.yes false, .lit (.slice none 0 0)]⟩, ⟨28, [.yes false, .lit (.slice none 0 0)]⟩] => some ⟨i, ⟨x0s, x0x⟩, ⟨x1s, x1x⟩, ⟨y0s, y0x⟩, ⟨y1s, y1x⟩, none, none⟩
    | _, _ => none
  spec := fun t => some (.exit 0, r2Tm 2 t.x0 t.x1 t.y0 t.y1 none none, [⟨28, [.bool t.x0.s, .fv (.num t.x0.x), .bool t.x1.s, .fv (.num t.x1.x)]⟩, ⟨28, [.bool t.y0.s, .fv (.num t.y0.x), .bool t.y1.s, .fv (.num t.y1.x)]⟩, ⟨28, [.bool (decide (lo2 t.x0 t.x1 t.y0 t.y1 < 0)), .fv (.num (lo2 t.x0 t.x1 t.y0 t.y1))]⟩, ⟨28, [.bool (decide (hi2 t.x0 t.x1 t.y0 t.y1 < 0)), .fv (.num (hi2 t.x0 t.x1 t.y0 t.y1))]⟩], [(decide (t.i = 0) && decide (t.o = none) && decide (t.p = none), true), ((okZ t.x0 t.y0 && okZ t.x1 t.y1), true)])
theorem r2D_ok (x : Code) (hx : codeAt (bodyOf Try.f18) [false, true, false, true, true] = some (.loop x)) : LpOk Try.prog numI 57 x (r2D.sp nmSafe) := by
  obtain rfl := loopAt_eq hx
  refine lp_ok (c := ctxOf Try.prog numI (fun _ => false) libP1) (ctxOf_ok libP1_ok (eq_none _)) (by kernel_rfl) hx lps_nil (S := r2S) (step := r2Step) (fun _ h => h) (by kernel_rfl) (by kernel_rfl) ?_ rfl (fun t e he => ?_) (fun t hb rest => r2_round t hb rest) ?_
  · intro vs ks s hv1 h hv2
    simp only [r2D] at h
    split at h
    · cases h
      exact ⟨rfl, fun e he => he⟩
    · cases h
  · simp only [r2S, r2Tm, List.mem_cons, List.not_mem_nil, or_false] at he
    rcases he with rfl | rfl <;> rfl
  · intro s ex outs wb cd h hc
    obtain ⟨i, x0, x1, y0, y1, o, p⟩ := s
    simp only [r2D] at h
    cases h
    obtain ⟨c1, c2⟩ := cd2 hc
    simp only [Bool.and_eq_true, decide_eq_true_eq] at c1
    obtain ⟨⟨rfl, rfl⟩, rfl⟩ := c1
    exact ⟨3, r2_runs c2⟩
end
end Go.Proofs.Ytfhidjldmopbgaa.AtBr

