/-
  A simulated clock and what is known of it, out of a stream.
  Conditions: those of each theorem.
-/
import Derived.Test.YtjegnlnnjcchaaaCM
import Derived.Test.YtjegnlnnjcchaaaST
import Derived.Test.YtjegnlnnjcchaaaSF
set_option linter.unusedVariables false
set_option linter.unusedSimpArgs false
namespace Go.Proofs.Ytjegnlnnjcchaaa.AtCk
open Go.RowKit Ev Wd
open Go.Proofs.Ytjegnlnnjcchaaa
noncomputable section

def nlL (t : TypeId) : Option Fct := bif Nat.beq t 90 then some (.tab [some .i64, some .i64] []) else none
theorem nlL_ok (B : Nat) : ∀ t g D w, nlL t = some g → (fctI B).hv g D w (.slice none 0 0) := fun t g D w h => by
  unfold nlL at h
  cases hb : Nat.beq t 90 with
  | false => rw [hb] at h; cases h
  | true => rw [hb] at h; cases h; exact nil_tab _ D w
def legI (B : Nat) : Interp Fct := (fctI B).rows nlL (nlL_ok B)
noncomputable abbrev libR : List (Nat × FnSp Fct) := [(59, nextS), (60, rangeS)]
def ruS (l : List Int) (a : Int) : Int := rangeV l a (-1000) 1000
def ruA (l : List Int) (a : Int) : Int := rangeV l (a + 1) (-1000) 1000
def ruD (l : List Int) (a : Int) : Int := nextV l (a + 1 + 1) 100001
def ruN (l : List Int) (a : Int) : Int := nextV l (a + 1 + 1 + 1) 5
def legsT (l : List Int) (d : Int) : Int → Nat → List (List Int)
  | _, 0 => []
  | i, k + 1 => [nextV l i 5000, rangeV l (i + 1) (-d) d] :: legsT l d (i + 1 + 1) k
def endT : Int → Nat → Int
  | i, 0 => i
  | i, k + 1 => endT (i + 1 + 1) k
def ruT (l : List Int) (a : Int) : List (List Int) := legsT l (ruD l a) (a + 1 + 1 + 1 + 1) (ruN l a).toNat
def ruI (l : List Int) (a : Int) : Int := endT (a + 1 + 1 + 1 + 1) (ruN l a).toNat
def ruLo (l : List Int) (a : Int) : Int := ruA l a - nextV l (ruI l a) 30
def ruHi (l : List Int) (a : Int) : Int := ruA l a + nextV l (ruI l a + 1) 30
def runG (l : List Int) (a : Int) (rest : List (AV Fct)) : Option (AV Fct × Int × List (Bool × Bool)) := match rest with
  | [] => some (.tup [.agg [.int .i64 (ruS l a), .int .i64 (ruA l a), .fv (.tab [some .i64, some .i64] (ruT l a))], .agg [.int .i64 (ruS l a), .int .i64 (ruLo l a), .int .i64 (ruHi l a), .yes false, .int .i64 (ruD l a)]], ruI l a + 1 + 1, [(listB l, true), (decide (0 ≤ a), true), (decide (a < 900000), true)])
  | _ => none
theorem libR_ok (B : Nat) : LibOk Try.prog (legI B) (lib1 libR) := by
  have h : LibOk Try.prog (fctI B) (lib1 libR) := lib1_cons (nextS_ok B) Try.call59 (lib1_cons (rangeS_ok B) Try.call60 (lib1_nil _ _))
  exact h.rows
theorem ngv {d : Int} (h0 : 0 ≤ d) (h1 : d ≤ 100000) : IntKind.i64.wrap (0 - d) = -d := by rw [v64 (by omega) (by omega)]; omega
set_option maxRecDepth 100000 in
theorem rg_0 (B : Nat) (l : List Int) (a : Int) : evS (ctxOf Try.prog (legI B) (fun _ => false) libR) Try.f64 85 l a [] [false] = some (AV.tup [AW.agg [AC.int IntKind.i64 (rangeV l a (-1000) 1000), AC.int IntKind.i64 (rangeV l (a + 1) (-1000) 1000), AC.lit (Value.slice none 0 0)], AW.agg [AC.int IntKind.i64 (rangeV l a (-1000) 1000), AC.int IntKind.i64 (IntKind.i64.wrap (rangeV l (a + 1) (-1000) 1000 - nextV l (a + 1 + 1 + 1 + 1) 30)), AC.int IntKind.i64 (IntKind.i64.wrap (rangeV l (a + 1) (-1000) 1000 + nextV l (a + 1 + 1 + 1 + 1 + 1) 30)), AC.yes false, AC.int IntKind.i64 (nextV l (a + 1 + 1) 100001)]], a + 1 + 1 + 1 + 1 + 1 + 1, (pickL [(decide (1000 < -1000), false), (rB (-1000), true), (rB 1000, true), (listB l, true), (atB a, true), (atB (a + 1), true), (i64B 100001, true), (atB (a + 1 + 1), true), (i64B 5, true), (atB (a + 1 + 1 + 1), true), (decide (0 < nextV l (a + 1 + 1 + 1) 5), false), (i64B 30, true), (atB (a + 1 + 1 + 1 + 1), true), (atB (a + 1 + 1 + 1 + 1 + 1), true)] [0, 1, 2, 3, 4, 0, 1, 2, 3, 5, 6, 3, 7, 8, 3, 9, 10, 11, 3, 12, 11, 3, 13])) := by kernel_rfl
set_option maxRecDepth 100000 in
theorem rg_10 (B : Nat) (l : List Int) (a : Int) : evS (ctxOf Try.prog (legI B) (fun _ => false) libR) Try.f64 85 l a [] [true, false] = some (AV.tup [AW.agg [AC.int IntKind.i64 (rangeV l a (-1000) 1000), AC.int IntKind.i64 (rangeV l (a + 1) (-1000) 1000), AC.tip 28 1 (Fct.tab [some IntKind.i64, some IntKind.i64] ([] ++ [[nextV l (a + 1 + 1 + 1 + 1) 5000, rangeV l (a + 1 + 1 + 1 + 1 + 1) (IntKind.i64.wrap (0 - nextV l (a + 1 + 1) 100001)) (nextV l (a + 1 + 1) 100001)]]))], AW.agg [AC.int IntKind.i64 (rangeV l a (-1000) 1000), AC.int IntKind.i64 (IntKind.i64.wrap (rangeV l (a + 1) (-1000) 1000 - nextV l (a + 1 + 1 + 1 + 1 + 1 + 1) 30)), AC.int IntKind.i64 (IntKind.i64.wrap (rangeV l (a + 1) (-1000) 1000 + nextV l (a + 1 + 1 + 1 + 1 + 1 + 1 + 1) 30)), AC.yes false, AC.int IntKind.i64 (nextV l (a + 1 + 1) 100001)]], a + 1 + 1 + 1 + 1 + 1 + 1 + 1 + 1, (pickL [(decide (1000 < -1000), false), (rB (-1000), true), (rB 1000, true), (listB l, true), (atB a, true), (atB (a + 1), true), (i64B 100001, true), (atB (a + 1 + 1), true), (i64B 5, true), (atB (a + 1 + 1 + 1), true), (decide (0 < nextV l (a + 1 + 1 + 1) 5), true), (i64B 5000, true), (atB (a + 1 + 1 + 1 + 1), true), (decide (nextV l (a + 1 + 1) 100001 < IntKind.i64.wrap (0 - nextV l (a + 1 + 1) 100001)), false), (rB (IntKind.i64.wrap (0 - nextV l (a + 1 + 1) 100001)), true), (rB (nextV l (a + 1 + 1) 100001), true), (atB (a + 1 + 1 + 1 + 1 + 1), true), (decide (0 = 0), true), (decide (0 + 1 ≤ 34359738368), true), (decide (IntKind.i64.wrap (0 + 1) < nextV l (a + 1 + 1 + 1) 5), false), (i64B 30, true), (atB (a + 1 + 1 + 1 + 1 + 1 + 1), true), (atB (a + 1 + 1 + 1 + 1 + 1 + 1 + 1), true)] [0, 1, 2, 3, 4, 0, 1, 2, 3, 5, 6, 3, 7, 8, 3, 9, 10, 11, 3, 12, 13, 14, 15, 3, 16, 17, 18, 19, 20, 3, 21, 20, 3, 22])) := by kernel_rfl
set_option maxRecDepth 100000 in
theorem rg_110 (B : Nat) (l : List Int) (a : Int) : evS (ctxOf Try.prog (legI B) (fun _ => false) libR) Try.f64 85 l a [] [true, true, false] = some (AV.tup [AW.agg [AC.int IntKind.i64 (rangeV l a (-1000) 1000), AC.int IntKind.i64 (rangeV l (a + 1) (-1000) 1000), AC.tip 28 2 (Fct.tab [some IntKind.i64, some IntKind.i64] ([] ++ [[nextV l (a + 1 + 1 + 1 + 1) 5000, rangeV l (a + 1 + 1 + 1 + 1 + 1) (IntKind.i64.wrap (0 - nextV l (a + 1 + 1) 100001)) (nextV l (a + 1 + 1) 100001)]] ++ [[nextV l (a + 1 + 1 + 1 + 1 + 1 + 1) 5000, rangeV l (a + 1 + 1 + 1 + 1 + 1 + 1 + 1) (IntKind.i64.wrap (0 - nextV l (a + 1 + 1) 100001)) (nextV l (a + 1 + 1) 100001)]]))], AW.agg [AC.int IntKind.i64 (rangeV l a (-1000) 1000), AC.int IntKind.i64 (IntKind.i64.wrap (rangeV l (a + 1) (-1000) 1000 - nextV l (a + 1 + 1 + 1 + 1 + 1 + 1 + 1 + 1) 30)), AC.int IntKind.i64 (IntKind.i64.wrap (rangeV l (a + 1) (-1000) 1000 + nextV l (a + 1 + 1 + 1 + 1 + 1 + 1 + 1 + 1 + 1) 30)), AC.yes false, AC.int IntKind.i64 (nextV l (a + 1 + 1) 100001)]], a + 1 + 1 + 1 + 1 + 1 + 1 + 1 + 1 + 1 + 1, (pickL [(decide (1000 < -1000), false), (rB (-1000), true), (rB 1000, true), (listB l, true), (atB a, true), (atB (a + 1), true), (i64B 100001, true), (atB (a + 1 + 1), true), (i64B 5, true), (atB (a + 1 + 1 + 1), true), (decide (0 < nextV l (a + 1 + 1 + 1) 5), true), (i64B 5000, true), (atB (a + 1 + 1 + 1 + 1), true), (decide (nextV l (a + 1 + 1) 100001 < IntKind.i64.wrap (0 - nextV l (a + 1 + 1) 100001)), false), (rB (IntKind.i64.wrap (0 - nextV l (a + 1 + 1) 100001)), true), (rB (nextV l (a + 1 + 1) 100001), true), (atB (a + 1 + 1 + 1 + 1 + 1), true), (decide (0 = 0), true), (decide (0 + 1 ≤ 34359738368), true), (decide (IntKind.i64.wrap (0 + 1) < nextV l (a + 1 + 1 + 1) 5), true), (atB (a + 1 + 1 + 1 + 1 + 1 + 1), true), (atB (a + 1 + 1 + 1 + 1 + 1 + 1 + 1), true), (decide (0 + 1 = 0 + 1), true), (decide (0 + 1 + 1 ≤ 34359738368), true), (decide (IntKind.i64.wrap (IntKind.i64.wrap (0 + 1) + 1) < nextV l (a + 1 + 1 + 1) 5), false), (i64B 30, true), (atB (a + 1 + 1 + 1 + 1 + 1 + 1 + 1 + 1), true), (atB (a + 1 + 1 + 1 + 1 + 1 + 1 + 1 + 1 + 1), true)] [0, 1, 2, 3, 4, 0, 1, 2, 3, 5, 6, 3, 7, 8, 3, 9, 10, 11, 3, 12, 13, 14, 15, 3, 16, 17, 18, 19, 11, 3, 20, 13, 14, 15, 3, 21, 22, 23, 24, 25, 3, 26, 25, 3, 27])) := by kernel_rfl
set_option maxRecDepth 100000 in
theorem rg_1110 (B : Nat) (l : List Int) (a : Int) : evS (ctxOf Try.prog (legI B) (fun _ => false) libR) Try.f64 85 l a [] [true, true, true, false] = some (AV.tup [AW.agg [AC.int IntKind.i64 (rangeV l a (-1000) 1000), AC.int IntKind.i64 (rangeV l (a + 1) (-1000) 1000), AC.tip 28 3 (Fct.tab [some IntKind.i64, some IntKind.i64] ([] ++ [[nextV l (a + 1 + 1 + 1 + 1) 5000, rangeV l (a + 1 + 1 + 1 + 1 + 1) (IntKind.i64.wrap (0 - nextV l (a + 1 + 1) 100001)) (nextV l (a + 1 + 1) 100001)]] ++ [[nextV l (a + 1 + 1 + 1 + 1 + 1 + 1) 5000, rangeV l (a + 1 + 1 + 1 + 1 + 1 + 1 + 1) (IntKind.i64.wrap (0 - nextV l (a + 1 + 1) 100001)) (nextV l (a + 1 + 1) 100001)]] ++ [[nextV l (a + 1 + 1 + 1 + 1 + 1 + 1 + 1 + 1) 5000, rangeV l (a + 1 + 1 + 1 + 1 + 1 + 1 + 1 + 1 + 1) (IntKind.i64.wrap (0 - nextV l (a + 1 + 1) 100001)) (nextV l (a + 1 + 1) 100001)]]))], AW.agg [AC.int IntKind.i64 (rangeV l a (-1000) 1000), AC.int IntKind.i64 (IntKind.i64.wrap (rangeV l (a + 1) (-1000) 1000 - nextV l (a + 1 + 1 + 1 + 1 + 1 + 1 + 1 + 1 + 1 + 1) 30)), AC.int IntKind.i64 (IntKind.i64.wrap (rangeV l (a + 1) (-1000) 1000 + nextV l (a + 1 + 1 + 1 + 1 + 1 + 1 + 1 + 1 + 1 + 1 + 1) 30)), AC.yes false, AC.int IntKind.i64 (nextV l (a + 1 + 1) 100001)]], a + 1 + 1 + 1 + 1 + 1 + 1 + 1 + 1 + 1 + 1 + 1 + 1, (pickL [(decide (1000 < -1000), false), (rB (-1000), true), (rB 1000, true), (listB l, true), (atB a, true), (atB (a + 1), true), (i64B 100001, true), (atB (a + 1 + 1), true), (i64B 5, true), (atB (a + 1 + 1 + 1), true), (decide (0 < nextV l (a + 1 + 1 + 1) 5), true), (i64B 5000, true), (atB (a + 1 + 1 + 1 + 1), true), (decide (nextV l (a + 1 + 1) 100001 < IntKind.i64.wrap (0 - nextV l (a + 1 + 1) 100001)), false), (rB (IntKind.i64.wrap (0 - nextV l (a + 1 + 1) 100001)), true), (rB (nextV l (a + 1 + 1) 100001), true), (atB (a + 1 + 1 + 1 + 1 + 1), true), (decide (0 = 0), true), (decide (0 + 1 ≤ 34359738368), true), (decide (IntKind.i64.wrap (0 + 1) < nextV l (a + 1 + 1 + 1) 5), true), (atB (a + 1 + 1 + 1 + 1 + 1 + 1), true), (atB (a + 1 + 1 + 1 + 1 + 1 + 1 + 1), true), (decide (0 + 1 = 0 + 1), true), (decide (0 + 1 + 1 ≤ 34359738368), true), (decide (IntKind.i64.wrap (IntKind.i64.wrap (0 + 1) + 1) < nextV l (a + 1 + 1 + 1) 5), true), (atB (a + 1 + 1 + 1 + 1 + 1 + 1 + 1 + 1), true), (atB (a + 1 + 1 + 1 + 1 + 1 + 1 + 1 + 1 + 1), true), (decide (0 + 1 + 1 = 0 + 1 + 1), true), (decide (0 + 1 + 1 + 1 ≤ 34359738368), true), (decide (IntKind.i64.wrap (IntKind.i64.wrap (IntKind.i64.wrap (0 + 1) + 1) + 1) < nextV l (a + 1 + 1 + 1) 5), false), (i64B 30, true), (atB (a + 1 + 1 + 1 + 1 + 1 + 1 + 1 + 1 + 1 + 1), true), (atB (a + 1 + 1 + 1 + 1 + 1 + 1 + 1 + 1 + 1 + 1 + 1), true)] [0, 1, 2, 3, 4, 0, 1, 2, 3, 5, 6, 3, 7, 8, 3, 9, 10, 11, 3, 12, 13, 14, 15, 3, 16, 17, 18, 19, 11, 3, 20, 13, 14, 15, 3, 21, 22, 23, 24, 11, 3, 25, 13, 14, 15, 3, 26, 27, 28, 29, 30, 3, 31, 30, 3, 32])) := by kernel_rfl
set_option maxRecDepth 100000 in
theorem rg_11110 (B : Nat) (l : List Int) (a : Int) : evS (ctxOf Try.prog (legI B) (fun _ => false) libR) Try.f64 85 l a [] [true, true, true, true, false] = some (AV.tup [AW.agg [AC.int IntKind.i64 (rangeV l a (-1000) 1000), AC.int IntKind.i64 (rangeV l (a + 1) (-1000) 1000), AC.tip 28 4 (Fct.tab [some IntKind.i64, some IntKind.i64] ([] ++ [[nextV l (a + 1 + 1 + 1 + 1) 5000, rangeV l (a + 1 + 1 + 1 + 1 + 1) (IntKind.i64.wrap (0 - nextV l (a + 1 + 1) 100001)) (nextV l (a + 1 + 1) 100001)]] ++ [[nextV l (a + 1 + 1 + 1 + 1 + 1 + 1) 5000, rangeV l (a + 1 + 1 + 1 + 1 + 1 + 1 + 1) (IntKind.i64.wrap (0 - nextV l (a + 1 + 1) 100001)) (nextV l (a + 1 + 1) 100001)]] ++ [[nextV l (a + 1 + 1 + 1 + 1 + 1 + 1 + 1 + 1) 5000, rangeV l (a + 1 + 1 + 1 + 1 + 1 + 1 + 1 + 1 + 1) (IntKind.i64.wrap (0 - nextV l (a + 1 + 1) 100001)) (nextV l (a + 1 + 1) 100001)]] ++ [[nextV l (a + 1 + 1 + 1 + 1 + 1 + 1 + 1 + 1 + 1 + 1) 5000, rangeV l (a + 1 + 1 + 1 + 1 + 1 + 1 + 1 + 1 + 1 + 1 + 1) (IntKind.i64.wrap (0 - nextV l (a + 1 + 1) 100001)) (nextV l (a + 1 + 1) 100001)]]))], AW.agg [AC.int IntKind.i64 (rangeV l a (-1000) 1000), AC.int IntKind.i64 (IntKind.i64.wrap (rangeV l (a + 1) (-1000) 1000 - nextV l (a + 1 + 1 + 1 + 1 + 1 + 1 + 1 + 1 + 1 + 1 + 1 + 1) 30)), AC.int IntKind.i64 (IntKind.i64.wrap (rangeV l (a + 1) (-1000) 1000 + nextV l (a + 1 + 1 + 1 + 1 + 1 + 1 + 1 + 1 + 1 + 1 + 1 + 1 + 1) 30)), AC.yes false, AC.int IntKind.i64 (nextV l (a + 1 + 1) 100001)]], a + 1 + 1 + 1 + 1 + 1 + 1 + 1 + 1 + 1 + 1 + 1 + 1 + 1 + 1, (pickL [(decide (1000 < -1000), false), (rB (-1000), true), (rB 1000, true), (listB l, true), (atB a, true), (atB (a + 1), true), (i64B 100001, true), (atB (a + 1 + 1), true), (i64B 5, true), (atB (a + 1 + 1 + 1), true), (decide (0 < nextV l (a + 1 + 1 + 1) 5), true), (i64B 5000, true), (atB (a + 1 + 1 + 1 + 1), true), (decide (nextV l (a + 1 + 1) 100001 < IntKind.i64.wrap (0 - nextV l (a + 1 + 1) 100001)), false), (rB (IntKind.i64.wrap (0 - nextV l (a + 1 + 1) 100001)), true), (rB (nextV l (a + 1 + 1) 100001), true), (atB (a + 1 + 1 + 1 + 1 + 1), true), (decide (0 = 0), true), (decide (0 + 1 ≤ 34359738368), true), (decide (IntKind.i64.wrap (0 + 1) < nextV l (a + 1 + 1 + 1) 5), true), (atB (a + 1 + 1 + 1 + 1 + 1 + 1), true), (atB (a + 1 + 1 + 1 + 1 + 1 + 1 + 1), true), (decide (0 + 1 = 0 + 1), true), (decide (0 + 1 + 1 ≤ 34359738368), true), (decide (IntKind.i64.wrap (IntKind.i64.wrap (0 + 1) + 1) < nextV l (a + 1 + 1 + 1) 5), true), (atB (a + 1 + 1 + 1 + 1 + 1 + 1 + 1 + 1), true), (atB (a + 1 + 1 + 1 + 1 + 1 + 1 + 1 + 1 + 1), true), (decide (0 + 1 + 1 = 0 + 1 + 1), true), (decide (0 + 1 + 1 + 1 ≤ 34359738368), true), (decide (IntKind.i64.wrap (IntKind.i64.wrap (IntKind.i64.wrap (0 + 1) + 1) + 1) < nextV l (a + 1 + 1 + 1) 5), true), (atB (a + 1 + 1 + 1 + 1 + 1 + 1 + 1 + 1 + 1 + 1), true), (atB (a + 1 + 1 + 1 + 1 + 1 + 1 + 1 + 1 + 1 + 1 + 1), true), (decide (0 + 1 + 1 + 1 = 0 + 1 + 1 + 1), true), (decide (0 + 1 + 1 + 1 + 1 ≤ 34359738368), true), (decide (IntKind.i64.wrap (IntKind.i64.wrap (IntKind.i64.wrap (IntKind.i64.wrap (0 + 1) + 1) + 1) + 1) < nextV l (a + 1 + 1 + 1) 5), false), (i64B 30, true), (atB (a + 1 + 1 + 1 + 1 + 1 + 1 + 1 + 1 + 1 + 1 + 1 + 1), true), (atB (a + 1 + 1 + 1 + 1 + 1 + 1 + 1 + 1 + 1 + 1 + 1 + 1 + 1), true)] [0, 1, 2, 3, 4, 0, 1, 2, 3, 5, 6, 3, 7, 8, 3, 9, 10, 11, 3, 12, 13, 14, 15, 3, 16, 17, 18, 19, 11, 3, 20, 13, 14, 15, 3, 21, 22, 23, 24, 11, 3, 25, 13, 14, 15, 3, 26, 27, 28, 29, 11, 3, 30, 13, 14, 15, 3, 31, 32, 33, 34, 35, 3, 36, 35, 3, 37])) := by kernel_rfl
theorem rg_vals (l : List Int) (a : Int) : (-1000 ≤ ruS l a ∧ ruS l a ≤ 1000) ∧ (-1000 ≤ ruA l a ∧ ruA l a ≤ 1000) ∧ (0 ≤ ruD l a ∧ ruD l a ≤ 100000) ∧ (0 ≤ ruN l a ∧ ruN l a ≤ 4) ∧ (ruA l a - 30 ≤ ruLo l a ∧ ruLo l a ≤ ruA l a) ∧ (ruA l a ≤ ruHi l a ∧ ruHi l a ≤ ruA l a + 30) := by
  have h1 := rangeV_in l a (-1000) 1000 (by omega)
  have h2 := rangeV_in l (a + 1) (-1000) 1000 (by omega)
  have h3 := nextV_in l (a + 1 + 1) 100001 (by omega)
  have h4 := nextV_in l (a + 1 + 1 + 1) 5 (by omega)
  have h5 := nextV_in l (ruI l a) 30 (by omega)
  have h6 := nextV_in l (ruI l a + 1) 30 (by omega)
  unfold ruS ruLo ruHi ruA ruD ruN
  exact ⟨h1, h2, by omega, by omega, by omega, by omega⟩
theorem lg_mk {d f p : Int} (hf : 0 ≤ f ∧ f < 5000) (hp : -d ≤ p ∧ p ≤ d) (hd : d ≤ 100000) : lgB [f, p] = true ∧ ppB d [f, p] = true :=
  ⟨lgB_iff.2 (by simp only [List.getD_cons_zero, List.getD_cons_succ]; omega), ppB_iff.2 (by simp only [List.getD_cons_zero, List.getD_cons_succ]; omega)⟩
theorem legs_ok (l : List Int) {d : Int} (h0 : 0 ≤ d) (hd : d ≤ 100000) : ∀ (k : Nat) (i : Int), (legsT l d i k).all lgB = true ∧ (legsT l d i k).all (ppB d) = true ∧ (legsT l d i k).length = k ∧ i ≤ endT i k ∧ endT i k ≤ i + 2 * k
  | 0, i => ⟨rfl, rfl, rfl, Int.le_refl _, by simp [endT]⟩
  | k + 1, i => by
    obtain ⟨g1, g2, g3, g4, g5⟩ := legs_ok l h0 hd k (i + 1 + 1)
    obtain ⟨q1, q2⟩ := lg_mk (nextV_in l i 5000 (by omega)) (rangeV_in l (i + 1) (-d) d (by omega)) hd
    rw [legsT, endT, List.all_cons, List.all_cons, q1, q2, g1, g2, List.length_cons, g3]
    exact ⟨rfl, rfl, rfl, by omega, by omega⟩
theorem ru_ok (l : List Int) (a : Int) : ruE (ruS l a) (ruA l a) (ruT l a) = 0 ∧ (ruT l a).all lgB = true ∧ (ruT l a).all (ppB (ruD l a)) = true ∧ lenT (ruT l a) ≤ 4 ∧ a + 4 ≤ ruI l a ∧ ruI l a ≤ a + 12 := by
  obtain ⟨h1, h2, h3, h4, _, _⟩ := rg_vals l a
  obtain ⟨g1, g2, g3, g4, g5⟩ := legs_ok l h3.1 h3.2 (ruN l a).toNat (a + 1 + 1 + 1 + 1)
  have hl : lenT (ruT l a) ≤ 4 := by unfold lenT ruT; rw [g3]; omega
  refine ⟨?_, g1, g2, hl, by unfold ruI; omega, by unfold ruI; omega⟩
  unfold ruE
  rw [if_pos (by rw [Bool.and_eq_true, tmC_iff, tmC_iff]; omega), if_neg (by omega), if_pos (show (ruT l a).all lgB = true from g1)]
set_option maxHeartbeats 4000000 in
theorem runG_ok (B : Nat) : (stream 85 runG).ok Try.prog (legI B) 64 := by
  refine streamF_ok (ctxOf_ok (libR_ok B) (eq_none _)) (by kernel_rfl) Try.func64 rfl fun l a rest v a' cd hg hc => ?_
  unfold runG at hg
  split at hg
  · cases hg
    have hl : listB l = true := hc (listB l, true) (by simp)
    have h0 : 0 ≤ a := of_decide_eq_true (hc (decide (0 ≤ a), true) (by simp))
    have h9 : a < 900000 := of_decide_eq_true (hc (decide (a < 900000), true) (by simp))
    refine ⟨rfl, ?_⟩
    obtain ⟨h1, h2, h3, h4, h5, h6⟩ := rg_vals l a
    have eN := ngv h3.1 h3.2
    have at_ : ∀ i : Int, a ≤ i → i < a + 100 → atB i = true := fun i h1 h2 => atB_iff.2 (by omega)
    have c1 : decide ((1000 : Int) < -1000) = false := by decide
    have c2 : rB (-1000) = true := by decide
    have c3 : rB 1000 = true := by decide
    have c4 : i64B 100001 = true := by decide
    have c5 : i64B 5 = true := by decide
    have c6 : i64B 30 = true := by decide
    have c8 : i64B 5000 = true := by decide
    have c9 : decide (ruD l a < -ruD l a) = false := decide_eq_false (by omega)
    have c10 : rB (-ruD l a) = true := rB_iff.2 (by omega)
    have c11 : rB (ruD l a) = true := rB_iff.2 (by omega)
    unfold ruD at eN c9 c10 c11
    have cases_n : ruN l a = 0 ∨ ruN l a = 1 ∨ ruN l a = 2 ∨ ruN l a = 3 ∨ ruN l a = 4 := by omega
    rcases cases_n with hk | hk | hk | hk | hk
    · have hI : ruI l a = a + 1 + 1 + 1 + 1 := by unfold ruI; rw [hk]; rfl
      have hT : ruT l a = legsT l (ruD l a) (a + 1 + 1 + 1 + 1) 0 := by unfold ruT; rw [hk]; rfl
      have eLo : IntKind.i64.wrap (rangeV l (a + 1) (-1000) 1000 - nextV l (a + 1 + 1 + 1 + 1) 30) = ruLo l a := by
        have e : ruLo l a = rangeV l (a + 1) (-1000) 1000 - nextV l (a + 1 + 1 + 1 + 1) 30 := by unfold ruLo; rw [hI]; rfl
        rw [← e]; exact v64 (by omega) (by omega)
      have eHi : IntKind.i64.wrap (rangeV l (a + 1) (-1000) 1000 + nextV l (a + 1 + 1 + 1 + 1 + 1) 30) = ruHi l a := by
        have e : ruHi l a = rangeV l (a + 1) (-1000) 1000 + nextV l (a + 1 + 1 + 1 + 1 + 1) 30 := by unfold ruHi; rw [hI]; rfl
        rw [← e]; exact v64 (by omega) (by omega)
      have L := rg_0 B l a
      rw [eLo, eHi] at L
      rw [hI, hT]
      have n10 : decide (0 < nextV l (a + 1 + 1 + 1) 5) = false := by
        have hk' : nextV l (a + 1 + 1 + 1) 5 = 0 := hk
        rw [show (0 : Int) = 0 by decide, hk']; rfl
      refine ⟨[], [false], _, _, [], .nil, .nil, ?_, rfl, L, pickL_ok ?_ _⟩
      · intro E u hE hu
        obtain ⟨vs, rfl, hu⟩ := hu
        cases hu with
        | cons r1 hu =>
          obtain ⟨ws, rfl, r1⟩ := r1
          cases r1 with
          | cons q1 r1 => cases r1 with
            | cons q2 r1 => cases r1 with
              | cons q3 r1 =>
                cases r1
                cases (q3 : _ = _)
                exact ⟨_, rfl, .cons ⟨_, rfl, .cons q1 (.cons q2 (.cons (hE _) .nil))⟩ hu⟩
      · repeat' (first | exact cd_nil | refine cd_cons ?_ ?_)
        all_goals first | rfl | with_reducible assumption | exact at_ _ (by omega) (by omega) | decide

    · have hI : ruI l a = a + 1 + 1 + 1 + 1 + 1 + 1 := by unfold ruI; rw [hk]; rfl
      have hT : ruT l a = legsT l (ruD l a) (a + 1 + 1 + 1 + 1) 1 := by unfold ruT; rw [hk]; rfl
      have eLo : IntKind.i64.wrap (rangeV l (a + 1) (-1000) 1000 - nextV l (a + 1 + 1 + 1 + 1 + 1 + 1) 30) = ruLo l a := by
        have e : ruLo l a = rangeV l (a + 1) (-1000) 1000 - nextV l (a + 1 + 1 + 1 + 1 + 1 + 1) 30 := by unfold ruLo; rw [hI]; rfl
        rw [← e]; exact v64 (by omega) (by omega)
      have eHi : IntKind.i64.wrap (rangeV l (a + 1) (-1000) 1000 + nextV l (a + 1 + 1 + 1 + 1 + 1 + 1 + 1) 30) = ruHi l a := by
        have e : ruHi l a = rangeV l (a + 1) (-1000) 1000 + nextV l (a + 1 + 1 + 1 + 1 + 1 + 1 + 1) 30 := by unfold ruHi; rw [hI]; rfl
        rw [← e]; exact v64 (by omega) (by omega)
      have L := rg_10 B l a
      rw [eN, eLo, eHi] at L
      rw [hI, hT]
      have n10 : decide (0 < nextV l (a + 1 + 1 + 1) 5) = true := by
        have hk' : nextV l (a + 1 + 1 + 1) 5 = 1 := hk
        rw [show (0 : Int) = 0 by decide, hk']; rfl
      have n19 : decide (IntKind.i64.wrap (0 + 1) < nextV l (a + 1 + 1 + 1) 5) = false := by
        have hk' : nextV l (a + 1 + 1 + 1) 5 = 1 := hk
        rw [show (IntKind.i64.wrap (0 + 1) : Int) = 1 by decide, hk']; rfl
      refine ⟨[], [true, false], _, _, [], .nil, .nil, ?_, rfl, L, pickL_ok ?_ _⟩
      · intro E u hE hu; exact hu
      · repeat' (first | exact cd_nil | refine cd_cons ?_ ?_)
        all_goals first | rfl | with_reducible assumption | exact at_ _ (by omega) (by omega) | decide

    · have hI : ruI l a = a + 1 + 1 + 1 + 1 + 1 + 1 + 1 + 1 := by unfold ruI; rw [hk]; rfl
      have hT : ruT l a = legsT l (ruD l a) (a + 1 + 1 + 1 + 1) 2 := by unfold ruT; rw [hk]; rfl
      have eLo : IntKind.i64.wrap (rangeV l (a + 1) (-1000) 1000 - nextV l (a + 1 + 1 + 1 + 1 + 1 + 1 + 1 + 1) 30) = ruLo l a := by
        have e : ruLo l a = rangeV l (a + 1) (-1000) 1000 - nextV l (a + 1 + 1 + 1 + 1 + 1 + 1 + 1 + 1) 30 := by unfold ruLo; rw [hI]; rfl
        rw [← e]; exact v64 (by omega) (by omega)
      have eHi : IntKind.i64.wrap (rangeV l (a + 1) (-1000) 1000 + nextV l (a + 1 + 1 + 1 + 1 + 1 + 1 + 1 + 1 + 1) 30) = ruHi l a := by
        have e : ruHi l a = rangeV l (a + 1) (-1000) 1000 + nextV l (a + 1 + 1 + 1 + 1 + 1 + 1 + 1 + 1 + 1) 30 := by unfold ruHi; rw [hI]; rfl
        rw [← e]; exact v64 (by omega) (by omega)
      have L := rg_110 B l a
      rw [eN, eLo, eHi] at L
      rw [hI, hT]
      have n10 : decide (0 < nextV l (a + 1 + 1 + 1) 5) = true := by
        have hk' : nextV l (a + 1 + 1 + 1) 5 = 2 := hk
        rw [show (0 : Int) = 0 by decide, hk']; rfl
      have n19 : decide (IntKind.i64.wrap (0 + 1) < nextV l (a + 1 + 1 + 1) 5) = true := by
        have hk' : nextV l (a + 1 + 1 + 1) 5 = 2 := hk
        rw [show (IntKind.i64.wrap (0 + 1) : Int) = 1 by decide, hk']; rfl
      have n24 : decide (IntKind.i64.wrap (IntKind.i64.wrap (0 + 1) + 1) < nextV l (a + 1 + 1 + 1) 5) = false := by
        have hk' : nextV l (a + 1 + 1 + 1) 5 = 2 := hk
        rw [show (IntKind.i64.wrap (IntKind.i64.wrap (0 + 1) + 1) : Int) = 2 by decide, hk']; rfl
      refine ⟨[], [true, true, false], _, _, [], .nil, .nil, ?_, rfl, L, pickL_ok ?_ _⟩
      · intro E u hE hu; exact hu
      · repeat' (first | exact cd_nil | refine cd_cons ?_ ?_)
        all_goals first | rfl | with_reducible assumption | exact at_ _ (by omega) (by omega) | decide

    · have hI : ruI l a = a + 1 + 1 + 1 + 1 + 1 + 1 + 1 + 1 + 1 + 1 := by unfold ruI; rw [hk]; rfl
      have hT : ruT l a = legsT l (ruD l a) (a + 1 + 1 + 1 + 1) 3 := by unfold ruT; rw [hk]; rfl
      have eLo : IntKind.i64.wrap (rangeV l (a + 1) (-1000) 1000 - nextV l (a + 1 + 1 + 1 + 1 + 1 + 1 + 1 + 1 + 1 + 1) 30) = ruLo l a := by
        have e : ruLo l a = rangeV l (a + 1) (-1000) 1000 - nextV l (a + 1 + 1 + 1 + 1 + 1 + 1 + 1 + 1 + 1 + 1) 30 := by unfold ruLo; rw [hI]; rfl
        rw [← e]; exact v64 (by omega) (by omega)
      have eHi : IntKind.i64.wrap (rangeV l (a + 1) (-1000) 1000 + nextV l (a + 1 + 1 + 1 + 1 + 1 + 1 + 1 + 1 + 1 + 1 + 1) 30) = ruHi l a := by
        have e : ruHi l a = rangeV l (a + 1) (-1000) 1000 + nextV l (a + 1 + 1 + 1 + 1 + 1 + 1 + 1 + 1 + 1 + 1 + 1) 30 := by unfold ruHi; rw [hI]; rfl
        rw [← e]; exact v64 (by omega) (by omega)
      have L := rg_1110 B l a
      rw [eN, eLo, eHi] at L
      rw [hI, hT]
      have n10 : decide (0 < nextV l (a + 1 + 1 + 1) 5) = true := by
        have hk' : nextV l (a + 1 + 1 + 1) 5 = 3 := hk
        rw [show (0 : Int) = 0 by decide, hk']; rfl
      have n19 : decide (IntKind.i64.wrap (0 + 1) < nextV l (a + 1 + 1 + 1) 5) = true := by
        have hk' : nextV l (a + 1 + 1 + 1) 5 = 3 := hk
        rw [show (IntKind.i64.wrap (0 + 1) : Int) = 1 by decide, hk']; rfl
      have n24 : decide (IntKind.i64.wrap (IntKind.i64.wrap (0 + 1) + 1) < nextV l (a + 1 + 1 + 1) 5) = true := by
        have hk' : nextV l (a + 1 + 1 + 1) 5 = 3 := hk
        rw [show (IntKind.i64.wrap (IntKind.i64.wrap (0 + 1) + 1) : Int) = 2 by decide, hk']; rfl
      have n29 : decide (IntKind.i64.wrap (IntKind.i64.wrap (IntKind.i64.wrap (0 + 1) + 1) + 1) < nextV l (a + 1 + 1 + 1) 5) = false := by
        have hk' : nextV l (a + 1 + 1 + 1) 5 = 3 := hk
        rw [show (IntKind.i64.wrap (IntKind.i64.wrap (IntKind.i64.wrap (0 + 1) + 1) + 1) : Int) = 3 by decide, hk']; rfl
      refine ⟨[], [true, true, true, false], _, _, [], .nil, .nil, ?_, rfl, L, pickL_ok ?_ _⟩
      · intro E u hE hu; exact hu
      · repeat' (first | exact cd_nil | refine cd_cons ?_ ?_)
        all_goals first | rfl | with_reducible assumption | exact at_ _ (by omega) (by omega) | decide

    · have hI : ruI l a = a + 1 + 1 + 1 + 1 + 1 + 1 + 1 + 1 + 1 + 1 + 1 + 1 := by unfold ruI; rw [hk]; rfl
      have hT : ruT l a = legsT l (ruD l a) (a + 1 + 1 + 1 + 1) 4 := by unfold ruT; rw [hk]; rfl
      have eLo : IntKind.i64.wrap (rangeV l (a + 1) (-1000) 1000 - nextV l (a + 1 + 1 + 1 + 1 + 1 + 1 + 1 + 1 + 1 + 1 + 1 + 1) 30) = ruLo l a := by
        have e : ruLo l a = rangeV l (a + 1) (-1000) 1000 - nextV l (a + 1 + 1 + 1 + 1 + 1 + 1 + 1 + 1 + 1 + 1 + 1 + 1) 30 := by unfold ruLo; rw [hI]; rfl
        rw [← e]; exact v64 (by omega) (by omega)
      have eHi : IntKind.i64.wrap (rangeV l (a + 1) (-1000) 1000 + nextV l (a + 1 + 1 + 1 + 1 + 1 + 1 + 1 + 1 + 1 + 1 + 1 + 1 + 1) 30) = ruHi l a := by
        have e : ruHi l a = rangeV l (a + 1) (-1000) 1000 + nextV l (a + 1 + 1 + 1 + 1 + 1 + 1 + 1 + 1 + 1 + 1 + 1 + 1 + 1) 30 := by unfold ruHi; rw [hI]; rfl
        rw [← e]; exact v64 (by omega) (by omega)
      have L := rg_11110 B l a
      rw [eN, eLo, eHi] at L
      rw [hI, hT]
      have n10 : decide (0 < nextV l (a + 1 + 1 + 1) 5) = true := by
        have hk' : nextV l (a + 1 + 1 + 1) 5 = 4 := hk
        rw [show (0 : Int) = 0 by decide, hk']; rfl
      have n19 : decide (IntKind.i64.wrap (0 + 1) < nextV l (a + 1 + 1 + 1) 5) = true := by
        have hk' : nextV l (a + 1 + 1 + 1) 5 = 4 := hk
        rw [show (IntKind.i64.wrap (0 + 1) : Int) = 1 by decide, hk']; rfl
      have n24 : decide (IntKind.i64.wrap (IntKind.i64.wrap (0 + 1) + 1) < nextV l (a + 1 + 1 + 1) 5) = true := by
        have hk' : nextV l (a + 1 + 1 + 1) 5 = 4 := hk
        rw [show (IntKind.i64.wrap (IntKind.i64.wrap (0 + 1) + 1) : Int) = 2 by decide, hk']; rfl
      have n29 : decide (IntKind.i64.wrap (IntKind.i64.wrap (IntKind.i64.wrap (0 + 1) + 1) + 1) < nextV l (a + 1 + 1 + 1) 5) = true := by
        have hk' : nextV l (a + 1 + 1 + 1) 5 = 4 := hk
        rw [show (IntKind.i64.wrap (IntKind.i64.wrap (IntKind.i64.wrap (0 + 1) + 1) + 1) : Int) = 3 by decide, hk']; rfl
      have n34 : decide (IntKind.i64.wrap (IntKind.i64.wrap (IntKind.i64.wrap (IntKind.i64.wrap (0 + 1) + 1) + 1) + 1) < nextV l (a + 1 + 1 + 1) 5) = false := by
        have hk' : nextV l (a + 1 + 1 + 1) 5 = 4 := hk
        rw [show (IntKind.i64.wrap (IntKind.i64.wrap (IntKind.i64.wrap (IntKind.i64.wrap (0 + 1) + 1) + 1) + 1) : Int) = 4 by decide, hk']; rfl
      refine ⟨[], [true, true, true, true, false], _, _, [], .nil, .nil, ?_, rfl, L, pickL_ok ?_ _⟩
      · intro E u hE hu; exact hu
      · repeat' (first | exact cd_nil | refine cd_cons ?_ ?_)
        all_goals first | rfl | with_reducible assumption | exact at_ _ (by omega) (by omega) | decide

  · cases hg
end
end Go.Proofs.Ytjegnlnnjcchaaa.AtCk

