/-
 The loop of the reference's SlotsOf, where nights are facts.
 Conditions: those of each theorem.
-/
import Derived.Test.YtmhhdedekblbnaaGreatQQG
import Derived.Test.YtmhhdedekblbnaaGreatQPO
import Derived.Test.YtmhhdedekblbnaaGreatQH2
set_option linter.unusedVariables false
set_option linter.unusedSimpArgs false
namespace Go.Proofs.YtmhhdedekblbnaaGreat.AtSl
open Go.RowKit Ev Wd AtRt AtHz AtPr
open Go.Proofs.YtmhhdedekblbnaaGreat
variable {F : Type}
noncomputable section

structure sotT where
 g : Int
 c : Int
 l : Int
def sotP (g : Int) (c : Int) (l : Int) : Prop := (60000 <= g /\ g <= 1800000) /\ -1800000 <= l /\ l <= 4294967296 /\ 0 <= c /\ c + l <= 8589934592 /\ c <= 8589934592
instance (g : Int) (c : Int) (l : Int) : Decidable (sotP g c l) := by unfold sotP; infer_instance
def sotD : LpDef sotT Tb where
 ts := [5, 6, 7]
 ps := []
 W := [5, 6, 7, 16, 17, 18, 19, 20, 21, 22]
 dec := fun vs ks => match vs, ks with
   | [.w (.one (.int .i64 g)), .w (.one (.int .i64 c)), .w (.one (.int .i64 l))], [] => some ⟨g, c, l⟩
   | _, _ => none
 spec := fun t => some ((.exit 0), [(6, .w (.one (.int .i64 (clv t.g t.l))))], [], [(decide (60000 <= t.g) && (decide (t.g <= 1800000) && (decide (0 <= t.l) && (decide (t.l <= 4294967296) && decide (t.c = 0)))), true)])
def clvS (l st : Int) : Int := if st < 1 then 0 else -(-(min st 1048576 * 1000) / l)
def tmK (b l k : Int) : Int := IntKind.i64.wrap (b + IntKind.i64.wrap (k * l))
abbrev agTS : FnSp F := sp2 dRt (dInt .i64) (fun r t => aInt .i64 (agV r t)) (fun r t => [(i64B r.n, true), (i64B r.d, true)])
abbrev aiTS : FnSp F := sp3 AtHz.dSi (dInt .i64) dV3 (fun s t v => .tup [.agg [.int .i64 (aimAz s t v), .int .i64 (aimAl s t v)], .one (.int .i64 (aimE s t v))]) (fun _ t _ => [(i64B t, true)])
def aaz (s : Si) (r : Rt) (b l : Int) (v : V3) (k : Int) : Int := aimAz s (agV r (tmK b l k)) v
def aal (s : Si) (r : Rt) (b l : Int) (v : V3) (k : Int) : Int := aimAl s (agV r (tmK b l k)) v
def aae (s : Si) (v : V3) : Int := aimE s 0 v
def gSo : List (AV Tb) -> Option (AV Tb × List (Bool × Bool))
 | [.w (.agg [.int .i64 x0, .int .i64 x1, .int .i64 x2, .int .i64 x3, .int .i64 x4, .int .i64 x5, .int .i64 b, .int .i64 l, .int .i64 k, .int .i64 x9, .int .i64 x10, .int .i64 x11, .int .i64 x12, .int .i64 x13, .int .i64 x14, .int .i64 d, .fv (.tab [some .i64] T)]), .w (.one (.int .i64 st))] => some (.w (.one (.int .i64 (clvS l st))), [(decide (60000 <= l) && decide (l <= 1800000), true)])
 | _ => none
def gAa : List (AV Tb) -> Option (AV Tb × List (Bool × Bool))
 | [.w (.agg [.int .i64 x0, .int .i64 x1, .int .i64 x2, .int .i64 x3, .int .i64 x4, .int .i64 x5, .int .i64 b, .int .i64 l, .int .i64 k, .int .i64 x9, .int .i64 x10, .int .i64 x11, .int .i64 x12, .int .i64 x13, .int .i64 x14, .int .i64 d, .fv (.tab [some .i64] T)]), .w (.agg [.int .i64 v0, .int .i64 v1, .int .i64 v2]), .w (.one (.int .i64 j))] => some (.tup [.agg [.int .i64 (aaz ⟨x0, x1⟩ ⟨x2, x3, x4, x5⟩ b l ⟨v0, v1, v2⟩ j), .int .i64 (aal ⟨x0, x1⟩ ⟨x2, x3, x4, x5⟩ b l ⟨v0, v1, v2⟩ j)], .one (.int .i64 (aae ⟨x0, x1⟩ ⟨v0, v1, v2⟩))], [(i64B x4, true), (i64B x5, true)])
 | _ => none
def gAi : List (AV Tb) -> Option (AV Tb × List (Bool × Bool))
 | [.w (.agg [.int .i64 x0, .int .i64 x1, .int .i64 x2, .int .i64 x3, .int .i64 x4, .int .i64 x5, .int .i64 b, .int .i64 l, .int .i64 k, .int .i64 x9, .int .i64 x10, .int .i64 x11, .int .i64 x12, .int .i64 x13, .int .i64 x14, .int .i64 d, .fv (.tab [some .i64] T)]), .w (.agg [.int .i64 v0, .int .i64 v1, .int .i64 v2]), .w (.one (.int .i64 j))] => some (.tup [.agg [.int .i64 (if niE ⟨x0, x1⟩ ⟨x2, x3, x4, x5⟩ b l k ⟨x9, x10, x11⟩ ⟨x12, x13, x14⟩ d T = 0 then (if 0 <= j /\ j <= k then aaz ⟨x0, x1⟩ ⟨x2, x3, x4, x5⟩ b l ⟨v0, v1, v2⟩ j else 0) else 0), .int .i64 (if niE ⟨x0, x1⟩ ⟨x2, x3, x4, x5⟩ b l k ⟨x9, x10, x11⟩ ⟨x12, x13, x14⟩ d T = 0 then (if 0 <= j /\ j <= k then aal ⟨x0, x1⟩ ⟨x2, x3, x4, x5⟩ b l ⟨v0, v1, v2⟩ j else 0) else 0)], .one (.int .i64 (if niE ⟨x0, x1⟩ ⟨x2, x3, x4, x5⟩ b l k ⟨x9, x10, x11⟩ ⟨x12, x13, x14⟩ d T = 0 then (if 0 <= j /\ j <= k then aae ⟨x0, x1⟩ ⟨v0, v1, v2⟩ else 4) else niE ⟨x0, x1⟩ ⟨x2, x3, x4, x5⟩ b l k ⟨x9, x10, x11⟩ ⟨x12, x13, x14⟩ d T))], [(i64B x4, true), (i64B x5, true), (decide (lenT T <= 9223372036854775807), true)])
 | _ => none
end
end Go.Proofs.YtmhhdedekblbnaaGreat.AtSl
