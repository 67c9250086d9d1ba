/-
  The loop of the reference's SlotsOf, where nights are facts.
  Conditions: those of each theorem.
-/
import Derived.Test.YtiamhppdacfmmaaQQG
import Derived.Test.YtiamhppdacfmmaaQPO
import Derived.Test.YtiamhppdacfmmaaQH2

set_option linter.unusedVariables false
set_option linter.unusedSimpArgs false
namespace Go.Proofs.Ytiamhppdacfmmaa.AtSl
open Go.RowKit Ev Wd AtRt AtHz AtPr
open Go.Proofs.Ytiamhppdacfmmaa
variable {F : Type}
noncomputable section

def sotP (g : Int) (c : Int) (l : Int) : Prop := (60000 ≤ g ∧ g ≤ 1800000) ∧ -1800000 ≤ l ∧ l ≤ 4294967296 ∧ 0 ≤ c ∧ c + l ≤ 8589934592 ∧ c ≤ 8589934592
instance (g : Int) (c : Int) (l : Int) : Decidable (sotP g c l) := by unfold sotP; infer_instance
/-- The time at which a slot begins. -/
def tmK (b l k : Int) : Int := IntKind.i64.wrap (b + IntKind.i64.wrap (k * l))
abbrev agTS : FnSp F := sp2 dRt (dInt .i64) (fun r t => aInt .i64 (agV r t)) (fun r t => [(i64B r.n, true), (i64B r.d, true)])
abbrev aiTS : FnSp F := sp3 AtHz.dSi (dInt .i64) dV3 (fun s t v => .tup [.agg [.int .i64 (aimAz s t v), .int .i64 (aimAl s t v)], .one (.int .i64 (aimE s t v))]) (fun _ t _ => [(i64B t, true)])
def aaz (s : Si) (r : Rt) (b l : Int) (v : V3) (k : Int) : Int := aimAz s (agV r (tmK b l k)) v
def aal (s : Si) (r : Rt) (b l : Int) (v : V3) (k : Int) : Int := aimAl s (agV r (tmK b l k)) v
def aae (s : Si) (v : V3) : Int := aimE s 0 v
def gAa : List (AV Tb) → Option (AV Tb × List (Bool × Bool))
  | [.w (.agg [.int .i64 x0, .int .i64 x1, .int .i64 x2, .int .i64 x3, .int .i64 x4, .int .i64 x5, .int .i64 b, .int .i64 l, .int .i64 k, .int .i64 x9, .int .i64 x10, .int .i64 x11, .int .i64 x12, .int .i64 x13, .int .i64 x14, .int .i64 d, .fv (.tab [some .i64] T)]), .w (.agg [.int .i64 v0, .int .i64 v1, .int .i64 v2]), .w (.one (.int .i64 j))] => some (.tup [.agg [.int .i64 (aaz ⟨x0, x1⟩ ⟨x2, x3, x4, x5⟩ b l ⟨v0, v1, v2⟩ j), .int .i64 (aal ⟨x0, x1⟩ ⟨x2, x3, x4, x5⟩ b l ⟨v0, v1, v2⟩ j)], .one (.int .i64 (aae ⟨x0, x1⟩ ⟨v0, v1, v2⟩))], [(i64B x4, true), (i64B x5, true)])
  | _ => none
end
end Go.Proofs.Ytiamhppdacfmmaa.AtSl

