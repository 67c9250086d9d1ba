/-
  The walk of spylaw1.HorizonBends: it returns true.
  Conditions: none.
-/
import Derived.Test.YtagbpehfieejcaaHB
import Derived.Test.YtagbpehfieejcaaHG
import Derived.Test.YtagbpehfieejcaaGO
set_option linter.unusedVariables false
set_option linter.unusedSimpArgs false
namespace Go.Proofs.Ytagbpehfieejcaa.AtHz
open Ev Go.RowKit Go.Shelf Zd Wd
open Go.Proofs.Ytagbpehfieejcaa
noncomputable section

noncomputable abbrev libW0 : List (Nat × FnSp Nm) := [(31, sp0 (aBool true)), (32, factSp (liftG cvN inN [some .i64, some .i64, some .i64, none] gCb)), (33, factSp (liftG cvN inN [some .i64, some .i64, some .i64, none] gCb)), (34, factSp (liftG cvN inN [some .i64, some .i64, some .i64, none] gRf)), (35, factSp gRo)]
theorem libW0_ok : LibOk Try.prog numI (lib1 libW0) := (lib1_cons (sp0_ok rfl hfa_pl) Try.call31 (lib1_cons (liftN_ok gCb_ok) Try.call32 (lib1_cons (liftN_ok gBe_ok) Try.call33 (lib1_cons (liftN_ok gRf_ok) Try.call34 (lib1_cons gRo_ok Try.call35 (lib1_nil _ _))))))
theorem eqS_ok : EqOk Try.prog (tabOf Try.prog) (fun t => Nat.beq t 62) := eq_of fun t ht => by
  have := Nat.eq_of_beq_eq_true ht
  subst this
  exact ⟨by kernel_rfl, by kernel_rfl, by kernel_rfl⟩
set_option maxRecDepth 100000 in
theorem hb_11 (T : List (List Int)) (x : Int) (y : Int) (u : Bool) : evR (ctxOf Try.prog numI (fun t => Nat.beq t 62) libW0) Try.f6 [(.w (.one (.fv (.tab [some .i64, some .i64, some .i64, none] T)))), (.w (.agg [.int .i64 x, .int .i64 y, .bool u]))] [true, true] = some (AV.w (AW.one (AC.bool ((rfV T { lo := x, hi := y, u := u }).lo == (rfV T { lo := x, hi := y, u := u }).lo && ((rfV T { lo := x, hi := y, u := u }).hi == (rfV T { lo := x, hi := y, u := u }).hi && ((rfV T { lo := x, hi := y, u := u }).u == (rfV T { lo := x, hi := y, u := u }).u && true))))), (pickL [(true, true), (cbE T == cbE T, true)] [0, 0, 0, 0, 0, 0, 1, 1, 1, 1, 1, 1, 1, 1])) := by kernel_rfl
theorem hb_walk (W : World) (T : List (List Int)) (u : Value) (hu : tabHv (fun _ _ => False) W u [some .i64, some .i64, some .i64, none] T) (hT : okRows [some .i64, some .i64, some .i64, none] T) (x : Int) (hx : okK (some .i64) x) (y : Int) (hy : okK (some .i64) y) (b : Bool) :
    Calls Try.prog 6 #[u, .agg #[.int .i64 x, .int .i64 y, .bool b]] W fun e w' => e = .returned (.bool true) ∧ Below W.heap.size W w' := by
  have V : (((rfV T { lo := x, hi := y, u := b }).lo == (rfV T { lo := x, hi := y, u := b }).lo && ((rfV T { lo := x, hi := y, u := b }).hi == (rfV T { lo := x, hi := y, u := b }).hi && ((rfV T { lo := x, hi := y, u := b }).u == (rfV T { lo := x, hi := y, u := b }).u && true)))) = true := by simp
  refine law_facts (I := numI) (h := fun q y => q = .tab [some .i64, some .i64, some .i64, none] T ∧ y = u) (v := .bool true) (ctxOf_ok libW0_ok eqS_ok) (by kernel_rfl) Try.func6 rfl lps_nil rfl (fun q y hq => by obtain ⟨rfl, rfl⟩ := hq; exact hu) (hb_11 T x y b) rfl (.cons ⟨rfl, rfl⟩ (.cons ⟨_, rfl, .cons rfl (.cons rfl (.cons rfl .nil))⟩ .nil)) (congrArg (fun b => some (Value.bool b)) V) (pickL_ok ?_ _)
  repeat' (first | exact cd_nil | refine cd_cons ?_ ?_)
  all_goals first | rfl | with_reducible assumption | exact eqB _ | (simp; done)
end
end Go.Proofs.Ytagbpehfieejcaa.AtHz

