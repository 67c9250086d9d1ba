/-
  THE STATEMENT Rows.PropNightsCardSaid: PropNights returns true for every input and leaves its arguments as they were; the tied card of that row.
  Conditions: none beyond the row's own (it lists tables of the library, which the card ties to the program's text; the walk does not lean on them). The walk of the law's text is in YtbnlpcmnkcaemaaDoorPQ; this text is the row's step and the card.
-/
import Derived.Test.YtbnlpcmnkcaemaaDoorCards
import Derived.Test.YtbnlpcmnkcaemaaDoorTie
import Derived.Test.YtbnlpcmnkcaemaaDoorBase
import Derived.Test.YtbnlpcmnkcaemaaDoorPQ
import Derived.Test.YtbnlpcmnkcaemaaDoorGO
import Derived.WalkKit
import Derived.ProofKit
import Derived.OpenShut
import Derived.Lib.SmallJoins
import Derived.Carry
import Derived.ChangeSlices
import Derived.Deep.DeepHandedRow
import Derived.Lib.LaidTab
namespace Go.Proofs.YtbnlpcmnkcaemaaDoor.propNights
open Go.ChangeShapes Go.WideShapes Go.ChangeAt Go.RowKit Go.Joins Ev Wd
set_option linter.unusedVariables false

theorem own : ownKnob Tryd.prog.godebug = none := by kernel_rfl
theorem lay : laidOutB Tryd.prog = true := by kernel_rfl
theorem readable0 : Tryd.prog.readableRec 54 = true := by kernel_rfl
theorem shape0 : shapeOf Tryd.prog 8 54 = some [.k (some .i64), .k (some .i64), .k (some .i64), .k (some .i64), .k (some .i64), .k (some .i64), .k (some .i64), .k (some .i64), .k (some .i64), .k (some .i64), .k (some .i64), .k (some .i64), .k (some .i64), .k (some .i64), .k (some .i64), .k (some .i64), .tab [some .i64]] := by kernel_rfl

set_option maxRecDepth 100000 in
/-- WHAT THE WALK GIVES, for every argument. -/
theorem contract (H : Type) (enc : TypeId × Value → H) (W : World) (base : Nat) (args : Array Value) (ds gs : List (DataW H)) (before : List MemPlace)
    (hval : ∀ (j : Nat) t v, Tryd.f4.params[j]? = some t → args[j]? = some v → Value.okWide Tryd.prog W .any base t v)
    (hW : DataW.Whole enc Tryd.prog Tryd.f4.params.toList Rows.propNightsSpec.vars false W args.toList ds gs before) :
    Calls Tryd.prog 4 args W fun e W' => ∃ v, e = .returned v ∧ Rows.propNightsSpec.post enc Tryd.prog Tryd.f4 false true false false W args v W' := by
  have hW' := hW
  obtain ⟨p, q, hA0, hV, rfl, hfz, hnd⟩ := hW
  have hA : DataW.TrodAll enc Tryd.prog W 0 (fun _ => true) true Tryd.f4.params.toList args.toList ds p := hA0
  rw [Tryd.params4] at hA hval
  obtain ⟨v0, vs0, d0, ds0, p0, q0, hargs, rfl, rfl, h0, r0⟩ := trodAll_cons hA
  obtain ⟨rfl, rfl, rfl⟩ := trodAll_nil r0
  obtain rfl : args = #[v0] := by cases args; simp_all
  obtain ⟨rfl, rfl⟩ := trodVars_none hV
  have h0k := h0
  obtain ⟨g0, a0⟩ := arg_open shape0 (hval 0 54 v0 rfl rfl) h0
  obtain ⟨cs0, rfl, z0⟩ := okWide_struct Tryd.underlying54 (hval 0 54 v0 rfl rfl)
  obtain ⟨cs0⟩ := cs0
  replace a0 : All3 (CtR W) [.k (some .i64), .k (some .i64), .k (some .i64), .k (some .i64), .k (some .i64), .k (some .i64), .k (some .i64), .k (some .i64), .k (some .i64), .k (some .i64), .k (some .i64), .k (some .i64), .k (some .i64), .k (some .i64), .k (some .i64), .k (some .i64), .tab [some .i64]] g0 cs0 := a0
  obtain ⟨g0_0, gs0_0, v0_0, cs0_0, rfl, rfl, k0_0, a0_0⟩ := all3_cons a0
  obtain ⟨x0_0, rfl, rfl, b0_0⟩ := ct_int k0_0
  obtain ⟨g0_1, gs0_1, v0_1, cs0_1, rfl, rfl, k0_1, a0_1⟩ := all3_cons a0_0
  obtain ⟨x0_1, rfl, rfl, b0_1⟩ := ct_int k0_1
  obtain ⟨g0_2, gs0_2, v0_2, cs0_2, rfl, rfl, k0_2, a0_2⟩ := all3_cons a0_1
  obtain ⟨x0_2, rfl, rfl, b0_2⟩ := ct_int k0_2
  obtain ⟨g0_3, gs0_3, v0_3, cs0_3, rfl, rfl, k0_3, a0_3⟩ := all3_cons a0_2
  obtain ⟨x0_3, rfl, rfl, b0_3⟩ := ct_int k0_3
  obtain ⟨g0_4, gs0_4, v0_4, cs0_4, rfl, rfl, k0_4, a0_4⟩ := all3_cons a0_3
  obtain ⟨x0_4, rfl, rfl, b0_4⟩ := ct_int k0_4
  obtain ⟨g0_5, gs0_5, v0_5, cs0_5, rfl, rfl, k0_5, a0_5⟩ := all3_cons a0_4
  obtain ⟨x0_5, rfl, rfl, b0_5⟩ := ct_int k0_5
  obtain ⟨g0_6, gs0_6, v0_6, cs0_6, rfl, rfl, k0_6, a0_6⟩ := all3_cons a0_5
  obtain ⟨x0_6, rfl, rfl, b0_6⟩ := ct_int k0_6
  obtain ⟨g0_7, gs0_7, v0_7, cs0_7, rfl, rfl, k0_7, a0_7⟩ := all3_cons a0_6
  obtain ⟨x0_7, rfl, rfl, b0_7⟩ := ct_int k0_7
  obtain ⟨g0_8, gs0_8, v0_8, cs0_8, rfl, rfl, k0_8, a0_8⟩ := all3_cons a0_7
  obtain ⟨x0_8, rfl, rfl, b0_8⟩ := ct_int k0_8
  obtain ⟨g0_9, gs0_9, v0_9, cs0_9, rfl, rfl, k0_9, a0_9⟩ := all3_cons a0_8
  obtain ⟨x0_9, rfl, rfl, b0_9⟩ := ct_int k0_9
  obtain ⟨g0_10, gs0_10, v0_10, cs0_10, rfl, rfl, k0_10, a0_10⟩ := all3_cons a0_9
  obtain ⟨x0_10, rfl, rfl, b0_10⟩ := ct_int k0_10
  obtain ⟨g0_11, gs0_11, v0_11, cs0_11, rfl, rfl, k0_11, a0_11⟩ := all3_cons a0_10
  obtain ⟨x0_11, rfl, rfl, b0_11⟩ := ct_int k0_11
  obtain ⟨g0_12, gs0_12, v0_12, cs0_12, rfl, rfl, k0_12, a0_12⟩ := all3_cons a0_11
  obtain ⟨x0_12, rfl, rfl, b0_12⟩ := ct_int k0_12
  obtain ⟨g0_13, gs0_13, v0_13, cs0_13, rfl, rfl, k0_13, a0_13⟩ := all3_cons a0_12
  obtain ⟨x0_13, rfl, rfl, b0_13⟩ := ct_int k0_13
  obtain ⟨g0_14, gs0_14, v0_14, cs0_14, rfl, rfl, k0_14, a0_14⟩ := all3_cons a0_13
  obtain ⟨x0_14, rfl, rfl, b0_14⟩ := ct_int k0_14
  obtain ⟨g0_15, gs0_15, v0_15, cs0_15, rfl, rfl, k0_15, a0_15⟩ := all3_cons a0_14
  obtain ⟨x0_15, rfl, rfl, b0_15⟩ := ct_int k0_15
  obtain ⟨g0_16, gs0_16, v0_16, cs0_16, rfl, rfl, k0_16, a0_16⟩ := all3_cons a0_15
  obtain ⟨x0_16, rfl, u0_16, b0_16⟩ := ct_tab k0_16
  obtain ⟨rfl, rfl⟩ := all3_nil a0_16
  clear hA0
  simp only [List.append_nil] at hW'
  refine (AtPr.propNights_law W x0_0 b0_0 x0_1 b0_1 x0_2 b0_2 x0_3 b0_3 x0_4 b0_4 x0_5 b0_5 x0_6 b0_6 x0_7 b0_7 x0_8 b0_8 x0_9 b0_9 x0_10 b0_10 x0_11 b0_11 x0_12 b0_12 x0_13 b0_13 x0_14 b0_14 x0_15 b0_15 x0_16 _ u0_16 b0_16).mono fun e W' ⟨he, hg⟩ => ?_
  subst he
  exact ⟨_, rfl, post_below (pv := []) hW' (fun _ _ _ => (trodAll_cons_mk (shut_bool Tryd.underlying4 _) trodAll_mk0)) (fun sp hsp => (by rw [Tryd.params4]; have := (trodAll_cons_mk (WideElems.Trod_stays lay readable0 (of_decide_eq_true (by kernel_rfl)) h0k (fun x hx => hg.same (hW'.lt x (by simp [hx]))) (fun x hx => hsp x (by simp [hx]))) trodAll_mk0); simp only [List.append_nil] at this; exact this)) (fun _ _ => rfl) (by simp)
      hg (ok_one (by kernel_rfl) rfl (okWide_bool_mk Tryd.underlying4 _))⟩

/-! A world for the witness: the settled one, the listed tables laid. -/
def lay4 : Obj → Obj
  | .cells _ t frozen => .cells #[.int .u8 0, .int .u8 1, .int .u8 28, .int .u8 2, .int .u8 29, .int .u8 14, .int .u8 24, .int .u8 3, .int .u8 30, .int .u8 22, .int .u8 20, .int .u8 15, .int .u8 25, .int .u8 17, .int .u8 4, .int .u8 8, .int .u8 31, .int .u8 27, .int .u8 13, .int .u8 23, .int .u8 21, .int .u8 19, .int .u8 16, .int .u8 7, .int .u8 26, .int .u8 12, .int .u8 18, .int .u8 6, .int .u8 11, .int .u8 5, .int .u8 10, .int .u8 9] t frozen
  | o => o
def lay5 : Obj → Obj
  | .cells _ t frozen => .cells #[.int .u8 0, .int .u8 1, .int .u8 56, .int .u8 2, .int .u8 57, .int .u8 49, .int .u8 28, .int .u8 3, .int .u8 61, .int .u8 58, .int .u8 42, .int .u8 50, .int .u8 38, .int .u8 29, .int .u8 17, .int .u8 4, .int .u8 62, .int .u8 47, .int .u8 59, .int .u8 36, .int .u8 45, .int .u8 43, .int .u8 51, .int .u8 22, .int .u8 53, .int .u8 39, .int .u8 33, .int .u8 30, .int .u8 24, .int .u8 18, .int .u8 12, .int .u8 5, .int .u8 63, .int .u8 55, .int .u8 48, .int .u8 27, .int .u8 60, .int .u8 41, .int .u8 37, .int .u8 16, .int .u8 46, .int .u8 35, .int .u8 44, .int .u8 21, .int .u8 52, .int .u8 32, .int .u8 23, .int .u8 11, .int .u8 54, .int .u8 26, .int .u8 40, .int .u8 15, .int .u8 34, .int .u8 20, .int .u8 31, .int .u8 10, .int .u8 25, .int .u8 14, .int .u8 19, .int .u8 9, .int .u8 13, .int .u8 8, .int .u8 7, .int .u8 6] t frozen
  | o => o
def lay2 : Obj → Obj
  | .cells _ t frozen => .cells #[.int .u64 1, .int .u64 10, .int .u64 100, .int .u64 1000, .int .u64 10000, .int .u64 100000, .int .u64 1000000, .int .u64 10000000, .int .u64 100000000, .int .u64 1000000000, .int .u64 10000000000, .int .u64 100000000000, .int .u64 1000000000000, .int .u64 10000000000000, .int .u64 100000000000000, .int .u64 1000000000000000, .int .u64 10000000000000000, .int .u64 100000000000000000, .int .u64 1000000000000000000, .int .u64 10000000000000000000] t frozen
  | o => o
noncomputable def laidWorld (os : Os) : World :=
  { World.holding Tryd.prog os ⟨#[], #[], []⟩ with heap := ((((World.holding Tryd.prog os ⟨#[], #[], []⟩).heap.modify 4 (lay4)).modify 5 (lay5)).modify 2 (lay2)) }
theorem laid_met (os : Os) : laidMet Tryd.prog Rows.propNightsRow.laid ((laidWorld os).forCall (fun _ _ => 0) ⟨#[], #[.agg #[.int .i64 0, .int .i64 0, .int .i64 0, .int .i64 0, .int .i64 0, .int .i64 0, .int .i64 0, .int .i64 0, .int .i64 0, .int .i64 0, .int .i64 0, .int .i64 0, .int .i64 0, .int .i64 0, .int .i64 0, .int .i64 0, .slice none 0 0]], []⟩).memory :=
  laidMet_of_run' 8 (by kernel_rfl) (by kernel_rfl)
theorem reads (os : Os) {H : Type} (enc : TypeId × Value → H) : ∃ x, DataW.whole enc Tryd.prog ((laidWorld os).forCall (fun _ _ => 0) ⟨#[], #[.agg #[.int .i64 0, .int .i64 0, .int .i64 0, .int .i64 0, .int .i64 0, .int .i64 0, .int .i64 0, .int .i64 0, .int .i64 0, .int .i64 0, .int .i64 0, .int .i64 0, .int .i64 0, .int .i64 0, .int .i64 0, .int .i64 0, .slice none 0 0]], []⟩).memory Tryd.f4.params.toList Rows.propNightsSpec.vars false (#[.agg #[.int .i64 0, .int .i64 0, .int .i64 0, .int .i64 0, .int .i64 0, .int .i64 0, .int .i64 0, .int .i64 0, .int .i64 0, .int .i64 0, .int .i64 0, .int .i64 0, .int .i64 0, .int .i64 0, .int .i64 0, .int .i64 0, .slice none 0 0]] : Array Value).toList 8 = some x :=
  Option.isSome_iff_exists.1 (by kernel_rfl)
set_option maxRecDepth 100000 in
theorem lifted (os : Os) (started : os.Started) (H : Type) (enc : TypeId × Value → H) (F : Stop.Interp) :
    ReturnsInHanded {} Tryd.checked os 4 .any ((OpenSpec.ofChange Rows.propNightsSpec).preRow enc Tryd.prog Tryd.f4 Rows.propNightsRow.domain false Rows.propNightsRow.laid) (((OpenSpec.ofChange Rows.propNightsSpec).at F).post enc Tryd.prog Tryd.f4 false true false false) := by
  obtain ⟨x, hx⟩ := reads os enc
  refine returnsInHanded_of_row (C := Tryd.checked) (s := OpenSpec.ofChange Rows.propNightsSpec) own started (by kernel_rfl) Tryd.func4
    (witness_row_at (enc := enc) (C := Tryd.checked) false (laidWorld os) #[.agg #[.int .i64 0, .int .i64 0, .int .i64 0, .int .i64 0, .int .i64 0, .int .i64 0, .int .i64 0, .int .i64 0, .int .i64 0, .int .i64 0, .int .i64 0, .int .i64 0, .int .i64 0, .int .i64 0, .int .i64 0, .int .i64 0, .slice none 0 0]] rfl (by kernel_rfl) (by kernel_rfl) (by kernel_rfl)
      (OpenSpec.preRow_of_cond 8 hx (by kernel_rfl) (fun k hk => by cases hk) (by kernel_rfl) (laid_met os))) ?_
  intro W base args ds gs before hval hW _ _ _ hL _ _
  exact contract H enc W base args ds gs before hval hW
theorem said : Rows.PropNightsSaid :=
  OpenClaim.holds_of_cond 4 Tryd.f4 rfl rfl rfl rfl rfl rfl rfl ⟨rfl, rfl, rfl, rfl, rfl⟩ rfl rfl rfl rfl rfl (by kernel_rfl) Tryd.func4 (by kernel_rfl)
    (of_decide_eq_true (by kernel_rfl)) (by unfold Func.isWrapper; first | (rw [if_pos (by decide +kernel)]; kernel_rfl) | (rw [if_neg (by decide +kernel)]; exact ⟨rfl, rfl⟩))
    (fun os started H enc _ F => by rw [OpenClaim.pre_eq_preRow]; exact lifted os started H enc F)
theorem plain (f : FuncId) (fn : Func) (hf : Tryd.pinned.checked.prog.funcNamed "spyglass/spylaw2.PropNights" = some f) (hfn : Tryd.pinned.checked.prog.funcs[f]? = some fn) :
    true = Tryd.pinned.checked.prog.looks [] ∧ ∀ (j : Nat) t, fn.params[j]? = some t → Tryd.pinned.checked.prog.wantsStandIn t = false := by
  obtain rfl : f = 4 := Option.some.inj ((show Tryd.prog.funcNamed "spyglass/spylaw2.PropNights" = some 4 by kernel_rfl).symm.trans hf) |>.symm
  obtain rfl : fn = Tryd.f4 := (Option.some.inj (Tryd.func4.symm.trans hfn)).symm
  refine ⟨by kernel_rfl, fun j t ht => ?_⟩
  rw [Tryd.params4] at ht
  have hm : t ∈ [54] := by simpa using Array.mem_of_getElem? ht
  have hall : ([54].all fun u => !Tryd.prog.wantsStandIn u) = true := by kernel_rfl
  exact (show Tryd.prog.wantsStandIn t = false by simpa using List.all_eq_true.1 hall t hm)
/-- The card. -/
theorem card : Rows.PropNightsCardSaid :=
  Claim7.holds_tied_plain_at .later [] _ _ _ _ said (fun _ h => by cases h) (by kernel_rfl) (fun _ h => by cases h) propNights_row_tie rfl ⟨rfl, rfl⟩ (by kernel_rfl) rfl plain (by kernel_rfl)
end Go.Proofs.YtbnlpcmnkcaemaaDoor.propNights
namespace Go.Proofs.YtbnlpcmnkcaemaaDoor
/-- The statement. -/
theorem propNights_holds : Rows.PropNightsCardSaid := propNights.card
#print axioms propNights_holds
end Go.Proofs.YtbnlpcmnkcaemaaDoor

