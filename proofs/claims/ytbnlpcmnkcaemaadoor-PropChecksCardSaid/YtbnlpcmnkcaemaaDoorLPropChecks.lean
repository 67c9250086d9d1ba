/-
  THE STATEMENT Rows.PropChecksCardSaid: PropChecks returns true for every input and leaves its arguments as they were; the tied card of that row.
  Conditions: none beyond the row's own (it lists tables of the library, which the card ties to the program's text; the walk does not lean on them). The walk of the law's text is in YtbnlpcmnkcaemaaDoorPH; this text is the row's step and the card.
-/
import Derived.Test.YtbnlpcmnkcaemaaDoorCards
import Derived.Test.YtbnlpcmnkcaemaaDoorTie
import Derived.Test.YtbnlpcmnkcaemaaDoorBase
import Derived.Test.YtbnlpcmnkcaemaaDoorPH
import Derived.Test.YtbnlpcmnkcaemaaDoorGO
import Derived.WalkKit
import Derived.ProofKit
import Derived.OpenShut
import Derived.Lib.SmallJoins
import Derived.Carry
import Derived.ChangeSlices
import Derived.Deep.DeepHandedRow
import Derived.Lib.LaidTab
namespace Go.Proofs.YtbnlpcmnkcaemaaDoor.propChecks
open Go.ChangeShapes Go.WideShapes Go.ChangeAt Go.RowKit Go.Joins Ev Wd
set_option linter.unusedVariables false

theorem own : ownKnob Tryd.prog.godebug = none := by kernel_rfl
theorem lay : laidOutB Tryd.prog = true := by kernel_rfl
theorem readable0 : Tryd.prog.readableRec 25 = true := by kernel_rfl
theorem shape0 : shapeOf Tryd.prog 8 25 = some [.tab [some .i8, some .i64], .tab [some .i64, some .i64, some .i64, some .i64, some .i64, some .i64, some .i64, some .i64, some .i64, some .i64, some .i64, some .i64, some .i64]] := by kernel_rfl
theorem readable1 : Tryd.prog.readableRec 27 = true := by kernel_rfl
theorem shape1 : shapeOf Tryd.prog 8 27 = some [.str, .k (some .i64)] := by kernel_rfl
theorem readable2 : Tryd.prog.readableRec 32 = true := by kernel_rfl
theorem shape2 : shapeOf Tryd.prog 8 32 = some [.k (some .i64), .k (some .i64), .k (some .i64), .k (some .i64), .k (some .i64), .k (some .i64), .k (some .i64), .k (some .i64), .k (some .i64), .k (some .i64), .k (some .i64), .k (some .i64), .k (some .i64)] := by kernel_rfl
theorem readable3 : Tryd.prog.readableRec 3 = true := by kernel_rfl
theorem shape3 : shapeOf Tryd.prog 8 3 = some [.k (some .i64)] := by kernel_rfl

set_option maxRecDepth 100000 in
/-- WHAT THE WALK GIVES, for every argument. -/
theorem contract (H : Type) (enc : TypeId × Value → H) (W : World) (base : Nat) (args : Array Value) (ds gs : List (DataW H)) (before : List MemPlace)
    (hval : ∀ (j : Nat) t v, Tryd.f3.params[j]? = some t → args[j]? = some v → Value.okWide Tryd.prog W .any base t v)
    (hW : DataW.Whole enc Tryd.prog Tryd.f3.params.toList Rows.propChecksSpec.vars false W args.toList ds gs before) :
    Calls Tryd.prog 3 args W fun e W' => ∃ v, e = .returned v ∧ Rows.propChecksSpec.post enc Tryd.prog Tryd.f3 false true false false W args v W' := by
  have hW' := hW
  obtain ⟨p, q, hA0, hV, rfl, hfz, hnd⟩ := hW
  have hA : DataW.TrodAll enc Tryd.prog W 0 (fun _ => true) true Tryd.f3.params.toList args.toList ds p := hA0
  rw [Tryd.params3] at hA hval
  obtain ⟨v0, vs0, d0, ds0, p0, q0, hargs, rfl, rfl, h0, r0⟩ := trodAll_cons hA
  obtain ⟨v1, vs1, d1, ds1, p1, q1, rfl, rfl, rfl, h1, r1⟩ := trodAll_cons r0
  obtain ⟨v2, vs2, d2, ds2, p2, q2, rfl, rfl, rfl, h2, r2⟩ := trodAll_cons r1
  obtain ⟨v3, vs3, d3, ds3, p3, q3, rfl, rfl, rfl, h3, r3⟩ := trodAll_cons r2
  obtain ⟨rfl, rfl, rfl⟩ := trodAll_nil r3
  obtain rfl : args = #[v0, v1, v2, v3] := by cases args; simp_all
  obtain ⟨rfl, rfl⟩ := trodVars_none hV
  have h0k := h0
  obtain ⟨g0, a0⟩ := arg_open shape0 (hval 0 25 v0 rfl rfl) h0
  obtain ⟨cs0, rfl, z0⟩ := okWide_struct Tryd.underlying25 (hval 0 25 v0 rfl rfl)
  obtain ⟨cs0⟩ := cs0
  replace a0 : All3 (CtR W) [.tab [some .i8, some .i64], .tab [some .i64, some .i64, some .i64, some .i64, some .i64, some .i64, some .i64, some .i64, some .i64, some .i64, some .i64, some .i64, some .i64]] g0 cs0 := a0
  obtain ⟨g0_0, gs0_0, v0_0, cs0_0, rfl, rfl, k0_0, a0_0⟩ := all3_cons a0
  obtain ⟨x0_0, rfl, u0_0, b0_0⟩ := ct_tab k0_0
  obtain ⟨g0_1, gs0_1, v0_1, cs0_1, rfl, rfl, k0_1, a0_1⟩ := all3_cons a0_0
  obtain ⟨x0_1, rfl, u0_1, b0_1⟩ := ct_tab k0_1
  obtain ⟨rfl, rfl⟩ := all3_nil a0_1
  have h1k := h1
  obtain ⟨g1, a1⟩ := arg_open shape1 (hval 1 27 v1 rfl rfl) h1
  obtain ⟨cs1, rfl, z1⟩ := okWide_struct Tryd.underlying27 (hval 1 27 v1 rfl rfl)
  obtain ⟨cs1⟩ := cs1
  replace a1 : All3 (CtR W) [.str, .k (some .i64)] g1 cs1 := a1
  obtain ⟨g1_0, gs1_0, v1_0, cs1_0, rfl, rfl, k1_0, a1_0⟩ := all3_cons a1
  obtain ⟨x1_0, rfl, rfl, b1_0⟩ := ct_str k1_0
  obtain ⟨g1_1, gs1_1, v1_1, cs1_1, rfl, rfl, k1_1, a1_1⟩ := all3_cons a1_0
  obtain ⟨x1_1, rfl, rfl, b1_1⟩ := ct_int k1_1
  obtain ⟨rfl, rfl⟩ := all3_nil a1_1
  have h2k := h2
  obtain ⟨g2, a2⟩ := arg_open shape2 (hval 2 32 v2 rfl rfl) h2
  obtain ⟨cs2, rfl, z2⟩ := okWide_struct Tryd.underlying32 (hval 2 32 v2 rfl rfl)
  obtain ⟨cs2⟩ := cs2
  replace a2 : All3 (CtR W) [.k (some .i64), .k (some .i64), .k (some .i64), .k (some .i64), .k (some .i64), .k (some .i64), .k (some .i64), .k (some .i64), .k (some .i64), .k (some .i64), .k (some .i64), .k (some .i64), .k (some .i64)] g2 cs2 := a2
  obtain ⟨g2_0, gs2_0, v2_0, cs2_0, rfl, rfl, k2_0, a2_0⟩ := all3_cons a2
  obtain ⟨x2_0, rfl, rfl, b2_0⟩ := ct_int k2_0
  obtain ⟨g2_1, gs2_1, v2_1, cs2_1, rfl, rfl, k2_1, a2_1⟩ := all3_cons a2_0
  obtain ⟨x2_1, rfl, rfl, b2_1⟩ := ct_int k2_1
  obtain ⟨g2_2, gs2_2, v2_2, cs2_2, rfl, rfl, k2_2, a2_2⟩ := all3_cons a2_1
  obtain ⟨x2_2, rfl, rfl, b2_2⟩ := ct_int k2_2
  obtain ⟨g2_3, gs2_3, v2_3, cs2_3, rfl, rfl, k2_3, a2_3⟩ := all3_cons a2_2
  obtain ⟨x2_3, rfl, rfl, b2_3⟩ := ct_int k2_3
  obtain ⟨g2_4, gs2_4, v2_4, cs2_4, rfl, rfl, k2_4, a2_4⟩ := all3_cons a2_3
  obtain ⟨x2_4, rfl, rfl, b2_4⟩ := ct_int k2_4
  obtain ⟨g2_5, gs2_5, v2_5, cs2_5, rfl, rfl, k2_5, a2_5⟩ := all3_cons a2_4
  obtain ⟨x2_5, rfl, rfl, b2_5⟩ := ct_int k2_5
  obtain ⟨g2_6, gs2_6, v2_6, cs2_6, rfl, rfl, k2_6, a2_6⟩ := all3_cons a2_5
  obtain ⟨x2_6, rfl, rfl, b2_6⟩ := ct_int k2_6
  obtain ⟨g2_7, gs2_7, v2_7, cs2_7, rfl, rfl, k2_7, a2_7⟩ := all3_cons a2_6
  obtain ⟨x2_7, rfl, rfl, b2_7⟩ := ct_int k2_7
  obtain ⟨g2_8, gs2_8, v2_8, cs2_8, rfl, rfl, k2_8, a2_8⟩ := all3_cons a2_7
  obtain ⟨x2_8, rfl, rfl, b2_8⟩ := ct_int k2_8
  obtain ⟨g2_9, gs2_9, v2_9, cs2_9, rfl, rfl, k2_9, a2_9⟩ := all3_cons a2_8
  obtain ⟨x2_9, rfl, rfl, b2_9⟩ := ct_int k2_9
  obtain ⟨g2_10, gs2_10, v2_10, cs2_10, rfl, rfl, k2_10, a2_10⟩ := all3_cons a2_9
  obtain ⟨x2_10, rfl, rfl, b2_10⟩ := ct_int k2_10
  obtain ⟨g2_11, gs2_11, v2_11, cs2_11, rfl, rfl, k2_11, a2_11⟩ := all3_cons a2_10
  obtain ⟨x2_11, rfl, rfl, b2_11⟩ := ct_int k2_11
  obtain ⟨g2_12, gs2_12, v2_12, cs2_12, rfl, rfl, k2_12, a2_12⟩ := all3_cons a2_11
  obtain ⟨x2_12, rfl, rfl, b2_12⟩ := ct_int k2_12
  obtain ⟨rfl, rfl⟩ := all3_nil a2_12
  have h3k := h3
  obtain ⟨g3, a3⟩ := arg_open shape3 (hval 3 3 v3 rfl rfl) h3
  rw [one_cell (hval 3 3 v3 rfl rfl) (by rw [Tryd.underlying3]; exact ⟨fun fs h => (by cases h), fun m e h => (by cases h)⟩)] at a3
  obtain ⟨g3_0, k3_0⟩ := all3_one a3
  obtain ⟨x3_0, rfl, rfl, b3_0⟩ := ct_int k3_0
  clear hA0
  simp only [List.append_nil] at hW'
  refine (AtPr.propChecks_law W x0_0 _ u0_0 b0_0 x0_1 _ u0_1 b0_1 x1_0 b1_0 x1_1 b1_1 x2_0 b2_0 x2_1 b2_1 x2_2 b2_2 x2_3 b2_3 x2_4 b2_4 x2_5 b2_5 x2_6 b2_6 x2_7 b2_7 x2_8 b2_8 x2_9 b2_9 x2_10 b2_10 x2_11 b2_11 x2_12 b2_12 x3_0 b3_0).mono fun e W' ⟨he, hg⟩ => ?_
  subst he
  exact ⟨_, rfl, post_below (pv := []) hW' (fun _ _ _ => (trodAll_cons_mk (shut_bool Tryd.underlying4 _) trodAll_mk0)) (fun sp hsp => (by rw [Tryd.params3]; have := (trodAll_cons_mk (WideElems.Trod_stays lay readable0 (of_decide_eq_true (by kernel_rfl)) h0k (fun x hx => hg.same (hW'.lt x (by simp [hx]))) (fun x hx => hsp x (by simp [hx]))) (trodAll_cons_mk (WideElems.Trod_stays lay readable1 (of_decide_eq_true (by kernel_rfl)) h1k (fun x hx => hg.same (hW'.lt x (by simp [hx]))) (fun x hx => hsp x (by simp [hx]))) (trodAll_cons_mk (WideElems.Trod_stays lay readable2 (of_decide_eq_true (by kernel_rfl)) h2k (fun x hx => hg.same (hW'.lt x (by simp [hx]))) (fun x hx => hsp x (by simp [hx]))) (trodAll_cons_mk (WideElems.Trod_stays lay readable3 (of_decide_eq_true (by kernel_rfl)) h3k (fun x hx => hg.same (hW'.lt x (by simp [hx]))) (fun x hx => hsp x (by simp [hx]))) trodAll_mk0)))); simp only [List.append_nil] at this; exact this)) (fun _ _ => rfl) (by simp)
      hg (ok_one (by kernel_rfl) rfl (okWide_bool_mk Tryd.underlying4 _))⟩

/-! A world for the witness: the settled one, the listed tables laid. -/
def lay4 : Obj → Obj
  | .cells _ t frozen => .cells #[.int .u8 0, .int .u8 1, .int .u8 28, .int .u8 2, .int .u8 29, .int .u8 14, .int .u8 24, .int .u8 3, .int .u8 30, .int .u8 22, .int .u8 20, .int .u8 15, .int .u8 25, .int .u8 17, .int .u8 4, .int .u8 8, .int .u8 31, .int .u8 27, .int .u8 13, .int .u8 23, .int .u8 21, .int .u8 19, .int .u8 16, .int .u8 7, .int .u8 26, .int .u8 12, .int .u8 18, .int .u8 6, .int .u8 11, .int .u8 5, .int .u8 10, .int .u8 9] t frozen
  | o => o
def lay5 : Obj → Obj
  | .cells _ t frozen => .cells #[.int .u8 0, .int .u8 1, .int .u8 56, .int .u8 2, .int .u8 57, .int .u8 49, .int .u8 28, .int .u8 3, .int .u8 61, .int .u8 58, .int .u8 42, .int .u8 50, .int .u8 38, .int .u8 29, .int .u8 17, .int .u8 4, .int .u8 62, .int .u8 47, .int .u8 59, .int .u8 36, .int .u8 45, .int .u8 43, .int .u8 51, .int .u8 22, .int .u8 53, .int .u8 39, .int .u8 33, .int .u8 30, .int .u8 24, .int .u8 18, .int .u8 12, .int .u8 5, .int .u8 63, .int .u8 55, .int .u8 48, .int .u8 27, .int .u8 60, .int .u8 41, .int .u8 37, .int .u8 16, .int .u8 46, .int .u8 35, .int .u8 44, .int .u8 21, .int .u8 52, .int .u8 32, .int .u8 23, .int .u8 11, .int .u8 54, .int .u8 26, .int .u8 40, .int .u8 15, .int .u8 34, .int .u8 20, .int .u8 31, .int .u8 10, .int .u8 25, .int .u8 14, .int .u8 19, .int .u8 9, .int .u8 13, .int .u8 8, .int .u8 7, .int .u8 6] t frozen
  | o => o
def lay2 : Obj → Obj
  | .cells _ t frozen => .cells #[.int .u64 1, .int .u64 10, .int .u64 100, .int .u64 1000, .int .u64 10000, .int .u64 100000, .int .u64 1000000, .int .u64 10000000, .int .u64 100000000, .int .u64 1000000000, .int .u64 10000000000, .int .u64 100000000000, .int .u64 1000000000000, .int .u64 10000000000000, .int .u64 100000000000000, .int .u64 1000000000000000, .int .u64 10000000000000000, .int .u64 100000000000000000, .int .u64 1000000000000000000, .int .u64 10000000000000000000] t frozen
  | o => o
noncomputable def laidWorld (os : Os) : World :=
  { World.holding Tryd.prog os ⟨#[], #[], []⟩ with heap := ((((World.holding Tryd.prog os ⟨#[], #[], []⟩).heap.modify 4 (lay4)).modify 5 (lay5)).modify 2 (lay2)) }
theorem laid_met (os : Os) : laidMet Tryd.prog Rows.propChecksRow.laid ((laidWorld os).forCall (fun _ _ => 0) ⟨#[], #[.agg #[.slice none 0 0, .slice none 0 0], .agg #[.string ⟨#[]⟩, .int .i64 0], .agg #[.int .i64 0, .int .i64 0, .int .i64 0, .int .i64 0, .int .i64 0, .int .i64 0, .int .i64 0, .int .i64 0, .int .i64 0, .int .i64 0, .int .i64 0, .int .i64 0, .int .i64 0], .int .i64 0], []⟩).memory :=
  laidMet_of_run' 8 (by kernel_rfl) (by kernel_rfl)
theorem reads (os : Os) {H : Type} (enc : TypeId × Value → H) : ∃ x, DataW.whole enc Tryd.prog ((laidWorld os).forCall (fun _ _ => 0) ⟨#[], #[.agg #[.slice none 0 0, .slice none 0 0], .agg #[.string ⟨#[]⟩, .int .i64 0], .agg #[.int .i64 0, .int .i64 0, .int .i64 0, .int .i64 0, .int .i64 0, .int .i64 0, .int .i64 0, .int .i64 0, .int .i64 0, .int .i64 0, .int .i64 0, .int .i64 0, .int .i64 0], .int .i64 0], []⟩).memory Tryd.f3.params.toList Rows.propChecksSpec.vars false (#[.agg #[.slice none 0 0, .slice none 0 0], .agg #[.string ⟨#[]⟩, .int .i64 0], .agg #[.int .i64 0, .int .i64 0, .int .i64 0, .int .i64 0, .int .i64 0, .int .i64 0, .int .i64 0, .int .i64 0, .int .i64 0, .int .i64 0, .int .i64 0, .int .i64 0, .int .i64 0], .int .i64 0] : Array Value).toList 8 = some x :=
  Option.isSome_iff_exists.1 (by kernel_rfl)
set_option maxRecDepth 100000 in
theorem lifted (os : Os) (started : os.Started) (H : Type) (enc : TypeId × Value → H) (F : Stop.Interp) :
    ReturnsInHanded {} Tryd.checked os 3 .any ((OpenSpec.ofChange Rows.propChecksSpec).preRow enc Tryd.prog Tryd.f3 Rows.propChecksRow.domain false Rows.propChecksRow.laid) (((OpenSpec.ofChange Rows.propChecksSpec).at F).post enc Tryd.prog Tryd.f3 false true false false) := by
  obtain ⟨x, hx⟩ := reads os enc
  refine returnsInHanded_of_row (C := Tryd.checked) (s := OpenSpec.ofChange Rows.propChecksSpec) own started (by kernel_rfl) Tryd.func3
    (witness_row_at (enc := enc) (C := Tryd.checked) false (laidWorld os) #[.agg #[.slice none 0 0, .slice none 0 0], .agg #[.string ⟨#[]⟩, .int .i64 0], .agg #[.int .i64 0, .int .i64 0, .int .i64 0, .int .i64 0, .int .i64 0, .int .i64 0, .int .i64 0, .int .i64 0, .int .i64 0, .int .i64 0, .int .i64 0, .int .i64 0, .int .i64 0], .int .i64 0] rfl (by kernel_rfl) (by kernel_rfl) (by kernel_rfl)
      (OpenSpec.preRow_of_cond 8 hx (by kernel_rfl) (fun k hk => by cases hk) (by kernel_rfl) (laid_met os))) ?_
  intro W base args ds gs before hval hW _ _ _ hL _ _
  exact contract H enc W base args ds gs before hval hW
theorem said : Rows.PropChecksSaid :=
  OpenClaim.holds_of_cond 3 Tryd.f3 rfl rfl rfl rfl rfl rfl rfl ⟨rfl, rfl, rfl, rfl, rfl⟩ rfl rfl rfl rfl rfl (by kernel_rfl) Tryd.func3 (by kernel_rfl)
    (of_decide_eq_true (by kernel_rfl)) (by unfold Func.isWrapper; first | (rw [if_pos (by decide +kernel)]; kernel_rfl) | (rw [if_neg (by decide +kernel)]; exact ⟨rfl, rfl⟩))
    (fun os started H enc _ F => by rw [OpenClaim.pre_eq_preRow]; exact lifted os started H enc F)
theorem plain (f : FuncId) (fn : Func) (hf : Tryd.pinned.checked.prog.funcNamed "spyglass/spylaw2.PropChecks" = some f) (hfn : Tryd.pinned.checked.prog.funcs[f]? = some fn) :
    true = Tryd.pinned.checked.prog.looks [] ∧ ∀ (j : Nat) t, fn.params[j]? = some t → Tryd.pinned.checked.prog.wantsStandIn t = false := by
  obtain rfl : f = 3 := Option.some.inj ((show Tryd.prog.funcNamed "spyglass/spylaw2.PropChecks" = some 3 by kernel_rfl).symm.trans hf) |>.symm
  obtain rfl : fn = Tryd.f3 := (Option.some.inj (Tryd.func3.symm.trans hfn)).symm
  refine ⟨by kernel_rfl, fun j t ht => ?_⟩
  rw [Tryd.params3] at ht
  have hm : t ∈ [25, 27, 32, 3] := by simpa using Array.mem_of_getElem? ht
  have hall : ([25, 27, 32, 3].all fun u => !Tryd.prog.wantsStandIn u) = true := by kernel_rfl
  exact (show Tryd.prog.wantsStandIn t = false by simpa using List.all_eq_true.1 hall t hm)
/-- The card. -/
theorem card : Rows.PropChecksCardSaid :=
  Claim7.holds_tied_plain_at .later [] _ _ _ _ said (fun _ h => by cases h) (by kernel_rfl) (fun _ h => by cases h) propChecks_row_tie rfl ⟨rfl, rfl⟩ (by kernel_rfl) rfl plain (by kernel_rfl)
end Go.Proofs.YtbnlpcmnkcaemaaDoor.propChecks
namespace Go.Proofs.YtbnlpcmnkcaemaaDoor
/-- The statement. -/
theorem propChecks_holds : Rows.PropChecksCardSaid := propChecks.card
#print axioms propChecks_holds
end Go.Proofs.YtbnlpcmnkcaemaaDoor

