/-
  THE STATEMENT Rows.ScaleTextsCardSaid: ScaleTexts returns true for every input and leaves its arguments as they were; the tied card of that row.
  Conditions: none beyond the row's own (it lists tables of the library, which the card ties to the program's text; the walk does not lean on them). The walk of the law's text is in YtokkaeaciigapaaDoorDG; this text is the row's step and the card.
-/
import Derived.Test.YtokkaeaciigapaaDoorCards
import Derived.Test.YtokkaeaciigapaaDoorTie
import Derived.Test.YtokkaeaciigapaaDoorBase
import Derived.Test.YtokkaeaciigapaaDoorDG
import Derived.Test.YtokkaeaciigapaaDoorGO
import Derived.WalkKit
import Derived.ProofKit
import Derived.OpenShut
import Derived.Lib.SmallJoins
import Derived.Carry
import Derived.ChangeSlices
import Derived.Deep.DeepHandedRow
import Derived.Lib.LaidTab
import Derived.Stop.LaidErr
namespace Go.Proofs.YtokkaeaciigapaaDoor.scaleTexts
open Go.ChangeShapes Go.WideShapes Go.ChangeAt Go.RowKit Go.Joins Ev Wd
set_option linter.unusedVariables false

theorem own : ownKnob Tryd.prog.godebug = none := by kernel_rfl
theorem lay : laidOutB Tryd.prog = true := by kernel_rfl
theorem readable0 : Tryd.prog.readableRec 23 = true := by kernel_rfl
theorem shape0 : shapeOf Tryd.prog 8 23 = some [.k (some .i64), .k (some .i64), .k (some .i64), .k (some .i64), .k (some .i64), .k (some .i64), .k (some .i64)] := by kernel_rfl
theorem readable1 : Tryd.prog.readableRec 9 = true := by kernel_rfl
theorem shape1 : shapeOf Tryd.prog 8 9 = some [.str] := by kernel_rfl

set_option maxRecDepth 100000 in
/-- WHAT THE WALK GIVES, for every argument. -/
theorem contract (H : Type) (enc : TypeId × Value → H) (W : World) (base : Nat) (args : Array Value) (ds gs : List (DataW H)) (before : List MemPlace)
    (hval : ∀ (j : Nat) t v, Tryd.f3.params[j]? = some t → args[j]? = some v → Value.okWide Tryd.prog W .any base t v)
    (hW : DataW.Whole enc Tryd.prog Tryd.f3.params.toList Rows.scaleTextsSpec.vars false W args.toList ds gs before) (hL : laidMet Tryd.prog Rows.scaleTextsRow.laid W) :
    Calls Tryd.prog 3 args W fun e W' => ∃ v, e = .returned v ∧ Rows.scaleTextsSpec.post enc Tryd.prog Tryd.f3 false true false false W args v W' := by
  have hW' := hW
  obtain ⟨p, q, hA0, hV, rfl, hfz, hnd⟩ := hW
  have hA : DataW.TrodAll enc Tryd.prog W 0 (fun _ => true) true Tryd.f3.params.toList args.toList ds p := hA0
  rw [Tryd.params3] at hA hval
  obtain ⟨v0, vs0, d0, ds0, p0, q0, hargs, rfl, rfl, h0, r0⟩ := trodAll_cons hA
  obtain ⟨v1, vs1, d1, ds1, p1, q1, rfl, rfl, rfl, h1, r1⟩ := trodAll_cons r0
  obtain ⟨rfl, rfl, rfl⟩ := trodAll_nil r1
  obtain rfl : args = #[v0, v1] := by cases args; simp_all
  obtain ⟨rfl, rfl⟩ := trodVars_none hV
  have h0k := h0
  obtain ⟨g0, a0⟩ := arg_open shape0 (hval 0 23 v0 rfl rfl) h0
  obtain ⟨cs0, rfl, z0⟩ := okWide_struct Tryd.underlying23 (hval 0 23 v0 rfl rfl)
  obtain ⟨cs0⟩ := cs0
  replace a0 : All3 (CtR W) [.k (some .i64), .k (some .i64), .k (some .i64), .k (some .i64), .k (some .i64), .k (some .i64), .k (some .i64)] g0 cs0 := a0
  obtain ⟨g0_0, gs0_0, v0_0, cs0_0, rfl, rfl, k0_0, a0_0⟩ := all3_cons a0
  obtain ⟨x0_0, rfl, rfl, b0_0⟩ := ct_int k0_0
  obtain ⟨g0_1, gs0_1, v0_1, cs0_1, rfl, rfl, k0_1, a0_1⟩ := all3_cons a0_0
  obtain ⟨x0_1, rfl, rfl, b0_1⟩ := ct_int k0_1
  obtain ⟨g0_2, gs0_2, v0_2, cs0_2, rfl, rfl, k0_2, a0_2⟩ := all3_cons a0_1
  obtain ⟨x0_2, rfl, rfl, b0_2⟩ := ct_int k0_2
  obtain ⟨g0_3, gs0_3, v0_3, cs0_3, rfl, rfl, k0_3, a0_3⟩ := all3_cons a0_2
  obtain ⟨x0_3, rfl, rfl, b0_3⟩ := ct_int k0_3
  obtain ⟨g0_4, gs0_4, v0_4, cs0_4, rfl, rfl, k0_4, a0_4⟩ := all3_cons a0_3
  obtain ⟨x0_4, rfl, rfl, b0_4⟩ := ct_int k0_4
  obtain ⟨g0_5, gs0_5, v0_5, cs0_5, rfl, rfl, k0_5, a0_5⟩ := all3_cons a0_4
  obtain ⟨x0_5, rfl, rfl, b0_5⟩ := ct_int k0_5
  obtain ⟨g0_6, gs0_6, v0_6, cs0_6, rfl, rfl, k0_6, a0_6⟩ := all3_cons a0_5
  obtain ⟨x0_6, rfl, rfl, b0_6⟩ := ct_int k0_6
  obtain ⟨rfl, rfl⟩ := all3_nil a0_6
  have h1k := h1
  obtain ⟨g1, a1⟩ := arg_open shape1 (hval 1 9 v1 rfl rfl) h1
  rw [one_cell (hval 1 9 v1 rfl rfl) (by rw [Tryd.underlying9]; exact ⟨fun fs h => (by cases h), fun m e h => (by cases h)⟩)] at a1
  obtain ⟨g1_0, k1_0⟩ := all3_one a1
  obtain ⟨x1_0, rfl, rfl, b1_0⟩ := ct_str k1_0
  clear hA0
  simp only [List.append_nil] at hW'
  have hT : Lib.TabIs Tryd.prog W "internal/strconv.uint64pow10" .u64 Lib.pow10Tab := by
    have e : (Rows.laid_internal_strconv_uint64pow10 : DataW Unit) = Lib.tabData .u64 Lib.pow10Tab := by kernel_rfl
    have h := hL.tail.tail
    rw [e] at h
    exact Lib.tabIs_of_head (g := 2) (t := 109) (e := 79) (n := 20) (by kernel_rfl) (by kernel_rfl) (by kernel_rfl) (by kernel_rfl) (by kernel_rfl) (by kernel_rfl) h
  refine (AtSx.scaleTexts_flat W hT x0_0 b0_0 x0_1 b0_1 x0_2 b0_2 x0_3 b0_3 x0_4 b0_4 x0_5 b0_5 x0_6 b0_6 x1_0 b1_0).mono fun e W' ⟨he, hg⟩ => ?_
  subst he
  exact ⟨_, rfl, post_below (pv := []) hW' (fun _ _ _ => (trodAll_cons_mk (shut_bool Tryd.underlying4 _) trodAll_mk0)) (fun sp hsp => (by rw [Tryd.params3]; have := (trodAll_cons_mk (WideElems.Trod_stays lay readable0 (of_decide_eq_true (by kernel_rfl)) h0k (fun x hx => hg.same (hW'.lt x (by simp [hx]))) (fun x hx => hsp x (by simp [hx]))) (trodAll_cons_mk (WideElems.Trod_stays lay readable1 (of_decide_eq_true (by kernel_rfl)) h1k (fun x hx => hg.same (hW'.lt x (by simp [hx]))) (fun x hx => hsp x (by simp [hx]))) trodAll_mk0)); simp only [List.append_nil] at this; exact this)) (fun _ _ => rfl) (by simp)
      hg (ok_one (by kernel_rfl) rfl (okWide_bool_mk Tryd.underlying4 _))⟩

/-! A world for the witness: the settled one, the listed tables laid. -/
/-- So many blocks has the settled world. -/
noncomputable def low : Nat := (World.holding Tryd.prog default ⟨#[], #[], []⟩).heap.size
noncomputable def lay4 : Obj → Obj
  | .cells _ t frozen => .cells #[.int .u8 0, .int .u8 1, .int .u8 28, .int .u8 2, .int .u8 29, .int .u8 14, .int .u8 24, .int .u8 3, .int .u8 30, .int .u8 22, .int .u8 20, .int .u8 15, .int .u8 25, .int .u8 17, .int .u8 4, .int .u8 8, .int .u8 31, .int .u8 27, .int .u8 13, .int .u8 23, .int .u8 21, .int .u8 19, .int .u8 16, .int .u8 7, .int .u8 26, .int .u8 12, .int .u8 18, .int .u8 6, .int .u8 11, .int .u8 5, .int .u8 10, .int .u8 9] t frozen
  | o => o
noncomputable def lay5 : Obj → Obj
  | .cells _ t frozen => .cells #[.int .u8 0, .int .u8 1, .int .u8 56, .int .u8 2, .int .u8 57, .int .u8 49, .int .u8 28, .int .u8 3, .int .u8 61, .int .u8 58, .int .u8 42, .int .u8 50, .int .u8 38, .int .u8 29, .int .u8 17, .int .u8 4, .int .u8 62, .int .u8 47, .int .u8 59, .int .u8 36, .int .u8 45, .int .u8 43, .int .u8 51, .int .u8 22, .int .u8 53, .int .u8 39, .int .u8 33, .int .u8 30, .int .u8 24, .int .u8 18, .int .u8 12, .int .u8 5, .int .u8 63, .int .u8 55, .int .u8 48, .int .u8 27, .int .u8 60, .int .u8 41, .int .u8 37, .int .u8 16, .int .u8 46, .int .u8 35, .int .u8 44, .int .u8 21, .int .u8 52, .int .u8 32, .int .u8 23, .int .u8 11, .int .u8 54, .int .u8 26, .int .u8 40, .int .u8 15, .int .u8 34, .int .u8 20, .int .u8 31, .int .u8 10, .int .u8 25, .int .u8 14, .int .u8 19, .int .u8 9, .int .u8 13, .int .u8 8, .int .u8 7, .int .u8 6] t frozen
  | o => o
noncomputable def lay2 : Obj → Obj
  | .cells _ t frozen => .cells #[.int .u64 1, .int .u64 10, .int .u64 100, .int .u64 1000, .int .u64 10000, .int .u64 100000, .int .u64 1000000, .int .u64 10000000, .int .u64 100000000, .int .u64 1000000000, .int .u64 10000000000, .int .u64 100000000000, .int .u64 1000000000000, .int .u64 10000000000000, .int .u64 100000000000000, .int .u64 1000000000000000, .int .u64 10000000000000000, .int .u64 100000000000000000, .int .u64 1000000000000000000, .int .u64 10000000000000000000] t frozen
  | o => o
noncomputable def lay1 : Obj → Obj
  | .cells _ t frozen => .cells #[.iface 113 (.pointer (some ⟨low + 0, 0, none⟩))] t frozen
  | o => o
noncomputable def lay0 : Obj → Obj
  | .cells _ t frozen => .cells #[.iface 113 (.pointer (some ⟨low + 1, 0, none⟩))] t frozen
  | o => o
noncomputable def laidWorld (os : Os) : World :=
  { World.holding Tryd.prog os ⟨#[.cells #[.string ⟨#[118, 97, 108, 117, 101, 32, 111, 117, 116, 32, 111, 102, 32, 114, 97, 110, 103, 101]⟩] 115, .cells #[.string ⟨#[105, 110, 118, 97, 108, 105, 100, 32, 115, 121, 110, 116, 97, 120]⟩] 115], #[], []⟩ with heap := ((((((World.holding Tryd.prog os ⟨#[.cells #[.string ⟨#[118, 97, 108, 117, 101, 32, 111, 117, 116, 32, 111, 102, 32, 114, 97, 110, 103, 101]⟩] 115, .cells #[.string ⟨#[105, 110, 118, 97, 108, 105, 100, 32, 115, 121, 110, 116, 97, 120]⟩] 115], #[], []⟩).heap.modify 4 (lay4)).modify 5 (lay5)).modify 2 (lay2)).modify 1 (lay1)).modify 0 (lay0)) }
theorem laid_met (os : Os) : laidMet Tryd.prog Rows.scaleTextsRow.laid ((laidWorld os).forCall (fun _ _ => 0) ⟨#[], #[.agg #[.int .i64 0, .int .i64 0, .int .i64 0, .int .i64 0, .int .i64 0, .int .i64 0, .int .i64 0], .string ⟨#[]⟩], []⟩).memory :=
  laidMet_of_run' 8 (by kernel_rfl) (by kernel_rfl)
theorem reads (os : Os) {H : Type} (enc : TypeId × Value → H) : ∃ x, DataW.whole enc Tryd.prog ((laidWorld os).forCall (fun _ _ => 0) ⟨#[], #[.agg #[.int .i64 0, .int .i64 0, .int .i64 0, .int .i64 0, .int .i64 0, .int .i64 0, .int .i64 0], .string ⟨#[]⟩], []⟩).memory Tryd.f3.params.toList Rows.scaleTextsSpec.vars false (#[.agg #[.int .i64 0, .int .i64 0, .int .i64 0, .int .i64 0, .int .i64 0, .int .i64 0, .int .i64 0], .string ⟨#[]⟩] : Array Value).toList 8 = some x :=
  Option.isSome_iff_exists.1 (by kernel_rfl)
set_option maxRecDepth 100000 in
theorem lifted (os : Os) (started : os.Started) (H : Type) (enc : TypeId × Value → H) (F : Stop.Interp) :
    ReturnsInHanded {} Tryd.checked os 3 .any ((OpenSpec.ofChange Rows.scaleTextsSpec).preRow enc Tryd.prog Tryd.f3 Rows.scaleTextsRow.domain false Rows.scaleTextsRow.laid) (((OpenSpec.ofChange Rows.scaleTextsSpec).at F).post enc Tryd.prog Tryd.f3 false true false false) := by
  obtain ⟨x, hx⟩ := reads os enc
  refine returnsInHanded_of_row (C := Tryd.checked) (s := OpenSpec.ofChange Rows.scaleTextsSpec) own started (by kernel_rfl) Tryd.func3
    (witness_row_at (enc := enc) (C := Tryd.checked) false (laidWorld os) #[.agg #[.int .i64 0, .int .i64 0, .int .i64 0, .int .i64 0, .int .i64 0, .int .i64 0, .int .i64 0], .string ⟨#[]⟩] rfl (by kernel_rfl) (by kernel_rfl) (by kernel_rfl)
      (OpenSpec.preRow_of_cond 8 hx (by kernel_rfl) (fun k hk => by cases hk) (by kernel_rfl) (laid_met os))) ?_
  intro W base args ds gs before hval hW _ _ _ hL _ _
  exact contract H enc W base args ds gs before hval hW hL
theorem said : Rows.ScaleTextsSaid :=
  OpenClaim.holds_of_cond 3 Tryd.f3 rfl rfl rfl rfl rfl rfl rfl ⟨rfl, rfl, rfl, rfl, rfl⟩ rfl rfl rfl rfl rfl (by kernel_rfl) Tryd.func3 (by kernel_rfl)
    (of_decide_eq_true (by kernel_rfl)) (by unfold Func.isWrapper; first | (rw [if_pos (by decide +kernel)]; kernel_rfl) | (rw [if_neg (by decide +kernel)]; exact ⟨rfl, rfl⟩))
    (fun os started H enc _ F => by rw [OpenClaim.pre_eq_preRow]; exact lifted os started H enc F)
theorem plain (f : FuncId) (fn : Func) (hf : Tryd.pinned.checked.prog.funcNamed "spyglass/spylaw1.ScaleTexts" = some f) (hfn : Tryd.pinned.checked.prog.funcs[f]? = some fn) :
    true = Tryd.pinned.checked.prog.looks [] ∧ ∀ (j : Nat) t, fn.params[j]? = some t → Tryd.pinned.checked.prog.wantsStandIn t = false := by
  obtain rfl : f = 3 := Option.some.inj ((show Tryd.prog.funcNamed "spyglass/spylaw1.ScaleTexts" = some 3 by kernel_rfl).symm.trans hf) |>.symm
  obtain rfl : fn = Tryd.f3 := (Option.some.inj (Tryd.func3.symm.trans hfn)).symm
  refine ⟨by kernel_rfl, fun j t ht => ?_⟩
  rw [Tryd.params3] at ht
  have hm : t ∈ [23, 9] := by simpa using Array.mem_of_getElem? ht
  have hall : ([23, 9].all fun u => !Tryd.prog.wantsStandIn u) = true := by kernel_rfl
  exact (show Tryd.prog.wantsStandIn t = false by simpa using List.all_eq_true.1 hall t hm)
/-- The card. -/
theorem card : Rows.ScaleTextsCardSaid :=
  Claim7.holds_tied_plain_at .later [] _ _ _ _ said (fun _ h => by cases h) (by kernel_rfl) (fun _ h => by cases h) scaleTexts_row_tie rfl ⟨rfl, rfl⟩ (by kernel_rfl) rfl plain (by kernel_rfl)
end Go.Proofs.YtokkaeaciigapaaDoor.scaleTexts
namespace Go.Proofs.YtokkaeaciigapaaDoor
/-- The statement. -/
theorem scaleTexts_holds : Rows.ScaleTextsCardSaid := scaleTexts.card
#print axioms scaleTexts_holds
end Go.Proofs.YtokkaeaciigapaaDoor

