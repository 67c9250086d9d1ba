/-
  THE STATEMENT Rows.FracTermsSaid: FracTerms returns true for every input and leaves its arguments as they were.
  Conditions: none beyond the row's own. The walk of the law's text is in YtdhodjbomepfbaaFW; this text is the row's step.
-/
import Derived.Test.YtdhodjbomepfbaaRows
import Derived.Test.YtdhodjbomepfbaaBase
import Derived.Test.YtdhodjbomepfbaaFW
import Derived.WalkKit
import Derived.ProofKit
import Derived.OpenShut
import Derived.Lib.SmallJoins
import Derived.Carry
import Derived.ChangeSlices
namespace Go.Proofs.Ytdhodjbomepfbaa.fracTerms
open Go.ChangeShapes Go.WideShapes Go.ChangeAt Go.RowKit Go.Joins Ev Wd
set_option linter.unusedVariables false

theorem own : ownKnob Try.prog.godebug = none := by kernel_rfl
theorem laid : laidOutB Try.prog = true := by kernel_rfl
theorem readable : Try.prog.readableRec 77 = true := by kernel_rfl
theorem cellsInt : Try.prog.cellsOf 2 = 1 := by kernel_rfl
theorem cell_lt {w : World} {a : Addr} {v : Value} (h : w.cell? a = some v) : a.block < w.heap.size := by
  rcases Nat.lt_or_ge a.block w.heap.size with g | g
  · exact g
  · unfold World.cell? at h
    rw [Array.getElem?_eq_none g] at h; cases h

set_option maxRecDepth 100000 in
theorem lifted (os : Os) (started : os.Started) (H : Type) (enc : TypeId × Value → H) :
    ReturnsInHanded {} Try.checked os 9 .any (Rows.fracTermsSpec.pre6 enc Try.prog Try.f9 Rows.fracTermsRow.domain false) (Rows.fracTermsSpec.post enc Try.prog Try.f9 false true false false) := by
  refine returnsInHanded_of_change (C := Try.checked) own started (by kernel_rfl) Try.func9
    (ChangeSpec.witness6 (enc := enc) (C := Try.checked) false ⟨#[], #[.agg #[.int .i64 0, .int .i64 0], .slice none 0 0], []⟩ 8 (by kernel_rfl) (by kernel_rfl) (by kernel_rfl) (by kernel_rfl)) ?_
  intro W base args ds gs before hval0 hW hcnd _
  have hval : ∀ (j : Nat) t v, Try.f9.params[j]? = some t → args[j]? = some v → Value.okWide Try.prog W .any base t v := hval0
  have hW' := hW
  obtain ⟨p, q, hA0, hV, rfl, hfz, hnd⟩ := hW
  have hA : DataW.TrodAll enc Try.prog W 0 (fun _ => true) true Try.f9.params.toList args.toList ds p := hA0
  rw [Try.params9] at hA hval
  obtain ⟨v0, vs0, d0, ds0, p0, q0, hargs, rfl, rfl, h0, r0⟩ := trodAll_cons hA
  obtain ⟨v1, vs1, d1, ds1, p1, q1, rfl, rfl, rfl, h1, r1⟩ := trodAll_cons r0
  obtain ⟨rfl, rfl, rfl⟩ := trodAll_nil r1
  obtain rfl : args = #[v0, v1] := by cases args; simp_all
  obtain ⟨rfl, rfl⟩ := trodVars_none hV
  obtain ⟨c00, c01, y00, y01, m0, rfl, rfl, rfl, hy00, hy01⟩ := open_agg2 Try.underlying76 (by kernel_rfl) (show Try.prog.cellsOf 76 = 2 by kernel_rfl) (hval 0 76 v0 rfl rfl) h0
  obtain ⟨x00, e00, rfl, w00⟩ := DataW.trod_int Try.underlying2 hy00
  obtain ⟨x01, e01, rfl, w01⟩ := DataW.trod_int Try.underlying2 hy01
  simp at e00 e01
  subst e00 e01
  have b00 := w00
  have b01 := w01
  simp [Lit.wf, IntKind.min, IntKind.max, IntKind.signed, IntKind.bits] at b00 b01
  obtain ⟨a1, len, cap, rfl⟩ := okWide_slice Try.underlying77 (hval 1 77 v1 rfl rfl)
  have hspot : ∀ a, a1 = some a → a.spot = none := fun a ha => by
    subst ha
    have hk := hval 1 77 _ rfl rfl
    simp only [Value.okWide, Try.underlying77, Cell.okWide, Cell.ok] at hk
    exact hk.2.2.2.1
  have h1k := h1
  obtain ⟨fuel, hf⟩ := h1
  clear hA0 hval0
  simp only [List.append_nil, List.nil_append] at hW'
  rcases open_ints Try.underlying77 Try.underlying2 cellsInt hf with ⟨hcs, hx⟩ | ⟨a, len', cap', zs, hcs, _, hl, hm, hz, hx, hcell, hwz⟩
  · simp [Value.cells] at hcs
    obtain ⟨rfl, rfl, rfl⟩ := hcs
    simp only [Prod.mk.injEq] at hx
    obtain ⟨rfl, rfl⟩ := hx
    refine (fracTerms_law x00 x01 (by omega) (by omega) (by omega) (by omega) [] (by unfold lenI; simp) (.slice none 0 0) W (nil_row (fun _ _ => False) W)).mono fun e W' ⟨he, hg⟩ => ?_
    subst he
    exact ⟨_, rfl, post_below (pv := []) hW' (fun _ _ _ => (trodAll_cons_mk (shut_bool Try.underlying4 _) trodAll_mk0)) (fun sp hsp => (by rw [Try.params9]; exact trodAll_cons_mk (shut_agg2 (y0 := (.lit (.int .i64 x00), [])) (y1 := (.lit (.int .i64 x01), [])) Try.underlying76 (by kernel_rfl) (show Try.prog.cellsOf 76 = 2 by kernel_rfl) ⟨1, by simp [DataW.trod, (show Try.checked.prog.underlying 2 = some (.int .i64) from Try.underlying2), w00]⟩ ⟨1, by simp [DataW.trod, (show Try.checked.prog.underlying 2 = some (.int .i64) from Try.underlying2), w01]⟩) (trodAll_cons_mk (WideElems.Trod_stays laid readable (of_decide_eq_true (by kernel_rfl)) h1k (fun x hx => hg.same (hW'.lt x hx)) (fun x hx => hsp x hx)) trodAll_mk0))) (fun _ _ => rfl) (by simp)
      hg (ok_one (by kernel_rfl) rfl (okWide_bool_mk Try.underlying4 _))⟩
  · simp [Value.cells] at hcs
    obtain ⟨rfl, rfl, rfl⟩ := hcs
    simp only [Prod.mk.injEq] at hx
    obtain ⟨rfl, rfl⟩ := hx
    simp only [if_true] at hz
    have hlt : (zs.take len).length = len := by simp; omega
    have hh : rowHv (fun _ _ => False) W (.slice (some a) len cap) (zs.take len) := by
      refine ⟨some a, cap, by rw [hlt], by omega, hm, fun h => (by cases h), fun a' ha => ?_⟩
      cases ha
      have hsp := hspot a rfl
      refine ⟨by cases a; simp only at hsp; subst hsp; rfl, fun j hj => ⟨id, ?_⟩⟩
      have hc := hcell j (by omega)
      have e : (zs.take len).getD j 0 = zs.getD j 0 := by
        simp only [List.getD_eq_getElem?_getD]
        rw [List.getElem?_take, if_pos (by omega)]
      rw [e, ← hc]
      congr 1
      cases a
      simp only at hsp
      subst hsp
      unfold Addr.add
      split
      · rename_i h0; rw [h0]; rfl
      · rfl
    refine (fracTerms_law x00 x01 (by omega) (by omega) (by omega) (by omega) (zs.take len) (by unfold lenI; rw [hlt]; unfold maxLen at hm; omega) _ W hh).mono fun e W' ⟨he, hg⟩ => ?_
    subst he
    exact ⟨_, rfl, post_below (pv := []) hW' (fun _ _ _ => (trodAll_cons_mk (shut_bool Try.underlying4 _) trodAll_mk0)) (fun sp hsp => (by rw [Try.params9]; exact trodAll_cons_mk (shut_agg2 (y0 := (.lit (.int .i64 x00), [])) (y1 := (.lit (.int .i64 x01), [])) Try.underlying76 (by kernel_rfl) (show Try.prog.cellsOf 76 = 2 by kernel_rfl) ⟨1, by simp [DataW.trod, (show Try.checked.prog.underlying 2 = some (.int .i64) from Try.underlying2), w00]⟩ ⟨1, by simp [DataW.trod, (show Try.checked.prog.underlying 2 = some (.int .i64) from Try.underlying2), w01]⟩) (trodAll_cons_mk (WideElems.Trod_stays laid readable (of_decide_eq_true (by kernel_rfl)) h1k (fun x hx => hg.same (hW'.lt x hx)) (fun x hx => hsp x hx)) trodAll_mk0))) (fun _ _ => rfl) (by simp)
      hg (ok_one (by kernel_rfl) rfl (okWide_bool_mk Try.underlying4 _))⟩

theorem over : Rows.fracTermsRow.holds Try.pinned (OpenSpec.ofChange Rows.fracTermsSpec) :=
  OpenClaim.holds_of_wide 9 Try.f9 rfl rfl rfl rfl rfl rfl rfl ⟨rfl, rfl, rfl, rfl, rfl⟩ rfl rfl rfl rfl rfl (by kernel_rfl) Try.func9 (by kernel_rfl)
    (of_decide_eq_true (by kernel_rfl)) (by unfold Func.isWrapper; first | (rw [if_pos (by decide +kernel)]; kernel_rfl) | (rw [if_neg (by decide +kernel)]; exact ⟨rfl, rfl⟩))
    (fun os started H enc _ => lifted os started H enc)

end Go.Proofs.Ytdhodjbomepfbaa.fracTerms
namespace Go.Proofs.Ytdhodjbomepfbaa
/-- The statement. -/
theorem fracTerms_holds : Rows.FracTermsSaid := fracTerms.over
#print axioms fracTerms_holds
end Go.Proofs.Ytdhodjbomepfbaa

