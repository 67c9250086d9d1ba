/-
  The closure within the reference's Reached: the angle at a time, by the rotation's block.
  Conditions: those of each theorem.
-/
import Derived.Test.YtoaoifiklnbknaaE4
import Derived.Test.YtoaoifiklnbknaaLC
set_option linter.unusedVariables false
set_option linter.unusedSimpArgs false
namespace Go.Proofs.Ytoaoifiklnbknaa.AtRt
open Ev Go.RowKit Go.Shelf Zd Wd
open Go.Proofs.Ytoaoifiklnbknaa
noncomputable section

def rcells (r : Rt) : List (AC Nm) := [.int .i64 r.t, .int .i64 r.a, .int .i64 r.n, .int .i64 r.d]
def gF : List (AV Nm) → List (AC Nm) → Option (AV Nm × List (Bool × Bool))
  | [.w (.one (.int .i64 x))], [.int .i64 t, .int .i64 a, .int .i64 n, .int .i64 d] => some (nmA (wA ⟨t, a, n, d⟩ x), [(okR ⟨t, a, n, d⟩, true), (i64B x, true)])
  | _, _ => none
noncomputable abbrev libG3 : List (Nat × FnSp Nm) := [(71, factSp gTurned), (17, nfn nI), (48, nfn nTimes), (31, nfn nLess), (30, nfn nPlus), (90, nfn nFloor), (91, nfn nCeil), (15, nfn nCmp), (142, nfn nGcd)]
theorem libG3_ok : LibOk Try.prog numI (lib1 libG3) := (lib1_cons gTurned_ok Try.call71 (lib1_cons nI_ok Try.call17 (lib1_cons nTimes_ok Try.call48 (lib1_cons nLess_ok Try.call31 (lib1_cons nPlus_ok Try.call30 (lib1_cons nFloor_ok Try.call90 (lib1_cons nCeil_ok Try.call91 (lib1_cons nCmp_ok Try.call15 (lib1_cons nGcd_ok Try.call142 (lib1_nil _ _))))))))))
set_option maxRecDepth 100000 in
theorem rfL_ (r : Rt) (x : Int) : evCap (ctxOf Try.prog numI (fun _ => false) libG3) Try.f129 [(.w (.one (.int .i64 x)))] 95 (rcells r) [] = some (AV.tup [AW.agg [AC.bool (decide (tnV r x false + r.a < 0)), AC.fv (Nm.num (tnV r x false + r.a))], AW.agg [AC.int IntKind.i64 r.t, AC.int IntKind.i64 r.a, AC.int IntKind.i64 r.n, AC.int IntKind.i64 r.d]], (pickL [(i64B x, true), (decide (x < 0) == decide (x < 0), true), (okR r, true), (i64B r.a, true), (decide (tnV r x false < 0) == decide (tnV r x false < 0), true), (decide (r.a < 0) == decide (r.a < 0), true), (szB (tnV r x false), true), (szB r.a, true)] [0, 1, 2, 0, 3, 4, 5, 6, 7])) := by kernel_rfl
theorem gF_ok : (capSp 95 gF).ok Try.prog numI 129 :=
  capSp_ok (ctxOf_ok libG3_ok (eq_none _)) (by kernel_rfl) Try.func129 rfl lps_nil fun args cs v cd hg hc => by
    unfold gF at hg
    split at hg
    · rename_i x t a n d
      cases hg
      have ho : okR ⟨t, a, n, d⟩ = true := hc (okR ⟨t, a, n, d⟩, true) (by simp)
      have hz : i64B x = true := hc (i64B x, true) (by simp)
      obtain ⟨it, ia, ii, d0, id'⟩ := okR_iff.1 ho
      simp only at it ia ii d0 id'
      have e1 := Dl.i64 it
      have e2 := Dl.i64 ii
      have e3 := Dl.i64 id'
      have e4 := Dl.i64 hz
      have e5 := Dl.i64 ia
      have e6 : Dl 14 (tnV ⟨t, a, n, d⟩ x false) := ((e4.sub' e1).mul e2).div
      refine ⟨rfl, rfl, rfl, [], _, _, rfL_ ⟨t, a, n, d⟩ x, fun E u hu => ?_, pickL_ok ?_ _⟩
      · have e : wA ⟨t, a, n, d⟩ x = tnV ⟨t, a, n, d⟩ x false + a := by unfold wA tnV; simp only [cond_false]; omega
        rw [e]; exact hu
      · repeat' (first | exact cd_nil | refine cd_cons ?_ ?_)
        all_goals first | with_reducible assumption | rfl | exact eqB _ | (apply Dl.sz; (repeat' (first | with_reducible assumption)); omega)
    · cases hg
end
end Go.Proofs.Ytoaoifiklnbknaa.AtRt

