/-
 Mounts out of streams; the fact of the laws on axes; the walks of SlewBrakes, SlewTimes and SlewTogether.
 Conditions: those of each theorem.
-/
import Derived.Test.YtmhhdedekblbnaaGreatQQG
import Derived.Test.YtmhhdedekblbnaaGreatQQH
import Derived.Test.YtmhhdedekblbnaaGreatQGO
set_option maxRecDepth 100000
set_option linter.unusedVariables false
set_option linter.unusedSimpArgs false
namespace Go.Proofs.YtmhhdedekblbnaaGreat.AtSl
open Go.RowKit Ev Wd
open Go.Proofs.YtmhhdedekblbnaaGreat
variable {F : Type}
noncomputable section

def moZ (l : List Int) (a : Int) : Ax := bif decide (nextV l (axAt l (axAt l a)) 3 > 0) then ⟨-6442450944, 6442450944, (axF l a).sp, (axF l a).ac⟩ else axF l a
def moL (l : List Int) (a : Int) : Ax := bif decide (nextV l (axAt l (axAt l a) + 1) 3 > 0) then ⟨-1073741824, 1073741824, (axF l (axAt l a)).sp, (axF l (axAt l a)).ac⟩ else axF l (axAt l a)
def moF (l : List Int) (a : Int) : Mo := ⟨moZ l a, moL l a, ⟨inV l (axAt l (axAt l a) + 1 + 1) (moZ l a), inV l (inAt l (axAt l (axAt l a) + 1 + 1)) (moL l a)⟩⟩
def moAt (l : List Int) (a : Int) : Int := inAt l (inAt l (axAt l (axAt l a) + 1 + 1))
theorem ov_ok {x : Ax} (h : axE x = 0) {y z : Int} (h1 : -17179869184 <= y) (h2 : y <= z) (h3 : z <= 17179869184) : axE ⟨y, z, x.sp, x.ac⟩ = 0 := by
 have := axE_ok.1 h
 unfold okA at this
 rw [axE_ok]; unfold okA
 exact ⟨⟨h1, h3, h2⟩, this.2⟩
theorem moF_ok (l : List Int) (a : Int) : moE (moF l a) = 0 /\ axE (moZ l a) = 0 /\ axE (moL l a) = 0 := by
 have h1 := (axF_ok l a).1
 have h2 := (axF_ok l (axAt l a)).1
 have z : axE (moZ l a) = 0 := by
   unfold moZ
   cases decide (nextV l (axAt l (axAt l a)) 3 > 0)
   · exact h1
   · exact ov_ok h1 (by omega) (by omega) (by omega)
 have y : axE (moL l a) = 0 := by
   unfold moL
   cases decide (nextV l (axAt l (axAt l a) + 1) 3 > 0)
   · exact h2
   · exact ov_ok h2 (by omega) (by omega) (by omega)
 refine ⟨mo_iff.2 ⟨z, y, inM_iff.2 ⟨inV_in l _ z, inV_in l _ y⟩⟩, z, y⟩
theorem moAt_in (l : List Int) (a : Int) : a + 16 <= moAt l a /\ moAt l a <= a + 28 := by
 have h1 := axAt_in l a
 have h2 := axAt_in l (axAt l a)
 have h3 := inAt_in l (axAt l (axAt l a) + 1 + 1)
 have h4 := inAt_in l (inAt l (axAt l (axAt l a) + 1 + 1))
 unfold moAt; omega
noncomputable abbrev libI0 : List (Nat × FnSp Empty) := [(75, STS), (76, TGS)]
theorem libI0_ok : LibOk Tryz.prog noFacts (lib1 libI0) := (lib1_cons (sp3_ok fun a x y _ => ⟨_, rfl, Ste_pl a x y⟩) Tryz.call75 (lib1_cons (sp3_ok fun a x y hc => ⟨_, rfl, Tar_pl a x y (ca1 hc)⟩) Tryz.call76 (lib1_nil _ _)))
theorem slf_111  : evR (ctxOf Tryz.prog noFacts (fun _ => false) libI0) Tryz.f35 [] [true, true, true] = some (AV.w (AW.one (AC.bool (TPv { mn := -4294967296, mx := 4294967296, sp := 16777216, ac := 16777216 } (-5) 4294967295 == -1))), (pickL [(i64B 4294967295, true), (SEv { mn := 0, mx := 1000000000, sp := 16777216, ac := 16777216 } 0 50331648 == 0, true), (SNv { mn := 0, mx := 1000000000, sp := 16777216, ac := 16777216 } 0 50331648 == 4, true), (TEv { mn := -4294967296, mx := 4294967296, sp := 16777216, ac := 16777216 } (-5) 4294967295 == 0, true)] [0, 1, 1, 1, 2, 2, 2, 3, 3, 3])) := by kernel_rfl
theorem slews_pl : Pl Tryz.prog 35 [] (.bool true) := fun w => by
 have k0 : (SEv { mn := 0, mx := 1000000000, sp := 16777216, ac := 16777216 } 0 50331648 == 0) = true := by decide +kernel
 have k1 : (SNv { mn := 0, mx := 1000000000, sp := 16777216, ac := 16777216 } 0 50331648 == 4) = true := by decide +kernel
 have k2 : (TEv { mn := -4294967296, mx := 4294967296, sp := 16777216, ac := 16777216 } (-5) 4294967295 == 0) = true := by decide +kernel
 have k3 : i64B 4294967295 = true := by decide
 have V : (TPv { mn := -4294967296, mx := 4294967296, sp := 16777216, ac := 16777216 } (-5) 4294967295 == -1) = true := by decide +kernel
 refine evR_calls (I := noFacts) (v := .bool true) (ctxOf_ok libI0_ok (eq_none _)) (by kernel_rfl) Tryz.func35 rfl lps_nil slf_111 rfl (all2_R .nil) (congrArg (fun b => some (Value.bool b)) V) w (Nat.zero_le _) (pickL_ok ?_ _)
 repeat' (first | exact cd_nil | refine cd_cons ?_ ?_)
 all_goals first | with_reducible rfl | with_reducible assumption
end
end Go.Proofs.YtmhhdedekblbnaaGreat.AtSl
