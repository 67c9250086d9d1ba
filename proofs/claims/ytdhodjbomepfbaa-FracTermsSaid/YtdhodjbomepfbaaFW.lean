/-
  The walk of spylaw1.FracTerms: it returns true, for all numbers and all terms.
  Conditions: those of each theorem.
-/
import Derived.Test.YtdhodjbomepfbaaCV
set_option linter.unusedVariables false
set_option linter.unusedSimpArgs false
namespace Go.Proofs.Ytdhodjbomepfbaa
open Go.RowKit Go.Shelf Ev Zd Wd

def w200 (l : List Int) : Int := bif false then if 200 > lenI l then 200 else lenI l else if 200 < lenI l then 200 else lenI l
def t200 (l : List Int) : List Int := List.drop (Int.toNat 0) (List.take (w200 l).toNat l)
abbrev libW : List (Nat × FnSp Nm) := [(62, sp0 (.w (.one (.yes true)))), (61, factSp gTerms), (63, factSp gEq), (64, factSp gFrom), (58, sp1 dFr (fun x => aInt .i64 (chkV x.n x.d)) okF), (18, nfn nI), (65, nfn nLow)]
abbrev wLps : Lps Nm := [((189, [false, true, false, true, false, true, true]), ftD.sp nmSafe), ((189, [false, true, false, true, true, true, true, true, true, true, true]), bdD.sp nmSafe), ((189, [false, true, false, true, true, true, true, true, true, true, true, true, true, true, true]), cvD.sp nmSafe)]
theorem libW_ok : LibOk Try.prog rowI (lib1 libW) := (lib1_cons (sp0_ok rfl fracs_any) Try.call62 (lib1_cons (gTerms_ok) Try.call61 (lib1_cons (gEq_ok) Try.call63 (lib1_cons (gFrom_ok) Try.call64 (lib1_cons (sp1_ok fun x hc => ⟨_, rfl, fracErr_any x.n x.d (okF_i hc).1.1 (okF_i hc).1.2 (okF_i hc).2.1 (okF_i hc).2.2⟩) Try.call58 (lib1_cons (nI_ok.rows) Try.call18 (lib1_cons (nLow_ok.rows) Try.call65 (lib1_nil _ _))))))))
set_option maxRecDepth 100000 in
theorem fw_1001011 (n : Int) (d : Int) (l : List Int) : evR (ctxLp Try.prog rowI eqsF libW [] wLps) Try.f9 [(.w (frA n d)), (.w (.one (.fv (.row l))))] [true, false, false, true, false, true, true] = some (AV.w (AW.one (AC.bool (fmA l == 0 && (fmB l == 0 && true)))), (pickL [(i64B n, true), (i64B d, true), (chkV n d == 0, true), (TS.ok ⟨n, d, [], 0, 0, decide (n < 0), decide (d < 0)⟩ && decide (0 + (cf n d.toNat).length ≤ 1000), true), (!true, false), (chkV n d != chkV n d, false), (decide (lenI (tmsV n d) ≤ 9223372036854775807), true), (!decide (tmsV n d = [] ++ cf n d.toNat), false), (decide (lenI l ≤ 9223372036854775807), true), (lenI l == 0, true), (okC l (lenI l) 0 && decide ((0 : Int) = 0), true), (bdO l 0 8 == 0, false), (false, false), (bdO l 0 8 != 0, true), (fmE l == bdO l 0 8, true)] [0, 1, 2, 0, 1, 3, 0, 1, 4, 4, 4, 0, 1, 4, 4, 5, 5, 5, 6, 5, 5, 7, 8, 9, 10, 11, 11, 11, 12, 12, 12, 12, 12, 12, 12, 12, 13, 14, 14, 14, 14])) := by kernel_rfl
set_option maxRecDepth 100000 in
theorem fw_1000011 (n : Int) (d : Int) (l : List Int) : evR (ctxLp Try.prog rowI eqsF libW [] wLps) Try.f9 [(.w (frA n d)), (.w (.one (.fv (.row l))))] [true, false, false, false, false, true, true] = some (AV.w (AW.one (AC.bool (fmA l == 0 && (fmB l == 0 && true)))), (pickL [(i64B n, true), (i64B d, true), (chkV n d == 0, true), (TS.ok ⟨n, d, [], 0, 0, decide (n < 0), decide (d < 0)⟩ && decide (0 + (cf n d.toNat).length ≤ 1000), true), (!true, false), (chkV n d != chkV n d, false), (decide (lenI (tmsV n d) ≤ 9223372036854775807), true), (!decide (tmsV n d = [] ++ cf n d.toNat), false), (decide (lenI l ≤ 9223372036854775807), true), (lenI l == 0, false), (okC l (lenI l) 0 && decide ((0 : Int) = 0), true), (bdO l 0 0 == 0, false), (false, false), (bdO l 0 0 != 0, true), (fmE l == bdO l 0 0, true)] [0, 1, 2, 0, 1, 3, 0, 1, 4, 4, 4, 0, 1, 4, 4, 5, 5, 5, 6, 5, 5, 7, 8, 9, 10, 11, 11, 11, 12, 12, 12, 12, 12, 12, 12, 12, 13, 14, 14, 14, 14])) := by kernel_rfl
set_option maxRecDepth 100000 in
theorem fw_100011111 (n : Int) (d : Int) (l : List Int) : evR (ctxLp Try.prog rowI eqsF libW [] wLps) Try.f9 [(.w (frA n d)), (.w (.one (.fv (.row l))))] [true, false, false, false, true, true, true, true, true] = some (AV.w (AW.one (AC.bool (fmA l == 0 && (fmB l == 0 && true)))), (pickL [(i64B n, true), (i64B d, true), (chkV n d == 0, true), (TS.ok ⟨n, d, [], 0, 0, decide (n < 0), decide (d < 0)⟩ && decide (0 + (cf n d.toNat).length ≤ 1000), true), (!true, false), (chkV n d != chkV n d, false), (decide (lenI (tmsV n d) ≤ 9223372036854775807), true), (!decide (tmsV n d = [] ++ cf n d.toNat), false), (decide (lenI l ≤ 9223372036854775807), true), (lenI l == 0, false), (okC l (lenI l) 0 && decide ((0 : Int) = 0), true), (bdO l 0 0 == 0, true), (decide (lenI l > 1), true), (decide (0 ≤ IntKind.i64.wrap (lenI l - 1)), true), (decide (IntKind.i64.wrap (lenI l - 1) < lenI l), true), (getI l (IntKind.i64.wrap (lenI l - 1)) == 1, true), ((3 : Int) != 0, true), (fmE l == 3, true)] [0, 1, 2, 0, 1, 3, 0, 1, 4, 4, 4, 0, 1, 4, 4, 5, 5, 5, 6, 5, 5, 7, 8, 9, 10, 11, 11, 11, 12, 12, 12, 12, 13, 14, 12, 13, 14, 12, 12, 15, 16, 17, 17, 17, 17])) := by kernel_rfl
set_option maxRecDepth 100000 in
theorem fw_1000110001 (n : Int) (d : Int) (l : List Int) : evR (ctxLp Try.prog rowI eqsF libW [] wLps) Try.f9 [(.w (frA n d)), (.w (.one (.fv (.row l))))] [true, false, false, false, true, true, false, false, false, true] = some (AV.w (AW.one (AC.bool (fmE l == lowE (cvF (t200 l) 0 1).snd (cvF (t200 l) 1 0).snd))), (pickL [(i64B n, true), (i64B d, true), (chkV n d == 0, true), (TS.ok ⟨n, d, [], 0, 0, decide (n < 0), decide (d < 0)⟩ && decide (0 + (cf n d.toNat).length ≤ 1000), true), (!true, false), (chkV n d != chkV n d, false), (decide (lenI (tmsV n d) ≤ 9223372036854775807), true), (!decide (tmsV n d = [] ++ cf n d.toNat), false), (decide (lenI l ≤ 9223372036854775807), true), (lenI l == 0, false), (okC l (lenI l) 0 && decide ((0 : Int) = 0), true), (bdO l 0 0 == 0, true), (decide (lenI l > 1), true), (decide (0 ≤ IntKind.i64.wrap (lenI l - 1)), true), (decide (IntKind.i64.wrap (lenI l - 1) < lenI l), true), (getI l (IntKind.i64.wrap (lenI l - 1)) == 1, false), (bdO l 0 0 != 0, false), (i64B 1, true), (decide ((0 : Int) ≤ 0), true), (decide (0 ≤ w200 l), true), (decide ((w200 l) ≤ lenI l), true), (decide (lenI (t200 l) = 1), false), (CV.start ⟨Ph.a, t200 l, lenI (t200 l), 0, 0, 1, 1, 0, false, decide ((1 : Int) < 0), decide ((1 : Int) < 0), false⟩, true), (decide ((0 : Int) ≤ 1), true), (decide (1 < ((2 : Nat) : Int)), true), (decide ((cvF (t200 l) 0 1).snd < 0) == decide ((cvF (t200 l) 0 1).snd < 0), true), (decide ((cvF (t200 l) 1 0).snd < 0) == decide ((cvF (t200 l) 1 0).snd < 0), true), (szB (cvF (t200 l) 0 1).snd, true), (szB (cvF (t200 l) 1 0).snd, true), (decide ((cvF (t200 l) 1 0).snd = 0), false), (fmA l == lowA (cvF (t200 l) 0 1).snd (cvF (t200 l) 1 0).snd && (fmB l == lowB (cvF (t200 l) 0 1).snd (cvF (t200 l) 1 0).snd && true), true)] [0, 1, 2, 0, 1, 3, 0, 1, 4, 4, 4, 0, 1, 4, 4, 5, 5, 5, 6, 5, 5, 7, 8, 9, 10, 11, 11, 11, 12, 12, 12, 12, 13, 14, 12, 13, 14, 12, 12, 15, 16, 17, 17, 18, 19, 20, 21, 22, 23, 24, 23, 24, 25, 26, 27, 28, 29, 30, 30, 30, 30])) := by kernel_rfl
set_option maxRecDepth 100000 in
theorem fw_100010011 (n : Int) (d : Int) (l : List Int) : evR (ctxLp Try.prog rowI eqsF libW [] wLps) Try.f9 [(.w (frA n d)), (.w (.one (.fv (.row l))))] [true, false, false, false, true, false, false, true, true] = some (AV.w (AW.one (AC.bool (fmE l == lowE (cvF (t200 l) 0 1).snd (cvF (t200 l) 1 0).snd))), (pickL [(i64B n, true), (i64B d, true), (chkV n d == 0, true), (TS.ok ⟨n, d, [], 0, 0, decide (n < 0), decide (d < 0)⟩ && decide (0 + (cf n d.toNat).length ≤ 1000), true), (!true, false), (chkV n d != chkV n d, false), (decide (lenI (tmsV n d) ≤ 9223372036854775807), true), (!decide (tmsV n d = [] ++ cf n d.toNat), false), (decide (lenI l ≤ 9223372036854775807), true), (lenI l == 0, false), (okC l (lenI l) 0 && decide ((0 : Int) = 0), true), (bdO l 0 0 == 0, true), (decide (lenI l > 1), false), (false, false), (bdO l 0 0 != 0, false), (i64B 1, true), (decide ((0 : Int) ≤ 0), true), (decide (0 ≤ w200 l), true), (decide ((w200 l) ≤ lenI l), true), (decide (lenI (t200 l) = 1), true), (CV.start ⟨Ph.a, t200 l, lenI (t200 l), 0, 0, 1, 1, 0, false, decide ((1 : Int) < 0), decide ((1 : Int) < 0), false⟩, true), (decide ((0 : Int) ≤ 1), true), (decide (1 < ((2 : Nat) : Int)), true), (decide ((cvF (t200 l) 0 1).snd < 0) == decide ((cvF (t200 l) 0 1).snd < 0), true), (decide ((cvF (t200 l) 1 0).snd < 0) == decide ((cvF (t200 l) 1 0).snd < 0), true), (szB (cvF (t200 l) 0 1).snd, true), (szB (cvF (t200 l) 1 0).snd, true), (decide ((cvF (t200 l) 1 0).snd = 0), false), (fmA l == lowA (cvF (t200 l) 0 1).snd (cvF (t200 l) 1 0).snd && (fmB l == lowB (cvF (t200 l) 0 1).snd (cvF (t200 l) 1 0).snd && true), true)] [0, 1, 2, 0, 1, 3, 0, 1, 4, 4, 4, 0, 1, 4, 4, 5, 5, 5, 6, 5, 5, 7, 8, 9, 10, 11, 11, 11, 12, 12, 12, 12, 12, 12, 12, 13, 14, 15, 15, 16, 17, 18, 19, 20, 21, 22, 21, 22, 23, 24, 25, 26, 27, 28, 28, 28, 28])) := by kernel_rfl
set_option maxRecDepth 100000 in
theorem fw_0001011 (n : Int) (d : Int) (l : List Int) : evR (ctxLp Try.prog rowI eqsF libW [] wLps) Try.f9 [(.w (frA n d)), (.w (.one (.fv (.row l))))] [false, false, false, true, false, true, true] = some (AV.w (AW.one (AC.bool (fmA l == 0 && (fmB l == 0 && true)))), (pickL [(i64B n, true), (i64B d, true), (chkV n d == 0, false), (!true, false), (chkV n d != chkV n d, false), (decide (lenI (tmsV n d) ≤ 9223372036854775807), true), (!decide (tmsV n d = []), false), (decide (lenI l ≤ 9223372036854775807), true), (lenI l == 0, true), (okC l (lenI l) 0 && decide ((0 : Int) = 0), true), (bdO l 0 8 == 0, false), (false, false), (bdO l 0 8 != 0, true), (fmE l == bdO l 0 8, true)] [0, 1, 2, 0, 1, 3, 3, 3, 0, 1, 3, 3, 4, 4, 4, 5, 4, 4, 6, 7, 8, 9, 10, 10, 10, 11, 11, 11, 11, 11, 11, 11, 11, 12, 13, 13, 13, 13])) := by kernel_rfl
set_option maxRecDepth 100000 in
theorem fw_0000011 (n : Int) (d : Int) (l : List Int) : evR (ctxLp Try.prog rowI eqsF libW [] wLps) Try.f9 [(.w (frA n d)), (.w (.one (.fv (.row l))))] [false, false, false, false, false, true, true] = some (AV.w (AW.one (AC.bool (fmA l == 0 && (fmB l == 0 && true)))), (pickL [(i64B n, true), (i64B d, true), (chkV n d == 0, false), (!true, false), (chkV n d != chkV n d, false), (decide (lenI (tmsV n d) ≤ 9223372036854775807), true), (!decide (tmsV n d = []), false), (decide (lenI l ≤ 9223372036854775807), true), (lenI l == 0, false), (okC l (lenI l) 0 && decide ((0 : Int) = 0), true), (bdO l 0 0 == 0, false), (false, false), (bdO l 0 0 != 0, true), (fmE l == bdO l 0 0, true)] [0, 1, 2, 0, 1, 3, 3, 3, 0, 1, 3, 3, 4, 4, 4, 5, 4, 4, 6, 7, 8, 9, 10, 10, 10, 11, 11, 11, 11, 11, 11, 11, 11, 12, 13, 13, 13, 13])) := by kernel_rfl
set_option maxRecDepth 100000 in
theorem fw_000011111 (n : Int) (d : Int) (l : List Int) : evR (ctxLp Try.prog rowI eqsF libW [] wLps) Try.f9 [(.w (frA n d)), (.w (.one (.fv (.row l))))] [false, false, false, false, true, true, true, true, true] = some (AV.w (AW.one (AC.bool (fmA l == 0 && (fmB l == 0 && true)))), (pickL [(i64B n, true), (i64B d, true), (chkV n d == 0, false), (!true, false), (chkV n d != chkV n d, false), (decide (lenI (tmsV n d) ≤ 9223372036854775807), true), (!decide (tmsV n d = []), false), (decide (lenI l ≤ 9223372036854775807), true), (lenI l == 0, false), (okC l (lenI l) 0 && decide ((0 : Int) = 0), true), (bdO l 0 0 == 0, true), (decide (lenI l > 1), true), (decide (0 ≤ IntKind.i64.wrap (lenI l - 1)), true), (decide (IntKind.i64.wrap (lenI l - 1) < lenI l), true), (getI l (IntKind.i64.wrap (lenI l - 1)) == 1, true), ((3 : Int) != 0, true), (fmE l == 3, true)] [0, 1, 2, 0, 1, 3, 3, 3, 0, 1, 3, 3, 4, 4, 4, 5, 4, 4, 6, 7, 8, 9, 10, 10, 10, 11, 11, 11, 11, 12, 13, 11, 12, 13, 11, 11, 14, 15, 16, 16, 16, 16])) := by kernel_rfl
set_option maxRecDepth 100000 in
theorem fw_0000110001 (n : Int) (d : Int) (l : List Int) : evR (ctxLp Try.prog rowI eqsF libW [] wLps) Try.f9 [(.w (frA n d)), (.w (.one (.fv (.row l))))] [false, false, false, false, true, true, false, false, false, true] = some (AV.w (AW.one (AC.bool (fmE l == lowE (cvF (t200 l) 0 1).snd (cvF (t200 l) 1 0).snd))), (pickL [(i64B n, true), (i64B d, true), (chkV n d == 0, false), (!true, false), (chkV n d != chkV n d, false), (decide (lenI (tmsV n d) ≤ 9223372036854775807), true), (!decide (tmsV n d = []), false), (decide (lenI l ≤ 9223372036854775807), true), (lenI l == 0, false), (okC l (lenI l) 0 && decide ((0 : Int) = 0), true), (bdO l 0 0 == 0, true), (decide (lenI l > 1), true), (decide (0 ≤ IntKind.i64.wrap (lenI l - 1)), true), (decide (IntKind.i64.wrap (lenI l - 1) < lenI l), true), (getI l (IntKind.i64.wrap (lenI l - 1)) == 1, false), (bdO l 0 0 != 0, false), (i64B 1, true), (decide ((0 : Int) ≤ 0), true), (decide (0 ≤ w200 l), true), (decide ((w200 l) ≤ lenI l), true), (decide (lenI (t200 l) = 1), false), (CV.start ⟨Ph.a, t200 l, lenI (t200 l), 0, 0, 1, 1, 0, false, decide ((1 : Int) < 0), decide ((1 : Int) < 0), false⟩, true), (decide ((0 : Int) ≤ 1), true), (decide (1 < ((2 : Nat) : Int)), true), (decide ((cvF (t200 l) 0 1).snd < 0) == decide ((cvF (t200 l) 0 1).snd < 0), true), (decide ((cvF (t200 l) 1 0).snd < 0) == decide ((cvF (t200 l) 1 0).snd < 0), true), (szB (cvF (t200 l) 0 1).snd, true), (szB (cvF (t200 l) 1 0).snd, true), (decide ((cvF (t200 l) 1 0).snd = 0), false), (fmA l == lowA (cvF (t200 l) 0 1).snd (cvF (t200 l) 1 0).snd && (fmB l == lowB (cvF (t200 l) 0 1).snd (cvF (t200 l) 1 0).snd && true), true)] [0, 1, 2, 0, 1, 3, 3, 3, 0, 1, 3, 3, 4, 4, 4, 5, 4, 4, 6, 7, 8, 9, 10, 10, 10, 11, 11, 11, 11, 12, 13, 11, 12, 13, 11, 11, 14, 15, 16, 16, 17, 18, 19, 20, 21, 22, 23, 22, 23, 24, 25, 26, 27, 28, 29, 29, 29, 29])) := by kernel_rfl
set_option maxRecDepth 100000 in
theorem fw_000010011 (n : Int) (d : Int) (l : List Int) : evR (ctxLp Try.prog rowI eqsF libW [] wLps) Try.f9 [(.w (frA n d)), (.w (.one (.fv (.row l))))] [false, false, false, false, true, false, false, true, true] = some (AV.w (AW.one (AC.bool (fmE l == lowE (cvF (t200 l) 0 1).snd (cvF (t200 l) 1 0).snd))), (pickL [(i64B n, true), (i64B d, true), (chkV n d == 0, false), (!true, false), (chkV n d != chkV n d, false), (decide (lenI (tmsV n d) ≤ 9223372036854775807), true), (!decide (tmsV n d = []), false), (decide (lenI l ≤ 9223372036854775807), true), (lenI l == 0, false), (okC l (lenI l) 0 && decide ((0 : Int) = 0), true), (bdO l 0 0 == 0, true), (decide (lenI l > 1), false), (false, false), (bdO l 0 0 != 0, false), (i64B 1, true), (decide ((0 : Int) ≤ 0), true), (decide (0 ≤ w200 l), true), (decide ((w200 l) ≤ lenI l), true), (decide (lenI (t200 l) = 1), true), (CV.start ⟨Ph.a, t200 l, lenI (t200 l), 0, 0, 1, 1, 0, false, decide ((1 : Int) < 0), decide ((1 : Int) < 0), false⟩, true), (decide ((0 : Int) ≤ 1), true), (decide (1 < ((2 : Nat) : Int)), true), (decide ((cvF (t200 l) 0 1).snd < 0) == decide ((cvF (t200 l) 0 1).snd < 0), true), (decide ((cvF (t200 l) 1 0).snd < 0) == decide ((cvF (t200 l) 1 0).snd < 0), true), (szB (cvF (t200 l) 0 1).snd, true), (szB (cvF (t200 l) 1 0).snd, true), (decide ((cvF (t200 l) 1 0).snd = 0), false), (fmA l == lowA (cvF (t200 l) 0 1).snd (cvF (t200 l) 1 0).snd && (fmB l == lowB (cvF (t200 l) 0 1).snd (cvF (t200 l) 1 0).snd && true), true)] [0, 1, 2, 0, 1, 3, 3, 3, 0, 1, 3, 3, 4, 4, 4, 5, 4, 4, 6, 7, 8, 9, 10, 10, 10, 11, 11, 11, 11, 11, 11, 11, 12, 13, 14, 14, 15, 16, 17, 18, 19, 20, 21, 20, 21, 22, 23, 24, 25, 26, 27, 27, 27, 27])) := by kernel_rfl
theorem wLps_ok : LpsOk Try.prog rowI wLps Try.f9.ntmps (bodyOf Try.f9) := lps_cons (fun _ x hx => (ftD_ok x hx).rows) (lps_cons (fun _ x hx => (bdD_ok x hx).rows) (lps_cons (fun _ x hx => (cvD_ok x hx).rows) lps_nil))
/-- A world of one fact. -/
def Env.fact (f : Nm) (u : Value) : Env Nm := ⟨fun _ => .none, fun _ _ => .none, fun g v => g = f ∧ v = u, fun _ _ => .none⟩
theorem own_fact {f : Nm} {u : Value} {b k : Nat} (h : (Env.fact f u).own b k) : False := by
  rcases h with h | ⟨_, _, h, _⟩ <;> cases h
theorem Mem.fact (I : Interp Nm) {f : Nm} {u : Value} (w : World) (hI : I.base ≤ w.heap.size) (h : I.hv f (fun _ _ => False) w u) : Mem I ⟨w, (Env.fact f u).ran, fun _ _ => False⟩ (Env.fact f u) [] w where
  hp := fun b blk h => by replace h : none = some blk := h; cases h
  tok := fun b blk n sz h => by replace h : none = some blk := h; cases h
  exc := fun _ _ _ _ => rfl
  inj := fun b b' k h => (own_fact h).elim
  loc := fun b k h => (own_fact h).elim
  ext := fun k j f arr h => by cases h
  kept := ⟨rfl, rfl, rfl, Nat.le_refl _, fun _ _ _ => rfl⟩
  new := fun b k h => (own_fact h).elim
  low := fun b k h => (own_fact h).elim
  bsz := hI
  fv := fun g v hg => by
    obtain ⟨rfl, rfl⟩ := hg
    refine I.hv_mono g _ _ w w v h (fun k o _ hD => ?_) fun _ _ => .inl rfl
    rcases hD with hD | hD
    · exact hD.1
    · rcases hD with ⟨b, hb⟩ | ⟨b, blk, n, sz, v, hb, _⟩
      · cases hb
      · replace hb : none = some blk := hb; cases hb
  apt := fun b n v k o h => by cases h
theorem free_fact {f : Nm} {u : Value} : Free 0 (Env.fact f u) := fun b _ => ⟨rfl, fun _ => rfl, fun _ => rfl⟩
theorem law_fact {P : Program} {I : Interp Nm} {c : Ctx Nm} (hC : CtxOk P I c) (hmix : P.follows .mixedOrders = true) {f : FuncId} {fn : Func} (hf : P.funcs[f]? = some fn) (hb : fn.body.isSome = true) (hL : LpsOk P I c.lps fn.ntmps (bodyOf fn))
    {g : Nm} {u : Value} {args : List (AV Nm)} {us : List Value} {path : List Bool} {x : AV Nm} {cd : List (Bool × Bool)} {v : Value} (h : evR c fn args path = some (x, cd)) (hn : Nat.ble args.length fn.ntmps = true)
    (ha : All2 (AV.R (Env.fact g u)) args us) (hv : x.val = some v) (w : World) (hI : I.base ≤ w.heap.size) (hu : I.hv g (fun _ _ => False) w u) (hc : ∀ p ∈ cd, p.1 = p.2) : Calls P f us.toArray w fun e w' => e = .returned v ∧ Below w.heap.size w w' := by
  unfold evR at h
  split at h
  · rename_i r hr
    split at h
    · cases h
      have hb' : fn.body = some (bodyOf fn) := by
        unfold bodyOf
        cases hfb : fn.body with
        | none => rw [hfb] at hb; cases hb
        | some c => rfl
      refine (evF_calls hC hmix hf hb' hL hr hc (Nat.le_of_ble_eq_true hn) ha (Mem.fact I w hI hu) free_fact).mono ?_
      rintro e w' ⟨E', u, _, rfl, h2, h3⟩
      exact ⟨by rw [AV.val_R hv h2], h3.kept.os, h3.kept.tape, h3.kept.output, h3.kept.size, fun k hk => h3.kept.block k hk fun ⟨b, hb⟩ => own_fact hb⟩
    · cases h
  · cases h
theorem t200_is (l : List Int) : t200 l = l.take 200 := by
  unfold t200 w200
  simp only [Int.toNat_zero, List.drop_zero, cond_false]
  by_cases h : 200 < lenI l
  · rw [if_pos h]; rfl
  · rw [if_neg h]
    have : (lenI l).toNat = l.length := by unfold lenI; omega
    rw [this, List.take_length, List.take_of_length_le]
    unfold lenI at h; omega
theorem kN_bg {a : Int} : ∀ {l : List Int}, rg a l = true → -1152921504606846976 ≤ a → Bg l.length (kN l).1 ∧ Bg l.length (kN l).2
  | [], _, _ => ⟨by decide +kernel, by decide +kernel⟩
  | t :: l, h, ha => by
    obtain ⟨h1, h2, h3⟩ := rg_tail h
    obtain ⟨g1, g2⟩ := kN_bg h3 (by omega)
    refine ⟨?_, g1.up⟩
    show Bg (l.length + 1) (t * (kN l).1 + (kN l).2)
    rw [Int.add_comm, Int.mul_comm]
    exact g2.next g1 (by omega) h2
theorem cv_p (l : List Int) : (cvF l 0 1).2 = (kN l).1 := by rw [cvF_is]; simp
theorem cv_q (l : List Int) : (cvF l 1 0).2 = (kN l).2 := by rw [cvF_is]; simp
/-- What From returns is what the reference makes of the first 200 terms. -/
theorem fm_low {l : List Int} (hz : ctV l = 0) : fmA l = lowA (kN (l.take 200)).1 (kN (l.take 200)).2 ∧ fmB l = lowB (kN (l.take 200)).1 (kN (l.take 200)).2 ∧ fmE l = lowE (kN (l.take 200)).1 (kN (l.take 200)).2 := by
  obtain ⟨hn, hr⟩ := ctV_zero hz
  have hT := rg_take (k := 200) hr
  rw [fmA, if_pos hz, fmB, if_pos hz, fmE, if_pos hz]
  have key : limA (kN l).1 (kN l).2 = limA (kN (l.take 200)).1 (kN (l.take 200)).2 ∧ limB (kN l).1 (kN l).2 = limB (kN (l.take 200)).1 (kN (l.take 200)).2 ∧ limE (kN l).1 (kN l).2 = limE (kN (l.take 200)).1 (kN (l.take 200)).2 := by
    by_cases hl : l.length ≤ 200
    · rw [List.take_of_length_le hl]; exact ⟨rfl, rfl, rfl⟩
    · have k1 := kN_many hr (by omega)
      have k2 := kN_many hT (by rw [List.length_take]; omega)
      obtain ⟨a1, a2, a3⟩ := lim_no (n := (kN l).1) (d := (kN l).2) (fun h => by omega)
      obtain ⟨b1, b2, b3⟩ := lim_no (n := (kN (l.take 200)).1) (d := (kN (l.take 200)).2) (fun h => by omega)
      rw [a1, a2, a3, b1, b2, b3]; exact ⟨rfl, rfl, rfl⟩
  obtain ⟨e1, e2, e3⟩ := key
  rw [e1, e2, e3]
  match hq : l.take 200, hT with
  | [], _ =>
    exfalso
    rcases List.take_eq_nil_iff.1 hq with q | q
    · cases q
    · exact hn q
  | t :: r, hT =>
    obtain ⟨q1, q2, q3⟩ := low_kN hT
    exact ⟨q1.symm, q2.symm, q3.symm⟩
theorem bdO_8 (l : List Int) : bdO l 0 8 = 8 := if_neg (by decide)
theorem bdO_0 (l : List Int) : bdO l 0 0 = if rg (-1152921504606846976) l = true then 0 else 4 := by
  unfold bdO
  rw [if_pos rfl]
  rfl
set_option maxRecDepth 100000 in
set_option maxHeartbeats 4000000 in
theorem fracTerms_law (n d : Int) (n1 : -9223372036854775808 ≤ n) (n2 : n ≤ 9223372036854775807) (d1 : -9223372036854775808 ≤ d) (d2 : d ≤ 9223372036854775807) (l : List Int) (hl : lenI l ≤ 9223372036854775807) (u : Value) (w : World) (hu : rowHv (fun _ _ => False) w u l) :
    Calls Try.prog 9 #[fr n d, u] w fun e w' => e = .returned (.bool true) ∧ Below w.heap.size w w' := by
  have go : ∀ {path : List Bool} {b : Bool} {cd : List (Bool × Bool)}, evR (ctxLp Try.prog rowI eqsF libW [] wLps) Try.f9 [(.w (frA n d)), (.w (.one (.fv (.row l))))] path = some (.w (.one (.bool b)), cd) → b = true → (∀ p ∈ cd, p.1 = p.2) →
      Calls Try.prog 9 #[fr n d, u] w fun e w' => e = .returned (.bool true) ∧ Below w.heap.size w w' := fun {path b cd} h hb hc => by
    subst hb
    exact law_fact (g := .row l) (u := u) (us := [fr n d, u]) (ctxLp_ok libW_ok eqsF_ok (fns_nil _) (fun f fn h => by cases h)) (by kernel_rfl) Try.func9 rfl wLps_ok h rfl (.cons ⟨[.int .i64 n, .int .i64 d], rfl, .cons rfl (.cons rfl .nil)⟩ (.cons ⟨rfl, rfl⟩ .nil)) rfl w (Nat.zero_le _) hu hc
  have i1 : i64B n = true := i64B_iff.2 ⟨n1, n2⟩
  have i2 : i64B d = true := i64B_iff.2 ⟨d1, d2⟩
  have h3 : (chkV n d != chkV n d) = false := by simp
  have h6 : decide (lenI l ≤ 9223372036854775807) = true := decide_eq_true hl
  have h0 : 0 ≤ lenI l := by unfold lenI; omega
  have h7 : (okC l (lenI l) 0 && decide ((0 : Int) = 0)) = true := by
    simp only [okC, Bool.and_eq_true, decide_eq_true_eq]
    exact ⟨⟨⟨⟨trivial, by omega⟩, h0⟩, hl⟩, trivial⟩
  have e8 := bdO_8 l
  have e0 := bdO_0 l
  by_cases hz : chkV n d = 0
  · have hv := (chkV_zero.1 hz).bd
    have hlen : (cf n d.toNat).length ≤ 2 * 61 := cf_len 61 n d.toNat (by omega)
    have ht : tmsV n d = cf n d.toNat := if_pos hz
    have p1 : (chkV n d == 0) = true := by rw [hz]; rfl
    have p2 : (TS.ok ⟨n, d, [], 0, 0, decide (n < 0), decide (d < 0)⟩ && decide (0 + (cf n d.toNat).length ≤ 1000)) = true := by
      rw [Bool.and_eq_true]
      refine ⟨?_, decide_eq_true (by omega)⟩
      show okT n d 0 0 (decide (n < 0)) (decide (d < 0)) = true
      simp only [okT, Bool.and_eq_true, decide_eq_true_eq, beq_self_eq_true, and_true]
      omega
    have p4 : decide (lenI (tmsV n d) ≤ 9223372036854775807) = true := decide_eq_true (by rw [ht]; unfold lenI; omega)
    have p5 : (!decide (tmsV n d = [] ++ cf n d.toNat)) = false := by rw [ht]; simp
    by_cases hn : l = []
    · have hc : ctV l = 8 := by rw [ctV, if_pos hn]
      have q1 : (lenI l == 0) = true := by subst hn; rfl
      have q2 : (bdO l 0 8 == 0) = false := by rw [e8]; rfl
      have q3 : (bdO l 0 8 != 0) = true := by rw [e8]; rfl
      have hA : fmA l = 0 := by rw [fmA, if_neg (by rw [hc]; decide)]
      have hB : fmB l = 0 := by rw [fmB, if_neg (by rw [hc]; decide)]
      have hE : fmE l = 8 := by rw [fmE, if_neg (by rw [hc]; decide), hc]
      have q4 : (fmE l == bdO l 0 8) = true := by rw [hE, e8]; rfl
      refine go (fw_1001011 n d l) (by rw [hA, hB]; rfl) (pickL_ok ?_ _)
      repeat' (first | exact cd_nil | refine cd_cons ?_ ?_)
      all_goals first | rfl | with_reducible assumption | exact eq_self_b _
    · have hp : 0 < l.length := List.length_pos_iff.2 hn
      have q1 : (lenI l == 0) = false := by
        have : ¬ lenI l = 0 := by unfold lenI; omega
        simpa using this
      by_cases hr : rg (-1152921504606846976) l = true
      · rw [if_pos hr] at e0
        have q2 : (bdO l 0 0 == 0) = true := by rw [e0]; rfl
        have q3 : (bdO l 0 0 != 0) = false := by rw [e0]; rfl
        have w1 : IntKind.i64.wrap (lenI l - 1) = lenI l - 1 := by rw [IntKind.wrap_i64]; omega
        have eT := t200_is l
        have hT : rg (-1152921504606846976) (t200 l) = true := by rw [eT]; exact rg_take hr
        have lT : (t200 l).length ≤ 200 := by rw [eT, List.length_take]; omega
        have l0 : 0 < (t200 l).length := by rw [eT, List.length_take]; omega
        obtain ⟨b1, b2⟩ := kN_bg hT (by omega)
        have u1 : szB (cvF (t200 l) 0 1).snd = true := by rw [cv_p]; exact b1.dl.sz (by omega)
        have u2 : szB (cvF (t200 l) 1 0).snd = true := by rw [cv_q]; exact b2.dl.sz (by omega)
        have u3 : decide ((cvF (t200 l) 1 0).snd = 0) = false := by
          rw [cv_q]
          refine decide_eq_false ?_
          have e := drop_get l0
          rw [List.drop_zero] at e
          rw [e]
          rw [e] at hT
          have := kN_den hT
          omega
        have v1 : decide (0 ≤ w200 l) = true := decide_eq_true (by unfold w200; simp only [cond_false]; split <;> omega)
        have v2 : decide (w200 l ≤ lenI l) = true := decide_eq_true (by unfold w200; simp only [cond_false]; split <;> omega)
        have st : CV.start ⟨Ph.a, t200 l, lenI (t200 l), 0, 0, 1, 1, 0, false, decide ((1 : Int) < 0), decide ((1 : Int) < 0), false⟩ = true := by
          have x1 : lenI (t200 l) ≤ 200 := by unfold lenI; omega
          have x2 : 0 < lenI (t200 l) := by unfold lenI; omega
          simp [CV.start, okV, hT, x1, x2]
        by_cases hm : 1 < lenI l
        · have q5 : decide (lenI l > 1) = true := decide_eq_true hm
          have q6 : decide (0 ≤ IntKind.i64.wrap (lenI l - 1)) = true := by rw [w1]; exact decide_eq_true (by omega)
          have q7 : decide (IntKind.i64.wrap (lenI l - 1) < lenI l) = true := by rw [w1]; exact decide_eq_true (by omega)
          by_cases hg : getI l (lenI l - 1) = 1
          · have hc : ctV l = 3 := by rw [ctV, if_neg hn, if_pos hr, if_pos ⟨hm, hg⟩]
            have q8 : (getI l (IntKind.i64.wrap (lenI l - 1)) == 1) = true := by rw [w1, hg]; rfl
            have hA : fmA l = 0 := by rw [fmA, if_neg (by rw [hc]; decide)]
            have hB : fmB l = 0 := by rw [fmB, if_neg (by rw [hc]; decide)]
            have hE : fmE l = 3 := by rw [fmE, if_neg (by rw [hc]; decide), hc]
            have q4 : (fmE l == 3) = true := by rw [hE]; rfl
            refine go (fw_100011111 n d l) (by rw [hA, hB]; rfl) (pickL_ok ?_ _)
            repeat' (first | exact cd_nil | refine cd_cons ?_ ?_)
            all_goals first | rfl | with_reducible assumption | exact eq_self_b _
          · have hc : ctV l = 0 := by rw [ctV, if_neg hn, if_pos hr, if_neg (fun h => hg h.2)]
            have q8 : (getI l (IntKind.i64.wrap (lenI l - 1)) == 1) = false := by rw [w1]; simpa using hg
            obtain ⟨f1, f2, f3⟩ := fm_low hc
            have q9 : decide (lenI (t200 l) = 1) = false := decide_eq_false (by rw [eT]; unfold lenI at hm ⊢; rw [List.length_take]; omega)
            have q4 : (fmA l == lowA (cvF (t200 l) 0 1).snd (cvF (t200 l) 1 0).snd && (fmB l == lowB (cvF (t200 l) 0 1).snd (cvF (t200 l) 1 0).snd && true)) = true := by rw [cv_p, cv_q, eT, ← f1, ← f2]; simp
            refine go (fw_1000110001 n d l) (by rw [cv_p, cv_q, eT, ← f3]; simp) (pickL_ok ?_ _)
            repeat' (first | exact cd_nil | refine cd_cons ?_ ?_)
            all_goals first | rfl | with_reducible assumption | exact eq_self_b _
        · have q5 : decide (lenI l > 1) = false := decide_eq_false hm
          have hc : ctV l = 0 := by rw [ctV, if_neg hn, if_pos hr, if_neg (fun h => hm h.1)]
          obtain ⟨f1, f2, f3⟩ := fm_low hc
          have q9 : decide (lenI (t200 l) = 1) = true := decide_eq_true (by rw [eT]; unfold lenI at hm ⊢; rw [List.length_take]; omega)
          have q4 : (fmA l == lowA (cvF (t200 l) 0 1).snd (cvF (t200 l) 1 0).snd && (fmB l == lowB (cvF (t200 l) 0 1).snd (cvF (t200 l) 1 0).snd && true)) = true := by rw [cv_p, cv_q, eT, ← f1, ← f2]; simp
          refine go (fw_100010011 n d l) (by rw [cv_p, cv_q, eT, ← f3]; simp) (pickL_ok ?_ _)
          repeat' (first | exact cd_nil | refine cd_cons ?_ ?_)
          all_goals first | rfl | with_reducible assumption | exact eq_self_b _
      · rw [if_neg hr] at e0
        have hc : ctV l = 4 := by rw [ctV, if_neg hn, if_neg hr]
        have q2 : (bdO l 0 0 == 0) = false := by rw [e0]; rfl
        have q3 : (bdO l 0 0 != 0) = true := by rw [e0]; rfl
        have hA : fmA l = 0 := by rw [fmA, if_neg (by rw [hc]; decide)]
        have hB : fmB l = 0 := by rw [fmB, if_neg (by rw [hc]; decide)]
        have hE : fmE l = 4 := by rw [fmE, if_neg (by rw [hc]; decide), hc]
        have q4 : (fmE l == bdO l 0 0) = true := by rw [hE, e0]; rfl
        refine go (fw_1000011 n d l) (by rw [hA, hB]; rfl) (pickL_ok ?_ _)
        repeat' (first | exact cd_nil | refine cd_cons ?_ ?_)
        all_goals first | rfl | with_reducible assumption | exact eq_self_b _
  · have ht : tmsV n d = [] := if_neg hz
    have p1 : (chkV n d == 0) = false := by simpa using hz
    have p4 : decide (lenI (tmsV n d) ≤ 9223372036854775807) = true := decide_eq_true (by rw [ht]; unfold lenI; simp)
    have p5 : (!decide (tmsV n d = [])) = false := by rw [ht]; rfl
    by_cases hn : l = []
    · have hc : ctV l = 8 := by rw [ctV, if_pos hn]
      have q1 : (lenI l == 0) = true := by subst hn; rfl
      have q2 : (bdO l 0 8 == 0) = false := by rw [e8]; rfl
      have q3 : (bdO l 0 8 != 0) = true := by rw [e8]; rfl
      have hA : fmA l = 0 := by rw [fmA, if_neg (by rw [hc]; decide)]
      have hB : fmB l = 0 := by rw [fmB, if_neg (by rw [hc]; decide)]
      have hE : fmE l = 8 := by rw [fmE, if_neg (by rw [hc]; decide), hc]
      have q4 : (fmE l == bdO l 0 8) = true := by rw [hE, e8]; rfl
      refine go (fw_0001011 n d l) (by rw [hA, hB]; rfl) (pickL_ok ?_ _)
      repeat' (first | exact cd_nil | refine cd_cons ?_ ?_)
      all_goals first | rfl | with_reducible assumption | exact eq_self_b _
    · have hp : 0 < l.length := List.length_pos_iff.2 hn
      have q1 : (lenI l == 0) = false := by
        have : ¬ lenI l = 0 := by unfold lenI; omega
        simpa using this
      by_cases hr : rg (-1152921504606846976) l = true
      · rw [if_pos hr] at e0
        have q2 : (bdO l 0 0 == 0) = true := by rw [e0]; rfl
        have q3 : (bdO l 0 0 != 0) = false := by rw [e0]; rfl
        have w1 : IntKind.i64.wrap (lenI l - 1) = lenI l - 1 := by rw [IntKind.wrap_i64]; omega
        have eT := t200_is l
        have hT : rg (-1152921504606846976) (t200 l) = true := by rw [eT]; exact rg_take hr
        have lT : (t200 l).length ≤ 200 := by rw [eT, List.length_take]; omega
        have l0 : 0 < (t200 l).length := by rw [eT, List.length_take]; omega
        obtain ⟨b1, b2⟩ := kN_bg hT (by omega)
        have u1 : szB (cvF (t200 l) 0 1).snd = true := by rw [cv_p]; exact b1.dl.sz (by omega)
        have u2 : szB (cvF (t200 l) 1 0).snd = true := by rw [cv_q]; exact b2.dl.sz (by omega)
        have u3 : decide ((cvF (t200 l) 1 0).snd = 0) = false := by
          rw [cv_q]
          refine decide_eq_false ?_
          have e := drop_get l0
          rw [List.drop_zero] at e
          rw [e]
          rw [e] at hT
          have := kN_den hT
          omega
        have v1 : decide (0 ≤ w200 l) = true := decide_eq_true (by unfold w200; simp only [cond_false]; split <;> omega)
        have v2 : decide (w200 l ≤ lenI l) = true := decide_eq_true (by unfold w200; simp only [cond_false]; split <;> omega)
        have st : CV.start ⟨Ph.a, t200 l, lenI (t200 l), 0, 0, 1, 1, 0, false, decide ((1 : Int) < 0), decide ((1 : Int) < 0), false⟩ = true := by
          have x1 : lenI (t200 l) ≤ 200 := by unfold lenI; omega
          have x2 : 0 < lenI (t200 l) := by unfold lenI; omega
          simp [CV.start, okV, hT, x1, x2]
        by_cases hm : 1 < lenI l
        · have q5 : decide (lenI l > 1) = true := decide_eq_true hm
          have q6 : decide (0 ≤ IntKind.i64.wrap (lenI l - 1)) = true := by rw [w1]; exact decide_eq_true (by omega)
          have q7 : decide (IntKind.i64.wrap (lenI l - 1) < lenI l) = true := by rw [w1]; exact decide_eq_true (by omega)
          by_cases hg : getI l (lenI l - 1) = 1
          · have hc : ctV l = 3 := by rw [ctV, if_neg hn, if_pos hr, if_pos ⟨hm, hg⟩]
            have q8 : (getI l (IntKind.i64.wrap (lenI l - 1)) == 1) = true := by rw [w1, hg]; rfl
            have hA : fmA l = 0 := by rw [fmA, if_neg (by rw [hc]; decide)]
            have hB : fmB l = 0 := by rw [fmB, if_neg (by rw [hc]; decide)]
            have hE : fmE l = 3 := by rw [fmE, if_neg (by rw [hc]; decide), hc]
            have q4 : (fmE l == 3) = true := by rw [hE]; rfl
            refine go (fw_000011111 n d l) (by rw [hA, hB]; rfl) (pickL_ok ?_ _)
            repeat' (first | exact cd_nil | refine cd_cons ?_ ?_)
            all_goals first | rfl | with_reducible assumption | exact eq_self_b _
          · have hc : ctV l = 0 := by rw [ctV, if_neg hn, if_pos hr, if_neg (fun h => hg h.2)]
            have q8 : (getI l (IntKind.i64.wrap (lenI l - 1)) == 1) = false := by rw [w1]; simpa using hg
            obtain ⟨f1, f2, f3⟩ := fm_low hc
            have q9 : decide (lenI (t200 l) = 1) = false := decide_eq_false (by rw [eT]; unfold lenI at hm ⊢; rw [List.length_take]; omega)
            have q4 : (fmA l == lowA (cvF (t200 l) 0 1).snd (cvF (t200 l) 1 0).snd && (fmB l == lowB (cvF (t200 l) 0 1).snd (cvF (t200 l) 1 0).snd && true)) = true := by rw [cv_p, cv_q, eT, ← f1, ← f2]; simp
            refine go (fw_0000110001 n d l) (by rw [cv_p, cv_q, eT, ← f3]; simp) (pickL_ok ?_ _)
            repeat' (first | exact cd_nil | refine cd_cons ?_ ?_)
            all_goals first | rfl | with_reducible assumption | exact eq_self_b _
        · have q5 : decide (lenI l > 1) = false := decide_eq_false hm
          have hc : ctV l = 0 := by rw [ctV, if_neg hn, if_pos hr, if_neg (fun h => hm h.1)]
          obtain ⟨f1, f2, f3⟩ := fm_low hc
          have q9 : decide (lenI (t200 l) = 1) = true := decide_eq_true (by rw [eT]; unfold lenI at hm ⊢; rw [List.length_take]; omega)
          have q4 : (fmA l == lowA (cvF (t200 l) 0 1).snd (cvF (t200 l) 1 0).snd && (fmB l == lowB (cvF (t200 l) 0 1).snd (cvF (t200 l) 1 0).snd && true)) = true := by rw [cv_p, cv_q, eT, ← f1, ← f2]; simp
          refine go (fw_000010011 n d l) (by rw [cv_p, cv_q, eT, ← f3]; simp) (pickL_ok ?_ _)
          repeat' (first | exact cd_nil | refine cd_cons ?_ ?_)
          all_goals first | rfl | with_reducible assumption | exact eq_self_b _
      · rw [if_neg hr] at e0
        have hc : ctV l = 4 := by rw [ctV, if_neg hn, if_neg hr]
        have q2 : (bdO l 0 0 == 0) = false := by rw [e0]; rfl
        have q3 : (bdO l 0 0 != 0) = true := by rw [e0]; rfl
        have hA : fmA l = 0 := by rw [fmA, if_neg (by rw [hc]; decide)]
        have hB : fmB l = 0 := by rw [fmB, if_neg (by rw [hc]; decide)]
        have hE : fmE l = 4 := by rw [fmE, if_neg (by rw [hc]; decide), hc]
        have q4 : (fmE l == bdO l 0 0) = true := by rw [hE, e0]; rfl
        refine go (fw_0000011 n d l) (by rw [hA, hB]; rfl) (pickL_ok ?_ _)
        repeat' (first | exact cd_nil | refine cd_cons ?_ ?_)
        all_goals first | rfl | with_reducible assumption | exact eq_self_b _
end Go.Proofs.Ytdhodjbomepfbaa

