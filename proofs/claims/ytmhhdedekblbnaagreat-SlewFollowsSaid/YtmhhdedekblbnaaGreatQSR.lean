/-
 Package spymake's mounts over tables; slices.Sort of three numbers.
 Conditions: those of each theorem.
-/
import Derived.Test.YtmhhdedekblbnaaGreatQSO
import Derived.Test.YtmhhdedekblbnaaGreatQQI
import Derived.Test.YtmhhdedekblbnaaGreatShelf
set_option maxRecDepth 100000
set_option linter.unusedVariables false
set_option linter.unusedSimpArgs false
namespace Go.Proofs.YtmhhdedekblbnaaGreat.AtSl
open Go.RowKit Go.Shelf Ev Wd AtSn
open Go.Proofs.YtmhhdedekblbnaaGreat
variable {F : Type}
noncomputable section

def evLoc0 (c : Ctx F) (fn : Func) (args : List (AV F)) (bs : List (Blk F)) (path : List Bool) : Option (AV F × List (Bool × Bool)) :=
 match evFn c 400 fn args (numb 0 bs) bs.length (.fix path) with
 | some r => match r.path with
   | .fix [] => match r.val, cellsAt r.hp bs 0 with
     | .tup [], some l => some (.tup l, r.cd)
     | _, _ => none
   | _ => none
 | none => none
theorem loc0_ok {P : Program} {I : Interp F} {c : Ctx F} (hC : CtxOk P I c) (hmix : P.follows .mixedOrders = true) {f : FuncId} {fn : Func} (hf : P.funcs[f]? = some fn) (hb : fn.body.isSome = true) (hL : LpsOk P I c.lps fn.ntmps (bodyOf fn))
   {c' : Ctx F} (hsf : c'.safe = c.safe) {g : List (AV F) -> List (Blk F) -> Option (AV F × List (List (AC F)) × List (Bool × Bool))}
   (h : ∀ args bs v css cd, g args bs = some (v, css, cd) -> (∀ p ∈ cd, p.1 = p.2) -> v = .tup [] /\ Nat.ble args.length fn.ntmps = true /\
     ∃ path cd', evLoc0 c fn args bs path = some (.tup (css.map AW.agg), cd') /\ ∀ p ∈ cd', p.1 = p.2) : (locWSp c' g).ok P I f := by
 intro E hp w slot args us bs out dt hrun ha hbl hm hfr hc
 simp only [locWSp] at hrun hbl
 cases hl : locB c' args bs with
 | false => rw [hl] at hrun; cases hrun
 | true =>
   rw [hl] at hrun; simp only [cond_true] at hrun
   have hl : locB c args bs = true := by unfold locB at hl ⊢; rw [<- hsf]; exact hl
   split at hrun
   · rename_i v css cd hg
     cases hal : css.all (fun cs => cs.all AC.soB) with
     | false => rw [hal] at hrun; cases hrun
     | true =>
     rw [hal] at hrun; simp only [cond_true] at hrun
     cases hrun
     obtain ⟨a1, a2, a3⟩ := locB_ok hC hl
     obtain ⟨rfl, h2, path, cd', h4, h6⟩ := h _ _ v css cd hg hc
     unfold evLoc0 at h4
     split at h4
     · rename_i r hr
       split at h4
       · split at h4
         · rename_i l2 hv2 hl2
           simp only [Option.some.injEq, Prod.mk.injEq, AV.tup.injEq] at h4
           obtain ⟨e2, rfl⟩ := h4
           obtain ⟨w1, w2⟩ := cellsAt_wr (j := 0) (css := css) (by rw [hl2, e2])
           refine (locW_calls hC hmix hf hb hL ha hbl hm a1 a2 a3 (by have := Nat.le_of_ble_eq_true h2; rw [rel_len] at this; exact this) hr h6 w1 (fun i cs hi => (List.all_eq_true.1 hal) cs (List.mem_of_getElem? hi)) fun i x cs hi hj => by have := w2 i x cs hi hj; rwa [Nat.zero_add] at this).mono ?_
           rintro e w' ⟨E', u, rfl, q2, q3⟩
           rw [hv2] at q2
           exact ⟨E.addh E'.h, u, But.addh _ _ _, rfl, AV.flat_R (E := E') (E' := E.addh E'.h) (fun _ _ h => .inr h) rfl q2, q3⟩
         · cases h4
       · cases h4
     · cases h4
   · cases hrun
def gMo (args : List (AV Tb)) (bs : List (Blk Tb)) : Option (AV Tb × List (List (AC Tb)) × List (Bool × Bool)) := match args, bs with
 | [.w (.one (.ptr 0 0))], [⟨t, [.fv (.tab [some .i64] T), .int .i64 a]⟩] => bif Nat.beq t 69 then some (.w (.agg [.int .i64 ((moF (colT T) a).z.mn), .int .i64 ((moF (colT T) a).z.mx), .int .i64 ((moF (colT T) a).z.sp), .int .i64 ((moF (colT T) a).z.ac), .int .i64 ((moF (colT T) a).l.mn), .int .i64 ((moF (colT T) a).l.mx), .int .i64 ((moF (colT T) a).l.sp), .int .i64 ((moF (colT T) a).l.ac), .int .i64 ((moF (colT T) a).p.az), .int .i64 ((moF (colT T) a).p.al)]), [[.fv (.tab [some .i64] T), .int .i64 (moAt (colT T) a)]], [(atB (a + 40), true), (listB (colT T), true), (atB a, true)]) else none
 | _, _ => none
abbrev lessS : FnSp F := sp2 (dInt .i64) (dInt .i64) (fun a b => aBool (decide (a < b))) (fun _ _ => [])
noncomputable abbrev libSr : List (Nat × FnSp Tb) := [(135, lessS)]
def sr3 (x y z : Int) : Int × Int × Int := if y < x then (if z < x then (if z < y then (z, y, x) else (y, z, x)) else (y, x, z)) else (if z < y then (if z < x then (z, x, y) else (x, z, y)) else (x, y, z))
def gIs (args : List (AV Tb)) (bs : List (Blk Tb)) : Option (AV Tb × List (List (AC Tb)) × List (Bool × Bool)) := match args, bs with
 | [.w (.one (.slc 0 0 3 3)), .w (.one (.int .i64 u)), .w (.one (.int .i64 v))], [⟨t, [.int .i64 x, .int .i64 y, .int .i64 z]⟩] => bif Nat.beq t 3 then some (.tup [], [[.int .i64 (sr3 x y z).1, .int .i64 (sr3 x y z).2.1, .int .i64 (sr3 x y z).2.2]], [(decide (u = 0), true), (decide (v = 3), true)]) else none
 | _, _ => none
def gPq (args : List (AV Tb)) (bs : List (Blk Tb)) : Option (AV Tb × List (List (AC Tb)) × List (Bool × Bool)) := match args, bs with
 | [.w (.one (.slc 0 0 3 3)), .w (.one (.int .i64 u)), .w (.one (.int .i64 v)), .w (.one (.int .i64 lim))], [⟨t, [.int .i64 x, .int .i64 y, .int .i64 z]⟩] => bif Nat.beq t 3 then some (.tup [], [[.int .i64 (sr3 x y z).1, .int .i64 (sr3 x y z).2.1, .int .i64 (sr3 x y z).2.2]], [(decide (u = 0), true), (decide (v = 3), true)]) else none
 | _, _ => none
def gSo3 (args : List (AV Tb)) (bs : List (Blk Tb)) : Option (AV Tb × List (List (AC Tb)) × List (Bool × Bool)) := match args, bs with
 | [.w (.one (.slc 0 0 3 3))], [⟨t, [.int .i64 x, .int .i64 y, .int .i64 z]⟩] => bif Nat.beq t 3 then some (.tup [], [[.int .i64 (sr3 x y z).1, .int .i64 (sr3 x y z).2.1, .int .i64 (sr3 x y z).2.2]], []) else none
 | _, _ => none
def bLn (x : Int) : Int := (Lib.bitLen x.toNat : Nat)
abbrev lnS : FnSp F := sp1 (dInt .u64) (fun x => .w (.one (.int .i64 (bLn x)))) (fun x => [(u64B x, true)])
noncomputable abbrev libPq : List (Nat × FnSp Tb) := [(129, locWSp cxT gIs)]
noncomputable abbrev libSo : List (Nat × FnSp Tb) := [(79, locWSp cxT gPq), (80, lnS)]
theorem libSr_ok : LibOk Tryz.prog tbI (lib1 libSr) := lib1_cons (sp2_ok fun a b _ => ⟨_, rfl, fun w => (Tryz.cmp_Less_int2 a b w).mono fun e w' h => ⟨h.1, by rw [h.2]; exact Below.refl _ _⟩⟩) Tryz.call135 (lib1_nil _ _)
theorem isr_1101100 (x : Int) (y : Int) (z : Int) : evLoc0 (ctxOf Tryz.prog tbI (fun _ => false) libSr) Tryz.f129 [.w (.one (.slc 0 0 3 3)), .w (.one (.int .i64 0)), .w (.one (.int .i64 3))] [⟨3, [.int .i64 x, .int .i64 y, .int .i64 z]⟩] [true, true, false, true, true, false, false] = some (AV.tup [AW.agg [AC.int IntKind.i64 x, AC.int IntKind.i64 y, AC.int IntKind.i64 z]], (pickL [(decide (IntKind.i64.wrap (0 + 1) < 3), true), (decide (IntKind.i64.wrap (0 + 1) > 0), true), (decide ((0 : Int) <= IntKind.i64.wrap (0 + 1)), true), (decide (IntKind.i64.wrap (0 + 1) < ((3 : Nat) : Int)), true), (decide ((0 : Int) <= IntKind.i64.wrap (IntKind.i64.wrap (0 + 1) - 1)), true), (decide (IntKind.i64.wrap (IntKind.i64.wrap (0 + 1) - 1) < ((3 : Nat) : Int)), true), (decide (y < x), false), (decide (IntKind.i64.wrap (IntKind.i64.wrap (0 + 1) + 1) < 3), true), (decide (IntKind.i64.wrap (IntKind.i64.wrap (0 + 1) + 1) > 0), true), (decide ((0 : Int) <= IntKind.i64.wrap (IntKind.i64.wrap (0 + 1) + 1)), true), (decide (IntKind.i64.wrap (IntKind.i64.wrap (0 + 1) + 1) < ((3 : Nat) : Int)), true), (decide ((0 : Int) <= IntKind.i64.wrap (IntKind.i64.wrap (IntKind.i64.wrap (0 + 1) + 1) - 1)), true), (decide (IntKind.i64.wrap (IntKind.i64.wrap (IntKind.i64.wrap (0 + 1) + 1) - 1) < ((3 : Nat) : Int)), true), (decide (z < y), false), (decide (IntKind.i64.wrap (IntKind.i64.wrap (IntKind.i64.wrap (0 + 1) + 1) + 1) < 3), false)] [0, 1, 1, 1, 2, 3, 1, 1, 1, 1, 1, 4, 5, 1, 1, 1, 6, 7, 8, 8, 8, 9, 10, 8, 8, 8, 8, 8, 11, 12, 8, 8, 8, 13, 14])) := by kernel_rfl
theorem isr_110111100 (x : Int) (y : Int) (z : Int) : evLoc0 (ctxOf Tryz.prog tbI (fun _ => false) libSr) Tryz.f129 [.w (.one (.slc 0 0 3 3)), .w (.one (.int .i64 0)), .w (.one (.int .i64 3))] [⟨3, [.int .i64 x, .int .i64 y, .int .i64 z]⟩] [true, true, false, true, true, true, true, false, false] = some (AV.tup [AW.agg [AC.int IntKind.i64 x, AC.int IntKind.i64 z, AC.int IntKind.i64 y]], (pickL [(decide (IntKind.i64.wrap (0 + 1) < 3), true), (decide (IntKind.i64.wrap (0 + 1) > 0), true), (decide ((0 : Int) <= IntKind.i64.wrap (0 + 1)), true), (decide (IntKind.i64.wrap (0 + 1) < ((3 : Nat) : Int)), true), (decide ((0 : Int) <= IntKind.i64.wrap (IntKind.i64.wrap (0 + 1) - 1)), true), (decide (IntKind.i64.wrap (IntKind.i64.wrap (0 + 1) - 1) < ((3 : Nat) : Int)), true), (decide (y < x), false), (decide (IntKind.i64.wrap (IntKind.i64.wrap (0 + 1) + 1) < 3), true), (decide (IntKind.i64.wrap (IntKind.i64.wrap (0 + 1) + 1) > 0), true), (decide ((0 : Int) <= IntKind.i64.wrap (IntKind.i64.wrap (0 + 1) + 1)), true), (decide (IntKind.i64.wrap (IntKind.i64.wrap (0 + 1) + 1) < ((3 : Nat) : Int)), true), (decide ((0 : Int) <= IntKind.i64.wrap (IntKind.i64.wrap (IntKind.i64.wrap (0 + 1) + 1) - 1)), true), (decide (IntKind.i64.wrap (IntKind.i64.wrap (IntKind.i64.wrap (0 + 1) + 1) - 1) < ((3 : Nat) : Int)), true), (decide (z < y), true), (decide (IntKind.i64.wrap (IntKind.i64.wrap (IntKind.i64.wrap (0 + 1) + 1) - 1) > 0), true), (decide ((0 : Int) <= IntKind.i64.wrap (IntKind.i64.wrap (IntKind.i64.wrap (IntKind.i64.wrap (0 + 1) + 1) - 1) - 1)), true), (decide (IntKind.i64.wrap (IntKind.i64.wrap (IntKind.i64.wrap (IntKind.i64.wrap (0 + 1) + 1) - 1) - 1) < ((3 : Nat) : Int)), true), (decide (z < x), false), (decide (IntKind.i64.wrap (IntKind.i64.wrap (IntKind.i64.wrap (0 + 1) + 1) + 1) < 3), false)] [0, 1, 1, 1, 2, 3, 1, 1, 1, 1, 1, 4, 5, 1, 1, 1, 6, 7, 8, 8, 8, 9, 10, 8, 8, 8, 8, 8, 11, 12, 8, 8, 8, 13, 11, 12, 9, 10, 9, 10, 11, 12, 14, 14, 14, 11, 12, 14, 14, 14, 14, 14, 15, 16, 14, 14, 14, 17, 18])) := by kernel_rfl
theorem isr_11101100 (x : Int) (y : Int) (z : Int) : evLoc0 (ctxOf Tryz.prog tbI (fun _ => false) libSr) Tryz.f129 [.w (.one (.slc 0 0 3 3)), .w (.one (.int .i64 0)), .w (.one (.int .i64 3))] [⟨3, [.int .i64 x, .int .i64 y, .int .i64 z]⟩] [true, true, true, false, true, true, false, false] = some (AV.tup [AW.agg [AC.int IntKind.i64 y, AC.int IntKind.i64 x, AC.int IntKind.i64 z]], (pickL [(decide (IntKind.i64.wrap (0 + 1) < 3), true), (decide (IntKind.i64.wrap (0 + 1) > 0), true), (decide ((0 : Int) <= IntKind.i64.wrap (0 + 1)), true), (decide (IntKind.i64.wrap (0 + 1) < ((3 : Nat) : Int)), true), (decide ((0 : Int) <= IntKind.i64.wrap (IntKind.i64.wrap (0 + 1) - 1)), true), (decide (IntKind.i64.wrap (IntKind.i64.wrap (0 + 1) - 1) < ((3 : Nat) : Int)), true), (decide (y < x), true), (decide (IntKind.i64.wrap (IntKind.i64.wrap (0 + 1) - 1) > 0), false), (false, false), (decide (IntKind.i64.wrap (IntKind.i64.wrap (0 + 1) + 1) < 3), true), (decide (IntKind.i64.wrap (IntKind.i64.wrap (0 + 1) + 1) > 0), true), (decide ((0 : Int) <= IntKind.i64.wrap (IntKind.i64.wrap (0 + 1) + 1)), true), (decide (IntKind.i64.wrap (IntKind.i64.wrap (0 + 1) + 1) < ((3 : Nat) : Int)), true), (decide ((0 : Int) <= IntKind.i64.wrap (IntKind.i64.wrap (IntKind.i64.wrap (0 + 1) + 1) - 1)), true), (decide (IntKind.i64.wrap (IntKind.i64.wrap (IntKind.i64.wrap (0 + 1) + 1) - 1) < ((3 : Nat) : Int)), true), (decide (z < x), false), (decide (IntKind.i64.wrap (IntKind.i64.wrap (IntKind.i64.wrap (0 + 1) + 1) + 1) < 3), false)] [0, 1, 1, 1, 2, 3, 1, 1, 1, 1, 1, 4, 5, 1, 1, 1, 6, 4, 5, 2, 3, 2, 3, 4, 5, 7, 7, 7, 7, 7, 7, 7, 7, 7, 7, 7, 8, 9, 10, 10, 10, 11, 12, 10, 10, 10, 10, 10, 13, 14, 10, 10, 10, 15, 16])) := by kernel_rfl
theorem isr_1101111100 (x : Int) (y : Int) (z : Int) : evLoc0 (ctxOf Tryz.prog tbI (fun _ => false) libSr) Tryz.f129 [.w (.one (.slc 0 0 3 3)), .w (.one (.int .i64 0)), .w (.one (.int .i64 3))] [⟨3, [.int .i64 x, .int .i64 y, .int .i64 z]⟩] [true, true, false, true, true, true, true, true, false, false] = some (AV.tup [AW.agg [AC.int IntKind.i64 z, AC.int IntKind.i64 x, AC.int IntKind.i64 y]], (pickL [(decide (IntKind.i64.wrap (0 + 1) < 3), true), (decide (IntKind.i64.wrap (0 + 1) > 0), true), (decide ((0 : Int) <= IntKind.i64.wrap (0 + 1)), true), (decide (IntKind.i64.wrap (0 + 1) < ((3 : Nat) : Int)), true), (decide ((0 : Int) <= IntKind.i64.wrap (IntKind.i64.wrap (0 + 1) - 1)), true), (decide (IntKind.i64.wrap (IntKind.i64.wrap (0 + 1) - 1) < ((3 : Nat) : Int)), true), (decide (y < x), false), (decide (IntKind.i64.wrap (IntKind.i64.wrap (0 + 1) + 1) < 3), true), (decide (IntKind.i64.wrap (IntKind.i64.wrap (0 + 1) + 1) > 0), true), (decide ((0 : Int) <= IntKind.i64.wrap (IntKind.i64.wrap (0 + 1) + 1)), true), (decide (IntKind.i64.wrap (IntKind.i64.wrap (0 + 1) + 1) < ((3 : Nat) : Int)), true), (decide ((0 : Int) <= IntKind.i64.wrap (IntKind.i64.wrap (IntKind.i64.wrap (0 + 1) + 1) - 1)), true), (decide (IntKind.i64.wrap (IntKind.i64.wrap (IntKind.i64.wrap (0 + 1) + 1) - 1) < ((3 : Nat) : Int)), true), (decide (z < y), true), (decide (IntKind.i64.wrap (IntKind.i64.wrap (IntKind.i64.wrap (0 + 1) + 1) - 1) > 0), true), (decide ((0 : Int) <= IntKind.i64.wrap (IntKind.i64.wrap (IntKind.i64.wrap (IntKind.i64.wrap (0 + 1) + 1) - 1) - 1)), true), (decide (IntKind.i64.wrap (IntKind.i64.wrap (IntKind.i64.wrap (IntKind.i64.wrap (0 + 1) + 1) - 1) - 1) < ((3 : Nat) : Int)), true), (decide (z < x), true), (decide (IntKind.i64.wrap (IntKind.i64.wrap (IntKind.i64.wrap (IntKind.i64.wrap (0 + 1) + 1) - 1) - 1) > 0), false), (false, false), (decide (IntKind.i64.wrap (IntKind.i64.wrap (IntKind.i64.wrap (0 + 1) + 1) + 1) < 3), false)] [0, 1, 1, 1, 2, 3, 1, 1, 1, 1, 1, 4, 5, 1, 1, 1, 6, 7, 8, 8, 8, 9, 10, 8, 8, 8, 8, 8, 11, 12, 8, 8, 8, 13, 11, 12, 9, 10, 9, 10, 11, 12, 14, 14, 14, 11, 12, 14, 14, 14, 14, 14, 15, 16, 14, 14, 14, 17, 15, 16, 11, 12, 11, 12, 15, 16, 18, 18, 18, 18, 18, 18, 18, 18, 18, 18, 18, 19, 20])) := by kernel_rfl
theorem isr_1110111100 (x : Int) (y : Int) (z : Int) : evLoc0 (ctxOf Tryz.prog tbI (fun _ => false) libSr) Tryz.f129 [.w (.one (.slc 0 0 3 3)), .w (.one (.int .i64 0)), .w (.one (.int .i64 3))] [⟨3, [.int .i64 x, .int .i64 y, .int .i64 z]⟩] [true, true, true, false, true, true, true, true, false, false] = some (AV.tup [AW.agg [AC.int IntKind.i64 y, AC.int IntKind.i64 z, AC.int IntKind.i64 x]], (pickL [(decide (IntKind.i64.wrap (0 + 1) < 3), true), (decide (IntKind.i64.wrap (0 + 1) > 0), true), (decide ((0 : Int) <= IntKind.i64.wrap (0 + 1)), true), (decide (IntKind.i64.wrap (0 + 1) < ((3 : Nat) : Int)), true), (decide ((0 : Int) <= IntKind.i64.wrap (IntKind.i64.wrap (0 + 1) - 1)), true), (decide (IntKind.i64.wrap (IntKind.i64.wrap (0 + 1) - 1) < ((3 : Nat) : Int)), true), (decide (y < x), true), (decide (IntKind.i64.wrap (IntKind.i64.wrap (0 + 1) - 1) > 0), false), (false, false), (decide (IntKind.i64.wrap (IntKind.i64.wrap (0 + 1) + 1) < 3), true), (decide (IntKind.i64.wrap (IntKind.i64.wrap (0 + 1) + 1) > 0), true), (decide ((0 : Int) <= IntKind.i64.wrap (IntKind.i64.wrap (0 + 1) + 1)), true), (decide (IntKind.i64.wrap (IntKind.i64.wrap (0 + 1) + 1) < ((3 : Nat) : Int)), true), (decide ((0 : Int) <= IntKind.i64.wrap (IntKind.i64.wrap (IntKind.i64.wrap (0 + 1) + 1) - 1)), true), (decide (IntKind.i64.wrap (IntKind.i64.wrap (IntKind.i64.wrap (0 + 1) + 1) - 1) < ((3 : Nat) : Int)), true), (decide (z < x), true), (decide (IntKind.i64.wrap (IntKind.i64.wrap (IntKind.i64.wrap (0 + 1) + 1) - 1) > 0), true), (decide ((0 : Int) <= IntKind.i64.wrap (IntKind.i64.wrap (IntKind.i64.wrap (IntKind.i64.wrap (0 + 1) + 1) - 1) - 1)), true), (decide (IntKind.i64.wrap (IntKind.i64.wrap (IntKind.i64.wrap (IntKind.i64.wrap (0 + 1) + 1) - 1) - 1) < ((3 : Nat) : Int)), true), (decide (z < y), false), (decide (IntKind.i64.wrap (IntKind.i64.wrap (IntKind.i64.wrap (0 + 1) + 1) + 1) < 3), false)] [0, 1, 1, 1, 2, 3, 1, 1, 1, 1, 1, 4, 5, 1, 1, 1, 6, 4, 5, 2, 3, 2, 3, 4, 5, 7, 7, 7, 7, 7, 7, 7, 7, 7, 7, 7, 8, 9, 10, 10, 10, 11, 12, 10, 10, 10, 10, 10, 13, 14, 10, 10, 10, 15, 13, 14, 11, 12, 11, 12, 13, 14, 16, 16, 16, 13, 14, 16, 16, 16, 16, 16, 17, 18, 16, 16, 16, 19, 20])) := by kernel_rfl
theorem isr_11101111100 (x : Int) (y : Int) (z : Int) : evLoc0 (ctxOf Tryz.prog tbI (fun _ => false) libSr) Tryz.f129 [.w (.one (.slc 0 0 3 3)), .w (.one (.int .i64 0)), .w (.one (.int .i64 3))] [⟨3, [.int .i64 x, .int .i64 y, .int .i64 z]⟩] [true, true, true, false, true, true, true, true, true, false, false] = some (AV.tup [AW.agg [AC.int IntKind.i64 z, AC.int IntKind.i64 y, AC.int IntKind.i64 x]], (pickL [(decide (IntKind.i64.wrap (0 + 1) < 3), true), (decide (IntKind.i64.wrap (0 + 1) > 0), true), (decide ((0 : Int) <= IntKind.i64.wrap (0 + 1)), true), (decide (IntKind.i64.wrap (0 + 1) < ((3 : Nat) : Int)), true), (decide ((0 : Int) <= IntKind.i64.wrap (IntKind.i64.wrap (0 + 1) - 1)), true), (decide (IntKind.i64.wrap (IntKind.i64.wrap (0 + 1) - 1) < ((3 : Nat) : Int)), true), (decide (y < x), true), (decide (IntKind.i64.wrap (IntKind.i64.wrap (0 + 1) - 1) > 0), false), (false, false), (decide (IntKind.i64.wrap (IntKind.i64.wrap (0 + 1) + 1) < 3), true), (decide (IntKind.i64.wrap (IntKind.i64.wrap (0 + 1) + 1) > 0), true), (decide ((0 : Int) <= IntKind.i64.wrap (IntKind.i64.wrap (0 + 1) + 1)), true), (decide (IntKind.i64.wrap (IntKind.i64.wrap (0 + 1) + 1) < ((3 : Nat) : Int)), true), (decide ((0 : Int) <= IntKind.i64.wrap (IntKind.i64.wrap (IntKind.i64.wrap (0 + 1) + 1) - 1)), true), (decide (IntKind.i64.wrap (IntKind.i64.wrap (IntKind.i64.wrap (0 + 1) + 1) - 1) < ((3 : Nat) : Int)), true), (decide (z < x), true), (decide (IntKind.i64.wrap (IntKind.i64.wrap (IntKind.i64.wrap (0 + 1) + 1) - 1) > 0), true), (decide ((0 : Int) <= IntKind.i64.wrap (IntKind.i64.wrap (IntKind.i64.wrap (IntKind.i64.wrap (0 + 1) + 1) - 1) - 1)), true), (decide (IntKind.i64.wrap (IntKind.i64.wrap (IntKind.i64.wrap (IntKind.i64.wrap (0 + 1) + 1) - 1) - 1) < ((3 : Nat) : Int)), true), (decide (z < y), true), (decide (IntKind.i64.wrap (IntKind.i64.wrap (IntKind.i64.wrap (IntKind.i64.wrap (0 + 1) + 1) - 1) - 1) > 0), false), (decide (IntKind.i64.wrap (IntKind.i64.wrap (IntKind.i64.wrap (0 + 1) + 1) + 1) < 3), false)] [0, 1, 1, 1, 2, 3, 1, 1, 1, 1, 1, 4, 5, 1, 1, 1, 6, 4, 5, 2, 3, 2, 3, 4, 5, 7, 7, 7, 7, 7, 7, 7, 7, 7, 7, 7, 8, 9, 10, 10, 10, 11, 12, 10, 10, 10, 10, 10, 13, 14, 10, 10, 10, 15, 13, 14, 11, 12, 11, 12, 13, 14, 16, 16, 16, 13, 14, 16, 16, 16, 16, 16, 17, 18, 16, 16, 16, 19, 17, 18, 13, 14, 13, 14, 17, 18, 20, 20, 20, 20, 20, 20, 20, 20, 20, 20, 20, 8, 21])) := by kernel_rfl
set_option maxHeartbeats 4000000 in
theorem gIs_ok : (locWSp cxT gIs).ok Tryz.prog tbI 129 := by
 refine loc0_ok (ctxOf_ok libSr_ok (eq_none _)) (by kernel_rfl) Tryz.func129 rfl lps_nil rfl fun args bs v css cd hg hc => ?_
 unfold gIs at hg
 split at hg
 · rename_i u v t x y z
   cases hb : Nat.beq t 3 with
   | false => rw [hb] at hg; cases hg
   | true =>
   rw [hb] at hg
   simp only [cond_true] at hg
   cases hg
   obtain rfl := Nat.eq_of_beq_eq_true hb
   have hu := of_decide_eq_true (hc (decide (u = 0), true) (by simp))
   have hv := of_decide_eq_true (hc (decide (v = 3), true) (by simp))
   subst hu
   subst hv
   by_cases h1 : y < x
   · by_cases h2 : z < x
     · by_cases h3 : z < y
       · rw [show sr3 x y z = (z, y, x) from by unfold sr3; (repeat' split) <;> first | rfl | omega]
         refine ⟨rfl, rfl, [true, true, true, false, true, true, true, true, true, false, false], _, isr_11101111100 x y z, pickL_ok ?_ _⟩
         repeat' (first | exact cd_nil | refine cd_cons ?_ ?_)
         all_goals first | with_reducible assumption | (refine decide_eq_false ?_; omega) | (refine decide_eq_true ?_; omega) | decide
       · rw [show sr3 x y z = (y, z, x) from by unfold sr3; (repeat' split) <;> first | rfl | omega]
         refine ⟨rfl, rfl, [true, true, true, false, true, true, true, true, false, false], _, isr_1110111100 x y z, pickL_ok ?_ _⟩
         repeat' (first | exact cd_nil | refine cd_cons ?_ ?_)
         all_goals first | with_reducible assumption | (refine decide_eq_false ?_; omega) | (refine decide_eq_true ?_; omega) | decide
     · rw [show sr3 x y z = (y, x, z) from by unfold sr3; (repeat' split) <;> first | rfl | omega]
       refine ⟨rfl, rfl, [true, true, true, false, true, true, false, false], _, isr_11101100 x y z, pickL_ok ?_ _⟩
       repeat' (first | exact cd_nil | refine cd_cons ?_ ?_)
       all_goals first | with_reducible assumption | (refine decide_eq_false ?_; omega) | (refine decide_eq_true ?_; omega) | decide
   · by_cases h2 : z < y
     · by_cases h3 : z < x
       · rw [show sr3 x y z = (z, x, y) from by unfold sr3; (repeat' split) <;> first | rfl | omega]
         refine ⟨rfl, rfl, [true, true, false, true, true, true, true, true, false, false], _, isr_1101111100 x y z, pickL_ok ?_ _⟩
         repeat' (first | exact cd_nil | refine cd_cons ?_ ?_)
         all_goals first | with_reducible assumption | (refine decide_eq_false ?_; omega) | (refine decide_eq_true ?_; omega) | decide
       · rw [show sr3 x y z = (x, z, y) from by unfold sr3; (repeat' split) <;> first | rfl | omega]
         refine ⟨rfl, rfl, [true, true, false, true, true, true, true, false, false], _, isr_110111100 x y z, pickL_ok ?_ _⟩
         repeat' (first | exact cd_nil | refine cd_cons ?_ ?_)
         all_goals first | with_reducible assumption | (refine decide_eq_false ?_; omega) | (refine decide_eq_true ?_; omega) | decide
     · rw [show sr3 x y z = (x, y, z) from by unfold sr3; (repeat' split) <;> first | rfl | omega]
       refine ⟨rfl, rfl, [true, true, false, true, true, false, false], _, isr_1101100 x y z, pickL_ok ?_ _⟩
       repeat' (first | exact cd_nil | refine cd_cons ?_ ?_)
       all_goals first | with_reducible assumption | (refine decide_eq_false ?_; omega) | (refine decide_eq_true ?_; omega) | decide
 · cases hg
theorem libPq_ok : LibOk Tryz.prog tbI (lib1 libPq) := lib1_cons gIs_ok Tryz.call129 (lib1_nil _ _)
theorem pdq_1 (x : Int) (y : Int) (z : Int) (lim : Int) : evLoc0 (ctxOf Tryz.prog tbI (fun _ => false) libPq) Tryz.f79 [.w (.one (.slc 0 0 3 3)), .w (.one (.int .i64 0)), .w (.one (.int .i64 3)), .w (.one (.int .i64 lim))] [⟨3, [.int .i64 x, .int .i64 y, .int .i64 z]⟩] [true] = some (AV.tup [AW.agg [AC.int IntKind.i64 (sr3 x y z).fst, AC.int IntKind.i64 (sr3 x y z).snd.fst, AC.int IntKind.i64 (sr3 x y z).snd.snd]], (pickL [(decide (IntKind.i64.wrap (3 - 0) <= 12), true), (decide ((0 : Int) = 0), true), (decide ((3 : Int) = 3), true)] [0, 1, 2])) := by kernel_rfl
set_option maxHeartbeats 4000000 in
theorem gPq_ok : (locWSp cxT gPq).ok Tryz.prog tbI 79 := by
 refine loc0_ok (ctxOf_ok libPq_ok (eq_none _)) (by kernel_rfl) Tryz.func79 rfl lps_nil rfl fun args bs v css cd hg hc => ?_
 unfold gPq at hg
 split at hg
 · rename_i u v lim t x y z
   cases hb : Nat.beq t 3 with
   | false => rw [hb] at hg; cases hg
   | true =>
   rw [hb] at hg
   simp only [cond_true] at hg
   cases hg
   obtain rfl := Nat.eq_of_beq_eq_true hb
   have hu := of_decide_eq_true (hc (decide (u = 0), true) (by simp))
   have hv := of_decide_eq_true (hc (decide (v = 3), true) (by simp))
   subst hu
   subst hv
   refine ⟨rfl, rfl, [true], _, pdq_1 x y z lim, pickL_ok ?_ _⟩
   repeat' (first | exact cd_nil | refine cd_cons ?_ ?_)
   all_goals first | with_reducible assumption | (refine decide_eq_false ?_; omega) | (refine decide_eq_true ?_; omega) | decide
 · cases hg
theorem ln_ok (I : Interp F) : (lnS : FnSp F).ok Tryz.prog I 80 := sp1_ok fun x hc => by
 have h1 := u64B_iff.1 (hc (u64B x, true) (by simp))
 exact ⟨_, rfl, fun w => (Tryz.bits_Len x w h1.1 (by omega)).mono fun e w' h => ⟨by rw [h.1]; rfl, by rw [h.2]; exact Below.refl _ _⟩⟩
theorem libSo_ok : LibOk Tryz.prog tbI (lib1 libSo) := lib1_cons gPq_ok Tryz.call79 (lib1_cons (ln_ok _) Tryz.call80 (lib1_nil _ _))
theorem srt_ (x : Int) (y : Int) (z : Int) : evLoc0 (ctxOf Tryz.prog tbI (fun _ => false) libSo) Tryz.f38 [.w (.one (.slc 0 0 3 3))] [⟨3, [.int .i64 x, .int .i64 y, .int .i64 z]⟩] [] = some (AV.tup [AW.agg [AC.int IntKind.i64 (sr3 x y z).fst, AC.int IntKind.i64 (sr3 x y z).snd.fst, AC.int IntKind.i64 (sr3 x y z).snd.snd]], (pickL [(u64B (IntKind.u64.wrap ((3 : Nat) : Int)), true), (decide ((0 : Int) = 0), true), (decide (((3 : Nat) : Int) = 3), true)] [0, 1, 2])) := by kernel_rfl
set_option maxHeartbeats 4000000 in
theorem gSo3_ok : (locWSp cxT gSo3).ok Tryz.prog tbI 38 := by
 refine loc0_ok (ctxOf_ok libSo_ok (eq_none _)) (by kernel_rfl) Tryz.func38 rfl lps_nil rfl fun args bs v css cd hg hc => ?_
 unfold gSo3 at hg
 split at hg
 · rename_i t x y z
   cases hb : Nat.beq t 3 with
   | false => rw [hb] at hg; cases hg
   | true =>
   rw [hb] at hg
   simp only [cond_true] at hg
   cases hg
   obtain rfl := Nat.eq_of_beq_eq_true hb
   refine ⟨rfl, rfl, [], _, srt_ x y z, pickL_ok ?_ _⟩
   repeat' (first | exact cd_nil | refine cd_cons ?_ ?_)
   all_goals first | with_reducible assumption | (refine decide_eq_false ?_; omega) | (refine decide_eq_true ?_; omega) | decide
 · cases hg
theorem libH1T_ok : LibOk Tryz.prog tbI (lib1 libH1T) := lib1_cons gAx_ok Tryz.call77 (lib1_cons gIn_ok Tryz.call78 (lib1_cons gNx_ok Tryz.call30 (lib1_nil _ _)))
theorem tmo_11 (T : List (List Int)) (a : Int) : evLoc (ctxOf Tryz.prog tbI (fun _ => false) libH1T) Tryz.f36 [.w (.one (.ptr 0 0))] [⟨69, [.fv (.tab [some .i64] T), .int .i64 a]⟩] [true, true] = some (AV.tup [AW.agg [AC.int IntKind.i64 (-6442450944), AC.int IntKind.i64 6442450944, AC.int IntKind.i64 (axF (colT T) a).sp, AC.int IntKind.i64 (axF (colT T) a).ac, AC.int IntKind.i64 (-1073741824), AC.int IntKind.i64 1073741824, AC.int IntKind.i64 (axF (colT T) (axAt (colT T) a)).sp, AC.int IntKind.i64 (axF (colT T) (axAt (colT T) a)).ac, AC.int IntKind.i64 (inV (colT T) (axAt (colT T) (axAt (colT T) a) + 1 + 1) { mn := -6442450944, mx := 6442450944, sp := (axF (colT T) a).sp, ac := (axF (colT T) a).ac }), AC.int IntKind.i64 (inV (colT T) (inAt (colT T) (axAt (colT T) (axAt (colT T) a) + 1 + 1)) { mn := -1073741824, mx := 1073741824, sp := (axF (colT T) (axAt (colT T) a)).sp, ac := (axF (colT T) (axAt (colT T) a)).ac })], AW.agg [AC.fv (Tb.tab [some IntKind.i64] T), AC.int IntKind.i64 (inAt (colT T) (inAt (colT T) (axAt (colT T) (axAt (colT T) a) + 1 + 1)))]], (pickL [(atB (a + 12), true), (listB (colT T), true), (atB a, true), (atB (axAt (colT T) a + 12), true), (atB (axAt (colT T) a), true), (i64B 3, true), (atB (axAt (colT T) (axAt (colT T) a)), true), (decide (nextV (colT T) (axAt (colT T) (axAt (colT T) a)) 3 > 0), true), (atB (axAt (colT T) (axAt (colT T) a) + 1), true), (decide (nextV (colT T) (axAt (colT T) (axAt (colT T) a) + 1) 3 > 0), true), (decide (axE { mn := -6442450944, mx := 6442450944, sp := (axF (colT T) a).sp, ac := (axF (colT T) a).ac } = 0), true), (atB (axAt (colT T) (axAt (colT T) a) + 1 + 1 + 4), true), (atB (axAt (colT T) (axAt (colT T) a) + 1 + 1), true), (decide (axE { mn := -1073741824, mx := 1073741824, sp := (axF (colT T) (axAt (colT T) a)).sp, ac := (axF (colT T) (axAt (colT T) a)).ac } = 0), true), (atB (inAt (colT T) (axAt (colT T) (axAt (colT T) a) + 1 + 1) + 4), true), (atB (inAt (colT T) (axAt (colT T) (axAt (colT T) a) + 1 + 1)), true)] [0, 1, 2, 3, 1, 4, 5, 1, 6, 7, 5, 1, 8, 9, 10, 11, 1, 12, 13, 14, 1, 15])) := by kernel_rfl
theorem tmo_10 (T : List (List Int)) (a : Int) : evLoc (ctxOf Tryz.prog tbI (fun _ => false) libH1T) Tryz.f36 [.w (.one (.ptr 0 0))] [⟨69, [.fv (.tab [some .i64] T), .int .i64 a]⟩] [true, false] = some (AV.tup [AW.agg [AC.int IntKind.i64 (-6442450944), AC.int IntKind.i64 6442450944, AC.int IntKind.i64 (axF (colT T) a).sp, AC.int IntKind.i64 (axF (colT T) a).ac, AC.int IntKind.i64 (axF (colT T) (axAt (colT T) a)).mn, AC.int IntKind.i64 (axF (colT T) (axAt (colT T) a)).mx, AC.int IntKind.i64 (axF (colT T) (axAt (colT T) a)).sp, AC.int IntKind.i64 (axF (colT T) (axAt (colT T) a)).ac, AC.int IntKind.i64 (inV (colT T) (axAt (colT T) (axAt (colT T) a) + 1 + 1) { mn := -6442450944, mx := 6442450944, sp := (axF (colT T) a).sp, ac := (axF (colT T) a).ac }), AC.int IntKind.i64 (inV (colT T) (inAt (colT T) (axAt (colT T) (axAt (colT T) a) + 1 + 1)) (axF (colT T) (axAt (colT T) a)))], AW.agg [AC.fv (Tb.tab [some IntKind.i64] T), AC.int IntKind.i64 (inAt (colT T) (inAt (colT T) (axAt (colT T) (axAt (colT T) a) + 1 + 1)))]], (pickL [(atB (a + 12), true), (listB (colT T), true), (atB a, true), (atB (axAt (colT T) a + 12), true), (atB (axAt (colT T) a), true), (i64B 3, true), (atB (axAt (colT T) (axAt (colT T) a)), true), (decide (nextV (colT T) (axAt (colT T) (axAt (colT T) a)) 3 > 0), true), (atB (axAt (colT T) (axAt (colT T) a) + 1), true), (decide (nextV (colT T) (axAt (colT T) (axAt (colT T) a) + 1) 3 > 0), false), (decide (axE { mn := -6442450944, mx := 6442450944, sp := (axF (colT T) a).sp, ac := (axF (colT T) a).ac } = 0), true), (atB (axAt (colT T) (axAt (colT T) a) + 1 + 1 + 4), true), (atB (axAt (colT T) (axAt (colT T) a) + 1 + 1), true), (decide (axE (axF (colT T) (axAt (colT T) a)) = 0), true), (atB (inAt (colT T) (axAt (colT T) (axAt (colT T) a) + 1 + 1) + 4), true), (atB (inAt (colT T) (axAt (colT T) (axAt (colT T) a) + 1 + 1)), true)] [0, 1, 2, 3, 1, 4, 5, 1, 6, 7, 5, 1, 8, 9, 10, 11, 1, 12, 13, 14, 1, 15])) := by kernel_rfl
theorem tmo_01 (T : List (List Int)) (a : Int) : evLoc (ctxOf Tryz.prog tbI (fun _ => false) libH1T) Tryz.f36 [.w (.one (.ptr 0 0))] [⟨69, [.fv (.tab [some .i64] T), .int .i64 a]⟩] [false, true] = some (AV.tup [AW.agg [AC.int IntKind.i64 (axF (colT T) a).mn, AC.int IntKind.i64 (axF (colT T) a).mx, AC.int IntKind.i64 (axF (colT T) a).sp, AC.int IntKind.i64 (axF (colT T) a).ac, AC.int IntKind.i64 (-1073741824), AC.int IntKind.i64 1073741824, AC.int IntKind.i64 (axF (colT T) (axAt (colT T) a)).sp, AC.int IntKind.i64 (axF (colT T) (axAt (colT T) a)).ac, AC.int IntKind.i64 (inV (colT T) (axAt (colT T) (axAt (colT T) a) + 1 + 1) (axF (colT T) a)), AC.int IntKind.i64 (inV (colT T) (inAt (colT T) (axAt (colT T) (axAt (colT T) a) + 1 + 1)) { mn := -1073741824, mx := 1073741824, sp := (axF (colT T) (axAt (colT T) a)).sp, ac := (axF (colT T) (axAt (colT T) a)).ac })], AW.agg [AC.fv (Tb.tab [some IntKind.i64] T), AC.int IntKind.i64 (inAt (colT T) (inAt (colT T) (axAt (colT T) (axAt (colT T) a) + 1 + 1)))]], (pickL [(atB (a + 12), true), (listB (colT T), true), (atB a, true), (atB (axAt (colT T) a + 12), true), (atB (axAt (colT T) a), true), (i64B 3, true), (atB (axAt (colT T) (axAt (colT T) a)), true), (decide (nextV (colT T) (axAt (colT T) (axAt (colT T) a)) 3 > 0), false), (atB (axAt (colT T) (axAt (colT T) a) + 1), true), (decide (nextV (colT T) (axAt (colT T) (axAt (colT T) a) + 1) 3 > 0), true), (decide (axE (axF (colT T) a) = 0), true), (atB (axAt (colT T) (axAt (colT T) a) + 1 + 1 + 4), true), (atB (axAt (colT T) (axAt (colT T) a) + 1 + 1), true), (decide (axE { mn := -1073741824, mx := 1073741824, sp := (axF (colT T) (axAt (colT T) a)).sp, ac := (axF (colT T) (axAt (colT T) a)).ac } = 0), true), (atB (inAt (colT T) (axAt (colT T) (axAt (colT T) a) + 1 + 1) + 4), true), (atB (inAt (colT T) (axAt (colT T) (axAt (colT T) a) + 1 + 1)), true)] [0, 1, 2, 3, 1, 4, 5, 1, 6, 7, 5, 1, 8, 9, 10, 11, 1, 12, 13, 14, 1, 15])) := by kernel_rfl
theorem tmo_00 (T : List (List Int)) (a : Int) : evLoc (ctxOf Tryz.prog tbI (fun _ => false) libH1T) Tryz.f36 [.w (.one (.ptr 0 0))] [⟨69, [.fv (.tab [some .i64] T), .int .i64 a]⟩] [false, false] = some (AV.tup [AW.agg [AC.int IntKind.i64 (axF (colT T) a).mn, AC.int IntKind.i64 (axF (colT T) a).mx, AC.int IntKind.i64 (axF (colT T) a).sp, AC.int IntKind.i64 (axF (colT T) a).ac, AC.int IntKind.i64 (axF (colT T) (axAt (colT T) a)).mn, AC.int IntKind.i64 (axF (colT T) (axAt (colT T) a)).mx, AC.int IntKind.i64 (axF (colT T) (axAt (colT T) a)).sp, AC.int IntKind.i64 (axF (colT T) (axAt (colT T) a)).ac, AC.int IntKind.i64 (inV (colT T) (axAt (colT T) (axAt (colT T) a) + 1 + 1) (axF (colT T) a)), AC.int IntKind.i64 (inV (colT T) (inAt (colT T) (axAt (colT T) (axAt (colT T) a) + 1 + 1)) (axF (colT T) (axAt (colT T) a)))], AW.agg [AC.fv (Tb.tab [some IntKind.i64] T), AC.int IntKind.i64 (inAt (colT T) (inAt (colT T) (axAt (colT T) (axAt (colT T) a) + 1 + 1)))]], (pickL [(atB (a + 12), true), (listB (colT T), true), (atB a, true), (atB (axAt (colT T) a + 12), true), (atB (axAt (colT T) a), true), (i64B 3, true), (atB (axAt (colT T) (axAt (colT T) a)), true), (decide (nextV (colT T) (axAt (colT T) (axAt (colT T) a)) 3 > 0), false), (atB (axAt (colT T) (axAt (colT T) a) + 1), true), (decide (nextV (colT T) (axAt (colT T) (axAt (colT T) a) + 1) 3 > 0), false), (decide (axE (axF (colT T) a) = 0), true), (atB (axAt (colT T) (axAt (colT T) a) + 1 + 1 + 4), true), (atB (axAt (colT T) (axAt (colT T) a) + 1 + 1), true), (decide (axE (axF (colT T) (axAt (colT T) a)) = 0), true), (atB (inAt (colT T) (axAt (colT T) (axAt (colT T) a) + 1 + 1) + 4), true), (atB (inAt (colT T) (axAt (colT T) (axAt (colT T) a) + 1 + 1)), true)] [0, 1, 2, 3, 1, 4, 5, 1, 6, 7, 5, 1, 8, 9, 10, 11, 1, 12, 13, 14, 1, 15])) := by kernel_rfl
set_option maxHeartbeats 4000000 in
theorem gMo_ok : (locWSp cxT gMo).ok Tryz.prog tbI 36 := by
 refine locWSp_ok (ctxOf_ok libH1T_ok (eq_none _)) (by kernel_rfl) Tryz.func36 rfl lps_nil rfl fun args bs v css cd hg hc => ?_
 unfold gMo at hg
 split at hg
 · rename_i t T a
   cases hb : Nat.beq t 69 with
   | false => rw [hb] at hg; cases hg
   | true =>
   rw [hb] at hg
   simp only [cond_true] at hg
   cases hg
   obtain rfl := Nat.eq_of_beq_eq_true hb
   obtain ⟨l, hcol⟩ : ∃ l, l = colT T := ⟨_, rfl⟩
   rw [<- hcol] at hc ⊢
   have hl : listB l = true := hc (listB l, true) (by simp)
   have ha : atB a = true := hc (atB a, true) (by simp)
   have ha1 := atB_iff.1 ha
   have ha5 := atB_iff.1 (hc (atB (a + 40), true) (by simp))
   have b1 := axAt_in l a
   have b2 := axAt_in l (axAt l a)
   have b3 := inAt_in l (axAt l (axAt l a) + 1 + 1)
   have b4 := inAt_in l (inAt l (axAt l (axAt l a) + 1 + 1))
   obtain ⟨_, g1, g2⟩ := moF_ok l a
   have x1 := decide_eq_true (axF_ok l a).1
   have x2 := decide_eq_true (axF_ok l (axAt l a)).1
   have i3 : i64B 3 = true := by decide
   cases h1 : decide (nextV l (axAt l (axAt l a)) 3 > 0) with
   | true =>
     cases h2 : decide (nextV l (axAt l (axAt l a) + 1) 3 > 0) with
     | true =>
       have e1 : moZ l a = ⟨-6442450944, 6442450944, (axF l a).sp, (axF l a).ac⟩ := by unfold moZ; rw [h1]; rfl
       have e2 : moL l a = ⟨-1073741824, 1073741824, (axF l (axAt l a)).sp, (axF l (axAt l a)).ac⟩ := by unfold moL; rw [h2]; rfl
       rw [e1] at g1
       rw [e2] at g2
       have d1 := decide_eq_true g1
       have d2 := decide_eq_true g2
       unfold moF moAt
       rw [e1, e2]
       have L := tmo_11 T a
       rw [<- hcol] at L
       refine ⟨rfl, rfl, [true, true], _, _, L, fun E u hu => hu, pickL_ok ?_ _⟩
       repeat' (first | exact cd_nil | refine cd_cons ?_ ?_)
       all_goals first | with_reducible rfl | with_reducible assumption | rfl | (with_reducible refine atB_iff.2 ?_; omega) | (with_reducible refine decide_eq_false ?_; omega) | (with_reducible refine decide_eq_true ?_; omega)
     | false =>
       have e1 : moZ l a = ⟨-6442450944, 6442450944, (axF l a).sp, (axF l a).ac⟩ := by unfold moZ; rw [h1]; rfl
       have e2 : moL l a = (axF l (axAt l a)) := by unfold moL; rw [h2]; rfl
       rw [e1] at g1
       rw [e2] at g2
       have d1 := decide_eq_true g1
       have d2 := decide_eq_true g2
       unfold moF moAt
       rw [e1, e2]
       have L := tmo_10 T a
       rw [<- hcol] at L
       refine ⟨rfl, rfl, [true, false], _, _, L, fun E u hu => hu, pickL_ok ?_ _⟩
       repeat' (first | exact cd_nil | refine cd_cons ?_ ?_)
       all_goals first | with_reducible rfl | with_reducible assumption | rfl | (with_reducible refine atB_iff.2 ?_; omega) | (with_reducible refine decide_eq_false ?_; omega) | (with_reducible refine decide_eq_true ?_; omega)
   | false =>
     cases h2 : decide (nextV l (axAt l (axAt l a) + 1) 3 > 0) with
     | true =>
       have e1 : moZ l a = (axF l a) := by unfold moZ; rw [h1]; rfl
       have e2 : moL l a = ⟨-1073741824, 1073741824, (axF l (axAt l a)).sp, (axF l (axAt l a)).ac⟩ := by unfold moL; rw [h2]; rfl
       rw [e1] at g1
       rw [e2] at g2
       have d1 := decide_eq_true g1
       have d2 := decide_eq_true g2
       unfold moF moAt
       rw [e1, e2]
       have L := tmo_01 T a
       rw [<- hcol] at L
       refine ⟨rfl, rfl, [false, true], _, _, L, fun E u hu => hu, pickL_ok ?_ _⟩
       repeat' (first | exact cd_nil | refine cd_cons ?_ ?_)
       all_goals first | with_reducible rfl | with_reducible assumption | rfl | (with_reducible refine atB_iff.2 ?_; omega) | (with_reducible refine decide_eq_false ?_; omega) | (with_reducible refine decide_eq_true ?_; omega)
     | false =>
       have e1 : moZ l a = (axF l a) := by unfold moZ; rw [h1]; rfl
       have e2 : moL l a = (axF l (axAt l a)) := by unfold moL; rw [h2]; rfl
       rw [e1] at g1
       rw [e2] at g2
       have d1 := decide_eq_true g1
       have d2 := decide_eq_true g2
       unfold moF moAt
       rw [e1, e2]
       have L := tmo_00 T a
       rw [<- hcol] at L
       refine ⟨rfl, rfl, [false, false], _, _, L, fun E u hu => hu, pickL_ok ?_ _⟩
       repeat' (first | exact cd_nil | refine cd_cons ?_ ?_)
       all_goals first | with_reducible rfl | with_reducible assumption | rfl | (with_reducible refine atB_iff.2 ?_; omega) | (with_reducible refine decide_eq_false ?_; omega) | (with_reducible refine decide_eq_true ?_; omega)
 · cases hg
end
end Go.Proofs.YtmhhdedekblbnaaGreat.AtSl
