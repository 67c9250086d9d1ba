/-
 Package spymake's axes, positions and mounts out of streams over tables.
 Conditions: those of each theorem.
-/
import Derived.Test.YtmhhdedekblbnaaGreatQSN
import Derived.Test.YtmhhdedekblbnaaGreatQQH
set_option maxRecDepth 100000
set_option linter.unusedVariables false
set_option linter.unusedSimpArgs false
namespace Go.Proofs.YtmhhdedekblbnaaGreat.AtSl
open Go.RowKit Ev Wd AtSn
open Go.Proofs.YtmhhdedekblbnaaGreat
variable {F : Type}
noncomputable section

def gAx (args : List (AV Tb)) (bs : List (Blk Tb)) : Option (AV Tb × List (List (AC Tb)) × List (Bool × Bool)) := match args, bs with
 | [.w (.one (.ptr 0 0))], [⟨t, [.fv (.tab [some .i64] T), .int .i64 a]⟩] => bif Nat.beq t 69 then some (.w (.agg [.int .i64 (axF (colT T) a).mn, .int .i64 (axF (colT T) a).mx, .int .i64 (axF (colT T) a).sp, .int .i64 (axF (colT T) a).ac]), [[.fv (.tab [some .i64] T), .int .i64 (axAt (colT T) a)]], [(atB (a + 12), true), (listB (colT T), true), (atB a, true)]) else none
 | _, _ => none
def gIn (args : List (AV Tb)) (bs : List (Blk Tb)) : Option (AV Tb × List (List (AC Tb)) × List (Bool × Bool)) := match args, bs with
 | [.w (.one (.ptr 0 0)), .w (.agg [.int .i64 x, .int .i64 y, .int .i64 z, .int .i64 t0])], [⟨t, [.fv (.tab [some .i64] T), .int .i64 a]⟩] => bif Nat.beq t 69 then some (.w (.one (.int .i64 (inV (colT T) a ⟨x, y, z, t0⟩))), [[.fv (.tab [some .i64] T), .int .i64 (inAt (colT T) a)]], [(decide (axE ⟨x, y, z, t0⟩ = 0), true), (atB (a + 4), true), (listB (colT T), true), (atB a, true)]) else none
 | _, _ => none
noncomputable abbrev libH1T : List (Nat × FnSp Tb) := [(77, locWSp cxT gAx), (78, locWSp cxT gIn), (30, locWSp cxT gNx)]
theorem tax_11 (T : List (List Int)) (a : Int) : evLoc (ctxOf Tryz.prog tbI (fun _ => false) libZ0T) Tryz.f77 [.w (.one (.ptr 0 0))] [⟨69, [.fv (.tab [some .i64] T), .int .i64 a]⟩] [true, true] = some (AV.tup [AW.agg [AC.int IntKind.i64 (IntKind.i64.wrap (IntKind.i64.wrap (IntKind.i64.wrap (0 - rangeV (colT T) (a + 1 + 1 + 1 + 1 + 1) 0 6) * 1073741824) + nextV (colT T) (a + 1 + 1 + 1 + 1 + 1 + 1 + 1 + 1) 1048576)), AC.int IntKind.i64 (IntKind.i64.wrap (IntKind.i64.wrap (rangeV (colT T) (a + 1 + 1 + 1 + 1 + 1 + 1) 1 6 * 1073741824) - nextV (colT T) (a + 1 + 1 + 1 + 1 + 1 + 1 + 1 + 1 + 1) 1048576)), AC.int IntKind.i64 (IntKind.i64.wrap (spX (rangeV (colT T) a 24 30) - IntKind.i64.wrap (nextV (colT T) (a + 1 + 1 + 1) 1000 * mi 1 ((IntKind.i64.wrap (spX (rangeV (colT T) a 24 30) - 16777216)).fdiv (2 ^ min (Int.toNat 10) IntKind.i64.bits))))), AC.int IntKind.i64 (mi (IntKind.i64.wrap (IntKind.i64.wrap ((spX (rangeV (colT T) a 24 30)).tdiv (rangeV (colT T) (a + 1) 1 8)) + nextV (colT T) (a + 1 + 1 + 1 + 1) 1000)) (IntKind.i64.wrap (spX (rangeV (colT T) a 24 30) - IntKind.i64.wrap (nextV (colT T) (a + 1 + 1 + 1) 1000 * mi 1 ((IntKind.i64.wrap (spX (rangeV (colT T) a 24 30) - 16777216)).fdiv (2 ^ min (Int.toNat 10) IntKind.i64.bits))))))], AW.agg [AC.fv (Tb.tab [some IntKind.i64] T), AC.int IntKind.i64 (a + 1 + 1 + 1 + 1 + 1 + 1 + 1 + 1 + 1 + 1)]], (pickL [(decide ((30 : Int) < 24), false), (rB 24, true), (rB 30, true), (listB (colT T), true), (atB a, true), (decide (rangeV (colT T) a 24 30 < 0), false), (decide ((8 : Int) < 1), false), (rB 1, true), (rB 8, true), (atB (a + 1), true), (decide (rangeV (colT T) (a + 1) 1 8 = 0), false), (i64B 3, true), (atB (a + 1 + 1), true), (nextV (colT T) (a + 1 + 1) 3 == 0, true), (i64B 1000, true), (atB (a + 1 + 1 + 1), true), (decide ((10 : Int) < 0), false), (atB (a + 1 + 1 + 1 + 1), true), (decide ((6 : Int) < 0), false), (rB 0, true), (rB 6, true), (atB (a + 1 + 1 + 1 + 1 + 1), true), (decide ((6 : Int) < 1), false), (atB (a + 1 + 1 + 1 + 1 + 1 + 1), true), (i64B 4, true), (atB (a + 1 + 1 + 1 + 1 + 1 + 1 + 1), true), (nextV (colT T) (a + 1 + 1 + 1 + 1 + 1 + 1 + 1) 4 == 0, true), (i64B 1048576, true), (atB (a + 1 + 1 + 1 + 1 + 1 + 1 + 1 + 1), true), (atB (a + 1 + 1 + 1 + 1 + 1 + 1 + 1 + 1 + 1), true)] [0, 1, 2, 3, 4, 5, 6, 7, 8, 3, 9, 10, 11, 3, 12, 13, 14, 3, 15, 16, 14, 3, 17, 18, 19, 20, 3, 21, 22, 7, 20, 3, 23, 24, 3, 25, 26, 27, 3, 28, 27, 3, 29])) := by kernel_rfl
theorem tax_10 (T : List (List Int)) (a : Int) : evLoc (ctxOf Tryz.prog tbI (fun _ => false) libZ0T) Tryz.f77 [.w (.one (.ptr 0 0))] [⟨69, [.fv (.tab [some .i64] T), .int .i64 a]⟩] [true, false] = some (AV.tup [AW.agg [AC.int IntKind.i64 (IntKind.i64.wrap (IntKind.i64.wrap (0 - rangeV (colT T) (a + 1 + 1 + 1 + 1 + 1) 0 6) * 1073741824)), AC.int IntKind.i64 (IntKind.i64.wrap (rangeV (colT T) (a + 1 + 1 + 1 + 1 + 1 + 1) 1 6 * 1073741824)), AC.int IntKind.i64 (IntKind.i64.wrap (spX (rangeV (colT T) a 24 30) - IntKind.i64.wrap (nextV (colT T) (a + 1 + 1 + 1) 1000 * mi 1 ((IntKind.i64.wrap (spX (rangeV (colT T) a 24 30) - 16777216)).fdiv (2 ^ min (Int.toNat 10) IntKind.i64.bits))))), AC.int IntKind.i64 (mi (IntKind.i64.wrap (IntKind.i64.wrap ((spX (rangeV (colT T) a 24 30)).tdiv (rangeV (colT T) (a + 1) 1 8)) + nextV (colT T) (a + 1 + 1 + 1 + 1) 1000)) (IntKind.i64.wrap (spX (rangeV (colT T) a 24 30) - IntKind.i64.wrap (nextV (colT T) (a + 1 + 1 + 1) 1000 * mi 1 ((IntKind.i64.wrap (spX (rangeV (colT T) a 24 30) - 16777216)).fdiv (2 ^ min (Int.toNat 10) IntKind.i64.bits))))))], AW.agg [AC.fv (Tb.tab [some IntKind.i64] T), AC.int IntKind.i64 (a + 1 + 1 + 1 + 1 + 1 + 1 + 1 + 1)]], (pickL [(decide ((30 : Int) < 24), false), (rB 24, true), (rB 30, true), (listB (colT T), true), (atB a, true), (decide (rangeV (colT T) a 24 30 < 0), false), (decide ((8 : Int) < 1), false), (rB 1, true), (rB 8, true), (atB (a + 1), true), (decide (rangeV (colT T) (a + 1) 1 8 = 0), false), (i64B 3, true), (atB (a + 1 + 1), true), (nextV (colT T) (a + 1 + 1) 3 == 0, true), (i64B 1000, true), (atB (a + 1 + 1 + 1), true), (decide ((10 : Int) < 0), false), (atB (a + 1 + 1 + 1 + 1), true), (decide ((6 : Int) < 0), false), (rB 0, true), (rB 6, true), (atB (a + 1 + 1 + 1 + 1 + 1), true), (decide ((6 : Int) < 1), false), (atB (a + 1 + 1 + 1 + 1 + 1 + 1), true), (i64B 4, true), (atB (a + 1 + 1 + 1 + 1 + 1 + 1 + 1), true), (nextV (colT T) (a + 1 + 1 + 1 + 1 + 1 + 1 + 1) 4 == 0, false)] [0, 1, 2, 3, 4, 5, 6, 7, 8, 3, 9, 10, 11, 3, 12, 13, 14, 3, 15, 16, 14, 3, 17, 18, 19, 20, 3, 21, 22, 7, 20, 3, 23, 24, 3, 25, 26])) := by kernel_rfl
theorem tax_01 (T : List (List Int)) (a : Int) : evLoc (ctxOf Tryz.prog tbI (fun _ => false) libZ0T) Tryz.f77 [.w (.one (.ptr 0 0))] [⟨69, [.fv (.tab [some .i64] T), .int .i64 a]⟩] [false, true] = some (AV.tup [AW.agg [AC.int IntKind.i64 (IntKind.i64.wrap (IntKind.i64.wrap (IntKind.i64.wrap (0 - rangeV (colT T) (a + 1 + 1 + 1) 0 6) * 1073741824) + nextV (colT T) (a + 1 + 1 + 1 + 1 + 1 + 1) 1048576)), AC.int IntKind.i64 (IntKind.i64.wrap (IntKind.i64.wrap (rangeV (colT T) (a + 1 + 1 + 1 + 1) 1 6 * 1073741824) - nextV (colT T) (a + 1 + 1 + 1 + 1 + 1 + 1 + 1) 1048576)), AC.int IntKind.i64 (spX (rangeV (colT T) a 24 30)), AC.int IntKind.i64 (IntKind.i64.wrap ((spX (rangeV (colT T) a 24 30)).tdiv (rangeV (colT T) (a + 1) 1 8)))], AW.agg [AC.fv (Tb.tab [some IntKind.i64] T), AC.int IntKind.i64 (a + 1 + 1 + 1 + 1 + 1 + 1 + 1 + 1)]], (pickL [(decide ((30 : Int) < 24), false), (rB 24, true), (rB 30, true), (listB (colT T), true), (atB a, true), (decide (rangeV (colT T) a 24 30 < 0), false), (decide ((8 : Int) < 1), false), (rB 1, true), (rB 8, true), (atB (a + 1), true), (decide (rangeV (colT T) (a + 1) 1 8 = 0), false), (i64B 3, true), (atB (a + 1 + 1), true), (nextV (colT T) (a + 1 + 1) 3 == 0, false), (decide ((6 : Int) < 0), false), (rB 0, true), (rB 6, true), (atB (a + 1 + 1 + 1), true), (decide ((6 : Int) < 1), false), (atB (a + 1 + 1 + 1 + 1), true), (i64B 4, true), (atB (a + 1 + 1 + 1 + 1 + 1), true), (nextV (colT T) (a + 1 + 1 + 1 + 1 + 1) 4 == 0, true), (i64B 1048576, true), (atB (a + 1 + 1 + 1 + 1 + 1 + 1), true), (atB (a + 1 + 1 + 1 + 1 + 1 + 1 + 1), true)] [0, 1, 2, 3, 4, 5, 6, 7, 8, 3, 9, 10, 11, 3, 12, 13, 14, 15, 16, 3, 17, 18, 7, 16, 3, 19, 20, 3, 21, 22, 23, 3, 24, 23, 3, 25])) := by kernel_rfl
theorem tax_00 (T : List (List Int)) (a : Int) : evLoc (ctxOf Tryz.prog tbI (fun _ => false) libZ0T) Tryz.f77 [.w (.one (.ptr 0 0))] [⟨69, [.fv (.tab [some .i64] T), .int .i64 a]⟩] [false, false] = some (AV.tup [AW.agg [AC.int IntKind.i64 (IntKind.i64.wrap (IntKind.i64.wrap (0 - rangeV (colT T) (a + 1 + 1 + 1) 0 6) * 1073741824)), AC.int IntKind.i64 (IntKind.i64.wrap (rangeV (colT T) (a + 1 + 1 + 1 + 1) 1 6 * 1073741824)), AC.int IntKind.i64 (spX (rangeV (colT T) a 24 30)), AC.int IntKind.i64 (IntKind.i64.wrap ((spX (rangeV (colT T) a 24 30)).tdiv (rangeV (colT T) (a + 1) 1 8)))], AW.agg [AC.fv (Tb.tab [some IntKind.i64] T), AC.int IntKind.i64 (a + 1 + 1 + 1 + 1 + 1 + 1)]], (pickL [(decide ((30 : Int) < 24), false), (rB 24, true), (rB 30, true), (listB (colT T), true), (atB a, true), (decide (rangeV (colT T) a 24 30 < 0), false), (decide ((8 : Int) < 1), false), (rB 1, true), (rB 8, true), (atB (a + 1), true), (decide (rangeV (colT T) (a + 1) 1 8 = 0), false), (i64B 3, true), (atB (a + 1 + 1), true), (nextV (colT T) (a + 1 + 1) 3 == 0, false), (decide ((6 : Int) < 0), false), (rB 0, true), (rB 6, true), (atB (a + 1 + 1 + 1), true), (decide ((6 : Int) < 1), false), (atB (a + 1 + 1 + 1 + 1), true), (i64B 4, true), (atB (a + 1 + 1 + 1 + 1 + 1), true), (nextV (colT T) (a + 1 + 1 + 1 + 1 + 1) 4 == 0, false)] [0, 1, 2, 3, 4, 5, 6, 7, 8, 3, 9, 10, 11, 3, 12, 13, 14, 15, 16, 3, 17, 18, 7, 16, 3, 19, 20, 3, 21, 22])) := by kernel_rfl
set_option maxHeartbeats 4000000 in
theorem gAx_ok : (locWSp cxT gAx).ok Tryz.prog tbI 77 := by
 refine locWSp_ok (ctxOf_ok libZ0T_ok (eq_none _)) (by kernel_rfl) Tryz.func77 rfl lps_nil rfl fun args bs v css cd hg hc => ?_
 unfold gAx at hg
 split at hg
 · rename_i t T a
   cases hb : Nat.beq t 69 with
   | false => rw [hb] at hg; cases hg
   | true =>
   rw [hb] at hg
   simp only [cond_true] at hg
   cases hg
   obtain rfl := Nat.eq_of_beq_eq_true hb
   obtain ⟨l, hcol⟩ : ∃ l, l = colT T := ⟨_, rfl⟩
   rw [<- hcol] at hc ⊢
   have hl : listB l = true := hc (listB l, true) (by simp)
   have ha : atB a = true := hc (atB a, true) (by simp)
   have ha1 := atB_iff.1 ha
   have ha5 := atB_iff.1 (hc (atB (a + 12), true) (by simp))
   have k1 := rangeV_in l a 24 30 (by omega)
   have k2 := rangeV_in l (a + 1) 1 8 (by omega)
   obtain ⟨_, _, _, y4, y5⟩ := acX_in k1.1 k1.2 k2.1 k2.2
   cases h1 : (nextV l (a + 1 + 1) 3 == 0) with
   | true =>
     cases h2 : (nextV l (a + 1 + 1 + 1 + 1 + 1 + 1 + 1) 4 == 0) with
     | true =>
       have e1 : axF l a = ⟨-rangeV l (a + 1 + 1 + 1 + 1 + 1) 0 6 * 1073741824 + nextV l (a + 1 + 1 + 1 + 1 + 1 + 1 + 1 + 1) 1048576, rangeV l (a + 1 + 1 + 1 + 1 + 1 + 1) 1 6 * 1073741824 - nextV l (a + 1 + 1 + 1 + 1 + 1 + 1 + 1 + 1 + 1) 1048576, spY (rangeV l a 24 30) (nextV l (a + 1 + 1 + 1) 1000), acY (rangeV l a 24 30) (rangeV l (a + 1) 1 8) (nextV l (a + 1 + 1 + 1) 1000) (nextV l (a + 1 + 1 + 1 + 1) 1000)⟩ := by unfold axF; rw [h1, h2]; rfl
       have e2 : axAt l a = (a + 1 + 1 + 1 + 1 + 1 + 1 + 1 + 1 + 1 + 1) := by unfold axAt; rw [h1, h2]; rfl
       have r1 := rangeV_in l (a + 1 + 1 + 1 + 1 + 1) 0 6 (by omega)
       have r2 := rangeV_in l (a + 1 + 1 + 1 + 1 + 1 + 1) 1 6 (by omega)
       have w1 : IntKind.i64.wrap (0 - rangeV l (a + 1 + 1 + 1 + 1 + 1) 0 6) = -rangeV l (a + 1 + 1 + 1 + 1 + 1) 0 6 := by rw [v64 (by omega) (by omega)]; omega
       have w2 : IntKind.i64.wrap (-rangeV l (a + 1 + 1 + 1 + 1 + 1) 0 6 * 1073741824) = -rangeV l (a + 1 + 1 + 1 + 1 + 1) 0 6 * 1073741824 := v64 (by omega) (by omega)
       have w3 : IntKind.i64.wrap (rangeV l (a + 1 + 1 + 1 + 1 + 1 + 1) 1 6 * 1073741824) = rangeV l (a + 1 + 1 + 1 + 1 + 1 + 1) 1 6 * 1073741824 := v64 (by omega) (by omega)
       have k5 := nx (l := l) (p := (a + 1 + 1 + 1 + 1 + 1 + 1 + 1 + 1)) (n := 1048576) (by omega)
       have k6 := nx (l := l) (p := (a + 1 + 1 + 1 + 1 + 1 + 1 + 1 + 1 + 1)) (n := 1048576) (by omega)
       have w4 : IntKind.i64.wrap (-rangeV l (a + 1 + 1 + 1 + 1 + 1) 0 6 * 1073741824 + nextV l (a + 1 + 1 + 1 + 1 + 1 + 1 + 1 + 1) 1048576) = -rangeV l (a + 1 + 1 + 1 + 1 + 1) 0 6 * 1073741824 + nextV l (a + 1 + 1 + 1 + 1 + 1 + 1 + 1 + 1) 1048576 := v64 (by omega) (by omega)
       have w5 : IntKind.i64.wrap (rangeV l (a + 1 + 1 + 1 + 1 + 1 + 1) 1 6 * 1073741824 - nextV l (a + 1 + 1 + 1 + 1 + 1 + 1 + 1 + 1 + 1) 1048576) = rangeV l (a + 1 + 1 + 1 + 1 + 1 + 1) 1 6 * 1073741824 - nextV l (a + 1 + 1 + 1 + 1 + 1 + 1 + 1 + 1 + 1) 1048576 := v64 (by omega) (by omega)
       have k3 := nx (l := l) (p := (a + 1 + 1 + 1)) (n := 1000) (by omega)
       have k4 := nx (l := l) (p := (a + 1 + 1 + 1 + 1)) (n := 1000) (by omega)
       obtain ⟨_, _, _, x1, x2, x3⟩ := spY_in k1.1 k1.2 k3.1 k3.2
       obtain ⟨_, _, _, x4⟩ := acY_in k1.1 k1.2 k2.1 k2.2 k3.1 k3.2 k4.1 k4.2
       rw [e1, e2]
       have L := tax_11 T a
       rw [<- hcol] at L
       rw [w1, w2, w3, w4, w5, x1, x2, x3, y4, y5, x4] at L
       refine ⟨rfl, rfl, [true, true], _, _, L, fun E u hu => hu, pickL_ok ?_ _⟩
       repeat' (first | exact cd_nil | refine cd_cons ?_ ?_)
       all_goals first | with_reducible rfl | with_reducible assumption | rfl | (with_reducible refine atB_iff.2 ?_; omega) | (with_reducible refine decide_eq_false ?_; omega) | (with_reducible refine decide_eq_true ?_; omega)
     | false =>
       have e1 : axF l a = ⟨-rangeV l (a + 1 + 1 + 1 + 1 + 1) 0 6 * 1073741824, rangeV l (a + 1 + 1 + 1 + 1 + 1 + 1) 1 6 * 1073741824, spY (rangeV l a 24 30) (nextV l (a + 1 + 1 + 1) 1000), acY (rangeV l a 24 30) (rangeV l (a + 1) 1 8) (nextV l (a + 1 + 1 + 1) 1000) (nextV l (a + 1 + 1 + 1 + 1) 1000)⟩ := by unfold axF; rw [h1, h2]; rfl
       have e2 : axAt l a = (a + 1 + 1 + 1 + 1 + 1 + 1 + 1 + 1) := by unfold axAt; rw [h1, h2]; rfl
       have r1 := rangeV_in l (a + 1 + 1 + 1 + 1 + 1) 0 6 (by omega)
       have r2 := rangeV_in l (a + 1 + 1 + 1 + 1 + 1 + 1) 1 6 (by omega)
       have w1 : IntKind.i64.wrap (0 - rangeV l (a + 1 + 1 + 1 + 1 + 1) 0 6) = -rangeV l (a + 1 + 1 + 1 + 1 + 1) 0 6 := by rw [v64 (by omega) (by omega)]; omega
       have w2 : IntKind.i64.wrap (-rangeV l (a + 1 + 1 + 1 + 1 + 1) 0 6 * 1073741824) = -rangeV l (a + 1 + 1 + 1 + 1 + 1) 0 6 * 1073741824 := v64 (by omega) (by omega)
       have w3 : IntKind.i64.wrap (rangeV l (a + 1 + 1 + 1 + 1 + 1 + 1) 1 6 * 1073741824) = rangeV l (a + 1 + 1 + 1 + 1 + 1 + 1) 1 6 * 1073741824 := v64 (by omega) (by omega)
       have k3 := nx (l := l) (p := (a + 1 + 1 + 1)) (n := 1000) (by omega)
       have k4 := nx (l := l) (p := (a + 1 + 1 + 1 + 1)) (n := 1000) (by omega)
       obtain ⟨_, _, _, x1, x2, x3⟩ := spY_in k1.1 k1.2 k3.1 k3.2
       obtain ⟨_, _, _, x4⟩ := acY_in k1.1 k1.2 k2.1 k2.2 k3.1 k3.2 k4.1 k4.2
       rw [e1, e2]
       have L := tax_10 T a
       rw [<- hcol] at L
       rw [w1, w2, w3, x1, x2, x3, y4, y5, x4] at L
       refine ⟨rfl, rfl, [true, false], _, _, L, fun E u hu => hu, pickL_ok ?_ _⟩
       repeat' (first | exact cd_nil | refine cd_cons ?_ ?_)
       all_goals first | with_reducible rfl | with_reducible assumption | rfl | (with_reducible refine atB_iff.2 ?_; omega) | (with_reducible refine decide_eq_false ?_; omega) | (with_reducible refine decide_eq_true ?_; omega)
   | false =>
     cases h2 : (nextV l (a + 1 + 1 + 1 + 1 + 1) 4 == 0) with
     | true =>
       have e1 : axF l a = ⟨-rangeV l (a + 1 + 1 + 1) 0 6 * 1073741824 + nextV l (a + 1 + 1 + 1 + 1 + 1 + 1) 1048576, rangeV l (a + 1 + 1 + 1 + 1) 1 6 * 1073741824 - nextV l (a + 1 + 1 + 1 + 1 + 1 + 1 + 1) 1048576, spX (rangeV l a 24 30), acX (rangeV l a 24 30) (rangeV l (a + 1) 1 8)⟩ := by unfold axF; rw [h1, h2]; rfl
       have e2 : axAt l a = (a + 1 + 1 + 1 + 1 + 1 + 1 + 1 + 1) := by unfold axAt; rw [h1, h2]; rfl
       have r1 := rangeV_in l (a + 1 + 1 + 1) 0 6 (by omega)
       have r2 := rangeV_in l (a + 1 + 1 + 1 + 1) 1 6 (by omega)
       have w1 : IntKind.i64.wrap (0 - rangeV l (a + 1 + 1 + 1) 0 6) = -rangeV l (a + 1 + 1 + 1) 0 6 := by rw [v64 (by omega) (by omega)]; omega
       have w2 : IntKind.i64.wrap (-rangeV l (a + 1 + 1 + 1) 0 6 * 1073741824) = -rangeV l (a + 1 + 1 + 1) 0 6 * 1073741824 := v64 (by omega) (by omega)
       have w3 : IntKind.i64.wrap (rangeV l (a + 1 + 1 + 1 + 1) 1 6 * 1073741824) = rangeV l (a + 1 + 1 + 1 + 1) 1 6 * 1073741824 := v64 (by omega) (by omega)
       have k5 := nx (l := l) (p := (a + 1 + 1 + 1 + 1 + 1 + 1)) (n := 1048576) (by omega)
       have k6 := nx (l := l) (p := (a + 1 + 1 + 1 + 1 + 1 + 1 + 1)) (n := 1048576) (by omega)
       have w4 : IntKind.i64.wrap (-rangeV l (a + 1 + 1 + 1) 0 6 * 1073741824 + nextV l (a + 1 + 1 + 1 + 1 + 1 + 1) 1048576) = -rangeV l (a + 1 + 1 + 1) 0 6 * 1073741824 + nextV l (a + 1 + 1 + 1 + 1 + 1 + 1) 1048576 := v64 (by omega) (by omega)
       have w5 : IntKind.i64.wrap (rangeV l (a + 1 + 1 + 1 + 1) 1 6 * 1073741824 - nextV l (a + 1 + 1 + 1 + 1 + 1 + 1 + 1) 1048576) = rangeV l (a + 1 + 1 + 1 + 1) 1 6 * 1073741824 - nextV l (a + 1 + 1 + 1 + 1 + 1 + 1 + 1) 1048576 := v64 (by omega) (by omega)
       rw [e1, e2]
       have L := tax_01 T a
       rw [<- hcol] at L
       rw [w1, w2, w3, w4, w5, y4, y5] at L
       refine ⟨rfl, rfl, [false, true], _, _, L, fun E u hu => hu, pickL_ok ?_ _⟩
       repeat' (first | exact cd_nil | refine cd_cons ?_ ?_)
       all_goals first | with_reducible rfl | with_reducible assumption | rfl | (with_reducible refine atB_iff.2 ?_; omega) | (with_reducible refine decide_eq_false ?_; omega) | (with_reducible refine decide_eq_true ?_; omega)
     | false =>
       have e1 : axF l a = ⟨-rangeV l (a + 1 + 1 + 1) 0 6 * 1073741824, rangeV l (a + 1 + 1 + 1 + 1) 1 6 * 1073741824, spX (rangeV l a 24 30), acX (rangeV l a 24 30) (rangeV l (a + 1) 1 8)⟩ := by unfold axF; rw [h1, h2]; rfl
       have e2 : axAt l a = (a + 1 + 1 + 1 + 1 + 1 + 1) := by unfold axAt; rw [h1, h2]; rfl
       have r1 := rangeV_in l (a + 1 + 1 + 1) 0 6 (by omega)
       have r2 := rangeV_in l (a + 1 + 1 + 1 + 1) 1 6 (by omega)
       have w1 : IntKind.i64.wrap (0 - rangeV l (a + 1 + 1 + 1) 0 6) = -rangeV l (a + 1 + 1 + 1) 0 6 := by rw [v64 (by omega) (by omega)]; omega
       have w2 : IntKind.i64.wrap (-rangeV l (a + 1 + 1 + 1) 0 6 * 1073741824) = -rangeV l (a + 1 + 1 + 1) 0 6 * 1073741824 := v64 (by omega) (by omega)
       have w3 : IntKind.i64.wrap (rangeV l (a + 1 + 1 + 1 + 1) 1 6 * 1073741824) = rangeV l (a + 1 + 1 + 1 + 1) 1 6 * 1073741824 := v64 (by omega) (by omega)
       rw [e1, e2]
       have L := tax_00 T a
       rw [<- hcol] at L
       rw [w1, w2, w3, y4, y5] at L
       refine ⟨rfl, rfl, [false, false], _, _, L, fun E u hu => hu, pickL_ok ?_ _⟩
       repeat' (first | exact cd_nil | refine cd_cons ?_ ?_)
       all_goals first | with_reducible rfl | with_reducible assumption | rfl | (with_reducible refine atB_iff.2 ?_; omega) | (with_reducible refine decide_eq_false ?_; omega) | (with_reducible refine decide_eq_true ?_; omega)
 · cases hg
theorem tin_1 (T : List (List Int)) (a : Int) (x : Ax) : evLoc (ctxOf Tryz.prog tbI (fun _ => false) libZ0T) Tryz.f78 [.w (.one (.ptr 0 0)), (axA x)] [⟨69, [.fv (.tab [some .i64] T), .int .i64 a]⟩] [true] = some (AV.tup [AW.one (AC.int IntKind.i64 x.mn), AW.agg [AC.fv (Tb.tab [some IntKind.i64] T), AC.int IntKind.i64 (a + 1)]], (pickL [(i64B 6, true), (listB (colT T), true), (atB a, true), (nextV (colT T) a 6 == 0, true)] [0, 1, 2, 3])) := by kernel_rfl
theorem tin_01 (T : List (List Int)) (a : Int) (x : Ax) : evLoc (ctxOf Tryz.prog tbI (fun _ => false) libZ0T) Tryz.f78 [.w (.one (.ptr 0 0)), (axA x)] [⟨69, [.fv (.tab [some .i64] T), .int .i64 a]⟩] [false, true] = some (AV.tup [AW.one (AC.int IntKind.i64 x.mx), AW.agg [AC.fv (Tb.tab [some IntKind.i64] T), AC.int IntKind.i64 (a + 1)]], (pickL [(i64B 6, true), (listB (colT T), true), (atB a, true), (nextV (colT T) a 6 == 0, false), (nextV (colT T) a 6 == 1, true)] [0, 1, 2, 3, 4])) := by kernel_rfl
theorem tin_00 (T : List (List Int)) (a : Int) (x : Ax) : evLoc (ctxOf Tryz.prog tbI (fun _ => false) libZ0T) Tryz.f78 [.w (.one (.ptr 0 0)), (axA x)] [⟨69, [.fv (.tab [some .i64] T), .int .i64 a]⟩] [false, false] = some (AV.tup [AW.one (AC.int IntKind.i64 (IntKind.i64.wrap (IntKind.i64.wrap (x.mn + IntKind.i64.wrap (IntKind.i64.wrap ((IntKind.i64.wrap (x.mx - x.mn)).tdiv 1000) * nextV (colT T) (a + 1) 1000)) + nextV (colT T) (a + 1 + 1) (IntKind.i64.wrap (IntKind.i64.wrap ((IntKind.i64.wrap (x.mx - x.mn)).tdiv 1000) + 1))))), AW.agg [AC.fv (Tb.tab [some IntKind.i64] T), AC.int IntKind.i64 (a + 1 + 1 + 1)]], (pickL [(i64B 6, true), (listB (colT T), true), (atB a, true), (nextV (colT T) a 6 == 0, false), (nextV (colT T) a 6 == 1, false), (decide ((1000 : Int) = 0), false), (i64B 1000, true), (atB (a + 1), true), (i64B (IntKind.i64.wrap (IntKind.i64.wrap ((IntKind.i64.wrap (x.mx - x.mn)).tdiv 1000) + 1)), true), (atB (a + 1 + 1), true)] [0, 1, 2, 3, 4, 5, 6, 1, 7, 8, 1, 9])) := by kernel_rfl
set_option maxHeartbeats 4000000 in
theorem gIn_ok : (locWSp cxT gIn).ok Tryz.prog tbI 78 := by
 refine locWSp_ok (ctxOf_ok libZ0T_ok (eq_none _)) (by kernel_rfl) Tryz.func78 rfl lps_nil rfl fun args bs v css cd hg hc => ?_
 unfold gIn at hg
 split at hg
 · rename_i x y z t0 t T a
   cases hb : Nat.beq t 69 with
   | false => rw [hb] at hg; cases hg
   | true =>
   rw [hb] at hg
   simp only [cond_true] at hg
   cases hg
   obtain rfl := Nat.eq_of_beq_eq_true hb
   obtain ⟨l, hcol⟩ : ∃ l, l = colT T := ⟨_, rfl⟩
   rw [<- hcol] at hc ⊢
   have hl : listB l = true := hc (listB l, true) (by simp)
   have ha : atB a = true := hc (atB a, true) (by simp)
   have ha1 := atB_iff.1 ha
   have ha5 := atB_iff.1 (hc (atB (a + 4), true) (by simp))
   have hx := axE_ok.1 (of_decide_eq_true (hc (decide (axE ⟨x, y, z, t0⟩ = 0), true) (by simp)))
   unfold okA at hx
   simp only at hx
   cases h1 : (nextV l a 6 == 0) with
   | true =>
     have e1 : inV l a ⟨x, y, z, t0⟩ = x := by unfold inV; rw [h1]; rfl
     have e2 : inAt l a = a + 1 := by unfold inAt; rw [h1]; rfl
     rw [e1, e2]
     have L := tin_1 T a ⟨x, y, z, t0⟩
     rw [<- hcol] at L
     refine ⟨rfl, rfl, [true], _, _, L, fun E u hu => hu, pickL_ok ?_ _⟩
     repeat' (first | exact cd_nil | refine cd_cons ?_ ?_)
     all_goals first | with_reducible rfl | with_reducible assumption | rfl | (with_reducible refine atB_iff.2 ?_; omega) | (with_reducible refine decide_eq_false ?_; omega) | (with_reducible refine decide_eq_true ?_; omega)
   | false =>
     cases h2 : (nextV l a 6 == 1) with
     | true =>
       have e1 : inV l a ⟨x, y, z, t0⟩ = y := by unfold inV; rw [h1, h2]; rfl
       have e2 : inAt l a = a + 1 := by unfold inAt; rw [h1, h2]; rfl
       rw [e1, e2]
       have L := tin_01 T a ⟨x, y, z, t0⟩
       rw [<- hcol] at L
       refine ⟨rfl, rfl, [false, true], _, _, L, fun E u hu => hu, pickL_ok ?_ _⟩
       repeat' (first | exact cd_nil | refine cd_cons ?_ ?_)
       all_goals first | with_reducible rfl | with_reducible assumption | rfl | (with_reducible refine atB_iff.2 ?_; omega) | (with_reducible refine decide_eq_false ?_; omega) | (with_reducible refine decide_eq_true ?_; omega)
     | false =>
       have k1 := nx (l := l) (p := a + 1) (n := 1000) (by omega)
       have k2 := nx (l := l) (p := a + 1 + 1) (n := (y - x) / 1000 + 1) (by omega)
       have p1 : 0 <= (y - x) / 1000 * nextV l (a + 1) 1000 := Int.mul_nonneg (by omega) k1.1
       have p2 : (y - x) / 1000 * nextV l (a + 1) 1000 <= (y - x) / 1000 * 999 := Int.mul_le_mul_of_nonneg_left (by omega) (by omega)
       have w1 : IntKind.i64.wrap (y - x) = y - x := v64 (by omega) (by omega)
       have w2 : (y - x).tdiv 1000 = (y - x) / 1000 := Int.tdiv_eq_ediv_of_nonneg (by omega)
       have w3 : IntKind.i64.wrap ((y - x) / 1000) = (y - x) / 1000 := v64 (by omega) (by omega)
       have w4 : IntKind.i64.wrap ((y - x) / 1000 * nextV l (a + 1) 1000) = (y - x) / 1000 * nextV l (a + 1) 1000 := v64 (by omega) (by omega)
       have w5 : IntKind.i64.wrap (x + (y - x) / 1000 * nextV l (a + 1) 1000) = x + (y - x) / 1000 * nextV l (a + 1) 1000 := v64 (by omega) (by omega)
       have w6 : IntKind.i64.wrap ((y - x) / 1000 + 1) = (y - x) / 1000 + 1 := v64 (by omega) (by omega)
       have w7 : IntKind.i64.wrap (x + (y - x) / 1000 * nextV l (a + 1) 1000 + nextV l (a + 1 + 1) ((y - x) / 1000 + 1)) = x + (y - x) / 1000 * nextV l (a + 1) 1000 + nextV l (a + 1 + 1) ((y - x) / 1000 + 1) := v64 (by omega) (by omega)
       have i1 : i64B ((y - x) / 1000 + 1) = true := i64B_iff.2 (by omega)
       have e1 : inV l a ⟨x, y, z, t0⟩ = x + (y - x) / 1000 * nextV l (a + 1) 1000 + nextV l (a + 1 + 1) ((y - x) / 1000 + 1) := by unfold inV; rw [h1, h2]; rfl
       have e2 : inAt l a = a + 1 + 1 + 1 := by unfold inAt; rw [h1, h2]; rfl
       rw [e1, e2]
       have L := tin_00 T a ⟨x, y, z, t0⟩
       rw [<- hcol] at L
       simp only [w1, w2, w3, w4, w5, w6, w7] at L
       refine ⟨rfl, rfl, [false, false], _, _, L, fun E u hu => hu, pickL_ok ?_ _⟩
       repeat' (first | exact cd_nil | refine cd_cons ?_ ?_)
       all_goals first | with_reducible rfl | with_reducible assumption | rfl | (with_reducible refine atB_iff.2 ?_; omega) | (with_reducible refine decide_eq_false ?_; omega) | (with_reducible refine decide_eq_true ?_; omega)
 · cases hg
end
end Go.Proofs.YtmhhdedekblbnaaGreat.AtSl
