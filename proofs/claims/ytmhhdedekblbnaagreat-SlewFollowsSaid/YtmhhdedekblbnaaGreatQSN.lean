/-
 Package spymake's streams over tables: Next, Range and Vec as callees that write their stream's block.
 Conditions: those of each theorem.
-/
import Derived.Test.YtmhhdedekblbnaaGreatQLT
import Derived.Test.YtmhhdedekblbnaaGreatQTB
import Derived.Test.YtmhhdedekblbnaaGreatQH5
set_option maxRecDepth 100000
set_option linter.unusedVariables false
set_option linter.unusedSimpArgs false
namespace Go.Proofs.YtmhhdedekblbnaaGreat.AtSn
open Go.RowKit Ev Wd AtHz
open Go.Proofs.YtmhhdedekblbnaaGreat
variable {F : Type}
noncomputable section

def colT (T : List (List Int)) : List Int := T.map fun r => r.getD 0 0
noncomputable abbrev cxT : Ctx Tb := ctxOf Tryz.prog tbI (fun _ => false) []
def gNx (args : List (AV Tb)) (bs : List (Blk Tb)) : Option (AV Tb × List (List (AC Tb)) × List (Bool × Bool)) := match args, bs with
 | [.w (.one (.ptr 0 0)), .w (.one (.int .i64 n))], [⟨t, [.fv (.tab [some .i64] T), .int .i64 a]⟩] => bif Nat.beq t 69 then some (.w (.one (.int .i64 (nextV (colT T) a n))), [[.fv (.tab [some .i64] T), .int .i64 (a + 1)]], [(i64B n, true), (listB (colT T), true), (atB a, true)]) else none
 | _, _ => none
def gRn (args : List (AV Tb)) (bs : List (Blk Tb)) : Option (AV Tb × List (List (AC Tb)) × List (Bool × Bool)) := match args, bs with
 | [.w (.one (.ptr 0 0)), .w (.one (.int .i64 x)), .w (.one (.int .i64 y))], [⟨t, [.fv (.tab [some .i64] T), .int .i64 a]⟩] => bif Nat.beq t 69 then some (.w (.one (.int .i64 (rangeV (colT T) a x y))), [[.fv (.tab [some .i64] T), .int .i64 (a + 1)]], [(decide (y < x), false), (rB x, true), (rB y, true), (listB (colT T), true), (atB a, true)]) else none
 | _, _ => none
noncomputable abbrev libS1T : List (Nat × FnSp Tb) := [(31, belowS)]
noncomputable abbrev libS2T : List (Nat × FnSp Tb) := [(30, locWSp cxT gNx)]
def gNk (K : Int) (args : List (AV Tb)) (bs : List (Blk Tb)) : Option (AV Tb × List (List (AC Tb)) × List (Bool × Bool)) := match args, bs with
 | [.w (.one (.ptr 0 0)), .w (.one (.int .i64 n))], [⟨t, [.fv (.tab [some .i64] T), .int .i64 a]⟩] => bif Nat.beq t 69 then some (.w (.one (.int .i64 K)), [[.fv (.tab [some .i64] T), .int .i64 (a + 1)]], [(nextV (colT T) a n == K, true), (i64B n, true), (listB (colT T), true), (atB a, true)]) else none
 | _, _ => none
noncomputable abbrev libZ0T : List (Nat × FnSp Tb) := [(52, locWSp cxT gRn), (30, locWSp cxT gNx)]
noncomputable abbrev libZ2T (K : Int) : List (Nat × FnSp Tb) := [(30, locWSp cxT (gNk K)), (52, locWSp cxT gRn)]
def gVe (args : List (AV Tb)) (bs : List (Blk Tb)) : Option (AV Tb × List (List (AC Tb)) × List (Bool × Bool)) := match args, bs with
 | [.w (.one (.ptr 0 0))], [⟨t, [.fv (.tab [some .i64] T), .int .i64 a]⟩] => bif Nat.beq t 69 then some (.w (.agg [.int .i64 (veV (colT T) a).x, .int .i64 (veV (colT T) a).y, .int .i64 (veV (colT T) a).z]), [[.fv (.tab [some .i64] T), .int .i64 (a + 1 + 1 + 1 + 1)]], [(atB (a + 6), true), (listB (colT T), true), (atB a, true)]) else none
 | _, _ => none
theorem len_col (T : List (List Int)) : lenI (colT T) = lenT T := by unfold lenI lenT colT; rw [List.length_map]
theorem get_col (T : List (List Int)) (i : Int) : getI (colT T) i = cel T i 0 := by
 unfold getI cel colT
 simp only [List.getD_eq_getElem?_getD, List.getElem?_map]
 cases T[i.toNat]? with
 | none => rfl
 | some r => rfl
theorem c3n {a b c : Bool} (h : ∀ p ∈ [(a, true), (b, true), (c, true)], p.1 = p.2) : a = true /\ b = true /\ c = true := ⟨h (a, true) (by simp), h (b, true) (by simp), h (c, true) (by simp)⟩
theorem libS1T_ok : LibOk Tryz.prog tbI (lib1 libS1T) := lib1_cons (belowS_ok _) Tryz.call31 (lib1_nil _ _)
theorem nx_1 (T : List (List Int)) (a : Int) (n : Int) : evLoc (ctxOf Tryz.prog tbI (fun _ => false) libS1T) Tryz.f30 [.w (.one (.ptr 0 0)), .w (.one (.int .i64 n))] [⟨69, [.fv (.tab [some .i64] T), .int .i64 a]⟩] [true] = some (AV.tup [AW.one (AC.int IntKind.i64 (belowV (IntKind.i64.wrap (IntKind.i64.wrap (a + 1) * 7919)) n)), AW.agg [AC.fv (Tb.tab [some IntKind.i64] T), AC.int IntKind.i64 (IntKind.i64.wrap (a + 1))]], (pickL [(lenT T == 0, true), (i64B (IntKind.i64.wrap (IntKind.i64.wrap (a + 1) * 7919)), true), (i64B n, true)] [0, 1, 2])) := by kernel_rfl
theorem nx_0 (T : List (List Int)) (a : Int) (n : Int) : evLoc (ctxOf Tryz.prog tbI (fun _ => false) libS1T) Tryz.f30 [.w (.one (.ptr 0 0)), .w (.one (.int .i64 n))] [⟨69, [.fv (.tab [some .i64] T), .int .i64 a]⟩] [false] = some (AV.tup [AW.one (AC.int IntKind.i64 (belowV (IntKind.i64.wrap (belowV (cel T ((IntKind.i64.wrap (IntKind.i64.wrap (a + 1) - 1)).tmod (lenT T)) 0) 1073741824 + IntKind.i64.wrap (IntKind.i64.wrap ((IntKind.i64.wrap (IntKind.i64.wrap (a + 1) - 1)).tdiv (lenT T)) * IntKind.i64.wrap (7919 + (IntKind.i64.wrap (IntKind.i64.wrap (a + 1) - 1)).tmod (lenT T))))) n)), AW.agg [AC.fv (Tb.tab [some IntKind.i64] T), AC.int IntKind.i64 (IntKind.i64.wrap (a + 1))]], (pickL [(lenT T == 0, false), (decide (lenT T = 0), false), (decide ((0 : Int) <= (IntKind.i64.wrap (IntKind.i64.wrap (a + 1) - 1)).tmod (lenT T)), true), (decide ((IntKind.i64.wrap (IntKind.i64.wrap (a + 1) - 1)).tmod (lenT T) < lenT T), true), (i64B (cel T ((IntKind.i64.wrap (IntKind.i64.wrap (a + 1) - 1)).tmod (lenT T)) 0), true), (i64B 1073741824, true), (i64B (IntKind.i64.wrap (belowV (cel T ((IntKind.i64.wrap (IntKind.i64.wrap (a + 1) - 1)).tmod (lenT T)) 0) 1073741824 + IntKind.i64.wrap (IntKind.i64.wrap ((IntKind.i64.wrap (IntKind.i64.wrap (a + 1) - 1)).tdiv (lenT T)) * IntKind.i64.wrap (7919 + (IntKind.i64.wrap (IntKind.i64.wrap (a + 1) - 1)).tmod (lenT T))))), true), (i64B n, true)] [0, 1, 1, 2, 3, 2, 3, 4, 5, 6, 7])) := by kernel_rfl
set_option maxHeartbeats 4000000 in
theorem gNx_ok : (locWSp cxT gNx).ok Tryz.prog tbI 30 := by
 refine locWSp_ok (ctxOf_ok libS1T_ok (eq_none _)) (by kernel_rfl) Tryz.func30 rfl lps_nil rfl fun args bs v css cd hg hc => ?_
 unfold gNx at hg
 split at hg
 · rename_i n t T a
   cases hb : Nat.beq t 69 with
   | false => rw [hb] at hg; cases hg
   | true =>
   rw [hb] at hg
   simp only [cond_true] at hg
   cases hg
   obtain rfl := Nat.eq_of_beq_eq_true hb
   have hn : i64B n = true := (c3n hc).1
   have hl : listB (colT T) = true := (c3n hc).2.1
   have ha := atB_iff.1 (c3n hc).2.2
   have e1 : IntKind.i64.wrap (a + 1) = a + 1 := IntWalk.i64_in _ (by omega)
   have e2 : IntKind.i64.wrap (a + 1 - 1) = a := by rw [show a + 1 - 1 = a by omega]; exact IntWalk.i64_in _ (by omega)
   cases hz : (lenT T == 0) with
   | true =>
     have L := nx_1 T a n
     rw [e1, hz] at L
     refine ⟨rfl, rfl, [true], _, _, L, fun E u hu => ?_, ?_⟩
     · unfold nextV; rw [len_col, hz]; exact hu
     · exact pickL_ok (cd_cons rfl (cd_cons (wrap64B _) (cd_cons hn cd_nil))) _
   | false =>
     have L := nx_0 T a n
     rw [e1, e2, hz] at L
     have h0 : lenT T ≠ 0 := by simpa using hz
     have hp : 0 < lenT T := by have : 0 <= lenT T := Int.natCast_nonneg _; omega
     have m1 : 0 <= a.tmod (lenT T) := Int.tmod_nonneg _ ha.1
     have m2 := Int.tmod_lt_of_pos a hp
     have gl := fun i => get_col T i ▸ listB_get hl i
     refine ⟨rfl, rfl, [false], _, _, L, fun E u hu => ?_, pickL_ok ?_ _⟩
     · unfold nextV; rw [len_col, hz, get_col]; exact hu
     · repeat' (first | exact cd_nil | refine cd_cons ?_ ?_)
       all_goals first | rfl | exact hn | exact wrap64B _ | exact gl _ | exact decide_eq_true m1 | exact decide_eq_true m2 | exact decide_eq_false h0 | decide
 · cases hg
theorem libS2T_ok : LibOk Tryz.prog tbI (lib1 libS2T) := lib1_cons gNx_ok Tryz.call30 (lib1_nil _ _)
theorem rn_0 (T : List (List Int)) (a : Int) (x : Int) (y : Int) : evLoc (ctxOf Tryz.prog tbI (fun _ => false) libS2T) Tryz.f52 [.w (.one (.ptr 0 0)), .w (.one (.int .i64 x)), .w (.one (.int .i64 y))] [⟨69, [.fv (.tab [some .i64] T), .int .i64 a]⟩] [false] = some (AV.tup [AW.one (AC.int IntKind.i64 (IntKind.i64.wrap (x + nextV (colT T) a (IntKind.i64.wrap (IntKind.i64.wrap (y - x) + 1))))), AW.agg [AC.fv (Tb.tab [some IntKind.i64] T), AC.int IntKind.i64 (a + 1)]], (pickL [(decide (y < x), false), (i64B (IntKind.i64.wrap (IntKind.i64.wrap (y - x) + 1)), true), (listB (colT T), true), (atB a, true)] [0, 1, 2, 3])) := by kernel_rfl
set_option maxHeartbeats 4000000 in
theorem gRn_ok : (locWSp cxT gRn).ok Tryz.prog tbI 52 := by
 refine locWSp_ok (ctxOf_ok libS2T_ok (eq_none _)) (by kernel_rfl) Tryz.func52 rfl lps_nil rfl fun args bs v css cd hg hc => ?_
 unfold gRn at hg
 split at hg
 · rename_i x y t T a
   cases hb : Nat.beq t 69 with
   | false => rw [hb] at hg; cases hg
   | true =>
   rw [hb] at hg
   simp only [cond_true] at hg
   cases hg
   obtain rfl := Nat.eq_of_beq_eq_true hb
   have hlt : decide (y < x) = false := hc (decide (y < x), false) (by simp)
   have h1 := rB_iff.1 (hc (rB x, true) (by simp))
   have h2 := rB_iff.1 (hc (rB y, true) (by simp))
   have hl : listB (colT T) = true := hc (listB (colT T), true) (by simp)
   have ha : atB a = true := hc (atB a, true) (by simp)
   have hle := of_decide_eq_false hlt
   have hn := nextV_in (colT T) a (y - x + 1) (by omega)
   have e1 : IntKind.i64.wrap (y - x) = y - x := IntWalk.i64_in _ (by omega)
   have e2 : IntKind.i64.wrap (y - x + 1) = y - x + 1 := IntWalk.i64_in _ (by omega)
   have e3 : IntKind.i64.wrap (x + nextV (colT T) a (y - x + 1)) = x + nextV (colT T) a (y - x + 1) := IntWalk.i64_in _ (by omega)
   have L := rn_0 T a x y
   rw [e1, e2, e3] at L
   refine ⟨rfl, rfl, [false], _, _, L, fun E u hu => hu, pickL_ok ?_ _⟩
   repeat' (first | exact cd_nil | refine cd_cons ?_ ?_)
   all_goals first | exact hlt | exact hl | exact ha | (rw [i64B_iff]; omega)
 · cases hg
theorem gNk_ok (K : Int) : (locWSp cxT (gNk K)).ok Tryz.prog tbI 30 := by
 intro E hp w slot args us bs out dt hrun ha hbl hm hfr hc
 have key : ∃ out', (locWSp cxT gNx).run slot args bs = some out' /\ out'.wr = out.wr /\ (∀ c ∈ out'.cd, c.1 = c.2) /\ ∀ E u, out'.val.R E u -> out.val.R E u := by
   simp only [locWSp] at hrun ⊢
   cases hl : locB cxT args bs with
   | false => rw [hl] at hrun; cases hrun
   | true =>
     rw [hl] at hrun
     simp only [cond_true] at hrun ⊢
     split at hrun
     · rename_i v css cd hg
       cases hal : css.all (fun cs => cs.all AC.soB) with
       | false => rw [hal] at hrun; cases hrun
       | true =>
         rw [hal] at hrun
         simp only [cond_true] at hrun
         cases hrun
         unfold gNk at hg
         split at hg
         · rename_i n t T a e1
           cases hb : Nat.beq t 69 with
           | false => rw [hb] at hg; cases hg
           | true =>
             rw [hb] at hg
             simp only [cond_true] at hg
             cases hg
             rw [e1]
             simp only [gNx, hb, cond_true, hal]
             refine ⟨_, rfl, rfl, fun c h => hc c (List.mem_cons_of_mem _ h), fun E u hu => ?_⟩
             have hk : (nextV _ _ _ == K) = true := hc (_, true) List.mem_cons_self
             have := eq_of_beq hk
             rw [this] at hu
             exact hu
         · cases hg
     · cases hrun
 obtain ⟨out', h1, h2, h3, h4⟩ := key
 refine (gNx_ok E hp w slot args us bs out' dt h1 ha hbl hm hfr h3).mono fun e w' ⟨E', u, g1, g2, g3, g4⟩ => ⟨E', u, g1, g2, h4 _ _ g3, by rw [<- h2]; exact g4⟩
theorem libZ0T_ok : LibOk Tryz.prog tbI (lib1 libZ0T) := lib1_cons gRn_ok Tryz.call52 (lib1_cons gNx_ok Tryz.call30 (lib1_nil _ _))
theorem libZ2T_ok (K : Int) : LibOk Tryz.prog tbI (lib1 (libZ2T K)) := lib1_cons (gNk_ok K) Tryz.call30 (lib1_cons gRn_ok Tryz.call52 (lib1_nil _ _))
theorem eqW_ok : EqOk Tryz.prog (tabOf Tryz.prog) (fun t => Nat.beq t 31) := eq_of fun t ht => by
 have := Nat.eq_of_beq_eq_true ht
 subst this
 exact ⟨by kernel_rfl, by kernel_rfl, by kernel_rfl⟩
theorem ve0_1 (T : List (List Int)) (a : Int) : evLoc (ctxOf Tryz.prog tbI (fun t => Nat.beq t 31) (libZ2T 0)) Tryz.f37 [.w (.one (.ptr 0 0))] [⟨69, [.fv (.tab [some .i64] T), .int .i64 a]⟩] [true] = some (AV.tup [AW.agg [AC.int IntKind.i64 1, AC.int IntKind.i64 (rangeV (colT T) (a + 1 + 1) (IntKind.i64.wrap (0 - 3)) 3), AC.int IntKind.i64 (rangeV (colT T) (a + 1 + 1 + 1) (IntKind.i64.wrap (0 - 3)) 3)], AW.agg [AC.fv (Tb.tab [some IntKind.i64] T), AC.int IntKind.i64 (a + 1 + 1 + 1 + 1)]], (pickL [(nextV (colT T) a 4 == 0, true), (i64B 4, true), (listB (colT T), true), (atB a, true), (decide ((0 : Int) <= 0), true), (decide ((0 : Int) < ((4 : Nat) : Int)), true), (decide ((3 : Int) < IntKind.i64.wrap (0 - 3)), false), (rB (IntKind.i64.wrap (0 - 3)), true), (rB 3, true), (atB (a + 1), true), (atB (a + 1 + 1), true), (atB (a + 1 + 1 + 1), true), (rangeV (colT T) (a + 1) (IntKind.i64.wrap (0 - 3)) 3 == 0 && (rangeV (colT T) (a + 1 + 1) (IntKind.i64.wrap (0 - 3)) 3 == 0 && (rangeV (colT T) (a + 1 + 1 + 1) (IntKind.i64.wrap (0 - 3)) 3 == 0 && true)), true)] [0, 1, 2, 3, 4, 5, 6, 7, 8, 2, 9, 6, 7, 8, 2, 10, 6, 7, 8, 2, 11, 12])) := by kernel_rfl
theorem ve0_0 (T : List (List Int)) (a : Int) : evLoc (ctxOf Tryz.prog tbI (fun t => Nat.beq t 31) (libZ2T 0)) Tryz.f37 [.w (.one (.ptr 0 0))] [⟨69, [.fv (.tab [some .i64] T), .int .i64 a]⟩] [false] = some (AV.tup [AW.agg [AC.int IntKind.i64 (rangeV (colT T) (a + 1) (IntKind.i64.wrap (0 - 3)) 3), AC.int IntKind.i64 (rangeV (colT T) (a + 1 + 1) (IntKind.i64.wrap (0 - 3)) 3), AC.int IntKind.i64 (rangeV (colT T) (a + 1 + 1 + 1) (IntKind.i64.wrap (0 - 3)) 3)], AW.agg [AC.fv (Tb.tab [some IntKind.i64] T), AC.int IntKind.i64 (a + 1 + 1 + 1 + 1)]], (pickL [(nextV (colT T) a 4 == 0, true), (i64B 4, true), (listB (colT T), true), (atB a, true), (decide ((0 : Int) <= 0), true), (decide ((0 : Int) < ((4 : Nat) : Int)), true), (decide ((3 : Int) < IntKind.i64.wrap (0 - 3)), false), (rB (IntKind.i64.wrap (0 - 3)), true), (rB 3, true), (atB (a + 1), true), (atB (a + 1 + 1), true), (atB (a + 1 + 1 + 1), true), (rangeV (colT T) (a + 1) (IntKind.i64.wrap (0 - 3)) 3 == 0 && (rangeV (colT T) (a + 1 + 1) (IntKind.i64.wrap (0 - 3)) 3 == 0 && (rangeV (colT T) (a + 1 + 1 + 1) (IntKind.i64.wrap (0 - 3)) 3 == 0 && true)), false)] [0, 1, 2, 3, 4, 5, 6, 7, 8, 2, 9, 6, 7, 8, 2, 10, 6, 7, 8, 2, 11, 12])) := by kernel_rfl
theorem ve1_1 (T : List (List Int)) (a : Int) : evLoc (ctxOf Tryz.prog tbI (fun t => Nat.beq t 31) (libZ2T 1)) Tryz.f37 [.w (.one (.ptr 0 0))] [⟨69, [.fv (.tab [some .i64] T), .int .i64 a]⟩] [true] = some (AV.tup [AW.agg [AC.int IntKind.i64 1, AC.int IntKind.i64 (rangeV (colT T) (a + 1 + 1) (IntKind.i64.wrap (0 - 100)) 100), AC.int IntKind.i64 (rangeV (colT T) (a + 1 + 1 + 1) (IntKind.i64.wrap (0 - 100)) 100)], AW.agg [AC.fv (Tb.tab [some IntKind.i64] T), AC.int IntKind.i64 (a + 1 + 1 + 1 + 1)]], (pickL [(nextV (colT T) a 4 == 1, true), (i64B 4, true), (listB (colT T), true), (atB a, true), (decide ((0 : Int) <= 1), true), (decide ((1 : Int) < ((4 : Nat) : Int)), true), (decide ((100 : Int) < IntKind.i64.wrap (0 - 100)), false), (rB (IntKind.i64.wrap (0 - 100)), true), (rB 100, true), (atB (a + 1), true), (atB (a + 1 + 1), true), (atB (a + 1 + 1 + 1), true), (rangeV (colT T) (a + 1) (IntKind.i64.wrap (0 - 100)) 100 == 0 && (rangeV (colT T) (a + 1 + 1) (IntKind.i64.wrap (0 - 100)) 100 == 0 && (rangeV (colT T) (a + 1 + 1 + 1) (IntKind.i64.wrap (0 - 100)) 100 == 0 && true)), true)] [0, 1, 2, 3, 4, 5, 6, 7, 8, 2, 9, 6, 7, 8, 2, 10, 6, 7, 8, 2, 11, 12])) := by kernel_rfl
theorem ve1_0 (T : List (List Int)) (a : Int) : evLoc (ctxOf Tryz.prog tbI (fun t => Nat.beq t 31) (libZ2T 1)) Tryz.f37 [.w (.one (.ptr 0 0))] [⟨69, [.fv (.tab [some .i64] T), .int .i64 a]⟩] [false] = some (AV.tup [AW.agg [AC.int IntKind.i64 (rangeV (colT T) (a + 1) (IntKind.i64.wrap (0 - 100)) 100), AC.int IntKind.i64 (rangeV (colT T) (a + 1 + 1) (IntKind.i64.wrap (0 - 100)) 100), AC.int IntKind.i64 (rangeV (colT T) (a + 1 + 1 + 1) (IntKind.i64.wrap (0 - 100)) 100)], AW.agg [AC.fv (Tb.tab [some IntKind.i64] T), AC.int IntKind.i64 (a + 1 + 1 + 1 + 1)]], (pickL [(nextV (colT T) a 4 == 1, true), (i64B 4, true), (listB (colT T), true), (atB a, true), (decide ((0 : Int) <= 1), true), (decide ((1 : Int) < ((4 : Nat) : Int)), true), (decide ((100 : Int) < IntKind.i64.wrap (0 - 100)), false), (rB (IntKind.i64.wrap (0 - 100)), true), (rB 100, true), (atB (a + 1), true), (atB (a + 1 + 1), true), (atB (a + 1 + 1 + 1), true), (rangeV (colT T) (a + 1) (IntKind.i64.wrap (0 - 100)) 100 == 0 && (rangeV (colT T) (a + 1 + 1) (IntKind.i64.wrap (0 - 100)) 100 == 0 && (rangeV (colT T) (a + 1 + 1 + 1) (IntKind.i64.wrap (0 - 100)) 100 == 0 && true)), false)] [0, 1, 2, 3, 4, 5, 6, 7, 8, 2, 9, 6, 7, 8, 2, 10, 6, 7, 8, 2, 11, 12])) := by kernel_rfl
theorem ve2_1 (T : List (List Int)) (a : Int) : evLoc (ctxOf Tryz.prog tbI (fun t => Nat.beq t 31) (libZ2T 2)) Tryz.f37 [.w (.one (.ptr 0 0))] [⟨69, [.fv (.tab [some .i64] T), .int .i64 a]⟩] [true] = some (AV.tup [AW.agg [AC.int IntKind.i64 1, AC.int IntKind.i64 (rangeV (colT T) (a + 1 + 1) (IntKind.i64.wrap (0 - 5000)) 5000), AC.int IntKind.i64 (rangeV (colT T) (a + 1 + 1 + 1) (IntKind.i64.wrap (0 - 5000)) 5000)], AW.agg [AC.fv (Tb.tab [some IntKind.i64] T), AC.int IntKind.i64 (a + 1 + 1 + 1 + 1)]], (pickL [(nextV (colT T) a 4 == 2, true), (i64B 4, true), (listB (colT T), true), (atB a, true), (decide ((0 : Int) <= 2), true), (decide ((2 : Int) < ((4 : Nat) : Int)), true), (decide ((5000 : Int) < IntKind.i64.wrap (0 - 5000)), false), (rB (IntKind.i64.wrap (0 - 5000)), true), (rB 5000, true), (atB (a + 1), true), (atB (a + 1 + 1), true), (atB (a + 1 + 1 + 1), true), (rangeV (colT T) (a + 1) (IntKind.i64.wrap (0 - 5000)) 5000 == 0 && (rangeV (colT T) (a + 1 + 1) (IntKind.i64.wrap (0 - 5000)) 5000 == 0 && (rangeV (colT T) (a + 1 + 1 + 1) (IntKind.i64.wrap (0 - 5000)) 5000 == 0 && true)), true)] [0, 1, 2, 3, 4, 5, 6, 7, 8, 2, 9, 6, 7, 8, 2, 10, 6, 7, 8, 2, 11, 12])) := by kernel_rfl
theorem ve2_0 (T : List (List Int)) (a : Int) : evLoc (ctxOf Tryz.prog tbI (fun t => Nat.beq t 31) (libZ2T 2)) Tryz.f37 [.w (.one (.ptr 0 0))] [⟨69, [.fv (.tab [some .i64] T), .int .i64 a]⟩] [false] = some (AV.tup [AW.agg [AC.int IntKind.i64 (rangeV (colT T) (a + 1) (IntKind.i64.wrap (0 - 5000)) 5000), AC.int IntKind.i64 (rangeV (colT T) (a + 1 + 1) (IntKind.i64.wrap (0 - 5000)) 5000), AC.int IntKind.i64 (rangeV (colT T) (a + 1 + 1 + 1) (IntKind.i64.wrap (0 - 5000)) 5000)], AW.agg [AC.fv (Tb.tab [some IntKind.i64] T), AC.int IntKind.i64 (a + 1 + 1 + 1 + 1)]], (pickL [(nextV (colT T) a 4 == 2, true), (i64B 4, true), (listB (colT T), true), (atB a, true), (decide ((0 : Int) <= 2), true), (decide ((2 : Int) < ((4 : Nat) : Int)), true), (decide ((5000 : Int) < IntKind.i64.wrap (0 - 5000)), false), (rB (IntKind.i64.wrap (0 - 5000)), true), (rB 5000, true), (atB (a + 1), true), (atB (a + 1 + 1), true), (atB (a + 1 + 1 + 1), true), (rangeV (colT T) (a + 1) (IntKind.i64.wrap (0 - 5000)) 5000 == 0 && (rangeV (colT T) (a + 1 + 1) (IntKind.i64.wrap (0 - 5000)) 5000 == 0 && (rangeV (colT T) (a + 1 + 1 + 1) (IntKind.i64.wrap (0 - 5000)) 5000 == 0 && true)), false)] [0, 1, 2, 3, 4, 5, 6, 7, 8, 2, 9, 6, 7, 8, 2, 10, 6, 7, 8, 2, 11, 12])) := by kernel_rfl
theorem ve3_1 (T : List (List Int)) (a : Int) : evLoc (ctxOf Tryz.prog tbI (fun t => Nat.beq t 31) (libZ2T 3)) Tryz.f37 [.w (.one (.ptr 0 0))] [⟨69, [.fv (.tab [some .i64] T), .int .i64 a]⟩] [true] = some (AV.tup [AW.agg [AC.int IntKind.i64 1, AC.int IntKind.i64 (rangeV (colT T) (a + 1 + 1) (IntKind.i64.wrap (0 - 1048576)) 1048576), AC.int IntKind.i64 (rangeV (colT T) (a + 1 + 1 + 1) (IntKind.i64.wrap (0 - 1048576)) 1048576)], AW.agg [AC.fv (Tb.tab [some IntKind.i64] T), AC.int IntKind.i64 (a + 1 + 1 + 1 + 1)]], (pickL [(nextV (colT T) a 4 == 3, true), (i64B 4, true), (listB (colT T), true), (atB a, true), (decide ((0 : Int) <= 3), true), (decide ((3 : Int) < ((4 : Nat) : Int)), true), (decide ((1048576 : Int) < IntKind.i64.wrap (0 - 1048576)), false), (rB (IntKind.i64.wrap (0 - 1048576)), true), (rB 1048576, true), (atB (a + 1), true), (atB (a + 1 + 1), true), (atB (a + 1 + 1 + 1), true), (rangeV (colT T) (a + 1) (IntKind.i64.wrap (0 - 1048576)) 1048576 == 0 && (rangeV (colT T) (a + 1 + 1) (IntKind.i64.wrap (0 - 1048576)) 1048576 == 0 && (rangeV (colT T) (a + 1 + 1 + 1) (IntKind.i64.wrap (0 - 1048576)) 1048576 == 0 && true)), true)] [0, 1, 2, 3, 4, 5, 6, 7, 8, 2, 9, 6, 7, 8, 2, 10, 6, 7, 8, 2, 11, 12])) := by kernel_rfl
theorem ve3_0 (T : List (List Int)) (a : Int) : evLoc (ctxOf Tryz.prog tbI (fun t => Nat.beq t 31) (libZ2T 3)) Tryz.f37 [.w (.one (.ptr 0 0))] [⟨69, [.fv (.tab [some .i64] T), .int .i64 a]⟩] [false] = some (AV.tup [AW.agg [AC.int IntKind.i64 (rangeV (colT T) (a + 1) (IntKind.i64.wrap (0 - 1048576)) 1048576), AC.int IntKind.i64 (rangeV (colT T) (a + 1 + 1) (IntKind.i64.wrap (0 - 1048576)) 1048576), AC.int IntKind.i64 (rangeV (colT T) (a + 1 + 1 + 1) (IntKind.i64.wrap (0 - 1048576)) 1048576)], AW.agg [AC.fv (Tb.tab [some IntKind.i64] T), AC.int IntKind.i64 (a + 1 + 1 + 1 + 1)]], (pickL [(nextV (colT T) a 4 == 3, true), (i64B 4, true), (listB (colT T), true), (atB a, true), (decide ((0 : Int) <= 3), true), (decide ((3 : Int) < ((4 : Nat) : Int)), true), (decide ((1048576 : Int) < IntKind.i64.wrap (0 - 1048576)), false), (rB (IntKind.i64.wrap (0 - 1048576)), true), (rB 1048576, true), (atB (a + 1), true), (atB (a + 1 + 1), true), (atB (a + 1 + 1 + 1), true), (rangeV (colT T) (a + 1) (IntKind.i64.wrap (0 - 1048576)) 1048576 == 0 && (rangeV (colT T) (a + 1 + 1) (IntKind.i64.wrap (0 - 1048576)) 1048576 == 0 && (rangeV (colT T) (a + 1 + 1 + 1) (IntKind.i64.wrap (0 - 1048576)) 1048576 == 0 && true)), false)] [0, 1, 2, 3, 4, 5, 6, 7, 8, 2, 9, 6, 7, 8, 2, 10, 6, 7, 8, 2, 11, 12])) := by kernel_rfl
open Classical in
theorem locWSp4_ok {P : Program} {I : Interp F} {cc : Int -> Ctx F} (hC : ∀ K, CtxOk P I (cc K)) (hmix : P.follows .mixedOrders = true) {f : FuncId} {fn : Func} (hf : P.funcs[f]? = some fn) (hb : fn.body.isSome = true) (hL : ∀ K, LpsOk P I (cc K).lps fn.ntmps (bodyOf fn))
   {c' : Ctx F} (hsf : ∀ K, c'.safe = (cc K).safe) {g : List (AV F) -> List (Blk F) -> Option (AV F × List (List (AC F)) × List (Bool × Bool))}
   (h : ∀ args bs v css cd, g args bs = some (v, css, cd) -> (∀ p ∈ cd, p.1 = p.2) -> v.flat = true /\ Nat.ble args.length fn.ntmps = true /\
     ∃ K path x cd', evLoc (cc K) fn args bs path = some (.tup (x :: css.map AW.agg), cd') /\ (∀ E u, (AV.w x).untip.R E u -> v.R E u) /\ ∀ p ∈ cd', p.1 = p.2) : (locWSp c' g).ok P I f := by
 intro E hp w slot args us bs out dt hrun ha hbl hm hfr hc
 have hrun0 := hrun
 simp only [locWSp] at hrun0
 cases hl : locB c' args bs with
 | false => rw [hl] at hrun0; cases hrun0
 | true =>
   rw [hl] at hrun0; simp only [cond_true] at hrun0
   split at hrun0
   · rename_i v css cd hg
     cases hal : css.all (fun cs => cs.all AC.soB) with
     | false => rw [hal] at hrun0; cases hrun0
     | true =>
       rw [hal] at hrun0; simp only [cond_true] at hrun0
       cases hrun0
       obtain ⟨k1, k2, K, k3⟩ := h _ _ v css cd hg hc
       have key : (locWSp c' fun a b => bif true then (if a = rel args 0 /\ b = bs then some (v, css, cd) else none) else none).ok P I f := by
         refine locWSp_ok (hC K) hmix hf hb (hL K) (hsf K) fun args' bs' v' css' cd' hg' hc' => ?_
         simp only [cond_true] at hg'
         split at hg'
         · rename_i e
           cases hg'
           rw [e.1, e.2]
           exact ⟨k1, k2, k3⟩
         · cases hg'
       refine key E hp w slot args us bs _ dt ?_ ha hbl hm hfr hc
       simp only [locWSp, hl, cond_true, and_self, if_true, hal]
   · cases hrun0
set_option maxHeartbeats 4000000 in
theorem gVe_ok : (locWSp cxT gVe).ok Tryz.prog tbI 37 := by
 refine locWSp4_ok (fun K => ctxOf_ok (libZ2T_ok K) eqW_ok) (by kernel_rfl) Tryz.func37 rfl (fun _ => lps_nil) (fun _ => rfl) fun args bs v css cd hg hc => ?_
 unfold gVe at hg
 split at hg
 · rename_i t T a
   cases hb : Nat.beq t 69 with
   | false => rw [hb] at hg; cases hg
   | true =>
   rw [hb] at hg
   simp only [cond_true] at hg
   cases hg
   obtain rfl := Nat.eq_of_beq_eq_true hb
   have hl : listB (colT T) = true := (c3n hc).2.1
   have ha : atB a = true := (c3n hc).2.2
   have ha1 := atB_iff.1 ha
   have ha5 := atB_iff.1 (c3n hc).1
   have hr := nextV_in (colT T) a 4 (by omega)
   rcases (by omega : nextV (colT T) a 4 = 0 \/ nextV (colT T) a 4 = 1 \/ nextV (colT T) a 4 = 2 \/ nextV (colT T) a 4 = 3) with hk | hk | hk | hk
   · have q : (nextV (colT T) a 4 == 0) = true := by rw [hk]; rfl
     have mo : moV (nextV (colT T) a 4) = 3 := by rw [hk]; rfl
     have hm : IntKind.i64.wrap (0 - 3) = -3 := by decide
     by_cases hz : zeC (v0V (colT T) a 3) = true
     · have h := zeC_iff.1 hz
       simp only [v0V] at h
       have V : veV (colT T) a = ⟨1, 0, 0⟩ := by unfold veV; rw [mo, if_pos hz]
       have c1 : (rangeV (colT T) (a + 1) (-3) 3 == 0 && (rangeV (colT T) (a + 1 + 1) (-3) 3 == 0 && (rangeV (colT T) (a + 1 + 1 + 1) (-3) 3 == 0 && true))) = true := by rw [h.1, h.2.1, h.2.2]; rfl
       have L := ve0_1 T a
       rw [hm] at L
       refine ⟨rfl, rfl, 0, [true], _, _, L, fun E u hu => ?_, pickL_ok ?_ _⟩
       · rw [V]
         rw [h.2.1, h.2.2] at hu
         exact hu
       · skip
         repeat' (first | exact cd_nil | refine cd_cons ?_ ?_)
         all_goals first | exact q | exact c1 | exact hl | exact ha | (refine atB_iff.2 ?_; omega) | decide
     · have V : veV (colT T) a = v0V (colT T) a 3 := by unfold veV; rw [mo, if_neg hz]
       have c1 : (rangeV (colT T) (a + 1) (-3) 3 == 0 && (rangeV (colT T) (a + 1 + 1) (-3) 3 == 0 && (rangeV (colT T) (a + 1 + 1 + 1) (-3) 3 == 0 && true))) = false := by
         cases e : (rangeV (colT T) (a + 1) (-3) 3 == 0 && (rangeV (colT T) (a + 1 + 1) (-3) 3 == 0 && (rangeV (colT T) (a + 1 + 1 + 1) (-3) 3 == 0 && true))) with
         | false => rfl
         | true =>
           simp only [Bool.and_eq_true, beq_iff_eq, Bool.and_true] at e
           exact absurd (zeC_iff.2 e) hz
       have L := ve0_0 T a
       rw [hm] at L
       refine ⟨rfl, rfl, 0, [false], _, _, L, fun E u hu => ?_, pickL_ok ?_ _⟩
       · rw [V]; exact hu
       · skip
         repeat' (first | exact cd_nil | refine cd_cons ?_ ?_)
         all_goals first | exact q | exact c1 | exact hl | exact ha | (refine atB_iff.2 ?_; omega) | decide
   · have q : (nextV (colT T) a 4 == 1) = true := by rw [hk]; rfl
     have mo : moV (nextV (colT T) a 4) = 100 := by rw [hk]; rfl
     have hm : IntKind.i64.wrap (0 - 100) = -100 := by decide
     by_cases hz : zeC (v0V (colT T) a 100) = true
     · have h := zeC_iff.1 hz
       simp only [v0V] at h
       have V : veV (colT T) a = ⟨1, 0, 0⟩ := by unfold veV; rw [mo, if_pos hz]
       have c1 : (rangeV (colT T) (a + 1) (-100) 100 == 0 && (rangeV (colT T) (a + 1 + 1) (-100) 100 == 0 && (rangeV (colT T) (a + 1 + 1 + 1) (-100) 100 == 0 && true))) = true := by rw [h.1, h.2.1, h.2.2]; rfl
       have L := ve1_1 T a
       rw [hm] at L
       refine ⟨rfl, rfl, 1, [true], _, _, L, fun E u hu => ?_, pickL_ok ?_ _⟩
       · rw [V]
         rw [h.2.1, h.2.2] at hu
         exact hu
       · skip
         repeat' (first | exact cd_nil | refine cd_cons ?_ ?_)
         all_goals first | exact q | exact c1 | exact hl | exact ha | (refine atB_iff.2 ?_; omega) | decide
     · have V : veV (colT T) a = v0V (colT T) a 100 := by unfold veV; rw [mo, if_neg hz]
       have c1 : (rangeV (colT T) (a + 1) (-100) 100 == 0 && (rangeV (colT T) (a + 1 + 1) (-100) 100 == 0 && (rangeV (colT T) (a + 1 + 1 + 1) (-100) 100 == 0 && true))) = false := by
         cases e : (rangeV (colT T) (a + 1) (-100) 100 == 0 && (rangeV (colT T) (a + 1 + 1) (-100) 100 == 0 && (rangeV (colT T) (a + 1 + 1 + 1) (-100) 100 == 0 && true))) with
         | false => rfl
         | true =>
           simp only [Bool.and_eq_true, beq_iff_eq, Bool.and_true] at e
           exact absurd (zeC_iff.2 e) hz
       have L := ve1_0 T a
       rw [hm] at L
       refine ⟨rfl, rfl, 1, [false], _, _, L, fun E u hu => ?_, pickL_ok ?_ _⟩
       · rw [V]; exact hu
       · skip
         repeat' (first | exact cd_nil | refine cd_cons ?_ ?_)
         all_goals first | exact q | exact c1 | exact hl | exact ha | (refine atB_iff.2 ?_; omega) | decide
   · have q : (nextV (colT T) a 4 == 2) = true := by rw [hk]; rfl
     have mo : moV (nextV (colT T) a 4) = 5000 := by rw [hk]; rfl
     have hm : IntKind.i64.wrap (0 - 5000) = -5000 := by decide
     by_cases hz : zeC (v0V (colT T) a 5000) = true
     · have h := zeC_iff.1 hz
       simp only [v0V] at h
       have V : veV (colT T) a = ⟨1, 0, 0⟩ := by unfold veV; rw [mo, if_pos hz]
       have c1 : (rangeV (colT T) (a + 1) (-5000) 5000 == 0 && (rangeV (colT T) (a + 1 + 1) (-5000) 5000 == 0 && (rangeV (colT T) (a + 1 + 1 + 1) (-5000) 5000 == 0 && true))) = true := by rw [h.1, h.2.1, h.2.2]; rfl
       have L := ve2_1 T a
       rw [hm] at L
       refine ⟨rfl, rfl, 2, [true], _, _, L, fun E u hu => ?_, pickL_ok ?_ _⟩
       · rw [V]
         rw [h.2.1, h.2.2] at hu
         exact hu
       · skip
         repeat' (first | exact cd_nil | refine cd_cons ?_ ?_)
         all_goals first | exact q | exact c1 | exact hl | exact ha | (refine atB_iff.2 ?_; omega) | decide
     · have V : veV (colT T) a = v0V (colT T) a 5000 := by unfold veV; rw [mo, if_neg hz]
       have c1 : (rangeV (colT T) (a + 1) (-5000) 5000 == 0 && (rangeV (colT T) (a + 1 + 1) (-5000) 5000 == 0 && (rangeV (colT T) (a + 1 + 1 + 1) (-5000) 5000 == 0 && true))) = false := by
         cases e : (rangeV (colT T) (a + 1) (-5000) 5000 == 0 && (rangeV (colT T) (a + 1 + 1) (-5000) 5000 == 0 && (rangeV (colT T) (a + 1 + 1 + 1) (-5000) 5000 == 0 && true))) with
         | false => rfl
         | true =>
           simp only [Bool.and_eq_true, beq_iff_eq, Bool.and_true] at e
           exact absurd (zeC_iff.2 e) hz
       have L := ve2_0 T a
       rw [hm] at L
       refine ⟨rfl, rfl, 2, [false], _, _, L, fun E u hu => ?_, pickL_ok ?_ _⟩
       · rw [V]; exact hu
       · skip
         repeat' (first | exact cd_nil | refine cd_cons ?_ ?_)
         all_goals first | exact q | exact c1 | exact hl | exact ha | (refine atB_iff.2 ?_; omega) | decide
   · have q : (nextV (colT T) a 4 == 3) = true := by rw [hk]; rfl
     have mo : moV (nextV (colT T) a 4) = 1048576 := by rw [hk]; rfl
     have hm : IntKind.i64.wrap (0 - 1048576) = -1048576 := by decide
     by_cases hz : zeC (v0V (colT T) a 1048576) = true
     · have h := zeC_iff.1 hz
       simp only [v0V] at h
       have V : veV (colT T) a = ⟨1, 0, 0⟩ := by unfold veV; rw [mo, if_pos hz]
       have c1 : (rangeV (colT T) (a + 1) (-1048576) 1048576 == 0 && (rangeV (colT T) (a + 1 + 1) (-1048576) 1048576 == 0 && (rangeV (colT T) (a + 1 + 1 + 1) (-1048576) 1048576 == 0 && true))) = true := by rw [h.1, h.2.1, h.2.2]; rfl
       have L := ve3_1 T a
       rw [hm] at L
       refine ⟨rfl, rfl, 3, [true], _, _, L, fun E u hu => ?_, pickL_ok ?_ _⟩
       · rw [V]
         rw [h.2.1, h.2.2] at hu
         exact hu
       · skip
         repeat' (first | exact cd_nil | refine cd_cons ?_ ?_)
         all_goals first | exact q | exact c1 | exact hl | exact ha | (refine atB_iff.2 ?_; omega) | decide
     · have V : veV (colT T) a = v0V (colT T) a 1048576 := by unfold veV; rw [mo, if_neg hz]
       have c1 : (rangeV (colT T) (a + 1) (-1048576) 1048576 == 0 && (rangeV (colT T) (a + 1 + 1) (-1048576) 1048576 == 0 && (rangeV (colT T) (a + 1 + 1 + 1) (-1048576) 1048576 == 0 && true))) = false := by
         cases e : (rangeV (colT T) (a + 1) (-1048576) 1048576 == 0 && (rangeV (colT T) (a + 1 + 1) (-1048576) 1048576 == 0 && (rangeV (colT T) (a + 1 + 1 + 1) (-1048576) 1048576 == 0 && true))) with
         | false => rfl
         | true =>
           simp only [Bool.and_eq_true, beq_iff_eq, Bool.and_true] at e
           exact absurd (zeC_iff.2 e) hz
       have L := ve3_0 T a
       rw [hm] at L
       refine ⟨rfl, rfl, 3, [false], _, _, L, fun E u hu => ?_, pickL_ok ?_ _⟩
       · rw [V]; exact hu
       · skip
         repeat' (first | exact cd_nil | refine cd_cons ?_ ?_)
         all_goals first | exact q | exact c1 | exact hl | exact ha | (refine atB_iff.2 ?_; omega) | decide
 · cases hg
end
end Go.Proofs.YtmhhdedekblbnaaGreat.AtSn
