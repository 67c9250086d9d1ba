/-
 SlewFollows: to follow a direction from one slot to another and on to a third one is to follow it at once, for all streams.
 Conditions: none.
-/
import Derived.Test.YtmhhdedekblbnaaGreatQSQ
import Derived.Test.YtmhhdedekblbnaaGreatQSR
import Derived.Test.YtmhhdedekblbnaaGreatQQO
import Derived.Test.YtmhhdedekblbnaaGreatQGO
set_option maxRecDepth 100000
set_option linter.unusedVariables false
set_option linter.unusedSimpArgs false
namespace Go.Proofs.YtmhhdedekblbnaaGreat.AtSl
open Go.RowKit Ev Wd AtSn AtHz AtRt AtPr
open Go.Proofs.YtmhhdedekblbnaaGreat
variable {F : Type}
noncomputable section

abbrev fM (T : List (List Int)) : Mo := moF (colT T) (ntA (colT T) 0 12)
abbrev fS (T : List (List Int)) : Si := ntS (colT T) 0
abbrev fR (T : List (List Int)) : Rt := ntR (colT T) 0
abbrev fB (T : List (List Int)) : Int := ntB (colT T) 0
abbrev fL (T : List (List Int)) : Int := ntL (colT T) 0
abbrev fK (T : List (List Int)) : Int := ntK (colT T) 0 12
abbrev fV (T : List (List Int)) : V3 := veV (colT T) (moAt (colT T) (ntA (colT T) 0 12))
abbrev fQ (T : List (List Int)) : Int := niE (fS T) (fR T) (fB T) (fL T) (fK T) (ntC (colT T) 0) (ntE (colT T) 0) (ntD (colT T) 0) (ntT (colT T) 0 12)
abbrev f3 (T : List (List Int)) (x y z : Int) : Int × Int × Int := sr3 (belowV x (IntKind.i64.wrap (fK T + 1))) (belowV y (IntKind.i64.wrap (fK T + 1))) (belowV z (IntKind.i64.wrap (fK T + 1)))
abbrev fA (T : List (List Int)) (x y z : Int) : Po := ⟨if fQ T = 0 then if 0 <= (f3 T x y z).fst /\ (f3 T x y z).fst <= fK T then aaz (fS T) (fR T) (fB T) (fL T) (fV T) (f3 T x y z).fst else 0 else 0, if fQ T = 0 then if 0 <= (f3 T x y z).fst /\ (f3 T x y z).fst <= fK T then aal (fS T) (fR T) (fB T) (fL T) (fV T) (f3 T x y z).fst else 0 else 0⟩
abbrev fU (T : List (List Int)) (x y z : Int) : Po := toP (fM T) (fM T).p (fA T x y z)
theorem trk_add {m : Mo} {e : Int} {A : Int -> Po} : ∀ (n1 n2 : Nat) (k : Int) (u : Po), trk m e A (n1 + n2) k u = if (trk m e A n1 k u).2 = 0 then trk m e A n2 (k + n1) (trk m e A n1 k u).1 else trk m e A n1 k u
 | 0, n2, k, u => by
   simp only [trk, Nat.zero_add, if_true]
   rw [show k + ((0 : Nat) : Int) = k by omega]
 | n1 + 1, n2, k, u => by
   rw [show n1 + 1 + n2 = (n1 + n2) + 1 by omega]
   simp only [trk]
   by_cases h : foE m e u (A k) = 0
   · simp only [if_pos h]
     rw [trk_add n1 n2 (k + 1) _, show k + 1 + (n1 : Int) = k + ((n1 + 1 : Nat) : Int) by omega]
   · simp only [if_neg h]
theorem trk_in {m : Mo} {e : Int} {A : Int -> Po} (hm : moE m = 0) : ∀ (n : Nat) (k : Int) (u : Po), inM m u = true -> (trk m e A n k u).2 = 0 -> inM m (trk m e A n k u).1 = true
 | 0, k, u, hu, _ => hu
 | n + 1, k, u, hu, h => by
   simp only [trk] at h ⊢
   by_cases hf : foE m e u (A k) = 0
   · simp only [if_pos hf] at h ⊢
     exact trk_in hm n _ _ (foP_in hm hu hf) h
   · simp only [if_neg hf] at h
     exact absurd h hf
theorem tk_val {m : Mo} {s : Si} {r : Rt} {b l k : Int} {v : V3} {u : Po} {x y q : Int} (hm : moE m = 0) (hq : q = 0) (hu : inM m u = true) (h1 : 0 <= x) (h2 : x <= y) (h3 : y <= k) : tkE m s r b l k v u x y q = (tkC m s r b l v u x y).2 /\ tkP m s r b l k v u x y q = (tkC m s r b l v u x y).1 := by
 have hi : tkI m u x y k = true := tkI_iff.2 ⟨hu, h1, h2, h3⟩
 unfold tkE tkP
 rw [if_pos hm, if_pos hq, if_pos hi, if_pos ⟨hm, hq, hi⟩]
 exact ⟨rfl, rfl⟩
theorem fo_key {m : Mo} {s : Si} {r : Rt} {b l k : Int} {v : V3} {u : Po} {p1 p2 p3 q : Int} (hm : moE m = 0) (hq : q = 0) (hu : inM m u = true) (h1 : 0 <= p1) (h2 : p1 <= p2) (h3 : p2 <= p3) (h4 : p3 <= k) :
   tkE m s r b l k v u p1 p1 q = 0 /\ tkP m s r b l k v u p1 p1 q = u /\
   ((tkE m s r b l k v u p1 p2 q ≠ 0 /\ tkE m s r b l k v u p1 p3 q = tkE m s r b l k v u p1 p2 q) \/
    (tkE m s r b l k v u p1 p2 q = 0 /\ tkE m s r b l k v (tkP m s r b l k v u p1 p2 q) p2 p3 q = tkE m s r b l k v u p1 p3 q /\ tkP m s r b l k v (tkP m s r b l k v u p1 p2 q) p2 p3 q = tkP m s r b l k v u p1 p3 q)) := by
 obtain ⟨a1, a2⟩ := tk_val (s := s) (r := r) (b := b) (l := l) (v := v) hm hq hu h1 (Int.le_refl p1) (by omega : p1 <= k)
 obtain ⟨b1, b2⟩ := tk_val (s := s) (r := r) (b := b) (l := l) (v := v) hm hq hu h1 h2 (by omega : p2 <= k)
 obtain ⟨c1, c2⟩ := tk_val (s := s) (r := r) (b := b) (l := l) (v := v) hm hq hu h1 (by omega : p1 <= p3) h4
 have e0 : tkC m s r b l v u p1 p1 = (u, 0) := by
   unfold tkC
   rw [show (p1 - p1).toNat = 0 by omega]
   rfl
 have e3 : tkC m s r b l v u p1 p3 = if (tkC m s r b l v u p1 p2).2 = 0 then tkC m s r b l v (tkC m s r b l v u p1 p2).1 p2 p3 else tkC m s r b l v u p1 p2 := by
   unfold tkC
   rw [show (p3 - p1).toNat = (p2 - p1).toNat + (p3 - p2).toNat by omega, trk_add, show p1 + 1 + (((p2 - p1).toNat : Nat) : Int) = p2 + 1 by omega]
 refine ⟨by rw [a1, e0], by rw [a2, e0], ?_⟩
 by_cases h : (tkC m s r b l v u p1 p2).2 = 0
 · refine .inr ⟨by rw [b1]; exact h, ?_⟩
   rw [if_pos h] at e3
   have hi : inM m (tkC m s r b l v u p1 p2).1 = true := by unfold tkC at h ⊢; exact trk_in hm _ _ _ hu h
   obtain ⟨d1, d2⟩ := tk_val (s := s) (r := r) (b := b) (l := l) (v := v) hm hq hi (by omega : 0 <= p2) h3 h4
   rw [b2, d1, d2, c1, c2, e3]
   exact ⟨rfl, rfl⟩
 · refine .inl ⟨by rw [b1]; exact h, ?_⟩
   rw [if_neg h] at e3
   rw [c1, b1, e3]
theorem sr3_in {x y z h : Int} (h1 : 0 <= x /\ x <= h) (h2 : 0 <= y /\ y <= h) (h3 : 0 <= z /\ z <= h) : 0 <= (sr3 x y z).1 /\ (sr3 x y z).1 <= (sr3 x y z).2.1 /\ (sr3 x y z).2.1 <= (sr3 x y z).2.2 /\ (sr3 x y z).2.2 <= h := by
 unfold sr3
 (repeat' split) <;> simp only <;> omega
theorem ngL_gr (l : List Int) : ∀ (n : Nat) (a : Int), (ngL l n a).all gr4 = true
 | 0, a => rfl
 | n + 1, a => by
   simp only [ngL, List.all_cons, ngL_gr l n, Bool.and_true]
   have h := nextV_in l (a + 1) 5 (by omega)
   have : 0 <= cdV l a /\ cdV l a <= 4 := by
     unfold cdV
     cases nextV l a 5 == 0 <;> simp only [cond_true, cond_false] <;> omega
   unfold gr4
   simp [AtPr.inR, this]
theorem nt_ok (l : List Int) (a y : Int) (h1 : 1 <= y) (h2 : y <= 64) : niE (ntS l a) (ntR l a) (ntB l a) (ntL l a) (ntK l a y) (ntC l a) (ntE l a) (ntD l a) (ntT l a y) = 0 := by
 have r0 := rangeV_in l a 1 y (by omega)
 have r1 := rangeV_in l (a + 1) 60 1800 (by omega)
 have r2 := rangeV_in l (a + 1 + 1) (-1000) 1000 (by omega)
 have r3 := rangeV_in l (a + 1 + 1 + 1) (-16) 16 (by omega)
 have r4 := nextV_in l (a + 1 + 1 + 1 + 1) 64 (by omega)
 have r5 := rangeV_in l (a + 1 + 1 + 1 + 1 + 1) (-1000) 1000 (by omega)
 have r6 := nextV_in l (a + 1 + 1 + 1 + 1 + 1 + 1) 1073741824 (by omega)
 have r7 := nextV_in l (a + 1 + 1 + 1 + 1 + 1 + 1 + 1) 4 (by omega)
 have r16 := nextV_in l (a + 1 + 1 + 1 + 1 + 1 + 1 + 1 + 1 + 1 + 1 + 1 + 1 + 1 + 1 + 1 + 1) 3 (by omega)
 have hc : vE (ntC l a) = 0 := by
   unfold ntC
   cases ntY l a with
   | true => cases decide (ntQ l a < 0) <;> simp only [cond_true, cond_false] <;> decide
   | false => exact ve_in l _
 have he : vE (ntE l a) = 0 := ve_in l _
 have hs : (-1073741824 <= (ntS l a).lat /\ (ntS l a).lat <= 1073741824) /\ 0 <= (ntS l a).lon /\ (ntS l a).lon < 4294967296 := by
   unfold ntS ntO
   cases ntY l a with
   | true => cases decide (ntQ l a < 0) <;> simp only [cond_true, cond_false] <;> omega
   | false => simp only [cond_false]; unfold ntQ; omega
 have hd : -1073741824 <= ntD l a /\ ntD l a <= 0 := by
   unfold ntD
   cases ntY l a <;> simp only [cond_true, cond_false] <;> omega
 have hr : spE (ntR l a) = 0 := by
   have t1 : tmQ (ntR l a).t = true := tmQ_iff.2 (by unfold ntR; simp only; omega)
   have t2 : trB (ntR l a).a = true := trB_iff.2 (by unfold ntR; simp only; omega)
   have t3 : (chkQ (ntR l a).n (ntR l a).d = 0 /\ ¬ ((ntR l a).n <= 0 \/ 65536 * (ntR l a).d < (ntR l a).n)) /\ (ntR l a).d <= (ntR l a).n /\ (ntR l a).n <= 100 * (ntR l a).d := by
     unfold ntR
     simp only
     rcases (by omega : nextV l (a + 1 + 1 + 1 + 1 + 1 + 1 + 1) 4 = 0 \/ nextV l (a + 1 + 1 + 1 + 1 + 1 + 1 + 1) 4 = 1 \/ nextV l (a + 1 + 1 + 1 + 1 + 1 + 1 + 1) 4 = 2 \/ nextV l (a + 1 + 1 + 1 + 1 + 1 + 1 + 1) 4 = 3) with hk | hk | hk | hk <;> rw [hk] <;> decide
   have hrt : rtE (ntR l a) = 0 := by
     unfold rtE
     rw [if_pos (by rw [t1, t2]; rfl), if_pos t3.1.1, if_neg t3.1.2]
   unfold spE
   rw [if_pos hrt, if_pos t3.2]
 have hl : clE (ntK l a y) (ntT l a y) = 0 := by
   unfold clE
   rw [if_pos (by unfold lenT ntT; rw [ngL_len]; unfold ntK; omega), if_pos (by unfold ntT; exact ngL_gr l _ _)]
 rw [niE_ar, if_pos ⟨by unfold ntK; omega, by unfold ntL; omega, by unfold ntB; omega⟩, if_pos hs, if_pos hr, if_pos ⟨hc, he⟩, if_pos hd, hl]
noncomputable abbrev libFo : List (Nat × FnSp Tb) := [(35, sp0 (aBool true)), (31, belowS), (28, locWSp cxT gNt), (36, locWSp cxT gMo), (37, locWSp cxT gVe), (38, locWSp cxT gSo3), (39, factSp gAi), (40, toS), (41, factSp gTr)]
theorem libFo_ok : LibOk Tryz.prog rowN (lib1 libFo) := (lib1_cons (sp0_ok rfl slews_pl) Tryz.call35 (lib1_cons (belowS_ok _) Tryz.call31 (lib1_cons gNt_ok Tryz.call28 (lib1_cons gMo_ok.rows Tryz.call36 (lib1_cons gVe_ok.rows Tryz.call37 (lib1_cons gSo3_ok.rows Tryz.call38 (lib1_cons gAi_ok.rows Tryz.call39 (lib1_cons (sp3_ok fun m u v hc => ⟨_, rfl, too_pl m u v (hc (i64P v, true) (by simp))⟩) Tryz.call40 (lib1_cons gTr_ok.rows Tryz.call41 (lib1_nil _ _))))))))))
theorem eqP_ok : EqOk Tryz.prog (tabOf Tryz.prog) (fun t => Nat.beq t 87) := eq_of fun t ht => by
 have := Nat.eq_of_beq_eq_true ht
 subst this
 exact ⟨by kernel_rfl, by kernel_rfl, by kernel_rfl⟩
theorem lfo_011001 (T : List (List Int)) (x : Int) (y : Int) (z : Int) : evR (ctxOf Tryz.prog rowN (fun t => Nat.beq t 87) libFo) Tryz.f10 [(.w (.one (.fv (.tab [some .i64] T)))), (.w (.one (.int .i64 x))), (.w (.one (.int .i64 y))), (.w (.one (.int .i64 z)))] [false, true, true, false, false, true] = some (AV.w (AW.one (AC.bool (tkE (fM T) (fS T) (fR T) (fB T) (fL T) (fK T) (fV T) (fU T x y z) (f3 T x y z).fst (f3 T x y z).snd.snd (fQ T) == tkE (fM T) (fS T) (fR T) (fB T) (fL T) (fK T) (fV T) (fU T x y z) (f3 T x y z).fst (f3 T x y z).snd.fst (fQ T)))), (pickL [(!true, false), (decide ((1 : Int) <= 12) && decide ((12 : Int) <= 64), true), (decide ((0 : Int) <= 800000), true), (listB (colT T), true), (atB 0, true), (atB (ntA (colT T) 0 12 + 40), true), (atB (ntA (colT T) 0 12), true), (atB (moAt (colT T) (ntA (colT T) 0 12) + 6), true), (atB (moAt (colT T) (ntA (colT T) 0 12)), true), (i64B x, true), (i64B (IntKind.i64.wrap (fK T + 1)), true), (i64B y, true), (i64B z, true), (decide ((0 : Int) <= 0), true), (decide ((0 : Int) < ((3 : Nat) : Int)), true), (i64B (fR T).n, true), (i64B (fR T).d, true), (decide (lenT (ntT (colT T) 0 12) <= 9223372036854775807), true), ((if fQ T = 0 then if 0 <= (f3 T x y z).fst /\ (f3 T x y z).fst <= fK T then aae (fS T) (fV T) else 4 else fQ T) == 0, true), (i64P (fA T x y z), true), (toE (fM T) (fM T).p (fA T x y z) == 0, true), (decide ((0 : Int) <= 1), true), (decide ((1 : Int) < ((3 : Nat) : Int)), true), (decide ((0 : Int) <= 2), true), (decide ((2 : Int) < ((3 : Nat) : Int)), true), (tkE (fM T) (fS T) (fR T) (fB T) (fL T) (fK T) (fV T) (fU T x y z) (f3 T x y z).fst (f3 T x y z).fst (fQ T) != 0, false), (!((tkP (fM T) (fS T) (fR T) (fB T) (fL T) (fK T) (fV T) (fU T x y z) (f3 T x y z).fst (f3 T x y z).fst (fQ T)).az == (fU T x y z).az && ((tkP (fM T) (fS T) (fR T) (fB T) (fL T) (fK T) (fV T) (fU T x y z) (f3 T x y z).fst (f3 T x y z).fst (fQ T)).al == (fU T x y z).al && true)), false), (tkE (fM T) (fS T) (fR T) (fB T) (fL T) (fK T) (fV T) (fU T x y z) (f3 T x y z).fst (f3 T x y z).snd.fst (fQ T) != 0, true)] [0, 1, 2, 3, 4, 5, 3, 6, 7, 3, 8, 9, 10, 11, 10, 12, 10, 13, 14, 15, 16, 17, 18, 19, 20, 13, 14, 13, 14, 15, 16, 17, 13, 14, 21, 22, 15, 16, 17, 13, 14, 23, 24, 15, 16, 17, 25, 25, 25, 25, 26, 27])) := by kernel_rfl
theorem lfo_0110001 (T : List (List Int)) (x : Int) (y : Int) (z : Int) : evR (ctxOf Tryz.prog rowN (fun t => Nat.beq t 87) libFo) Tryz.f10 [(.w (.one (.fv (.tab [some .i64] T)))), (.w (.one (.int .i64 x))), (.w (.one (.int .i64 y))), (.w (.one (.int .i64 z)))] [false, true, true, false, false, false, true] = some (AV.w (AW.one (AC.bool ((tkP (fM T) (fS T) (fR T) (fB T) (fL T) (fK T) (fV T) (tkP (fM T) (fS T) (fR T) (fB T) (fL T) (fK T) (fV T) (fU T x y z) (f3 T x y z).fst (f3 T x y z).snd.fst (fQ T)) (f3 T x y z).snd.fst (f3 T x y z).snd.snd (fQ T)).az == (tkP (fM T) (fS T) (fR T) (fB T) (fL T) (fK T) (fV T) (fU T x y z) (f3 T x y z).fst (f3 T x y z).snd.snd (fQ T)).az && ((tkP (fM T) (fS T) (fR T) (fB T) (fL T) (fK T) (fV T) (tkP (fM T) (fS T) (fR T) (fB T) (fL T) (fK T) (fV T) (fU T x y z) (f3 T x y z).fst (f3 T x y z).snd.fst (fQ T)) (f3 T x y z).snd.fst (f3 T x y z).snd.snd (fQ T)).al == (tkP (fM T) (fS T) (fR T) (fB T) (fL T) (fK T) (fV T) (fU T x y z) (f3 T x y z).fst (f3 T x y z).snd.snd (fQ T)).al && true)))), (pickL [(!true, false), (decide ((1 : Int) <= 12) && decide ((12 : Int) <= 64), true), (decide ((0 : Int) <= 800000), true), (listB (colT T), true), (atB 0, true), (atB (ntA (colT T) 0 12 + 40), true), (atB (ntA (colT T) 0 12), true), (atB (moAt (colT T) (ntA (colT T) 0 12) + 6), true), (atB (moAt (colT T) (ntA (colT T) 0 12)), true), (i64B x, true), (i64B (IntKind.i64.wrap (fK T + 1)), true), (i64B y, true), (i64B z, true), (decide ((0 : Int) <= 0), true), (decide ((0 : Int) < ((3 : Nat) : Int)), true), (i64B (fR T).n, true), (i64B (fR T).d, true), (decide (lenT (ntT (colT T) 0 12) <= 9223372036854775807), true), ((if fQ T = 0 then if 0 <= (f3 T x y z).fst /\ (f3 T x y z).fst <= fK T then aae (fS T) (fV T) else 4 else fQ T) == 0, true), (i64P (fA T x y z), true), (toE (fM T) (fM T).p (fA T x y z) == 0, true), (decide ((0 : Int) <= 1), true), (decide ((1 : Int) < ((3 : Nat) : Int)), true), (decide ((0 : Int) <= 2), true), (decide ((2 : Int) < ((3 : Nat) : Int)), true), (tkE (fM T) (fS T) (fR T) (fB T) (fL T) (fK T) (fV T) (fU T x y z) (f3 T x y z).fst (f3 T x y z).fst (fQ T) != 0, false), (!((tkP (fM T) (fS T) (fR T) (fB T) (fL T) (fK T) (fV T) (fU T x y z) (f3 T x y z).fst (f3 T x y z).fst (fQ T)).az == (fU T x y z).az && ((tkP (fM T) (fS T) (fR T) (fB T) (fL T) (fK T) (fV T) (fU T x y z) (f3 T x y z).fst (f3 T x y z).fst (fQ T)).al == (fU T x y z).al && true)), false), (tkE (fM T) (fS T) (fR T) (fB T) (fL T) (fK T) (fV T) (fU T x y z) (f3 T x y z).fst (f3 T x y z).snd.fst (fQ T) != 0, false), (tkE (fM T) (fS T) (fR T) (fB T) (fL T) (fK T) (fV T) (tkP (fM T) (fS T) (fR T) (fB T) (fL T) (fK T) (fV T) (fU T x y z) (f3 T x y z).fst (f3 T x y z).snd.fst (fQ T)) (f3 T x y z).snd.fst (f3 T x y z).snd.snd (fQ T) == tkE (fM T) (fS T) (fR T) (fB T) (fL T) (fK T) (fV T) (fU T x y z) (f3 T x y z).fst (f3 T x y z).snd.snd (fQ T), true)] [0, 1, 2, 3, 4, 5, 3, 6, 7, 3, 8, 9, 10, 11, 10, 12, 10, 13, 14, 15, 16, 17, 18, 19, 20, 13, 14, 13, 14, 15, 16, 17, 13, 14, 21, 22, 15, 16, 17, 13, 14, 23, 24, 15, 16, 17, 25, 25, 25, 25, 26, 27, 21, 22, 23, 24, 15, 16, 17, 28, 28, 28, 28])) := by kernel_rfl
theorem lfo_010001 (T : List (List Int)) (x : Int) (y : Int) (z : Int) : evR (ctxOf Tryz.prog rowN (fun t => Nat.beq t 87) libFo) Tryz.f10 [(.w (.one (.fv (.tab [some .i64] T)))), (.w (.one (.int .i64 x))), (.w (.one (.int .i64 y))), (.w (.one (.int .i64 z)))] [false, true, false, false, false, true] = some (AV.w (AW.one (AC.bool (tkE (fM T) (fS T) (fR T) (fB T) (fL T) (fK T) (fV T) (fM T).p (f3 T x y z).fst (f3 T x y z).snd.snd (fQ T) == tkE (fM T) (fS T) (fR T) (fB T) (fL T) (fK T) (fV T) (fM T).p (f3 T x y z).fst (f3 T x y z).snd.fst (fQ T)))), (pickL [(!true, false), (decide ((1 : Int) <= 12) && decide ((12 : Int) <= 64), true), (decide ((0 : Int) <= 800000), true), (listB (colT T), true), (atB 0, true), (atB (ntA (colT T) 0 12 + 40), true), (atB (ntA (colT T) 0 12), true), (atB (moAt (colT T) (ntA (colT T) 0 12) + 6), true), (atB (moAt (colT T) (ntA (colT T) 0 12)), true), (i64B x, true), (i64B (IntKind.i64.wrap (fK T + 1)), true), (i64B y, true), (i64B z, true), (decide ((0 : Int) <= 0), true), (decide ((0 : Int) < ((3 : Nat) : Int)), true), (i64B (fR T).n, true), (i64B (fR T).d, true), (decide (lenT (ntT (colT T) 0 12) <= 9223372036854775807), true), ((if fQ T = 0 then if 0 <= (f3 T x y z).fst /\ (f3 T x y z).fst <= fK T then aae (fS T) (fV T) else 4 else fQ T) == 0, true), (i64P (fA T x y z), true), (toE (fM T) (fM T).p (fA T x y z) == 0, false), (decide ((0 : Int) <= 1), true), (decide ((1 : Int) < ((3 : Nat) : Int)), true), (decide ((0 : Int) <= 2), true), (decide ((2 : Int) < ((3 : Nat) : Int)), true), (tkE (fM T) (fS T) (fR T) (fB T) (fL T) (fK T) (fV T) (fM T).p (f3 T x y z).fst (f3 T x y z).fst (fQ T) != 0, false), (!((tkP (fM T) (fS T) (fR T) (fB T) (fL T) (fK T) (fV T) (fM T).p (f3 T x y z).fst (f3 T x y z).fst (fQ T)).az == (fM T).p.az && ((tkP (fM T) (fS T) (fR T) (fB T) (fL T) (fK T) (fV T) (fM T).p (f3 T x y z).fst (f3 T x y z).fst (fQ T)).al == (fM T).p.al && true)), false), (tkE (fM T) (fS T) (fR T) (fB T) (fL T) (fK T) (fV T) (fM T).p (f3 T x y z).fst (f3 T x y z).snd.fst (fQ T) != 0, true)] [0, 1, 2, 3, 4, 5, 3, 6, 7, 3, 8, 9, 10, 11, 10, 12, 10, 13, 14, 15, 16, 17, 18, 19, 20, 13, 14, 13, 14, 15, 16, 17, 13, 14, 21, 22, 15, 16, 17, 13, 14, 23, 24, 15, 16, 17, 25, 25, 25, 25, 26, 27])) := by kernel_rfl
theorem lfo_0100001 (T : List (List Int)) (x : Int) (y : Int) (z : Int) : evR (ctxOf Tryz.prog rowN (fun t => Nat.beq t 87) libFo) Tryz.f10 [(.w (.one (.fv (.tab [some .i64] T)))), (.w (.one (.int .i64 x))), (.w (.one (.int .i64 y))), (.w (.one (.int .i64 z)))] [false, true, false, false, false, false, true] = some (AV.w (AW.one (AC.bool ((tkP (fM T) (fS T) (fR T) (fB T) (fL T) (fK T) (fV T) (tkP (fM T) (fS T) (fR T) (fB T) (fL T) (fK T) (fV T) (fM T).p (f3 T x y z).fst (f3 T x y z).snd.fst (fQ T)) (f3 T x y z).snd.fst (f3 T x y z).snd.snd (fQ T)).az == (tkP (fM T) (fS T) (fR T) (fB T) (fL T) (fK T) (fV T) (fM T).p (f3 T x y z).fst (f3 T x y z).snd.snd (fQ T)).az && ((tkP (fM T) (fS T) (fR T) (fB T) (fL T) (fK T) (fV T) (tkP (fM T) (fS T) (fR T) (fB T) (fL T) (fK T) (fV T) (fM T).p (f3 T x y z).fst (f3 T x y z).snd.fst (fQ T)) (f3 T x y z).snd.fst (f3 T x y z).snd.snd (fQ T)).al == (tkP (fM T) (fS T) (fR T) (fB T) (fL T) (fK T) (fV T) (fM T).p (f3 T x y z).fst (f3 T x y z).snd.snd (fQ T)).al && true)))), (pickL [(!true, false), (decide ((1 : Int) <= 12) && decide ((12 : Int) <= 64), true), (decide ((0 : Int) <= 800000), true), (listB (colT T), true), (atB 0, true), (atB (ntA (colT T) 0 12 + 40), true), (atB (ntA (colT T) 0 12), true), (atB (moAt (colT T) (ntA (colT T) 0 12) + 6), true), (atB (moAt (colT T) (ntA (colT T) 0 12)), true), (i64B x, true), (i64B (IntKind.i64.wrap (fK T + 1)), true), (i64B y, true), (i64B z, true), (decide ((0 : Int) <= 0), true), (decide ((0 : Int) < ((3 : Nat) : Int)), true), (i64B (fR T).n, true), (i64B (fR T).d, true), (decide (lenT (ntT (colT T) 0 12) <= 9223372036854775807), true), ((if fQ T = 0 then if 0 <= (f3 T x y z).fst /\ (f3 T x y z).fst <= fK T then aae (fS T) (fV T) else 4 else fQ T) == 0, true), (i64P (fA T x y z), true), (toE (fM T) (fM T).p (fA T x y z) == 0, false), (decide ((0 : Int) <= 1), true), (decide ((1 : Int) < ((3 : Nat) : Int)), true), (decide ((0 : Int) <= 2), true), (decide ((2 : Int) < ((3 : Nat) : Int)), true), (tkE (fM T) (fS T) (fR T) (fB T) (fL T) (fK T) (fV T) (fM T).p (f3 T x y z).fst (f3 T x y z).fst (fQ T) != 0, false), (!((tkP (fM T) (fS T) (fR T) (fB T) (fL T) (fK T) (fV T) (fM T).p (f3 T x y z).fst (f3 T x y z).fst (fQ T)).az == (fM T).p.az && ((tkP (fM T) (fS T) (fR T) (fB T) (fL T) (fK T) (fV T) (fM T).p (f3 T x y z).fst (f3 T x y z).fst (fQ T)).al == (fM T).p.al && true)), false), (tkE (fM T) (fS T) (fR T) (fB T) (fL T) (fK T) (fV T) (fM T).p (f3 T x y z).fst (f3 T x y z).snd.fst (fQ T) != 0, false), (tkE (fM T) (fS T) (fR T) (fB T) (fL T) (fK T) (fV T) (tkP (fM T) (fS T) (fR T) (fB T) (fL T) (fK T) (fV T) (fM T).p (f3 T x y z).fst (f3 T x y z).snd.fst (fQ T)) (f3 T x y z).snd.fst (f3 T x y z).snd.snd (fQ T) == tkE (fM T) (fS T) (fR T) (fB T) (fL T) (fK T) (fV T) (fM T).p (f3 T x y z).fst (f3 T x y z).snd.snd (fQ T), true)] [0, 1, 2, 3, 4, 5, 3, 6, 7, 3, 8, 9, 10, 11, 10, 12, 10, 13, 14, 15, 16, 17, 18, 19, 20, 13, 14, 13, 14, 15, 16, 17, 13, 14, 21, 22, 15, 16, 17, 13, 14, 23, 24, 15, 16, 17, 25, 25, 25, 25, 26, 27, 21, 22, 23, 24, 15, 16, 17, 28, 28, 28, 28])) := by kernel_rfl
theorem nt_s (l : List Int) (a : Int) : sE (ntS l a) = 0 := by
 have r3 := rangeV_in l (a + 1 + 1 + 1) (-16) 16 (by omega)
 have r4 := nextV_in l (a + 1 + 1 + 1 + 1) 64 (by omega)
 refine sE_iff.2 ?_
 unfold ntS ntO
 cases ntY l a with
 | true => cases decide (ntQ l a < 0) <;> simp only [cond_true, cond_false] <;> omega
 | false => simp only [cond_false]; unfold ntQ; omega
theorem nt_nd (l : List Int) (a : Int) : i64B (ntR l a).n = true /\ i64B (ntR l a).d = true := by
 have r7 := nextV_in l (a + 1 + 1 + 1 + 1 + 1 + 1 + 1) 4 (by omega)
 unfold ntR
 simp only
 rcases (by omega : nextV l (a + 1 + 1 + 1 + 1 + 1 + 1 + 1) 4 = 0 \/ nextV l (a + 1 + 1 + 1 + 1 + 1 + 1 + 1) 4 = 1 \/ nextV l (a + 1 + 1 + 1 + 1 + 1 + 1 + 1) 4 = 2 \/ nextV l (a + 1 + 1 + 1 + 1 + 1 + 1 + 1) 4 = 3) with hk | hk | hk | hk <;> rw [hk] <;> decide
theorem to_in {m : Mo} {u a : Po} (hm : moE m = 0) (hu : inM m u = true) (h : toE m u a = 0) : inM m (toP m u a) = true := by
 have h' : tsE m u a = 0 := by unfold toE at h; rw [if_pos hm, if_pos hu] at h; exact h
 unfold toP
 rw [if_pos h]
 have := tg_rg (a := a) hm hu h'
 rw [this.1]
 exact this.2.2.2.2.2
theorem len_s {W : World} {u : Value} {ks : List (Option IntKind)} {T : List (List Int)} (hu : tabHv (fun _ _ => False) W u ks T) : decide (lenT T <= 9223372036854775807) = true := by
 obtain ⟨p, cap, _, h1, h2, _⟩ := hu
 unfold lenT
 have : maxLen = 9223372036854775807 := by decide
 exact decide_eq_true (by omega)
theorem col_ok {W : World} {u : Value} {T : List (List Int)} (hu : tabHv (fun _ _ => False) W u [some .i64] T) (hT : okRows [some .i64] T) : listB (colT T) = true := by
 unfold listB
 rw [Bool.and_eq_true]
 refine ⟨List.all_eq_true.2 fun v hv => ?_, ?_⟩
 · obtain ⟨r, hr, rfl⟩ := List.mem_map.1 hv
   obtain ⟨j, hj, e⟩ := List.getElem_of_mem hr
   have := hT j hj 0 (some .i64) rfl
   have e0 : T.getD j [] = r := by rw [List.getD_eq_getElem?_getD, List.getElem?_eq_getElem hj, Option.getD_some, e]
   rw [e0] at this
   exact i64B_iff.2 (okK_i64 this)
 · rw [len_col]; exact len_s hu
set_option maxHeartbeats 8000000 in
theorem slewFollows_walk (W : World) (T : List (List Int)) (w : Value) (hu : tabHv (fun _ _ => False) W w [some .i64] T) (hT : okRows [some .i64] T) (x : Int) (hx : okK (some .i64) x) (y : Int) (hy : okK (some .i64) y) (z : Int) (hz : okK (some .i64) z) :
   Calls Tryz.prog 10 #[w, .int .i64 x, .int .i64 y, .int .i64 z] W fun e w' => e = .returned (.bool true) /\ Below W.heap.size W w' := by
 have hl := col_ok hu hT
 have i1 : i64B x = true := i64B_iff.2 (okK_i64 hx)
 have i2 : i64B y = true := i64B_iff.2 (okK_i64 hy)
 have i3 : i64B z = true := i64B_iff.2 (okK_i64 hz)
 have hK : 1 <= fK T /\ fK T <= 12 := rangeV_in (colT T) 0 1 12 (by omega)
 have ew : IntKind.i64.wrap (fK T + 1) = fK T + 1 := v64n (by omega) (by omega)
 have i4 : i64B (IntKind.i64.wrap (fK T + 1)) = true := by rw [ew, i64B_iff]; omega
 have hA : 18 <= ntA (colT T) 0 12 /\ ntA (colT T) 0 12 <= 42 := by
   have := ngA_in (colT T) (fK T).toNat (0 + 1 + 1 + 1 + 1 + 1 + 1 + 1 + 1 + 1 + 1 + 1 + 1 + 1 + 1 + 1 + 1 + 1 + 1)
   have e1 : ntK (colT T) 0 12 = fK T := rfl
   unfold ntA
   rw [e1]
   omega
 have hM := moAt_in (colT T) (ntA (colT T) 0 12)
 have a0 : atB 0 = true := by decide
 have a1 : atB (ntA (colT T) 0 12 + 40) = true := atB_iff.2 (by omega)
 have a2 : atB (ntA (colT T) 0 12) = true := atB_iff.2 (by omega)
 have a3 : atB (moAt (colT T) (ntA (colT T) 0 12) + 6) = true := atB_iff.2 (by omega)
 have a4 : atB (moAt (colT T) (ntA (colT T) 0 12)) = true := atB_iff.2 (by omega)
 obtain ⟨n1, n2⟩ := nt_nd (colT T) 0
 have i5 : i64B (fR T).n = true := n1
 have i6 : i64B (fR T).d = true := n2
 have i7 : decide (lenT (ntT (colT T) 0 12) <= 9223372036854775807) = true := by
   refine decide_eq_true ?_
   unfold lenT ntT
   rw [ngL_len]
   have : ntK (colT T) 0 12 = fK T := rfl
   omega
 have hq : fQ T = 0 := nt_ok (colT T) 0 12 (by omega) (by omega)
 have hm : moE (fM T) = 0 := (moF_ok (colT T) (ntA (colT T) 0 12)).1
 have hp : inM (fM T) (fM T).p = true := (mo_iff.1 hm).2.2
 have bx := belowV_in x (fK T + 1) (by omega)
 have b_y := belowV_in y (fK T + 1) (by omega)
 have bz := belowV_in z (fK T + 1) (by omega)
 obtain ⟨g1, g2, g3, g4⟩ : 0 <= (f3 T x y z).fst /\ (f3 T x y z).fst <= (f3 T x y z).snd.fst /\ (f3 T x y z).snd.fst <= (f3 T x y z).snd.snd /\ (f3 T x y z).snd.snd <= fK T := by
   unfold f3
   rw [ew]
   exact sr3_in (by omega) (by omega) (by omega)
 have gp : 0 <= (f3 T x y z).fst /\ (f3 T x y z).fst <= fK T := ⟨g1, by omega⟩
 have ha : aae (fS T) (fV T) = 0 := by
   unfold aae aimE
   rw [if_neg (fun h => h (nt_s (colT T) 0))]
   exact ve_in _ _
 have d1 : ((if fQ T = 0 then if 0 <= (f3 T x y z).fst /\ (f3 T x y z).fst <= fK T then aae (fS T) (fV T) else 4 else fQ T) == 0) = true := by rw [if_pos hq, if_pos gp, ha]; rfl
 have eA : fA T x y z = aaP (fS T) (fR T) (fB T) (fL T) (fV T) (f3 T x y z).fst := by
   unfold fA aaP
   rw [if_pos hq, if_pos gp, if_pos hq, if_pos gp]
 have d2 : i64P (fA T x y z) = true := by rw [eA]; exact aaP_64 _ _ _ _ _ _
 by_cases hto : toE (fM T) (fM T).p (fA T x y z) = 0
 · have d3 : (toE (fM T) (fM T).p (fA T x y z) == 0) = true := by rw [hto]; rfl
   have hin : inM (fM T) (fU T x y z) = true := to_in hm hp hto
   obtain ⟨k1, k2, k3⟩ := fo_key (s := fS T) (r := fR T) (b := fB T) (l := fL T) (v := fV T) hm hq hin g1 g2 g3 g4
   have j1 : (tkE (fM T) (fS T) (fR T) (fB T) (fL T) (fK T) (fV T) (fU T x y z) (f3 T x y z).fst (f3 T x y z).fst (fQ T) != 0) = false := by rw [k1]; rfl
   have j2 : (!((tkP (fM T) (fS T) (fR T) (fB T) (fL T) (fK T) (fV T) (fU T x y z) (f3 T x y z).fst (f3 T x y z).fst (fQ T)).az == ((fU T x y z)).az && ((tkP (fM T) (fS T) (fR T) (fB T) (fL T) (fK T) (fV T) (fU T x y z) (f3 T x y z).fst (f3 T x y z).fst (fQ T)).al == ((fU T x y z)).al && true))) = false := by rw [k2]; simp
   rcases k3 with ⟨q1, q2⟩ | ⟨q1, q2, q3⟩
   · have j3 : (tkE (fM T) (fS T) (fR T) (fB T) (fL T) (fK T) (fV T) (fU T x y z) (f3 T x y z).fst (f3 T x y z).snd.fst (fQ T) != 0) = true := by simpa using q1
     have V : (tkE (fM T) (fS T) (fR T) (fB T) (fL T) (fK T) (fV T) (fU T x y z) (f3 T x y z).fst (f3 T x y z).snd.snd (fQ T) == tkE (fM T) (fS T) (fR T) (fB T) (fL T) (fK T) (fV T) (fU T x y z) (f3 T x y z).fst (f3 T x y z).snd.fst (fQ T)) = true := by first | (rw [q2]; exact beq_self_eq_true _) | (rw [q3]; simp)
     refine law_facts (I := rowN) (h := fun q v => q = .tab [some .i64] T /\ v = w) (v := .bool true) (ctxOf_ok libFo_ok eqP_ok) (by kernel_rfl) Tryz.func10 rfl lps_nil rfl (fun q v hq => by obtain ⟨rfl, rfl⟩ := hq; exact hu) (lfo_011001 T x y z) rfl (.cons ⟨rfl, rfl⟩ (.cons rfl (.cons rfl (.cons rfl .nil)))) (congrArg (fun b => some (Value.bool b)) V) (pickL_ok ?_ _)
     repeat' (first | exact cd_nil | refine cd_cons ?_ ?_)
     all_goals first | with_reducible assumption | with_reducible rfl | decide
   · have j3 : (tkE (fM T) (fS T) (fR T) (fB T) (fL T) (fK T) (fV T) (fU T x y z) (f3 T x y z).fst (f3 T x y z).snd.fst (fQ T) != 0) = false := by rw [q1]; rfl
     have j4 : (tkE (fM T) (fS T) (fR T) (fB T) (fL T) (fK T) (fV T) (tkP (fM T) (fS T) (fR T) (fB T) (fL T) (fK T) (fV T) (fU T x y z) (f3 T x y z).fst (f3 T x y z).snd.fst (fQ T)) (f3 T x y z).snd.fst (f3 T x y z).snd.snd (fQ T) == tkE (fM T) (fS T) (fR T) (fB T) (fL T) (fK T) (fV T) (fU T x y z) (f3 T x y z).fst (f3 T x y z).snd.snd (fQ T)) = true := by rw [q2]; exact beq_self_eq_true _
     have V : ((tkP (fM T) (fS T) (fR T) (fB T) (fL T) (fK T) (fV T) (tkP (fM T) (fS T) (fR T) (fB T) (fL T) (fK T) (fV T) (fU T x y z) (f3 T x y z).fst (f3 T x y z).snd.fst (fQ T)) (f3 T x y z).snd.fst (f3 T x y z).snd.snd (fQ T)).az == (tkP (fM T) (fS T) (fR T) (fB T) (fL T) (fK T) (fV T) (fU T x y z) (f3 T x y z).fst (f3 T x y z).snd.snd (fQ T)).az && ((tkP (fM T) (fS T) (fR T) (fB T) (fL T) (fK T) (fV T) (tkP (fM T) (fS T) (fR T) (fB T) (fL T) (fK T) (fV T) (fU T x y z) (f3 T x y z).fst (f3 T x y z).snd.fst (fQ T)) (f3 T x y z).snd.fst (f3 T x y z).snd.snd (fQ T)).al == (tkP (fM T) (fS T) (fR T) (fB T) (fL T) (fK T) (fV T) (fU T x y z) (f3 T x y z).fst (f3 T x y z).snd.snd (fQ T)).al && true)) = true := by first | (rw [q2]; exact beq_self_eq_true _) | (rw [q3]; simp)
     refine law_facts (I := rowN) (h := fun q v => q = .tab [some .i64] T /\ v = w) (v := .bool true) (ctxOf_ok libFo_ok eqP_ok) (by kernel_rfl) Tryz.func10 rfl lps_nil rfl (fun q v hq => by obtain ⟨rfl, rfl⟩ := hq; exact hu) (lfo_0110001 T x y z) rfl (.cons ⟨rfl, rfl⟩ (.cons rfl (.cons rfl (.cons rfl .nil)))) (congrArg (fun b => some (Value.bool b)) V) (pickL_ok ?_ _)
     repeat' (first | exact cd_nil | refine cd_cons ?_ ?_)
     all_goals first | with_reducible assumption | with_reducible rfl | decide
 · have d3 : (toE (fM T) (fM T).p (fA T x y z) == 0) = false := by simpa using hto
   have hin : inM (fM T) (fM T).p = true := hp
   obtain ⟨k1, k2, k3⟩ := fo_key (s := fS T) (r := fR T) (b := fB T) (l := fL T) (v := fV T) hm hq hin g1 g2 g3 g4
   have j1 : (tkE (fM T) (fS T) (fR T) (fB T) (fL T) (fK T) (fV T) (fM T).p (f3 T x y z).fst (f3 T x y z).fst (fQ T) != 0) = false := by rw [k1]; rfl
   have j2 : (!((tkP (fM T) (fS T) (fR T) (fB T) (fL T) (fK T) (fV T) (fM T).p (f3 T x y z).fst (f3 T x y z).fst (fQ T)).az == ((fM T).p).az && ((tkP (fM T) (fS T) (fR T) (fB T) (fL T) (fK T) (fV T) (fM T).p (f3 T x y z).fst (f3 T x y z).fst (fQ T)).al == ((fM T).p).al && true))) = false := by rw [k2]; simp
   rcases k3 with ⟨q1, q2⟩ | ⟨q1, q2, q3⟩
   · have j3 : (tkE (fM T) (fS T) (fR T) (fB T) (fL T) (fK T) (fV T) (fM T).p (f3 T x y z).fst (f3 T x y z).snd.fst (fQ T) != 0) = true := by simpa using q1
     have V : (tkE (fM T) (fS T) (fR T) (fB T) (fL T) (fK T) (fV T) (fM T).p (f3 T x y z).fst (f3 T x y z).snd.snd (fQ T) == tkE (fM T) (fS T) (fR T) (fB T) (fL T) (fK T) (fV T) (fM T).p (f3 T x y z).fst (f3 T x y z).snd.fst (fQ T)) = true := by first | (rw [q2]; exact beq_self_eq_true _) | (rw [q3]; simp)
     refine law_facts (I := rowN) (h := fun q v => q = .tab [some .i64] T /\ v = w) (v := .bool true) (ctxOf_ok libFo_ok eqP_ok) (by kernel_rfl) Tryz.func10 rfl lps_nil rfl (fun q v hq => by obtain ⟨rfl, rfl⟩ := hq; exact hu) (lfo_010001 T x y z) rfl (.cons ⟨rfl, rfl⟩ (.cons rfl (.cons rfl (.cons rfl .nil)))) (congrArg (fun b => some (Value.bool b)) V) (pickL_ok ?_ _)
     repeat' (first | exact cd_nil | refine cd_cons ?_ ?_)
     all_goals first | with_reducible assumption | with_reducible rfl | decide
   · have j3 : (tkE (fM T) (fS T) (fR T) (fB T) (fL T) (fK T) (fV T) (fM T).p (f3 T x y z).fst (f3 T x y z).snd.fst (fQ T) != 0) = false := by rw [q1]; rfl
     have j4 : (tkE (fM T) (fS T) (fR T) (fB T) (fL T) (fK T) (fV T) (tkP (fM T) (fS T) (fR T) (fB T) (fL T) (fK T) (fV T) (fM T).p (f3 T x y z).fst (f3 T x y z).snd.fst (fQ T)) (f3 T x y z).snd.fst (f3 T x y z).snd.snd (fQ T) == tkE (fM T) (fS T) (fR T) (fB T) (fL T) (fK T) (fV T) (fM T).p (f3 T x y z).fst (f3 T x y z).snd.snd (fQ T)) = true := by rw [q2]; exact beq_self_eq_true _
     have V : ((tkP (fM T) (fS T) (fR T) (fB T) (fL T) (fK T) (fV T) (tkP (fM T) (fS T) (fR T) (fB T) (fL T) (fK T) (fV T) (fM T).p (f3 T x y z).fst (f3 T x y z).snd.fst (fQ T)) (f3 T x y z).snd.fst (f3 T x y z).snd.snd (fQ T)).az == (tkP (fM T) (fS T) (fR T) (fB T) (fL T) (fK T) (fV T) (fM T).p (f3 T x y z).fst (f3 T x y z).snd.snd (fQ T)).az && ((tkP (fM T) (fS T) (fR T) (fB T) (fL T) (fK T) (fV T) (tkP (fM T) (fS T) (fR T) (fB T) (fL T) (fK T) (fV T) (fM T).p (f3 T x y z).fst (f3 T x y z).snd.fst (fQ T)) (f3 T x y z).snd.fst (f3 T x y z).snd.snd (fQ T)).al == (tkP (fM T) (fS T) (fR T) (fB T) (fL T) (fK T) (fV T) (fM T).p (f3 T x y z).fst (f3 T x y z).snd.snd (fQ T)).al && true)) = true := by first | (rw [q2]; exact beq_self_eq_true _) | (rw [q3]; simp)
     refine law_facts (I := rowN) (h := fun q v => q = .tab [some .i64] T /\ v = w) (v := .bool true) (ctxOf_ok libFo_ok eqP_ok) (by kernel_rfl) Tryz.func10 rfl lps_nil rfl (fun q v hq => by obtain ⟨rfl, rfl⟩ := hq; exact hu) (lfo_0100001 T x y z) rfl (.cons ⟨rfl, rfl⟩ (.cons rfl (.cons rfl (.cons rfl .nil)))) (congrArg (fun b => some (Value.bool b)) V) (pickL_ok ?_ _)
     repeat' (first | exact cd_nil | refine cd_cons ?_ ?_)
     all_goals first | with_reducible assumption | with_reducible rfl | decide

end
end Go.Proofs.YtmhhdedekblbnaaGreat.AtSl
