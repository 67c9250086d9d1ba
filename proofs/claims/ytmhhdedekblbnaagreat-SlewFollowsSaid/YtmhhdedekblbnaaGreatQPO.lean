/-
 Nights: what CheckNight returns, and the reference likewise; the walk of the law PropNights.
 Conditions: those of each theorem.
-/
import Derived.Test.YtmhhdedekblbnaaGreatQPN
set_option maxRecDepth 100000
set_option linter.unusedVariables false
set_option linter.unusedSimpArgs false
namespace Go.Proofs.YtmhhdedekblbnaaGreat.AtPr
open Go.RowKit Ev Wd AtRt AtHz
open Go.Proofs.YtmhhdedekblbnaaGreat
variable {F : Type}
noncomputable section

theorem niE_ar {s : Si} {r : Rt} {b l k : Int} {u m : V3} {d : Int} {T : List (List Int)} : niE s r b l k u m d T = if (1 <= k /\ k <= 64) /\ (60000 <= l /\ l <= 1800000) /\ (-8796093022208 <= b /\ b <= 8796093022208) then (if (-1073741824 <= s.lat /\ s.lat <= 1073741824) /\ 0 <= s.lon /\ s.lon < 4294967296 then (if spE r = 0 then (if vE u = 0 /\ vE m = 0 then (if -1073741824 <= d /\ d <= 0 then clE k T else 4) else 3) else spE r) else 4) else 4 := by
 unfold niE
 simp only [Bool.and_eq_true, inR_iff, sE_iff]
theorem ca3 {a b c : Bool} {l : List (Bool × Bool)} (h : ∀ p ∈ (a, true) :: (b, true) :: (c, true) :: l, p.1 = p.2) : a = true /\ b = true /\ c = true := ⟨h (a, true) (by simp), h (b, true) (by simp), h (c, true) (by simp)⟩
theorem ca1 {b : Bool} (h : ∀ p ∈ [(b, true)], p.1 = p.2) : b = true := h (b, true) (by simp)
noncomputable abbrev clLps : Lps Tb := [((22, [false, true, false, true, true]), clD.sp (fun _ => false))]
theorem clLps_ok : LpsOk Tryz.prog tbI clLps Tryz.f99.ntmps (bodyOf Tryz.f99) := lps_cons (fun _ x hx => clD_ok x hx) lps_nil
theorem clf_1 (s : Si) (r : Rt) (b : Int) (l : Int) (k : Int) (u : V3) (m : V3) (d : Int) (T : List (List Int)) : evR (ctxLp Tryz.prog tbI (fun _ => false) libN1 [] clLps) Tryz.f99 [(.w (.agg [.int .i64 s.lat, .int .i64 s.lon, .int .i64 r.t, .int .i64 r.a, .int .i64 r.n, .int .i64 r.d, .int .i64 b, .int .i64 l, .int .i64 k, .int .i64 u.x, .int .i64 u.y, .int .i64 u.z, .int .i64 m.x, .int .i64 m.y, .int .i64 m.z, .int .i64 d, .fv (.tab [some .i64] T)]))] [true] = some (AV.w (AW.one (AC.int IntKind.i64 3)), (pickL [(lenT T != k, true)] [0])) := by kernel_rfl
theorem clf_01 (s : Si) (r : Rt) (b : Int) (l : Int) (k : Int) (u : V3) (m : V3) (d : Int) (T : List (List Int)) : evR (ctxLp Tryz.prog tbI (fun _ => false) libN1 [] clLps) Tryz.f99 [(.w (.agg [.int .i64 s.lat, .int .i64 s.lon, .int .i64 r.t, .int .i64 r.a, .int .i64 r.n, .int .i64 r.d, .int .i64 b, .int .i64 l, .int .i64 k, .int .i64 u.x, .int .i64 u.y, .int .i64 u.z, .int .i64 m.x, .int .i64 m.y, .int .i64 m.z, .int .i64 d, .fv (.tab [some .i64] T)]))] [false, true] = some (AV.w (AW.one (AC.int IntKind.i64 0)), (pickL [(lenT T != k, false), (T.all gr4, true), (decide ((0 : Int) = 0) && decide (lenT T = lenT T) && decide (lenT T <= 9223372036854775807), true)] [0, 1, 2])) := by kernel_rfl
theorem clf_00 (s : Si) (r : Rt) (b : Int) (l : Int) (k : Int) (u : V3) (m : V3) (d : Int) (T : List (List Int)) : evR (ctxLp Tryz.prog tbI (fun _ => false) libN1 [] clLps) Tryz.f99 [(.w (.agg [.int .i64 s.lat, .int .i64 s.lon, .int .i64 r.t, .int .i64 r.a, .int .i64 r.n, .int .i64 r.d, .int .i64 b, .int .i64 l, .int .i64 k, .int .i64 u.x, .int .i64 u.y, .int .i64 u.z, .int .i64 m.x, .int .i64 m.y, .int .i64 m.z, .int .i64 d, .fv (.tab [some .i64] T)]))] [false, false] = some (AV.w (AW.one (AC.int IntKind.i64 4)), (pickL [(lenT T != k, false), (T.all gr4, false), (decide ((0 : Int) = 0) && decide (lenT T = lenT T) && decide (lenT T <= 9223372036854775807), true)] [0, 1, 2])) := by kernel_rfl
set_option maxHeartbeats 4000000 in
theorem gCl_ok : (factSp gCl).ok Tryz.prog tbI 99 :=
 factR_ok (ctxLp_ok libN1_ok (eq_none _) (fns_nil _) (fun f fn h => by cases h)) (by kernel_rfl) Tryz.func99 rfl clLps_ok fun args v cd hg hc => by
   unfold gCl at hg
   split at hg
   · rename_i x0 x1 x2 x3 x4 x5 b l k x9 x10 x11 x12 x13 x14 d T
     cases hg
     refine ⟨rfl, rfl, rfl, ?_⟩
     have key : ∀ (s : Si) (r : Rt) (u m : V3),  ∃ path x cd', evR (ctxLp Tryz.prog tbI (fun _ => false) libN1 [] clLps) Tryz.f99 [(.w (.agg [.int .i64 s.lat, .int .i64 s.lon, .int .i64 r.t, .int .i64 r.a, .int .i64 r.n, .int .i64 r.d, .int .i64 b, .int .i64 l, .int .i64 k, .int .i64 u.x, .int .i64 u.y, .int .i64 u.z, .int .i64 m.x, .int .i64 m.y, .int .i64 m.z, .int .i64 d, .fv (.tab [some .i64] T)]))] path = some (x, cd') /\ (∀ E v, x.untip.R E v -> (AV.w (.one (.int .i64 (clE k T)))).R E v) /\ ∀ p ∈ cd', p.1 = p.2 := fun s r u m => by
       have hl := ca1 hc
       have hl' := of_decide_eq_true hl
       have kq : (decide ((0 : Int) = 0) && decide (lenT T = lenT T) && decide (lenT T <= 9223372036854775807)) = true := by
         rw [hl, decide_eq_true (rfl : lenT T = lenT T)]; rfl
       cases k0 : (lenT T != k) with
       | true =>
         have V : (clE k T) = (3) := by
           exact if_neg (by simpa using k0)
         refine ⟨[true], _, _, clf_1 s r b l k u m d T, fun E u hu => by rw [V]; exact hu, pickL_ok ?_ _⟩
         repeat' (first | exact cd_nil | refine cd_cons ?_ ?_)
         all_goals first | rfl | with_reducible assumption
       | false =>
         cases k1 : (T.all gr4) with
         | true =>
           have V : (clE k T) = (0) := by
             unfold clE
             rw [if_pos (by simpa using k0)]
             exact if_pos k1
           refine ⟨[false, true], _, _, clf_01 s r b l k u m d T, fun E u hu => by rw [V]; exact hu, pickL_ok ?_ _⟩
           repeat' (first | exact cd_nil | refine cd_cons ?_ ?_)
           all_goals first | rfl | with_reducible assumption
         | false =>
           have V : (clE k T) = (4) := by
             unfold clE
             rw [if_pos (by simpa using k0)]
             exact if_neg (by rw [k1]; simp)
           refine ⟨[false, false], _, _, clf_00 s r b l k u m d T, fun E u hu => by rw [V]; exact hu, pickL_ok ?_ _⟩
           repeat' (first | exact cd_nil | refine cd_cons ?_ ?_)
           all_goals first | rfl | with_reducible assumption
     exact key ⟨x0, x1⟩ ⟨x2, x3, x4, x5⟩ ⟨x9, x10, x11⟩ ⟨x12, x13, x14⟩
   · cases hg
noncomputable abbrev libN3 : List (Nat × FnSp Tb) := [(95, inRS), (98, inRS), (96, inRS), (61, siS), (97, spS), (62, vES), (99, factSp gCl)]
theorem libN3_ok : LibOk Tryz.prog tbI (lib1 libN3) := (lib1_cons (sp3_ok fun x lo hi _ => ⟨_, rfl, wi1_pl x lo hi⟩) Tryz.call95 (lib1_cons (sp3_ok fun x lo hi _ => ⟨_, rfl, wi2_pl x lo hi⟩) Tryz.call98 (lib1_cons (sp3_ok fun x lo hi _ => ⟨_, rfl, wi3_pl x lo hi⟩) Tryz.call96 (lib1_cons (sp1_ok fun s _ => ⟨_, rfl, site_pl s⟩) Tryz.call61 (lib1_cons (sp1_ok fun r hc => ⟨_, rfl, csp_pl r (c2p hc).1 (c2p hc).2⟩) Tryz.call97 (lib1_cons (sp1_ok fun v _ => ⟨_, rfl, vch_pl v⟩) Tryz.call62 (lib1_cons gCl_ok Tryz.call99 (lib1_nil _ _))))))))
theorem nif_1 (s : Si) (r : Rt) (b : Int) (l : Int) (k : Int) (u : V3) (m : V3) (d : Int) (T : List (List Int)) : evR (ctxOf Tryz.prog tbI (fun _ => false) libN3) Tryz.f47 [(.w (.agg [.int .i64 s.lat, .int .i64 s.lon, .int .i64 r.t, .int .i64 r.a, .int .i64 r.n, .int .i64 r.d, .int .i64 b, .int .i64 l, .int .i64 k, .int .i64 u.x, .int .i64 u.y, .int .i64 u.z, .int .i64 m.x, .int .i64 m.y, .int .i64 m.z, .int .i64 d, .fv (.tab [some .i64] T)]))] [true] = some (AV.w (AW.one (AC.int IntKind.i64 4)), (pickL [(!inR k 1 64, true), (true, true)] [0, 0, 0, 0, 0, 1, 1, 1, 1, 1, 1])) := by kernel_rfl
theorem nif_01 (s : Si) (r : Rt) (b : Int) (l : Int) (k : Int) (u : V3) (m : V3) (d : Int) (T : List (List Int)) : evR (ctxOf Tryz.prog tbI (fun _ => false) libN3) Tryz.f47 [(.w (.agg [.int .i64 s.lat, .int .i64 s.lon, .int .i64 r.t, .int .i64 r.a, .int .i64 r.n, .int .i64 r.d, .int .i64 b, .int .i64 l, .int .i64 k, .int .i64 u.x, .int .i64 u.y, .int .i64 u.z, .int .i64 m.x, .int .i64 m.y, .int .i64 m.z, .int .i64 d, .fv (.tab [some .i64] T)]))] [false, true] = some (AV.w (AW.one (AC.int IntKind.i64 4)), (pickL [(!inR k 1 64, false), (!inR l 60000 1800000, true), (true, true)] [0, 0, 0, 0, 0, 1, 1, 1, 1, 1, 2])) := by kernel_rfl
theorem nif_001 (s : Si) (r : Rt) (b : Int) (l : Int) (k : Int) (u : V3) (m : V3) (d : Int) (T : List (List Int)) : evR (ctxOf Tryz.prog tbI (fun _ => false) libN3) Tryz.f47 [(.w (.agg [.int .i64 s.lat, .int .i64 s.lon, .int .i64 r.t, .int .i64 r.a, .int .i64 r.n, .int .i64 r.d, .int .i64 b, .int .i64 l, .int .i64 k, .int .i64 u.x, .int .i64 u.y, .int .i64 u.z, .int .i64 m.x, .int .i64 m.y, .int .i64 m.z, .int .i64 d, .fv (.tab [some .i64] T)]))] [false, false, true] = some (AV.w (AW.one (AC.int IntKind.i64 4)), (pickL [(!inR k 1 64, false), (!inR l 60000 1800000, false), (!inR b (-8796093022208) 8796093022208, true)] [0, 0, 0, 0, 0, 1, 1, 1, 1, 1, 2])) := by kernel_rfl
theorem nif_0001 (s : Si) (r : Rt) (b : Int) (l : Int) (k : Int) (u : V3) (m : V3) (d : Int) (T : List (List Int)) : evR (ctxOf Tryz.prog tbI (fun _ => false) libN3) Tryz.f47 [(.w (.agg [.int .i64 s.lat, .int .i64 s.lon, .int .i64 r.t, .int .i64 r.a, .int .i64 r.n, .int .i64 r.d, .int .i64 b, .int .i64 l, .int .i64 k, .int .i64 u.x, .int .i64 u.y, .int .i64 u.z, .int .i64 m.x, .int .i64 m.y, .int .i64 m.z, .int .i64 d, .fv (.tab [some .i64] T)]))] [false, false, false, true] = some (AV.w (AW.one (AC.int IntKind.i64 (sE s))), (pickL [(!inR k 1 64, false), (!inR l 60000 1800000, false), (!inR b (-8796093022208) 8796093022208, false), (sE s != 0, true)] [0, 0, 0, 0, 0, 1, 1, 1, 1, 1, 2, 3])) := by kernel_rfl
theorem nif_00001 (s : Si) (r : Rt) (b : Int) (l : Int) (k : Int) (u : V3) (m : V3) (d : Int) (T : List (List Int)) : evR (ctxOf Tryz.prog tbI (fun _ => false) libN3) Tryz.f47 [(.w (.agg [.int .i64 s.lat, .int .i64 s.lon, .int .i64 r.t, .int .i64 r.a, .int .i64 r.n, .int .i64 r.d, .int .i64 b, .int .i64 l, .int .i64 k, .int .i64 u.x, .int .i64 u.y, .int .i64 u.z, .int .i64 m.x, .int .i64 m.y, .int .i64 m.z, .int .i64 d, .fv (.tab [some .i64] T)]))] [false, false, false, false, true] = some (AV.w (AW.one (AC.int IntKind.i64 (spE r))), (pickL [(!inR k 1 64, false), (!inR l 60000 1800000, false), (!inR b (-8796093022208) 8796093022208, false), (sE s != 0, false), (i64B r.n, true), (i64B r.d, true), (spE r != 0, true)] [0, 0, 0, 0, 0, 1, 1, 1, 1, 1, 2, 3, 4, 5, 6])) := by kernel_rfl
theorem nif_000001 (s : Si) (r : Rt) (b : Int) (l : Int) (k : Int) (u : V3) (m : V3) (d : Int) (T : List (List Int)) : evR (ctxOf Tryz.prog tbI (fun _ => false) libN3) Tryz.f47 [(.w (.agg [.int .i64 s.lat, .int .i64 s.lon, .int .i64 r.t, .int .i64 r.a, .int .i64 r.n, .int .i64 r.d, .int .i64 b, .int .i64 l, .int .i64 k, .int .i64 u.x, .int .i64 u.y, .int .i64 u.z, .int .i64 m.x, .int .i64 m.y, .int .i64 m.z, .int .i64 d, .fv (.tab [some .i64] T)]))] [false, false, false, false, false, true] = some (AV.w (AW.one (AC.int IntKind.i64 3)), (pickL [(!inR k 1 64, false), (!inR l 60000 1800000, false), (!inR b (-8796093022208) 8796093022208, false), (sE s != 0, false), (i64B r.n, true), (i64B r.d, true), (spE r != 0, false), (vE u != 0, true), (true, true)] [0, 0, 0, 0, 0, 1, 1, 1, 1, 1, 2, 3, 4, 5, 6, 7, 7, 7, 7, 7, 8])) := by kernel_rfl
theorem nif_0000001 (s : Si) (r : Rt) (b : Int) (l : Int) (k : Int) (u : V3) (m : V3) (d : Int) (T : List (List Int)) : evR (ctxOf Tryz.prog tbI (fun _ => false) libN3) Tryz.f47 [(.w (.agg [.int .i64 s.lat, .int .i64 s.lon, .int .i64 r.t, .int .i64 r.a, .int .i64 r.n, .int .i64 r.d, .int .i64 b, .int .i64 l, .int .i64 k, .int .i64 u.x, .int .i64 u.y, .int .i64 u.z, .int .i64 m.x, .int .i64 m.y, .int .i64 m.z, .int .i64 d, .fv (.tab [some .i64] T)]))] [false, false, false, false, false, false, true] = some (AV.w (AW.one (AC.int IntKind.i64 3)), (pickL [(!inR k 1 64, false), (!inR l 60000 1800000, false), (!inR b (-8796093022208) 8796093022208, false), (sE s != 0, false), (i64B r.n, true), (i64B r.d, true), (spE r != 0, false), (vE u != 0, false), (vE m != 0, true)] [0, 0, 0, 0, 0, 1, 1, 1, 1, 1, 2, 3, 4, 5, 6, 7, 7, 7, 7, 7, 8])) := by kernel_rfl
theorem nif_00000001 (s : Si) (r : Rt) (b : Int) (l : Int) (k : Int) (u : V3) (m : V3) (d : Int) (T : List (List Int)) : evR (ctxOf Tryz.prog tbI (fun _ => false) libN3) Tryz.f47 [(.w (.agg [.int .i64 s.lat, .int .i64 s.lon, .int .i64 r.t, .int .i64 r.a, .int .i64 r.n, .int .i64 r.d, .int .i64 b, .int .i64 l, .int .i64 k, .int .i64 u.x, .int .i64 u.y, .int .i64 u.z, .int .i64 m.x, .int .i64 m.y, .int .i64 m.z, .int .i64 d, .fv (.tab [some .i64] T)]))] [false, false, false, false, false, false, false, true] = some (AV.w (AW.one (AC.int IntKind.i64 4)), (pickL [(!inR k 1 64, false), (!inR l 60000 1800000, false), (!inR b (-8796093022208) 8796093022208, false), (sE s != 0, false), (i64B r.n, true), (i64B r.d, true), (spE r != 0, false), (vE u != 0, false), (vE m != 0, false), (!inR d (-1073741824) 0, true)] [0, 0, 0, 0, 0, 1, 1, 1, 1, 1, 2, 3, 4, 5, 6, 7, 7, 7, 7, 7, 8, 9])) := by kernel_rfl
theorem nif_00000000 (s : Si) (r : Rt) (b : Int) (l : Int) (k : Int) (u : V3) (m : V3) (d : Int) (T : List (List Int)) : evR (ctxOf Tryz.prog tbI (fun _ => false) libN3) Tryz.f47 [(.w (.agg [.int .i64 s.lat, .int .i64 s.lon, .int .i64 r.t, .int .i64 r.a, .int .i64 r.n, .int .i64 r.d, .int .i64 b, .int .i64 l, .int .i64 k, .int .i64 u.x, .int .i64 u.y, .int .i64 u.z, .int .i64 m.x, .int .i64 m.y, .int .i64 m.z, .int .i64 d, .fv (.tab [some .i64] T)]))] [false, false, false, false, false, false, false, false] = some (AV.w (AW.one (AC.int IntKind.i64 (clE k T))), (pickL [(!inR k 1 64, false), (!inR l 60000 1800000, false), (!inR b (-8796093022208) 8796093022208, false), (sE s != 0, false), (i64B r.n, true), (i64B r.d, true), (spE r != 0, false), (vE u != 0, false), (vE m != 0, false), (!inR d (-1073741824) 0, false), (decide (lenT T <= 9223372036854775807), true)] [0, 0, 0, 0, 0, 1, 1, 1, 1, 1, 2, 3, 4, 5, 6, 7, 7, 7, 7, 7, 8, 9, 10])) := by kernel_rfl
set_option maxHeartbeats 4000000 in
theorem gNi_ok : (factSp gNi).ok Tryz.prog tbI 47 :=
 factR_ok (ctxOf_ok libN3_ok (eq_none _)) (by kernel_rfl) Tryz.func47 rfl lps_nil fun args v cd hg hc => by
   unfold gNi at hg
   split at hg
   · rename_i x0 x1 x2 x3 x4 x5 b l k x9 x10 x11 x12 x13 x14 d T
     cases hg
     refine ⟨rfl, rfl, rfl, ?_⟩
     have key : ∀ (s : Si) (r : Rt) (u m : V3), i64B r.n = true -> i64B r.d = true ->  ∃ path x cd', evR (ctxOf Tryz.prog tbI (fun _ => false) libN3) Tryz.f47 [(.w (.agg [.int .i64 s.lat, .int .i64 s.lon, .int .i64 r.t, .int .i64 r.a, .int .i64 r.n, .int .i64 r.d, .int .i64 b, .int .i64 l, .int .i64 k, .int .i64 u.x, .int .i64 u.y, .int .i64 u.z, .int .i64 m.x, .int .i64 m.y, .int .i64 m.z, .int .i64 d, .fv (.tab [some .i64] T)]))] path = some (x, cd') /\ (∀ E v, x.untip.R E v -> (AV.w (.one (.int .i64 (niE s r b l k u m d T)))).R E v) /\ ∀ p ∈ cd', p.1 = p.2 := fun s r u m hn hd => by
       have hl := (ca3 hc).2.2
       have hl' := of_decide_eq_true hl
       have kq : (decide ((0 : Int) = 0) && decide (lenT T = lenT T) && decide (lenT T <= 9223372036854775807)) = true := by
         rw [hl, decide_eq_true (rfl : lenT T = lenT T)]; rfl
       cases k0 : (!inR k 1 64) with
       | true =>
         have V : (niE s r b l k u m d T) = (4) := by
           clear hl hl' kq
           unfold niE
           simp_all
         refine ⟨[true], _, _, nif_1 s r b l k u m d T, fun E u hu => by rw [V]; exact hu, pickL_ok ?_ _⟩
         repeat' (first | exact cd_nil | refine cd_cons ?_ ?_)
         all_goals first | rfl | with_reducible assumption
       | false =>
         cases k1 : (!inR l 60000 1800000) with
         | true =>
           have V : (niE s r b l k u m d T) = (4) := by
             clear hl hl' kq
             unfold niE
             simp_all
           refine ⟨[false, true], _, _, nif_01 s r b l k u m d T, fun E u hu => by rw [V]; exact hu, pickL_ok ?_ _⟩
           repeat' (first | exact cd_nil | refine cd_cons ?_ ?_)
           all_goals first | rfl | with_reducible assumption
         | false =>
           cases k2 : (!inR b (-8796093022208) 8796093022208) with
           | true =>
             have V : (niE s r b l k u m d T) = (4) := by
               clear hl hl' kq
               unfold niE
               simp_all
             refine ⟨[false, false, true], _, _, nif_001 s r b l k u m d T, fun E u hu => by rw [V]; exact hu, pickL_ok ?_ _⟩
             repeat' (first | exact cd_nil | refine cd_cons ?_ ?_)
             all_goals first | rfl | with_reducible assumption
           | false =>
             cases k3 : (sE s != 0) with
             | true =>
               have V : (niE s r b l k u m d T) = ((sE s)) := by
                 clear hl hl' kq
                 rcases sE_or s with q | q
                 · exact absurd q (by simpa using k3)
                 · rw [q]; unfold niE; simp_all
               refine ⟨[false, false, false, true], _, _, nif_0001 s r b l k u m d T, fun E u hu => by rw [V]; exact hu, pickL_ok ?_ _⟩
               repeat' (first | exact cd_nil | refine cd_cons ?_ ?_)
               all_goals first | rfl | with_reducible assumption
             | false =>
               cases k4 : (spE r != 0) with
               | true =>
                 have V : (niE s r b l k u m d T) = ((spE r)) := by
                   clear hl hl' kq
                   unfold niE
                   simp_all
                 refine ⟨[false, false, false, false, true], _, _, nif_00001 s r b l k u m d T, fun E u hu => by rw [V]; exact hu, pickL_ok ?_ _⟩
                 repeat' (first | exact cd_nil | refine cd_cons ?_ ?_)
                 all_goals first | rfl | with_reducible assumption
               | false =>
                 cases k5 : (vE u != 0) with
                 | true =>
                   have V : (niE s r b l k u m d T) = (3) := by
                     clear hl hl' kq
                     unfold niE
                     simp_all
                   refine ⟨[false, false, false, false, false, true], _, _, nif_000001 s r b l k u m d T, fun E u hu => by rw [V]; exact hu, pickL_ok ?_ _⟩
                   repeat' (first | exact cd_nil | refine cd_cons ?_ ?_)
                   all_goals first | rfl | with_reducible assumption
                 | false =>
                   cases k6 : (vE m != 0) with
                   | true =>
                     have V : (niE s r b l k u m d T) = (3) := by
                       clear hl hl' kq
                       unfold niE
                       simp_all
                     refine ⟨[false, false, false, false, false, false, true], _, _, nif_0000001 s r b l k u m d T, fun E u hu => by rw [V]; exact hu, pickL_ok ?_ _⟩
                     repeat' (first | exact cd_nil | refine cd_cons ?_ ?_)
                     all_goals first | rfl | with_reducible assumption
                   | false =>
                     cases k7 : (!inR d (-1073741824) 0) with
                     | true =>
                       have V : (niE s r b l k u m d T) = (4) := by
                         clear hl hl' kq
                         unfold niE
                         simp_all
                       refine ⟨[false, false, false, false, false, false, false, true], _, _, nif_00000001 s r b l k u m d T, fun E u hu => by rw [V]; exact hu, pickL_ok ?_ _⟩
                       repeat' (first | exact cd_nil | refine cd_cons ?_ ?_)
                       all_goals first | rfl | with_reducible assumption
                     | false =>
                       have V : (niE s r b l k u m d T) = ((clE k T)) := by
                         clear hl hl' kq
                         unfold niE
                         simp_all
                       refine ⟨[false, false, false, false, false, false, false, false], _, _, nif_00000000 s r b l k u m d T, fun E u hu => by rw [V]; exact hu, pickL_ok ?_ _⟩
                       repeat' (first | exact cd_nil | refine cd_cons ?_ ?_)
                       all_goals first | rfl | with_reducible assumption
     exact key ⟨x0, x1⟩ ⟨x2, x3, x4, x5⟩ ⟨x9, x10, x11⟩ ⟨x12, x13, x14⟩ (ca3 hc).1 (ca3 hc).2.1
   · cases hg
end
end Go.Proofs.YtmhhdedekblbnaaGreat.AtPr
