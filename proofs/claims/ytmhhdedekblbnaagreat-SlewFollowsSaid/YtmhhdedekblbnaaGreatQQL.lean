/-
 What follow returns for a night, as a function of facts.
 Conditions: those of each theorem.
-/
import Derived.Test.YtmhhdedekblbnaaGreatQQJ
set_option maxRecDepth 100000
set_option linter.unusedVariables false
set_option linter.unusedSimpArgs false
namespace Go.Proofs.YtmhhdedekblbnaaGreat.AtSl
open Go.RowKit Ev Wd AtRt AtHz AtPr
open Go.Proofs.YtmhhdedekblbnaaGreat
variable {F : Type}
noncomputable section

def aaP (s : Si) (r : Rt) (b l : Int) (v : V3) (k : Int) : Po := ⟨aaz s r b l v k, aal s r b l v k⟩
def foE (m : Mo) (e : Int) (u a : Po) : Int := if e = 0 then (if tsE m u a = 0 then (if dst u.az (tgP m.z u.az a.az) > 1073741824 \/ dst u.al (tgP m.l u.al a.al) > 1073741824 then 4 else 0) else tsE m u a) else e
def foP (m : Mo) (e : Int) (u a : Po) : Po := if foE m e u a = 0 then ⟨tgP m.z u.az a.az, tgP m.l u.al a.al⟩ else po0
def trk (m : Mo) (e : Int) (A : Int -> Po) : Nat -> Int -> Po -> Po × Int
 | 0, _, u => (u, 0)
 | n + 1, k, u => if foE m e u (A k) = 0 then trk m e A n (k + 1) (foP m e u (A k)) else (po0, foE m e u (A k))
def gFo : List (AV Tb) -> Option (AV Tb × List (Bool × Bool))
 | [.w (.agg [.int .i64 m0, .int .i64 m1, .int .i64 m2, .int .i64 m3, .int .i64 m4, .int .i64 m5, .int .i64 m6, .int .i64 m7, .int .i64 m8, .int .i64 m9]), .w (.agg [.int .i64 x0, .int .i64 x1, .int .i64 x2, .int .i64 x3, .int .i64 x4, .int .i64 x5, .int .i64 b, .int .i64 l, .int .i64 k, .int .i64 x9, .int .i64 x10, .int .i64 x11, .int .i64 x12, .int .i64 x13, .int .i64 x14, .int .i64 d, .fv (.tab [some .i64] T)]), .w (.agg [.int .i64 u0, .int .i64 u1]), .w (.agg [.int .i64 v0, .int .i64 v1, .int .i64 v2]), .w (.one (.int .i64 j))] => some (.tup [.agg [.int .i64 (foP ⟨⟨m0, m1, m2, m3⟩, ⟨m4, m5, m6, m7⟩, ⟨m8, m9⟩⟩ (aae ⟨x0, x1⟩ ⟨v0, v1, v2⟩) ⟨u0, u1⟩ (aaP ⟨x0, x1⟩ ⟨x2, x3, x4, x5⟩ b l ⟨v0, v1, v2⟩ j)).az, .int .i64 (foP ⟨⟨m0, m1, m2, m3⟩, ⟨m4, m5, m6, m7⟩, ⟨m8, m9⟩⟩ (aae ⟨x0, x1⟩ ⟨v0, v1, v2⟩) ⟨u0, u1⟩ (aaP ⟨x0, x1⟩ ⟨x2, x3, x4, x5⟩ b l ⟨v0, v1, v2⟩ j)).al], .one (.int .i64 (foE ⟨⟨m0, m1, m2, m3⟩, ⟨m4, m5, m6, m7⟩, ⟨m8, m9⟩⟩ (aae ⟨x0, x1⟩ ⟨v0, v1, v2⟩) ⟨u0, u1⟩ (aaP ⟨x0, x1⟩ ⟨x2, x3, x4, x5⟩ b l ⟨v0, v1, v2⟩ j)))], [(okM ⟨⟨m0, m1, m2, m3⟩, ⟨m4, m5, m6, m7⟩, ⟨m8, m9⟩⟩ && inM ⟨⟨m0, m1, m2, m3⟩, ⟨m4, m5, m6, m7⟩, ⟨m8, m9⟩⟩ ⟨u0, u1⟩, true), (i64B x4, true), (i64B x5, true)])
 | _ => none
theorem aim_64 (s : Si) (t : Int) (v : V3) : i64B (aimAz s t v) = true /\ i64B (aimAl s t v) = true := by
 have h1 := atanV_in (hzE s t v) (hzN s t v)
 have h2 := atanV_in (hzU s t v) (hzS s t v)
 rw [i64B_iff, i64B_iff]
 unfold aimAz aimAl azA alA
 repeat' split
 all_goals omega
theorem aaP_64 (s : Si) (r : Rt) (b l : Int) (v : V3) (k : Int) : i64P (aaP s r b l v k) = true := i64P_iff.2 (aim_64 _ _ _)
theorem tg_rg {m : Mo} {u a : Po} (h1 : moE m = 0) (h2 : inM m u = true) (h3 : tsE m u a = 0) : tsP m u a = ⟨tgP m.z u.az a.az, tgP m.l u.al a.al⟩ /\ rgB u.az = true /\ rgB u.al = true /\ rgB (tgP m.z u.az a.az) = true /\ rgB (tgP m.l u.al a.al) = true /\ inM m ⟨tgP m.z u.az a.az, tgP m.l u.al a.al⟩ = true := by
 obtain ⟨t1, t2, t3⟩ := ts_in h1 h2 h3
 obtain ⟨a1, a2, _⟩ := mo_iff.1 h1
 obtain ⟨b1, b2⟩ := inM_iff.1 h2
 have c1 := in_rg a1 b1
 have c2 := in_rg a2 b2
 have c3 := in_rg a1 t2
 have c4 := in_rg a2 t3
 exact ⟨t1, rgB_iff.2 (by omega), rgB_iff.2 (by omega), rgB_iff.2 (by omega), rgB_iff.2 (by omega), inM_iff.2 ⟨t2, t3⟩⟩
noncomputable abbrev libK0 : List (Nat × FnSp Tb) := [(81, factSp gAa), (84, tsS), (143, jpS)]
theorem libK0_ok : LibOk Tryz.prog tbI (lib1 libK0) := (lib1_cons gAa_ok Tryz.call81 (lib1_cons (sp3_ok fun m u v hc => ⟨_, rfl, tgs_pl m u v (ca2 hc).1 (ca2 hc).2⟩) Tryz.call84 (lib1_cons (sp2_ok fun x y hc => ⟨_, rfl, jmp_pl x y (ca2 hc).1 (ca2 hc).2⟩) Tryz.call143 (lib1_nil _ _))))
theorem fol_1 (m : Mo) (s : Si) (r : Rt) (b : Int) (l : Int) (k : Int) (c : V3) (e : V3) (d : Int) (T : List (List Int)) (u : Po) (v : V3) (j : Int) : evR (ctxOf Tryz.prog tbI (fun _ => false) libK0) Tryz.f86 [(.w (.agg [.int .i64 m.z.mn, .int .i64 m.z.mx, .int .i64 m.z.sp, .int .i64 m.z.ac, .int .i64 m.l.mn, .int .i64 m.l.mx, .int .i64 m.l.sp, .int .i64 m.l.ac, .int .i64 m.p.az, .int .i64 m.p.al])), (.w (.agg [.int .i64 s.lat, .int .i64 s.lon, .int .i64 r.t, .int .i64 r.a, .int .i64 r.n, .int .i64 r.d, .int .i64 b, .int .i64 l, .int .i64 k, .int .i64 c.x, .int .i64 c.y, .int .i64 c.z, .int .i64 e.x, .int .i64 e.y, .int .i64 e.z, .int .i64 d, .fv (.tab [some .i64] T)])), (.w (.agg [.int .i64 u.az, .int .i64 u.al])), (.w (.agg [.int .i64 v.x, .int .i64 v.y, .int .i64 v.z])), (.w (.one (.int .i64 j)))] [true] = some (AV.tup [AW.agg [AC.int IntKind.i64 0, AC.int IntKind.i64 0], AW.one (AC.int IntKind.i64 (aae s v))], (pickL [(i64B r.n, true), (i64B r.d, true), (aae s v != 0, true)] [0, 1, 2])) := by kernel_rfl
theorem fol_01 (m : Mo) (s : Si) (r : Rt) (b : Int) (l : Int) (k : Int) (c : V3) (e : V3) (d : Int) (T : List (List Int)) (u : Po) (v : V3) (j : Int) : evR (ctxOf Tryz.prog tbI (fun _ => false) libK0) Tryz.f86 [(.w (.agg [.int .i64 m.z.mn, .int .i64 m.z.mx, .int .i64 m.z.sp, .int .i64 m.z.ac, .int .i64 m.l.mn, .int .i64 m.l.mx, .int .i64 m.l.sp, .int .i64 m.l.ac, .int .i64 m.p.az, .int .i64 m.p.al])), (.w (.agg [.int .i64 s.lat, .int .i64 s.lon, .int .i64 r.t, .int .i64 r.a, .int .i64 r.n, .int .i64 r.d, .int .i64 b, .int .i64 l, .int .i64 k, .int .i64 c.x, .int .i64 c.y, .int .i64 c.z, .int .i64 e.x, .int .i64 e.y, .int .i64 e.z, .int .i64 d, .fv (.tab [some .i64] T)])), (.w (.agg [.int .i64 u.az, .int .i64 u.al])), (.w (.agg [.int .i64 v.x, .int .i64 v.y, .int .i64 v.z])), (.w (.one (.int .i64 j)))] [false, true] = some (AV.tup [AW.agg [AC.int IntKind.i64 0, AC.int IntKind.i64 0], AW.one (AC.int IntKind.i64 (tsE m u (aaP s r b l v j)))], (pickL [(i64B r.n, true), (i64B r.d, true), (aae s v != 0, false), (okM m && inM m u, true), (i64P (aaP s r b l v j), true), (tsE m u (aaP s r b l v j) != 0, true)] [0, 1, 2, 3, 4, 5])) := by kernel_rfl
theorem fol_001 (m : Mo) (s : Si) (r : Rt) (b : Int) (l : Int) (k : Int) (c : V3) (e : V3) (d : Int) (T : List (List Int)) (u : Po) (v : V3) (j : Int) : evR (ctxOf Tryz.prog tbI (fun _ => false) libK0) Tryz.f86 [(.w (.agg [.int .i64 m.z.mn, .int .i64 m.z.mx, .int .i64 m.z.sp, .int .i64 m.z.ac, .int .i64 m.l.mn, .int .i64 m.l.mx, .int .i64 m.l.sp, .int .i64 m.l.ac, .int .i64 m.p.az, .int .i64 m.p.al])), (.w (.agg [.int .i64 s.lat, .int .i64 s.lon, .int .i64 r.t, .int .i64 r.a, .int .i64 r.n, .int .i64 r.d, .int .i64 b, .int .i64 l, .int .i64 k, .int .i64 c.x, .int .i64 c.y, .int .i64 c.z, .int .i64 e.x, .int .i64 e.y, .int .i64 e.z, .int .i64 d, .fv (.tab [some .i64] T)])), (.w (.agg [.int .i64 u.az, .int .i64 u.al])), (.w (.agg [.int .i64 v.x, .int .i64 v.y, .int .i64 v.z])), (.w (.one (.int .i64 j)))] [false, false, true] = some (AV.tup [AW.agg [AC.int IntKind.i64 0, AC.int IntKind.i64 0], AW.one (AC.int IntKind.i64 4)], (pickL [(i64B r.n, true), (i64B r.d, true), (aae s v != 0, false), (okM m && inM m u, true), (i64P (aaP s r b l v j), true), (tsE m u (aaP s r b l v j) != 0, false), (rgB u.az, true), (rgB (tsP m u (aaP s r b l v j)).az, true), (decide (dst u.az (tsP m u (aaP s r b l v j)).az > 1073741824), true), (true, true)] [0, 1, 2, 3, 4, 5, 6, 7, 8, 8, 8, 8, 8, 8, 9])) := by kernel_rfl
theorem fol_0001 (m : Mo) (s : Si) (r : Rt) (b : Int) (l : Int) (k : Int) (c : V3) (e : V3) (d : Int) (T : List (List Int)) (u : Po) (v : V3) (j : Int) : evR (ctxOf Tryz.prog tbI (fun _ => false) libK0) Tryz.f86 [(.w (.agg [.int .i64 m.z.mn, .int .i64 m.z.mx, .int .i64 m.z.sp, .int .i64 m.z.ac, .int .i64 m.l.mn, .int .i64 m.l.mx, .int .i64 m.l.sp, .int .i64 m.l.ac, .int .i64 m.p.az, .int .i64 m.p.al])), (.w (.agg [.int .i64 s.lat, .int .i64 s.lon, .int .i64 r.t, .int .i64 r.a, .int .i64 r.n, .int .i64 r.d, .int .i64 b, .int .i64 l, .int .i64 k, .int .i64 c.x, .int .i64 c.y, .int .i64 c.z, .int .i64 e.x, .int .i64 e.y, .int .i64 e.z, .int .i64 d, .fv (.tab [some .i64] T)])), (.w (.agg [.int .i64 u.az, .int .i64 u.al])), (.w (.agg [.int .i64 v.x, .int .i64 v.y, .int .i64 v.z])), (.w (.one (.int .i64 j)))] [false, false, false, true] = some (AV.tup [AW.agg [AC.int IntKind.i64 0, AC.int IntKind.i64 0], AW.one (AC.int IntKind.i64 4)], (pickL [(i64B r.n, true), (i64B r.d, true), (aae s v != 0, false), (okM m && inM m u, true), (i64P (aaP s r b l v j), true), (tsE m u (aaP s r b l v j) != 0, false), (rgB u.az, true), (rgB (tsP m u (aaP s r b l v j)).az, true), (decide (dst u.az (tsP m u (aaP s r b l v j)).az > 1073741824), false), (rgB u.al, true), (rgB (tsP m u (aaP s r b l v j)).al, true), (decide (dst u.al (tsP m u (aaP s r b l v j)).al > 1073741824), true)] [0, 1, 2, 3, 4, 5, 6, 7, 8, 8, 8, 8, 8, 9, 10, 8, 11])) := by kernel_rfl
theorem fol_0000 (m : Mo) (s : Si) (r : Rt) (b : Int) (l : Int) (k : Int) (c : V3) (e : V3) (d : Int) (T : List (List Int)) (u : Po) (v : V3) (j : Int) : evR (ctxOf Tryz.prog tbI (fun _ => false) libK0) Tryz.f86 [(.w (.agg [.int .i64 m.z.mn, .int .i64 m.z.mx, .int .i64 m.z.sp, .int .i64 m.z.ac, .int .i64 m.l.mn, .int .i64 m.l.mx, .int .i64 m.l.sp, .int .i64 m.l.ac, .int .i64 m.p.az, .int .i64 m.p.al])), (.w (.agg [.int .i64 s.lat, .int .i64 s.lon, .int .i64 r.t, .int .i64 r.a, .int .i64 r.n, .int .i64 r.d, .int .i64 b, .int .i64 l, .int .i64 k, .int .i64 c.x, .int .i64 c.y, .int .i64 c.z, .int .i64 e.x, .int .i64 e.y, .int .i64 e.z, .int .i64 d, .fv (.tab [some .i64] T)])), (.w (.agg [.int .i64 u.az, .int .i64 u.al])), (.w (.agg [.int .i64 v.x, .int .i64 v.y, .int .i64 v.z])), (.w (.one (.int .i64 j)))] [false, false, false, false] = some (AV.tup [AW.agg [AC.int IntKind.i64 (tsP m u (aaP s r b l v j)).az, AC.int IntKind.i64 (tsP m u (aaP s r b l v j)).al], AW.one (AC.int IntKind.i64 0)], (pickL [(i64B r.n, true), (i64B r.d, true), (aae s v != 0, false), (okM m && inM m u, true), (i64P (aaP s r b l v j), true), (tsE m u (aaP s r b l v j) != 0, false), (rgB u.az, true), (rgB (tsP m u (aaP s r b l v j)).az, true), (decide (dst u.az (tsP m u (aaP s r b l v j)).az > 1073741824), false), (rgB u.al, true), (rgB (tsP m u (aaP s r b l v j)).al, true), (decide (dst u.al (tsP m u (aaP s r b l v j)).al > 1073741824), false)] [0, 1, 2, 3, 4, 5, 6, 7, 8, 8, 8, 8, 8, 9, 10, 8, 11])) := by kernel_rfl
set_option maxHeartbeats 4000000 in
theorem gFo_ok : (factSp gFo).ok Tryz.prog tbI 86 :=
 factR_ok (ctxOf_ok libK0_ok (eq_none _)) (by kernel_rfl) Tryz.func86 rfl lps_nil fun args v cd hg hc => by
   unfold gFo at hg
   split at hg
   · rename_i m0 m1 m2 m3 m4 m5 m6 m7 m8 m9 x0 x1 x2 x3 x4 x5 b l k x9 x10 x11 x12 x13 x14 d T u0 u1 v0 v1 v2 j
     cases hg
     refine ⟨rfl, rfl, rfl, ?_⟩
     have key : ∀ (m : Mo) (s : Si) (r : Rt) (b : Int) (l : Int) (k : Int) (c : V3) (e : V3) (d : Int) (T : List (List Int)) (u : Po) (v : V3) (j : Int), (okM m && inM m u) = true -> i64B r.n = true -> i64B r.d = true -> ∃ path x cd', evR (ctxOf Tryz.prog tbI (fun _ => false) libK0) Tryz.f86 [(.w (.agg [.int .i64 m.z.mn, .int .i64 m.z.mx, .int .i64 m.z.sp, .int .i64 m.z.ac, .int .i64 m.l.mn, .int .i64 m.l.mx, .int .i64 m.l.sp, .int .i64 m.l.ac, .int .i64 m.p.az, .int .i64 m.p.al])), (.w (.agg [.int .i64 s.lat, .int .i64 s.lon, .int .i64 r.t, .int .i64 r.a, .int .i64 r.n, .int .i64 r.d, .int .i64 b, .int .i64 l, .int .i64 k, .int .i64 c.x, .int .i64 c.y, .int .i64 c.z, .int .i64 e.x, .int .i64 e.y, .int .i64 e.z, .int .i64 d, .fv (.tab [some .i64] T)])), (.w (.agg [.int .i64 u.az, .int .i64 u.al])), (.w (.agg [.int .i64 v.x, .int .i64 v.y, .int .i64 v.z])), (.w (.one (.int .i64 j)))] path = some (x, cd') /\ (∀ E w, x.untip.R E w -> (AV.tup [.agg [.int .i64 (foP m (aae s v) u (aaP s r b l v j)).az, .int .i64 (foP m (aae s v) u (aaP s r b l v j)).al], .one (.int .i64 (foE m (aae s v) u (aaP s r b l v j)))] : AV Tb).R E w) /\ ∀ p ∈ cd', p.1 = p.2 := fun m s r b l k c e d T u v j h1 i4 i5 => by
       obtain ⟨h11, h12⟩ := (Bool.and_eq_true _ _).mp h1
       have g1 : moE m = 0 := of_decide_eq_true h11
       have i6 := aaP_64 s r b l v j
       have TG := fun h => tg_rg (a := aaP s r b l v j) g1 h12 h
       cases k0 : (aae s v != 0) with
       | true =>
         have V0 : ((foP m (aae s v) u (aaP s r b l v j)).az) = (0) := by
           clear TG i6
           unfold foP foE
           simp_all [po0]
         have V1 : ((foP m (aae s v) u (aaP s r b l v j)).al) = (0) := by
           clear TG i6
           unfold foP foE
           simp_all [po0]
         have V2 : (foE m (aae s v) u (aaP s r b l v j)) = ((aae s v)) := by
           clear TG i6
           unfold foE
           simp_all [po0]
         refine ⟨[true], _, _, fol_1 m s r b l k c e d T u v j, fun E z hu => by rw [V0, V1, V2]; exact hu, pickL_ok ?_ _⟩
         repeat' (first | exact cd_nil | refine cd_cons ?_ ?_)
         all_goals first | with_reducible rfl | with_reducible assumption | rfl | (have t0 : tsE m u (aaP s r b l v j) = 0 := (by simp_all); have q := TG t0; first | exact q.2.1 | exact q.2.2.1 | (rw [q.1]; first | exact q.2.2.2.1 | exact q.2.2.2.2.1)) | (simp_all; done)
       | false =>
         cases k1 : (tsE m u (aaP s r b l v j) != 0) with
         | true =>
           have V0 : ((foP m (aae s v) u (aaP s r b l v j)).az) = (0) := by
             clear TG i6
             unfold foP foE
             simp_all [po0]
           have V1 : ((foP m (aae s v) u (aaP s r b l v j)).al) = (0) := by
             clear TG i6
             unfold foP foE
             simp_all [po0]
           have V2 : (foE m (aae s v) u (aaP s r b l v j)) = ((tsE m u (aaP s r b l v j))) := by
             clear TG i6
             unfold foE
             simp_all [po0]
           refine ⟨[false, true], _, _, fol_01 m s r b l k c e d T u v j, fun E z hu => by rw [V0, V1, V2]; exact hu, pickL_ok ?_ _⟩
           repeat' (first | exact cd_nil | refine cd_cons ?_ ?_)
           all_goals first | with_reducible rfl | with_reducible assumption | rfl | (have t0 : tsE m u (aaP s r b l v j) = 0 := (by simp_all); have q := TG t0; first | exact q.2.1 | exact q.2.2.1 | (rw [q.1]; first | exact q.2.2.2.1 | exact q.2.2.2.2.1)) | (simp_all; done)
         | false =>
           cases k2 : (decide (dst u.az (tsP m u (aaP s r b l v j)).az > 1073741824)) with
           | true =>
             have V0 : ((foP m (aae s v) u (aaP s r b l v j)).az) = (0) := by
               have t0 : tsE m u (aaP s r b l v j) = 0 := by simp_all
               have t1 := (TG t0).1
               unfold foP foE
               simp only [t1] at *
               clear TG i6
               simp_all [po0] <;> omega
             have V1 : ((foP m (aae s v) u (aaP s r b l v j)).al) = (0) := by
               have t0 : tsE m u (aaP s r b l v j) = 0 := by simp_all
               have t1 := (TG t0).1
               unfold foP foE
               simp only [t1] at *
               clear TG i6
               simp_all [po0] <;> omega
             have V2 : (foE m (aae s v) u (aaP s r b l v j)) = (4) := by
               have t0 : tsE m u (aaP s r b l v j) = 0 := by simp_all
               have t1 := (TG t0).1
               unfold foE
               simp only [t1] at *
               clear TG i6
               simp_all [po0] <;> omega
             refine ⟨[false, false, true], _, _, fol_001 m s r b l k c e d T u v j, fun E z hu => by rw [V0, V1, V2]; exact hu, pickL_ok ?_ _⟩
             repeat' (first | exact cd_nil | refine cd_cons ?_ ?_)
             all_goals first | with_reducible rfl | with_reducible assumption | rfl | (have t0 : tsE m u (aaP s r b l v j) = 0 := (by simp_all); have q := TG t0; first | exact q.2.1 | exact q.2.2.1 | (rw [q.1]; first | exact q.2.2.2.1 | exact q.2.2.2.2.1)) | (simp_all; done)
           | false =>
             cases k3 : (decide (dst u.al (tsP m u (aaP s r b l v j)).al > 1073741824)) with
             | true =>
               have V0 : ((foP m (aae s v) u (aaP s r b l v j)).az) = (0) := by
                 have t0 : tsE m u (aaP s r b l v j) = 0 := by simp_all
                 have t1 := (TG t0).1
                 unfold foP foE
                 simp only [t1] at *
                 clear TG i6
                 simp_all [po0] <;> omega
               have V1 : ((foP m (aae s v) u (aaP s r b l v j)).al) = (0) := by
                 have t0 : tsE m u (aaP s r b l v j) = 0 := by simp_all
                 have t1 := (TG t0).1
                 unfold foP foE
                 simp only [t1] at *
                 clear TG i6
                 simp_all [po0] <;> omega
               have V2 : (foE m (aae s v) u (aaP s r b l v j)) = (4) := by
                 have t0 : tsE m u (aaP s r b l v j) = 0 := by simp_all
                 have t1 := (TG t0).1
                 unfold foE
                 simp only [t1] at *
                 clear TG i6
                 simp_all [po0] <;> omega
               refine ⟨[false, false, false, true], _, _, fol_0001 m s r b l k c e d T u v j, fun E z hu => by rw [V0, V1, V2]; exact hu, pickL_ok ?_ _⟩
               repeat' (first | exact cd_nil | refine cd_cons ?_ ?_)
               all_goals first | with_reducible rfl | with_reducible assumption | rfl | (have t0 : tsE m u (aaP s r b l v j) = 0 := (by simp_all); have q := TG t0; first | exact q.2.1 | exact q.2.2.1 | (rw [q.1]; first | exact q.2.2.2.1 | exact q.2.2.2.2.1)) | (simp_all; done)
             | false =>
               have V0 : ((foP m (aae s v) u (aaP s r b l v j)).az) = ((tsP m u (aaP s r b l v j)).az) := by
                 have t0 : tsE m u (aaP s r b l v j) = 0 := by simp_all
                 have t1 := (TG t0).1
                 unfold foP foE
                 simp only [t1] at *
                 clear TG i6
                 simp_all [po0] <;> omega
               have V1 : ((foP m (aae s v) u (aaP s r b l v j)).al) = ((tsP m u (aaP s r b l v j)).al) := by
                 have t0 : tsE m u (aaP s r b l v j) = 0 := by simp_all
                 have t1 := (TG t0).1
                 unfold foP foE
                 simp only [t1] at *
                 clear TG i6
                 simp_all [po0] <;> omega
               have V2 : (foE m (aae s v) u (aaP s r b l v j)) = (0) := by
                 have t0 : tsE m u (aaP s r b l v j) = 0 := by simp_all
                 have t1 := (TG t0).1
                 unfold foE
                 simp only [t1] at *
                 clear TG i6
                 simp_all [po0] <;> omega
               refine ⟨[false, false, false, false], _, _, fol_0000 m s r b l k c e d T u v j, fun E z hu => by rw [V0, V1, V2]; exact hu, pickL_ok ?_ _⟩
               repeat' (first | exact cd_nil | refine cd_cons ?_ ?_)
               all_goals first | with_reducible rfl | with_reducible assumption | rfl | (have t0 : tsE m u (aaP s r b l v j) = 0 := (by simp_all); have q := TG t0; first | exact q.2.1 | exact q.2.2.1 | (rw [q.1]; first | exact q.2.2.2.1 | exact q.2.2.2.2.1)) | (simp_all; done)
     exact key ⟨⟨m0, m1, m2, m3⟩, ⟨m4, m5, m6, m7⟩, ⟨m8, m9⟩⟩ ⟨x0, x1⟩ ⟨x2, x3, x4, x5⟩ b l k ⟨x9, x10, x11⟩ ⟨x12, x13, x14⟩ d T ⟨u0, u1⟩ ⟨v0, v1, v2⟩ j (ca3 hc).1 (ca3 hc).2.1 (ca3 hc).2.2
   · cases hg
end
end Go.Proofs.YtmhhdedekblbnaaGreat.AtSl
