/-
 Track as a function, the reference's likewise; the walk of the law SlewTracks.
 Conditions: those of each theorem.
-/
import Derived.Test.YtmhhdedekblbnaaGreatQQN
import Derived.Test.YtmhhdedekblbnaaGreatQGO
set_option maxRecDepth 100000
set_option linter.unusedVariables false
set_option linter.unusedSimpArgs false
namespace Go.Proofs.YtmhhdedekblbnaaGreat.AtSl
open Go.RowKit Ev Wd AtRt AtHz AtPr
open Go.Proofs.YtmhhdedekblbnaaGreat
variable {F : Type}
noncomputable section

def tkC (m : Mo) (s : Si) (r : Rt) (b l : Int) (v : V3) (u : Po) (x y : Int) : Po × Int := trk m (aae s v) (aaP s r b l v) (y - x).toNat (x + 1) u
def tkI (m : Mo) (u : Po) (x y k : Int) : Bool := inM m u && (decide (0 <= x) && (decide (x <= y) && decide (y <= k)))
def tkE (m : Mo) (s : Si) (r : Rt) (b l k : Int) (v : V3) (u : Po) (x y q : Int) : Int := if moE m = 0 then (if q = 0 then (if tkI m u x y k = true then (tkC m s r b l v u x y).2 else 4) else q) else moE m
def tkP (m : Mo) (s : Si) (r : Rt) (b l k : Int) (v : V3) (u : Po) (x y q : Int) : Po := if moE m = 0 /\ q = 0 /\ tkI m u x y k = true then (tkC m s r b l v u x y).1 else po0
def gTr : List (AV Tb) -> Option (AV Tb × List (Bool × Bool))
 | [.w (.agg [.int .i64 m0, .int .i64 m1, .int .i64 m2, .int .i64 m3, .int .i64 m4, .int .i64 m5, .int .i64 m6, .int .i64 m7, .int .i64 m8, .int .i64 m9]), .w (.agg [.int .i64 x0, .int .i64 x1, .int .i64 x2, .int .i64 x3, .int .i64 x4, .int .i64 x5, .int .i64 b, .int .i64 l, .int .i64 k, .int .i64 x9, .int .i64 x10, .int .i64 x11, .int .i64 x12, .int .i64 x13, .int .i64 x14, .int .i64 d, .fv (.tab [some .i64] T)]), .w (.agg [.int .i64 u0, .int .i64 u1]), .w (.agg [.int .i64 v0, .int .i64 v1, .int .i64 v2]), .w (.one (.int .i64 x)), .w (.one (.int .i64 y))] => some (.tup [.agg [.int .i64 (tkP ⟨⟨m0, m1, m2, m3⟩, ⟨m4, m5, m6, m7⟩, ⟨m8, m9⟩⟩ ⟨x0, x1⟩ ⟨x2, x3, x4, x5⟩ b l k ⟨v0, v1, v2⟩ ⟨u0, u1⟩ x y (niE ⟨x0, x1⟩ ⟨x2, x3, x4, x5⟩ b l k ⟨x9, x10, x11⟩ ⟨x12, x13, x14⟩ d T)).az, .int .i64 (tkP ⟨⟨m0, m1, m2, m3⟩, ⟨m4, m5, m6, m7⟩, ⟨m8, m9⟩⟩ ⟨x0, x1⟩ ⟨x2, x3, x4, x5⟩ b l k ⟨v0, v1, v2⟩ ⟨u0, u1⟩ x y (niE ⟨x0, x1⟩ ⟨x2, x3, x4, x5⟩ b l k ⟨x9, x10, x11⟩ ⟨x12, x13, x14⟩ d T)).al], .one (.int .i64 (tkE ⟨⟨m0, m1, m2, m3⟩, ⟨m4, m5, m6, m7⟩, ⟨m8, m9⟩⟩ ⟨x0, x1⟩ ⟨x2, x3, x4, x5⟩ b l k ⟨v0, v1, v2⟩ ⟨u0, u1⟩ x y (niE ⟨x0, x1⟩ ⟨x2, x3, x4, x5⟩ b l k ⟨x9, x10, x11⟩ ⟨x12, x13, x14⟩ d T)))], [(i64B x4, true), (i64B x5, true), (decide (lenT T <= 9223372036854775807), true)])
 | _ => none
theorem tkI_iff {m : Mo} {u : Po} {x y k : Int} : tkI m u x y k = true ↔ inM m u = true /\ 0 <= x /\ x <= y /\ y <= k := by unfold tkI; simp
theorem trk_no {m : Mo} {e : Int} {A : Int -> Po} : ∀ (n : Nat) (k : Int) (u : Po), (trk m e A n k u).2 ≠ 0 -> (trk m e A n k u).1 = po0
 | 0, k, u, h => absurd rfl h
 | n + 1, k, u, h => by
   unfold trk at h ⊢
   split
   · rename_i hf
     rw [if_pos hf] at h
     exact trk_no n _ _ h
   · rfl
theorem w_x {x y k : Int} (h1 : ¬ x < 0) (h2 : ¬ x > y) (h3 : ¬ y > k) (h4 : k <= 64) : IntKind.i64.wrap (x + 1) = x + 1 /\ (y + 1 - (x + 1)).toNat = (y - x).toNat := ⟨v64 (by omega) (by omega), by rw [show y + 1 - (x + 1) = y - x by omega]⟩
noncomputable abbrev libO1 : List (Nat × FnSp Tb) := [(82, moS), (47, factSp gNi), (83, rcS), (86, factSp gFo)]
theorem libO1_ok : LibOk Tryz.prog tbI (lib1 libO1) := (lib1_cons (sp1_ok fun m _ => ⟨_, rfl, cmo_pl m⟩) Tryz.call82 (lib1_cons gNi_ok Tryz.call47 (lib1_cons (sp2_ok fun m p _ => ⟨_, rfl, rch_pl m p⟩) Tryz.call83 (lib1_cons gFo_ok Tryz.call86 (lib1_nil _ _)))))
theorem trf_1 (m : Mo) (s : Si) (r : Rt) (b : Int) (l : Int) (k : Int) (c : V3) (e : V3) (d : Int) (T : List (List Int)) (u : Po) (v : V3) (x : Int) (y : Int) : evR (ctxLp Tryz.prog tbI (fun _ => false) libO1 [] trLps) Tryz.f41 [(.w (.agg [.int .i64 m.z.mn, .int .i64 m.z.mx, .int .i64 m.z.sp, .int .i64 m.z.ac, .int .i64 m.l.mn, .int .i64 m.l.mx, .int .i64 m.l.sp, .int .i64 m.l.ac, .int .i64 m.p.az, .int .i64 m.p.al])), (.w (.agg [.int .i64 s.lat, .int .i64 s.lon, .int .i64 r.t, .int .i64 r.a, .int .i64 r.n, .int .i64 r.d, .int .i64 b, .int .i64 l, .int .i64 k, .int .i64 c.x, .int .i64 c.y, .int .i64 c.z, .int .i64 e.x, .int .i64 e.y, .int .i64 e.z, .int .i64 d, .fv (.tab [some .i64] T)])), (.w (.agg [.int .i64 u.az, .int .i64 u.al])), (.w (.agg [.int .i64 v.x, .int .i64 v.y, .int .i64 v.z])), (.w (.one (.int .i64 x))), (.w (.one (.int .i64 y)))] [true] = some (AV.tup [AW.agg [AC.int IntKind.i64 0, AC.int IntKind.i64 0], AW.one (AC.int IntKind.i64 (moE m))], (pickL [(moE m != 0, true)] [0])) := by kernel_rfl
theorem trf_01 (m : Mo) (s : Si) (r : Rt) (b : Int) (l : Int) (k : Int) (c : V3) (e : V3) (d : Int) (T : List (List Int)) (u : Po) (v : V3) (x : Int) (y : Int) : evR (ctxLp Tryz.prog tbI (fun _ => false) libO1 [] trLps) Tryz.f41 [(.w (.agg [.int .i64 m.z.mn, .int .i64 m.z.mx, .int .i64 m.z.sp, .int .i64 m.z.ac, .int .i64 m.l.mn, .int .i64 m.l.mx, .int .i64 m.l.sp, .int .i64 m.l.ac, .int .i64 m.p.az, .int .i64 m.p.al])), (.w (.agg [.int .i64 s.lat, .int .i64 s.lon, .int .i64 r.t, .int .i64 r.a, .int .i64 r.n, .int .i64 r.d, .int .i64 b, .int .i64 l, .int .i64 k, .int .i64 c.x, .int .i64 c.y, .int .i64 c.z, .int .i64 e.x, .int .i64 e.y, .int .i64 e.z, .int .i64 d, .fv (.tab [some .i64] T)])), (.w (.agg [.int .i64 u.az, .int .i64 u.al])), (.w (.agg [.int .i64 v.x, .int .i64 v.y, .int .i64 v.z])), (.w (.one (.int .i64 x))), (.w (.one (.int .i64 y)))] [false, true] = some (AV.tup [AW.agg [AC.int IntKind.i64 0, AC.int IntKind.i64 0], AW.one (AC.int IntKind.i64 (niE s r b l k c e d T))], (pickL [(moE m != 0, false), (i64B r.n, true), (i64B r.d, true), (decide (lenT T <= 9223372036854775807), true), (niE s r b l k c e d T != 0, true)] [0, 1, 2, 3, 4])) := by kernel_rfl
theorem trf_001 (m : Mo) (s : Si) (r : Rt) (b : Int) (l : Int) (k : Int) (c : V3) (e : V3) (d : Int) (T : List (List Int)) (u : Po) (v : V3) (x : Int) (y : Int) : evR (ctxLp Tryz.prog tbI (fun _ => false) libO1 [] trLps) Tryz.f41 [(.w (.agg [.int .i64 m.z.mn, .int .i64 m.z.mx, .int .i64 m.z.sp, .int .i64 m.z.ac, .int .i64 m.l.mn, .int .i64 m.l.mx, .int .i64 m.l.sp, .int .i64 m.l.ac, .int .i64 m.p.az, .int .i64 m.p.al])), (.w (.agg [.int .i64 s.lat, .int .i64 s.lon, .int .i64 r.t, .int .i64 r.a, .int .i64 r.n, .int .i64 r.d, .int .i64 b, .int .i64 l, .int .i64 k, .int .i64 c.x, .int .i64 c.y, .int .i64 c.z, .int .i64 e.x, .int .i64 e.y, .int .i64 e.z, .int .i64 d, .fv (.tab [some .i64] T)])), (.w (.agg [.int .i64 u.az, .int .i64 u.al])), (.w (.agg [.int .i64 v.x, .int .i64 v.y, .int .i64 v.z])), (.w (.one (.int .i64 x))), (.w (.one (.int .i64 y)))] [false, false, true] = some (AV.tup [AW.agg [AC.int IntKind.i64 0, AC.int IntKind.i64 0], AW.one (AC.int IntKind.i64 4)], (pickL [(moE m != 0, false), (i64B r.n, true), (i64B r.d, true), (decide (lenT T <= 9223372036854775807), true), (niE s r b l k c e d T != 0, false), (!inM m u, true), (true, true)] [0, 1, 2, 3, 4, 5, 5, 5, 6, 6, 6, 6, 6, 6, 6, 6, 6, 6])) := by kernel_rfl
theorem trf_0001 (m : Mo) (s : Si) (r : Rt) (b : Int) (l : Int) (k : Int) (c : V3) (e : V3) (d : Int) (T : List (List Int)) (u : Po) (v : V3) (x : Int) (y : Int) : evR (ctxLp Tryz.prog tbI (fun _ => false) libO1 [] trLps) Tryz.f41 [(.w (.agg [.int .i64 m.z.mn, .int .i64 m.z.mx, .int .i64 m.z.sp, .int .i64 m.z.ac, .int .i64 m.l.mn, .int .i64 m.l.mx, .int .i64 m.l.sp, .int .i64 m.l.ac, .int .i64 m.p.az, .int .i64 m.p.al])), (.w (.agg [.int .i64 s.lat, .int .i64 s.lon, .int .i64 r.t, .int .i64 r.a, .int .i64 r.n, .int .i64 r.d, .int .i64 b, .int .i64 l, .int .i64 k, .int .i64 c.x, .int .i64 c.y, .int .i64 c.z, .int .i64 e.x, .int .i64 e.y, .int .i64 e.z, .int .i64 d, .fv (.tab [some .i64] T)])), (.w (.agg [.int .i64 u.az, .int .i64 u.al])), (.w (.agg [.int .i64 v.x, .int .i64 v.y, .int .i64 v.z])), (.w (.one (.int .i64 x))), (.w (.one (.int .i64 y)))] [false, false, false, true] = some (AV.tup [AW.agg [AC.int IntKind.i64 0, AC.int IntKind.i64 0], AW.one (AC.int IntKind.i64 4)], (pickL [(moE m != 0, false), (i64B r.n, true), (i64B r.d, true), (decide (lenT T <= 9223372036854775807), true), (niE s r b l k c e d T != 0, false), (!inM m u, false), (decide (x < 0), true), (true, true)] [0, 1, 2, 3, 4, 5, 5, 5, 6, 6, 6, 6, 7, 7, 7, 7, 7, 7])) := by kernel_rfl
theorem trf_00001 (m : Mo) (s : Si) (r : Rt) (b : Int) (l : Int) (k : Int) (c : V3) (e : V3) (d : Int) (T : List (List Int)) (u : Po) (v : V3) (x : Int) (y : Int) : evR (ctxLp Tryz.prog tbI (fun _ => false) libO1 [] trLps) Tryz.f41 [(.w (.agg [.int .i64 m.z.mn, .int .i64 m.z.mx, .int .i64 m.z.sp, .int .i64 m.z.ac, .int .i64 m.l.mn, .int .i64 m.l.mx, .int .i64 m.l.sp, .int .i64 m.l.ac, .int .i64 m.p.az, .int .i64 m.p.al])), (.w (.agg [.int .i64 s.lat, .int .i64 s.lon, .int .i64 r.t, .int .i64 r.a, .int .i64 r.n, .int .i64 r.d, .int .i64 b, .int .i64 l, .int .i64 k, .int .i64 c.x, .int .i64 c.y, .int .i64 c.z, .int .i64 e.x, .int .i64 e.y, .int .i64 e.z, .int .i64 d, .fv (.tab [some .i64] T)])), (.w (.agg [.int .i64 u.az, .int .i64 u.al])), (.w (.agg [.int .i64 v.x, .int .i64 v.y, .int .i64 v.z])), (.w (.one (.int .i64 x))), (.w (.one (.int .i64 y)))] [false, false, false, false, true] = some (AV.tup [AW.agg [AC.int IntKind.i64 0, AC.int IntKind.i64 0], AW.one (AC.int IntKind.i64 4)], (pickL [(moE m != 0, false), (i64B r.n, true), (i64B r.d, true), (decide (lenT T <= 9223372036854775807), true), (niE s r b l k c e d T != 0, false), (!inM m u, false), (decide (x < 0), false), (decide (x > y), true), (true, true)] [0, 1, 2, 3, 4, 5, 5, 5, 6, 6, 6, 6, 7, 7, 7, 7, 7, 8])) := by kernel_rfl
theorem trf_000001 (m : Mo) (s : Si) (r : Rt) (b : Int) (l : Int) (k : Int) (c : V3) (e : V3) (d : Int) (T : List (List Int)) (u : Po) (v : V3) (x : Int) (y : Int) : evR (ctxLp Tryz.prog tbI (fun _ => false) libO1 [] trLps) Tryz.f41 [(.w (.agg [.int .i64 m.z.mn, .int .i64 m.z.mx, .int .i64 m.z.sp, .int .i64 m.z.ac, .int .i64 m.l.mn, .int .i64 m.l.mx, .int .i64 m.l.sp, .int .i64 m.l.ac, .int .i64 m.p.az, .int .i64 m.p.al])), (.w (.agg [.int .i64 s.lat, .int .i64 s.lon, .int .i64 r.t, .int .i64 r.a, .int .i64 r.n, .int .i64 r.d, .int .i64 b, .int .i64 l, .int .i64 k, .int .i64 c.x, .int .i64 c.y, .int .i64 c.z, .int .i64 e.x, .int .i64 e.y, .int .i64 e.z, .int .i64 d, .fv (.tab [some .i64] T)])), (.w (.agg [.int .i64 u.az, .int .i64 u.al])), (.w (.agg [.int .i64 v.x, .int .i64 v.y, .int .i64 v.z])), (.w (.one (.int .i64 x))), (.w (.one (.int .i64 y)))] [false, false, false, false, false, true] = some (AV.tup [AW.agg [AC.int IntKind.i64 0, AC.int IntKind.i64 0], AW.one (AC.int IntKind.i64 4)], (pickL [(moE m != 0, false), (i64B r.n, true), (i64B r.d, true), (decide (lenT T <= 9223372036854775807), true), (niE s r b l k c e d T != 0, false), (!inM m u, false), (decide (x < 0), false), (decide (x > y), false), (decide (y > k), true)] [0, 1, 2, 3, 4, 5, 5, 5, 6, 6, 6, 6, 7, 7, 7, 7, 7, 8])) := by kernel_rfl
theorem trf_0000001 (m : Mo) (s : Si) (r : Rt) (b : Int) (l : Int) (k : Int) (c : V3) (e : V3) (d : Int) (T : List (List Int)) (u : Po) (v : V3) (x : Int) (y : Int) : evR (ctxLp Tryz.prog tbI (fun _ => false) libO1 [] trLps) Tryz.f41 [(.w (.agg [.int .i64 m.z.mn, .int .i64 m.z.mx, .int .i64 m.z.sp, .int .i64 m.z.ac, .int .i64 m.l.mn, .int .i64 m.l.mx, .int .i64 m.l.sp, .int .i64 m.l.ac, .int .i64 m.p.az, .int .i64 m.p.al])), (.w (.agg [.int .i64 s.lat, .int .i64 s.lon, .int .i64 r.t, .int .i64 r.a, .int .i64 r.n, .int .i64 r.d, .int .i64 b, .int .i64 l, .int .i64 k, .int .i64 c.x, .int .i64 c.y, .int .i64 c.z, .int .i64 e.x, .int .i64 e.y, .int .i64 e.z, .int .i64 d, .fv (.tab [some .i64] T)])), (.w (.agg [.int .i64 u.az, .int .i64 u.al])), (.w (.agg [.int .i64 v.x, .int .i64 v.y, .int .i64 v.z])), (.w (.one (.int .i64 x))), (.w (.one (.int .i64 y)))] [false, false, false, false, false, false, true] = some (AV.tup [AW.agg [AC.int IntKind.i64 (trk m (aae s v) (aaP s r b l v) (y + 1 - IntKind.i64.wrap (x + 1)).toNat (IntKind.i64.wrap (x + 1)) u).fst.az, AC.int IntKind.i64 (trk m (aae s v) (aaP s r b l v) (y + 1 - IntKind.i64.wrap (x + 1)).toNat (IntKind.i64.wrap (x + 1)) u).fst.al], AW.one (AC.int IntKind.i64 0)], (pickL [(moE m != 0, false), (i64B r.n, true), (i64B r.d, true), (decide (lenT T <= 9223372036854775807), true), (niE s r b l k c e d T != 0, false), (!inM m u, false), (decide (x < 0), false), (decide (x > y), false), (decide (y > k), false), (decide ((trk m (aae s v) (aaP s r b l v) (y + 1 - IntKind.i64.wrap (x + 1)).toNat (IntKind.i64.wrap (x + 1)) u).snd = 0), true), (okM m && inM m u && (i64B r.n && i64B r.d && (decide ((0 : Int) <= IntKind.i64.wrap (x + 1)) && (decide (IntKind.i64.wrap (x + 1) <= y + 1) && decide (y <= 100)))), true)] [0, 1, 2, 3, 4, 5, 5, 5, 6, 6, 6, 6, 7, 7, 7, 7, 7, 8, 9, 10])) := by kernel_rfl
theorem trf_0000000 (m : Mo) (s : Si) (r : Rt) (b : Int) (l : Int) (k : Int) (c : V3) (e : V3) (d : Int) (T : List (List Int)) (u : Po) (v : V3) (x : Int) (y : Int) : evR (ctxLp Tryz.prog tbI (fun _ => false) libO1 [] trLps) Tryz.f41 [(.w (.agg [.int .i64 m.z.mn, .int .i64 m.z.mx, .int .i64 m.z.sp, .int .i64 m.z.ac, .int .i64 m.l.mn, .int .i64 m.l.mx, .int .i64 m.l.sp, .int .i64 m.l.ac, .int .i64 m.p.az, .int .i64 m.p.al])), (.w (.agg [.int .i64 s.lat, .int .i64 s.lon, .int .i64 r.t, .int .i64 r.a, .int .i64 r.n, .int .i64 r.d, .int .i64 b, .int .i64 l, .int .i64 k, .int .i64 c.x, .int .i64 c.y, .int .i64 c.z, .int .i64 e.x, .int .i64 e.y, .int .i64 e.z, .int .i64 d, .fv (.tab [some .i64] T)])), (.w (.agg [.int .i64 u.az, .int .i64 u.al])), (.w (.agg [.int .i64 v.x, .int .i64 v.y, .int .i64 v.z])), (.w (.one (.int .i64 x))), (.w (.one (.int .i64 y)))] [false, false, false, false, false, false, false] = some (AV.tup [AW.agg [AC.int IntKind.i64 0, AC.int IntKind.i64 0], AW.one (AC.int IntKind.i64 (trk m (aae s v) (aaP s r b l v) (y + 1 - IntKind.i64.wrap (x + 1)).toNat (IntKind.i64.wrap (x + 1)) u).snd)], (pickL [(moE m != 0, false), (i64B r.n, true), (i64B r.d, true), (decide (lenT T <= 9223372036854775807), true), (niE s r b l k c e d T != 0, false), (!inM m u, false), (decide (x < 0), false), (decide (x > y), false), (decide (y > k), false), (decide ((trk m (aae s v) (aaP s r b l v) (y + 1 - IntKind.i64.wrap (x + 1)).toNat (IntKind.i64.wrap (x + 1)) u).snd = 0), false), (okM m && inM m u && (i64B r.n && i64B r.d && (decide ((0 : Int) <= IntKind.i64.wrap (x + 1)) && (decide (IntKind.i64.wrap (x + 1) <= y + 1) && decide (y <= 100)))), true)] [0, 1, 2, 3, 4, 5, 5, 5, 6, 6, 6, 6, 7, 7, 7, 7, 7, 8, 9, 10])) := by kernel_rfl
set_option maxHeartbeats 4000000 in
theorem gTr_ok : (factSp gTr).ok Tryz.prog tbI 41 :=
 factR_ok (ctxLp_ok libO1_ok (eq_none _) (fns_nil _) (fun f fn h => by cases h)) (by kernel_rfl) Tryz.func41 rfl trLps_ok fun args v cd hg hc => by
   unfold gTr at hg
   split at hg
   · rename_i m0 m1 m2 m3 m4 m5 m6 m7 m8 m9 x0 x1 x2 x3 x4 x5 b l k x9 x10 x11 x12 x13 x14 d T u0 u1 v0 v1 v2 x y
     cases hg
     refine ⟨rfl, rfl, rfl, ?_⟩
     have key : ∀ (m : Mo) (s : Si) (r : Rt) (b : Int) (l : Int) (k : Int) (c : V3) (e : V3) (d : Int) (T : List (List Int)) (u : Po) (v : V3) (x : Int) (y : Int), i64B r.n = true -> i64B r.d = true -> decide (lenT T <= 9223372036854775807) = true -> ∃ path xr cd', evR (ctxLp Tryz.prog tbI (fun _ => false) libO1 [] trLps) Tryz.f41 [(.w (.agg [.int .i64 m.z.mn, .int .i64 m.z.mx, .int .i64 m.z.sp, .int .i64 m.z.ac, .int .i64 m.l.mn, .int .i64 m.l.mx, .int .i64 m.l.sp, .int .i64 m.l.ac, .int .i64 m.p.az, .int .i64 m.p.al])), (.w (.agg [.int .i64 s.lat, .int .i64 s.lon, .int .i64 r.t, .int .i64 r.a, .int .i64 r.n, .int .i64 r.d, .int .i64 b, .int .i64 l, .int .i64 k, .int .i64 c.x, .int .i64 c.y, .int .i64 c.z, .int .i64 e.x, .int .i64 e.y, .int .i64 e.z, .int .i64 d, .fv (.tab [some .i64] T)])), (.w (.agg [.int .i64 u.az, .int .i64 u.al])), (.w (.agg [.int .i64 v.x, .int .i64 v.y, .int .i64 v.z])), (.w (.one (.int .i64 x))), (.w (.one (.int .i64 y)))] path = some (xr, cd') /\ (∀ E w, xr.untip.R E w -> (AV.tup [.agg [.int .i64 (tkP m s r b l k v u x y (niE s r b l k c e d T)).az, .int .i64 (tkP m s r b l k v u x y (niE s r b l k c e d T)).al], .one (.int .i64 (tkE m s r b l k v u x y (niE s r b l k c e d T)))] : AV Tb).R E w) /\ ∀ p ∈ cd', p.1 = p.2 := fun m s r b l k c e d T u v x y i4 i5 iT => by
       cases k0 : (moE m != 0) with
       | true =>
         have V0 : ((tkP m s r b l k v u x y (niE s r b l k c e d T)).az) = (0) := by
           have g0 : ¬ moE m = 0 := by simpa using k0
           unfold tkP
           rw [if_neg (fun h => g0 h.1)]
           rfl
         have V1 : ((tkP m s r b l k v u x y (niE s r b l k c e d T)).al) = (0) := by
           have g0 : ¬ moE m = 0 := by simpa using k0
           unfold tkP
           rw [if_neg (fun h => g0 h.1)]
           rfl
         have V2 : (tkE m s r b l k v u x y (niE s r b l k c e d T)) = ((moE m)) := by
           have g0 : ¬ moE m = 0 := by simpa using k0
           unfold tkE
           rw [if_neg g0]
         refine ⟨[true], _, _, trf_1 m s r b l k c e d T u v x y, fun E z hu => by rw [V0, V1, V2]; exact hu, pickL_ok ?_ _⟩
         repeat' (first | exact cd_nil | refine cd_cons ?_ ?_)
         all_goals first | with_reducible rfl | with_reducible assumption | rfl | (have g1 : niE s r b l k c e d T = 0 := (by simpa using k1); have g0 : moE m = 0 := (by simpa using k0); have q := ni_in g1; have g3 := of_decide_eq_false k3; have g4 := of_decide_eq_false k4; have g5 := of_decide_eq_false k5; have g2 : inM m u = true := (by simpa using k2); obtain ⟨w1, w2⟩ := w_x g3 g4 g5 q.1.2; unfold okM; rw [w1, g0, g2, i4, i5]; simp; omega)
       | false =>
         cases k1 : (niE s r b l k c e d T != 0) with
         | true =>
           have V0 : ((tkP m s r b l k v u x y (niE s r b l k c e d T)).az) = (0) := by
             have g0 : moE m = 0 := by simpa using k0
             have g1 : ¬ niE s r b l k c e d T = 0 := by simpa using k1
             unfold tkP
             rw [if_neg (fun h => g1 h.2.1)]
             rfl
           have V1 : ((tkP m s r b l k v u x y (niE s r b l k c e d T)).al) = (0) := by
             have g0 : moE m = 0 := by simpa using k0
             have g1 : ¬ niE s r b l k c e d T = 0 := by simpa using k1
             unfold tkP
             rw [if_neg (fun h => g1 h.2.1)]
             rfl
           have V2 : (tkE m s r b l k v u x y (niE s r b l k c e d T)) = ((niE s r b l k c e d T)) := by
             have g0 : moE m = 0 := by simpa using k0
             have g1 : ¬ niE s r b l k c e d T = 0 := by simpa using k1
             unfold tkE
             rw [if_pos g0, if_neg g1]
           refine ⟨[false, true], _, _, trf_01 m s r b l k c e d T u v x y, fun E z hu => by rw [V0, V1, V2]; exact hu, pickL_ok ?_ _⟩
           repeat' (first | exact cd_nil | refine cd_cons ?_ ?_)
           all_goals first | with_reducible rfl | with_reducible assumption | rfl | (have g1 : niE s r b l k c e d T = 0 := (by simpa using k1); have g0 : moE m = 0 := (by simpa using k0); have q := ni_in g1; have g3 := of_decide_eq_false k3; have g4 := of_decide_eq_false k4; have g5 := of_decide_eq_false k5; have g2 : inM m u = true := (by simpa using k2); obtain ⟨w1, w2⟩ := w_x g3 g4 g5 q.1.2; unfold okM; rw [w1, g0, g2, i4, i5]; simp; omega)
         | false =>
           cases k2 : (!inM m u) with
           | true =>
             have V0 : ((tkP m s r b l k v u x y (niE s r b l k c e d T)).az) = (0) := by
               have g0 : moE m = 0 := by simpa using k0
               have g1 : niE s r b l k c e d T = 0 := by simpa using k1
               have gI : ¬ tkI m u x y k = true := by rw [tkI_iff]; simp_all <;> omega
               unfold tkP
               rw [if_neg (fun h => gI h.2.2)]
               rfl
             have V1 : ((tkP m s r b l k v u x y (niE s r b l k c e d T)).al) = (0) := by
               have g0 : moE m = 0 := by simpa using k0
               have g1 : niE s r b l k c e d T = 0 := by simpa using k1
               have gI : ¬ tkI m u x y k = true := by rw [tkI_iff]; simp_all <;> omega
               unfold tkP
               rw [if_neg (fun h => gI h.2.2)]
               rfl
             have V2 : (tkE m s r b l k v u x y (niE s r b l k c e d T)) = (4) := by
               have g0 : moE m = 0 := by simpa using k0
               have g1 : niE s r b l k c e d T = 0 := by simpa using k1
               have gI : ¬ tkI m u x y k = true := by rw [tkI_iff]; simp_all <;> omega
               unfold tkE
               rw [if_pos g0, if_pos g1, if_neg gI]
             refine ⟨[false, false, true], _, _, trf_001 m s r b l k c e d T u v x y, fun E z hu => by rw [V0, V1, V2]; exact hu, pickL_ok ?_ _⟩
             repeat' (first | exact cd_nil | refine cd_cons ?_ ?_)
             all_goals first | with_reducible rfl | with_reducible assumption | rfl | (have g1 : niE s r b l k c e d T = 0 := (by simpa using k1); have g0 : moE m = 0 := (by simpa using k0); have q := ni_in g1; have g3 := of_decide_eq_false k3; have g4 := of_decide_eq_false k4; have g5 := of_decide_eq_false k5; have g2 : inM m u = true := (by simpa using k2); obtain ⟨w1, w2⟩ := w_x g3 g4 g5 q.1.2; unfold okM; rw [w1, g0, g2, i4, i5]; simp; omega)
           | false =>
             cases k3 : (decide (x < 0)) with
             | true =>
               have V0 : ((tkP m s r b l k v u x y (niE s r b l k c e d T)).az) = (0) := by
                 have g0 : moE m = 0 := by simpa using k0
                 have g1 : niE s r b l k c e d T = 0 := by simpa using k1
                 have gI : ¬ tkI m u x y k = true := by rw [tkI_iff]; simp_all <;> omega
                 unfold tkP
                 rw [if_neg (fun h => gI h.2.2)]
                 rfl
               have V1 : ((tkP m s r b l k v u x y (niE s r b l k c e d T)).al) = (0) := by
                 have g0 : moE m = 0 := by simpa using k0
                 have g1 : niE s r b l k c e d T = 0 := by simpa using k1
                 have gI : ¬ tkI m u x y k = true := by rw [tkI_iff]; simp_all <;> omega
                 unfold tkP
                 rw [if_neg (fun h => gI h.2.2)]
                 rfl
               have V2 : (tkE m s r b l k v u x y (niE s r b l k c e d T)) = (4) := by
                 have g0 : moE m = 0 := by simpa using k0
                 have g1 : niE s r b l k c e d T = 0 := by simpa using k1
                 have gI : ¬ tkI m u x y k = true := by rw [tkI_iff]; simp_all <;> omega
                 unfold tkE
                 rw [if_pos g0, if_pos g1, if_neg gI]
               refine ⟨[false, false, false, true], _, _, trf_0001 m s r b l k c e d T u v x y, fun E z hu => by rw [V0, V1, V2]; exact hu, pickL_ok ?_ _⟩
               repeat' (first | exact cd_nil | refine cd_cons ?_ ?_)
               all_goals first | with_reducible rfl | with_reducible assumption | rfl | (have g1 : niE s r b l k c e d T = 0 := (by simpa using k1); have g0 : moE m = 0 := (by simpa using k0); have q := ni_in g1; have g3 := of_decide_eq_false k3; have g4 := of_decide_eq_false k4; have g5 := of_decide_eq_false k5; have g2 : inM m u = true := (by simpa using k2); obtain ⟨w1, w2⟩ := w_x g3 g4 g5 q.1.2; unfold okM; rw [w1, g0, g2, i4, i5]; simp; omega)
             | false =>
               cases k4 : (decide (x > y)) with
               | true =>
                 have V0 : ((tkP m s r b l k v u x y (niE s r b l k c e d T)).az) = (0) := by
                   have g0 : moE m = 0 := by simpa using k0
                   have g1 : niE s r b l k c e d T = 0 := by simpa using k1
                   have gI : ¬ tkI m u x y k = true := by rw [tkI_iff]; simp_all <;> omega
                   unfold tkP
                   rw [if_neg (fun h => gI h.2.2)]
                   rfl
                 have V1 : ((tkP m s r b l k v u x y (niE s r b l k c e d T)).al) = (0) := by
                   have g0 : moE m = 0 := by simpa using k0
                   have g1 : niE s r b l k c e d T = 0 := by simpa using k1
                   have gI : ¬ tkI m u x y k = true := by rw [tkI_iff]; simp_all <;> omega
                   unfold tkP
                   rw [if_neg (fun h => gI h.2.2)]
                   rfl
                 have V2 : (tkE m s r b l k v u x y (niE s r b l k c e d T)) = (4) := by
                   have g0 : moE m = 0 := by simpa using k0
                   have g1 : niE s r b l k c e d T = 0 := by simpa using k1
                   have gI : ¬ tkI m u x y k = true := by rw [tkI_iff]; simp_all <;> omega
                   unfold tkE
                   rw [if_pos g0, if_pos g1, if_neg gI]
                 refine ⟨[false, false, false, false, true], _, _, trf_00001 m s r b l k c e d T u v x y, fun E z hu => by rw [V0, V1, V2]; exact hu, pickL_ok ?_ _⟩
                 repeat' (first | exact cd_nil | refine cd_cons ?_ ?_)
                 all_goals first | with_reducible rfl | with_reducible assumption | rfl | (have g1 : niE s r b l k c e d T = 0 := (by simpa using k1); have g0 : moE m = 0 := (by simpa using k0); have q := ni_in g1; have g3 := of_decide_eq_false k3; have g4 := of_decide_eq_false k4; have g5 := of_decide_eq_false k5; have g2 : inM m u = true := (by simpa using k2); obtain ⟨w1, w2⟩ := w_x g3 g4 g5 q.1.2; unfold okM; rw [w1, g0, g2, i4, i5]; simp; omega)
               | false =>
                 cases k5 : (decide (y > k)) with
                 | true =>
                   have V0 : ((tkP m s r b l k v u x y (niE s r b l k c e d T)).az) = (0) := by
                     have g0 : moE m = 0 := by simpa using k0
                     have g1 : niE s r b l k c e d T = 0 := by simpa using k1
                     have gI : ¬ tkI m u x y k = true := by rw [tkI_iff]; simp_all <;> omega
                     unfold tkP
                     rw [if_neg (fun h => gI h.2.2)]
                     rfl
                   have V1 : ((tkP m s r b l k v u x y (niE s r b l k c e d T)).al) = (0) := by
                     have g0 : moE m = 0 := by simpa using k0
                     have g1 : niE s r b l k c e d T = 0 := by simpa using k1
                     have gI : ¬ tkI m u x y k = true := by rw [tkI_iff]; simp_all <;> omega
                     unfold tkP
                     rw [if_neg (fun h => gI h.2.2)]
                     rfl
                   have V2 : (tkE m s r b l k v u x y (niE s r b l k c e d T)) = (4) := by
                     have g0 : moE m = 0 := by simpa using k0
                     have g1 : niE s r b l k c e d T = 0 := by simpa using k1
                     have gI : ¬ tkI m u x y k = true := by rw [tkI_iff]; simp_all <;> omega
                     unfold tkE
                     rw [if_pos g0, if_pos g1, if_neg gI]
                   refine ⟨[false, false, false, false, false, true], _, _, trf_000001 m s r b l k c e d T u v x y, fun E z hu => by rw [V0, V1, V2]; exact hu, pickL_ok ?_ _⟩
                   repeat' (first | exact cd_nil | refine cd_cons ?_ ?_)
                   all_goals first | with_reducible rfl | with_reducible assumption | rfl | (have g1 : niE s r b l k c e d T = 0 := (by simpa using k1); have g0 : moE m = 0 := (by simpa using k0); have q := ni_in g1; have g3 := of_decide_eq_false k3; have g4 := of_decide_eq_false k4; have g5 := of_decide_eq_false k5; have g2 : inM m u = true := (by simpa using k2); obtain ⟨w1, w2⟩ := w_x g3 g4 g5 q.1.2; unfold okM; rw [w1, g0, g2, i4, i5]; simp; omega)
                 | false =>
                   cases k6 : (decide ((trk m (aae s v) (aaP s r b l v) (y + 1 - IntKind.i64.wrap (x + 1)).toNat (IntKind.i64.wrap (x + 1)) u).snd = 0)) with
                   | true =>
                     have V0 : ((tkP m s r b l k v u x y (niE s r b l k c e d T)).az) = ((trk m (aae s v) (aaP s r b l v) (y + 1 - IntKind.i64.wrap (x + 1)).toNat (IntKind.i64.wrap (x + 1)) u).fst.az) := by
                       have g0 : moE m = 0 := by simpa using k0
                       have g1 : niE s r b l k c e d T = 0 := by simpa using k1
                       have gI : tkI m u x y k = true := by rw [tkI_iff]; simp_all
                       obtain ⟨w1, w2⟩ := w_x (of_decide_eq_false k3) (of_decide_eq_false k4) (of_decide_eq_false k5) (ni_in g1).1.2
                       simp only [w1, w2] at k6 ⊢
                       unfold tkP
                       rw [if_pos ⟨g0, g1, gI⟩]
                       rfl
                     have V1 : ((tkP m s r b l k v u x y (niE s r b l k c e d T)).al) = ((trk m (aae s v) (aaP s r b l v) (y + 1 - IntKind.i64.wrap (x + 1)).toNat (IntKind.i64.wrap (x + 1)) u).fst.al) := by
                       have g0 : moE m = 0 := by simpa using k0
                       have g1 : niE s r b l k c e d T = 0 := by simpa using k1
                       have gI : tkI m u x y k = true := by rw [tkI_iff]; simp_all
                       obtain ⟨w1, w2⟩ := w_x (of_decide_eq_false k3) (of_decide_eq_false k4) (of_decide_eq_false k5) (ni_in g1).1.2
                       simp only [w1, w2] at k6 ⊢
                       unfold tkP
                       rw [if_pos ⟨g0, g1, gI⟩]
                       rfl
                     have V2 : (tkE m s r b l k v u x y (niE s r b l k c e d T)) = (0) := by
                       have g0 : moE m = 0 := by simpa using k0
                       have g1 : niE s r b l k c e d T = 0 := by simpa using k1
                       have gI : tkI m u x y k = true := by rw [tkI_iff]; simp_all
                       obtain ⟨w1, w2⟩ := w_x (of_decide_eq_false k3) (of_decide_eq_false k4) (of_decide_eq_false k5) (ni_in g1).1.2
                       simp only [w1, w2] at k6 ⊢
                       unfold tkE
                       rw [if_pos g0, if_pos g1, if_pos gI]
                       exact of_decide_eq_true k6
                     refine ⟨[false, false, false, false, false, false, true], _, _, trf_0000001 m s r b l k c e d T u v x y, fun E z hu => by rw [V0, V1, V2]; exact hu, pickL_ok ?_ _⟩
                     repeat' (first | exact cd_nil | refine cd_cons ?_ ?_)
                     all_goals first | with_reducible rfl | with_reducible assumption | rfl | (have g1 : niE s r b l k c e d T = 0 := (by simpa using k1); have g0 : moE m = 0 := (by simpa using k0); have q := ni_in g1; have g3 := of_decide_eq_false k3; have g4 := of_decide_eq_false k4; have g5 := of_decide_eq_false k5; have g2 : inM m u = true := (by simpa using k2); obtain ⟨w1, w2⟩ := w_x g3 g4 g5 q.1.2; unfold okM; rw [w1, g0, g2, i4, i5]; simp; omega)
                   | false =>
                     have V0 : ((tkP m s r b l k v u x y (niE s r b l k c e d T)).az) = (0) := by
                       have g0 : moE m = 0 := by simpa using k0
                       have g1 : niE s r b l k c e d T = 0 := by simpa using k1
                       have gI : tkI m u x y k = true := by rw [tkI_iff]; simp_all
                       obtain ⟨w1, w2⟩ := w_x (of_decide_eq_false k3) (of_decide_eq_false k4) (of_decide_eq_false k5) (ni_in g1).1.2
                       simp only [w1, w2] at k6 ⊢
                       unfold tkP
                       rw [if_pos ⟨g0, g1, gI⟩]
                       unfold tkC
                       rw [trk_no _ _ _ (of_decide_eq_false k6)]
                       rfl
                     have V1 : ((tkP m s r b l k v u x y (niE s r b l k c e d T)).al) = (0) := by
                       have g0 : moE m = 0 := by simpa using k0
                       have g1 : niE s r b l k c e d T = 0 := by simpa using k1
                       have gI : tkI m u x y k = true := by rw [tkI_iff]; simp_all
                       obtain ⟨w1, w2⟩ := w_x (of_decide_eq_false k3) (of_decide_eq_false k4) (of_decide_eq_false k5) (ni_in g1).1.2
                       simp only [w1, w2] at k6 ⊢
                       unfold tkP
                       rw [if_pos ⟨g0, g1, gI⟩]
                       unfold tkC
                       rw [trk_no _ _ _ (of_decide_eq_false k6)]
                       rfl
                     have V2 : (tkE m s r b l k v u x y (niE s r b l k c e d T)) = ((trk m (aae s v) (aaP s r b l v) (y + 1 - IntKind.i64.wrap (x + 1)).toNat (IntKind.i64.wrap (x + 1)) u).snd) := by
                       have g0 : moE m = 0 := by simpa using k0
                       have g1 : niE s r b l k c e d T = 0 := by simpa using k1
                       have gI : tkI m u x y k = true := by rw [tkI_iff]; simp_all
                       obtain ⟨w1, w2⟩ := w_x (of_decide_eq_false k3) (of_decide_eq_false k4) (of_decide_eq_false k5) (ni_in g1).1.2
                       simp only [w1, w2] at k6 ⊢
                       unfold tkE
                       rw [if_pos g0, if_pos g1, if_pos gI]
                       rfl
                     refine ⟨[false, false, false, false, false, false, false], _, _, trf_0000000 m s r b l k c e d T u v x y, fun E z hu => by rw [V0, V1, V2]; exact hu, pickL_ok ?_ _⟩
                     repeat' (first | exact cd_nil | refine cd_cons ?_ ?_)
                     all_goals first | with_reducible rfl | with_reducible assumption | rfl | (have g1 : niE s r b l k c e d T = 0 := (by simpa using k1); have g0 : moE m = 0 := (by simpa using k0); have q := ni_in g1; have g3 := of_decide_eq_false k3; have g4 := of_decide_eq_false k4; have g5 := of_decide_eq_false k5; have g2 : inM m u = true := (by simpa using k2); obtain ⟨w1, w2⟩ := w_x g3 g4 g5 q.1.2; unfold okM; rw [w1, g0, g2, i4, i5]; simp; omega)
     exact key ⟨⟨m0, m1, m2, m3⟩, ⟨m4, m5, m6, m7⟩, ⟨m8, m9⟩⟩ ⟨x0, x1⟩ ⟨x2, x3, x4, x5⟩ b l k ⟨x9, x10, x11⟩ ⟨x12, x13, x14⟩ d T ⟨u0, u1⟩ ⟨v0, v1, v2⟩ x y (ca3 hc).1 (ca3 hc).2.1 (ca3 hc).2.2
   · cases hg
end
end Go.Proofs.YtmhhdedekblbnaaGreat.AtSl
