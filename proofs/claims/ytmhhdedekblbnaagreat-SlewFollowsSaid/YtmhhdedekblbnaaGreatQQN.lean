/-
 The loops that follow a direction from slot to slot.
 Conditions: those of each theorem.
-/
import Derived.Test.YtmhhdedekblbnaaGreatQQL
set_option maxRecDepth 100000
set_option linter.unusedVariables false
set_option linter.unusedSimpArgs false
namespace Go.Proofs.YtmhhdedekblbnaaGreat.AtSl
open Go.RowKit Ev Wd AtRt AtHz AtPr
open Go.Proofs.YtmhhdedekblbnaaGreat
variable {F : Type}
noncomputable section

def trl (m : Mo) (e : Int) (A : Int -> Po) : Nat -> Int -> Po -> Po
 | 0, _, u => u
 | n + 1, k, u => if foE m e u (A k) = 0 then trl m e A n (k + 1) (foP m e u (A k)) else u
def gRv : List (AV Tb) -> Option (AV Tb × List (Bool × Bool))
 | [.w (.agg [.int .i64 x0, .int .i64 x1, .int .i64 x2, .int .i64 x3, .int .i64 x4, .int .i64 x5, .int .i64 b, .int .i64 l, .int .i64 k, .int .i64 x9, .int .i64 x10, .int .i64 x11, .int .i64 x12, .int .i64 x13, .int .i64 x14, .int .i64 d, .fv (.tab [some .i64] T)]), .w (.agg [.int .i64 v0, .int .i64 v1, .int .i64 v2]), .w (.one (.int .i64 j))] => some (.tup [.agg [.int .i64 (aaP ⟨x0, x1⟩ ⟨x2, x3, x4, x5⟩ b l ⟨v0, v1, v2⟩ j).az, .int .i64 (aaP ⟨x0, x1⟩ ⟨x2, x3, x4, x5⟩ b l ⟨v0, v1, v2⟩ j).al], .one (.int .i64 (aae ⟨x0, x1⟩ ⟨v0, v1, v2⟩))], [(i64B x4, true), (i64B x5, true), (decide (0 <= j) && decide (j <= k), true)])
 | _ => none
theorem foP_in {m : Mo} {e : Int} {u a : Po} (h1 : moE m = 0) (h2 : inM m u = true) (h3 : foE m e u a = 0) : inM m (foP m e u a) = true := by
 unfold foP
 rw [if_pos h3]
 have ht : tsE m u a = 0 := by
   unfold foE at h3
   split at h3
   · split at h3
     · assumption
     · exact h3
   · exact absurd h3 (by assumption)
 exact (tg_rg h1 h2 ht).2.2.2.2.2
noncomputable abbrev libK1 : List (Nat × FnSp Tb) := [(86, factSp gFo)]
theorem libK1_ok : LibOk Tryz.prog tbI (lib1 libK1) := (lib1_cons gFo_ok Tryz.call86 (lib1_nil _ _))
theorem tr_10 (m : Mo) (s : Si) (r : Rt) (b : Int) (l : Int) (k : Int) (c : V3) (e : V3) (d : Int) (T : List (List Int)) (v : V3) (u : Po) (y : Int) (j : Int) (rest : List (Nat × AV Tb)) : evView (ctxOf Tryz.prog tbI (fun _ => false) libK1) 75 (false :: [false, true, false, true, true, true, true, true]) (loopAt (bodyOf Tryz.f41) [false, true, false, true, true, true, true, true]) ([(5, (.w (.one (.int .i64 y)))), (17, (.w (.one (.int .i64 j))))] ++ (ptrN 0 [6, 7, 9, 16, 12] ++ rest)) [⟨89, [.int .i64 m.z.mn, .int .i64 m.z.mx, .int .i64 m.z.sp, .int .i64 m.z.ac, .int .i64 m.l.mn, .int .i64 m.l.mx, .int .i64 m.l.sp, .int .i64 m.l.ac, .int .i64 m.p.az, .int .i64 m.p.al]⟩, ⟨35, [.int .i64 s.lat, .int .i64 s.lon, .int .i64 r.t, .int .i64 r.a, .int .i64 r.n, .int .i64 r.d, .int .i64 b, .int .i64 l, .int .i64 k, .int .i64 c.x, .int .i64 c.y, .int .i64 c.z, .int .i64 e.x, .int .i64 e.y, .int .i64 e.z, .int .i64 d, .fv (.tab [some .i64] T)]⟩, ⟨31, [.int .i64 v.x, .int .i64 v.y, .int .i64 v.z]⟩, ⟨87, [.int .i64 u.az, .int .i64 u.al]⟩, ⟨87, [.int .i64 0, .int .i64 0]⟩] 5 [5, 17, 6, 7, 9, 16, 12] [true, false] = some ((Ex.normal, [AV.w (AW.one (AC.int IntKind.i64 y)), AV.w (AW.one (AC.int IntKind.i64 (IntKind.i64.wrap (j + 1)))), AV.w (AW.one (AC.ptr 0 0)), AV.w (AW.one (AC.ptr 1 0)), AV.w (AW.one (AC.ptr 2 0)), AV.w (AW.one (AC.ptr 3 0)), AV.w (AW.one (AC.ptr 4 0))], [{ ty := 89, cs := [AC.int IntKind.i64 m.z.mn, AC.int IntKind.i64 m.z.mx, AC.int IntKind.i64 m.z.sp, AC.int IntKind.i64 m.z.ac, AC.int IntKind.i64 m.l.mn, AC.int IntKind.i64 m.l.mx, AC.int IntKind.i64 m.l.sp, AC.int IntKind.i64 m.l.ac, AC.int IntKind.i64 m.p.az, AC.int IntKind.i64 m.p.al] }, { ty := 35, cs := [AC.int IntKind.i64 s.lat, AC.int IntKind.i64 s.lon, AC.int IntKind.i64 r.t, AC.int IntKind.i64 r.a, AC.int IntKind.i64 r.n, AC.int IntKind.i64 r.d, AC.int IntKind.i64 b, AC.int IntKind.i64 l, AC.int IntKind.i64 k, AC.int IntKind.i64 c.x, AC.int IntKind.i64 c.y, AC.int IntKind.i64 c.z, AC.int IntKind.i64 e.x, AC.int IntKind.i64 e.y, AC.int IntKind.i64 e.z, AC.int IntKind.i64 d, AC.fv (Tb.tab [some IntKind.i64] T)] }, { ty := 31, cs := [AC.int IntKind.i64 v.x, AC.int IntKind.i64 v.y, AC.int IntKind.i64 v.z] }, { ty := 87, cs := [AC.int IntKind.i64 (foP m (aae s v) u (aaP s r b l v j)).az, AC.int IntKind.i64 (foP m (aae s v) u (aaP s r b l v j)).al] }, { ty := 87, cs := [AC.int IntKind.i64 0, AC.int IntKind.i64 0] }]), (pickL [(decide (j <= y), true), (okM m && inM m u, true), (i64B r.n, true), (i64B r.d, true), (foE m (aae s v) u (aaP s r b l v j) != 0, false)] [0, 1, 2, 3, 4])) := by kernel_rfl
theorem trx_0 (m : Mo) (s : Si) (r : Rt) (b : Int) (l : Int) (k : Int) (c : V3) (e : V3) (d : Int) (T : List (List Int)) (v : V3) (u : Po) (y : Int) (j : Int) (rest : List (Nat × AV Tb)) : evView (ctxOf Tryz.prog tbI (fun _ => false) libK1) 75 (false :: [false, true, false, true, true, true, true, true]) (loopAt (bodyOf Tryz.f41) [false, true, false, true, true, true, true, true]) ([(5, (.w (.one (.int .i64 y)))), (17, (.w (.one (.int .i64 j))))] ++ (ptrN 0 [6, 7, 9, 16, 12] ++ rest)) [⟨89, [.int .i64 m.z.mn, .int .i64 m.z.mx, .int .i64 m.z.sp, .int .i64 m.z.ac, .int .i64 m.l.mn, .int .i64 m.l.mx, .int .i64 m.l.sp, .int .i64 m.l.ac, .int .i64 m.p.az, .int .i64 m.p.al]⟩, ⟨35, [.int .i64 s.lat, .int .i64 s.lon, .int .i64 r.t, .int .i64 r.a, .int .i64 r.n, .int .i64 r.d, .int .i64 b, .int .i64 l, .int .i64 k, .int .i64 c.x, .int .i64 c.y, .int .i64 c.z, .int .i64 e.x, .int .i64 e.y, .int .i64 e.z, .int .i64 d, .fv (.tab [some .i64] T)]⟩, ⟨31, [.int .i64 v.x, .int .i64 v.y, .int .i64 v.z]⟩, ⟨87, [.int .i64 u.az, .int .i64 u.al]⟩, ⟨87, [.int .i64 0, .int .i64 0]⟩] 5 [6, 7, 9, 16, 12] [false] = some ((Ex.exit 0, [AV.w (AW.one (AC.ptr 0 0)), AV.w (AW.one (AC.ptr 1 0)), AV.w (AW.one (AC.ptr 2 0)), AV.w (AW.one (AC.ptr 3 0)), AV.w (AW.one (AC.ptr 4 0))], [{ ty := 89, cs := [AC.int IntKind.i64 m.z.mn, AC.int IntKind.i64 m.z.mx, AC.int IntKind.i64 m.z.sp, AC.int IntKind.i64 m.z.ac, AC.int IntKind.i64 m.l.mn, AC.int IntKind.i64 m.l.mx, AC.int IntKind.i64 m.l.sp, AC.int IntKind.i64 m.l.ac, AC.int IntKind.i64 m.p.az, AC.int IntKind.i64 m.p.al] }, { ty := 35, cs := [AC.int IntKind.i64 s.lat, AC.int IntKind.i64 s.lon, AC.int IntKind.i64 r.t, AC.int IntKind.i64 r.a, AC.int IntKind.i64 r.n, AC.int IntKind.i64 r.d, AC.int IntKind.i64 b, AC.int IntKind.i64 l, AC.int IntKind.i64 k, AC.int IntKind.i64 c.x, AC.int IntKind.i64 c.y, AC.int IntKind.i64 c.z, AC.int IntKind.i64 e.x, AC.int IntKind.i64 e.y, AC.int IntKind.i64 e.z, AC.int IntKind.i64 d, AC.fv (Tb.tab [some IntKind.i64] T)] }, { ty := 31, cs := [AC.int IntKind.i64 v.x, AC.int IntKind.i64 v.y, AC.int IntKind.i64 v.z] }, { ty := 87, cs := [AC.int IntKind.i64 u.az, AC.int IntKind.i64 u.al] }, { ty := 87, cs := [AC.int IntKind.i64 0, AC.int IntKind.i64 0] }]), (pickL [(decide (j <= y), false)] [0])) := by kernel_rfl
theorem trr_11 (m : Mo) (s : Si) (r : Rt) (b : Int) (l : Int) (k : Int) (c : V3) (e : V3) (d : Int) (T : List (List Int)) (v : V3) (u : Po) (y : Int) (j : Int) (rest : List (Nat × AV Tb)) : evView (ctxOf Tryz.prog tbI (fun _ => false) libK1) 75 (false :: [false, true, false, true, true, true, true, true]) (loopAt (bodyOf Tryz.f41) [false, true, false, true, true, true, true, true]) ([(5, (.w (.one (.int .i64 y)))), (17, (.w (.one (.int .i64 j))))] ++ (ptrN 0 [6, 7, 9, 16, 12] ++ rest)) [⟨89, [.int .i64 m.z.mn, .int .i64 m.z.mx, .int .i64 m.z.sp, .int .i64 m.z.ac, .int .i64 m.l.mn, .int .i64 m.l.mx, .int .i64 m.l.sp, .int .i64 m.l.ac, .int .i64 m.p.az, .int .i64 m.p.al]⟩, ⟨35, [.int .i64 s.lat, .int .i64 s.lon, .int .i64 r.t, .int .i64 r.a, .int .i64 r.n, .int .i64 r.d, .int .i64 b, .int .i64 l, .int .i64 k, .int .i64 c.x, .int .i64 c.y, .int .i64 c.z, .int .i64 e.x, .int .i64 e.y, .int .i64 e.z, .int .i64 d, .fv (.tab [some .i64] T)]⟩, ⟨31, [.int .i64 v.x, .int .i64 v.y, .int .i64 v.z]⟩, ⟨87, [.int .i64 u.az, .int .i64 u.al]⟩, ⟨87, [.int .i64 0, .int .i64 0]⟩] 5 [13, 6, 7, 9, 16, 12] [true, true] = some ((Ex.ret, [AV.w (AW.one (AC.int IntKind.i64 (foE m (aae s v) u (aaP s r b l v j)))), AV.w (AW.one (AC.ptr 0 0)), AV.w (AW.one (AC.ptr 1 0)), AV.w (AW.one (AC.ptr 2 0)), AV.w (AW.one (AC.ptr 3 0)), AV.w (AW.one (AC.ptr 4 0))], [{ ty := 89, cs := [AC.int IntKind.i64 m.z.mn, AC.int IntKind.i64 m.z.mx, AC.int IntKind.i64 m.z.sp, AC.int IntKind.i64 m.z.ac, AC.int IntKind.i64 m.l.mn, AC.int IntKind.i64 m.l.mx, AC.int IntKind.i64 m.l.sp, AC.int IntKind.i64 m.l.ac, AC.int IntKind.i64 m.p.az, AC.int IntKind.i64 m.p.al] }, { ty := 35, cs := [AC.int IntKind.i64 s.lat, AC.int IntKind.i64 s.lon, AC.int IntKind.i64 r.t, AC.int IntKind.i64 r.a, AC.int IntKind.i64 r.n, AC.int IntKind.i64 r.d, AC.int IntKind.i64 b, AC.int IntKind.i64 l, AC.int IntKind.i64 k, AC.int IntKind.i64 c.x, AC.int IntKind.i64 c.y, AC.int IntKind.i64 c.z, AC.int IntKind.i64 e.x, AC.int IntKind.i64 e.y, AC.int IntKind.i64 e.z, AC.int IntKind.i64 d, AC.fv (Tb.tab [some IntKind.i64] T)] }, { ty := 31, cs := [AC.int IntKind.i64 v.x, AC.int IntKind.i64 v.y, AC.int IntKind.i64 v.z] }, { ty := 87, cs := [AC.int IntKind.i64 u.az, AC.int IntKind.i64 u.al] }, { ty := 87, cs := [AC.int IntKind.i64 0, AC.int IntKind.i64 0] }]), (pickL [(decide (j <= y), true), (okM m && inM m u, true), (i64B r.n, true), (i64B r.d, true), (foE m (aae s v) u (aaP s r b l v j) != 0, true)] [0, 1, 2, 3, 4])) := by kernel_rfl
structure trT where
 m : Mo
 s : Si
 r : Rt
 b : Int
 l : Int
 k : Int
 c : V3
 e : V3
 d : Int
 T : List (List Int)
 v : V3
 u : Po
 y : Int
 j : Int
def trP (m : Mo) (s : Si) (r : Rt) (b : Int) (l : Int) (k : Int) (c : V3) (e : V3) (d : Int) (T : List (List Int)) (v : V3) (u : Po) (y : Int) (j : Int) : Prop := (moE m = 0 /\ inM m u = true) /\ (i64B r.n = true /\ i64B r.d = true) /\ 0 <= j /\ j <= 1000 /\ y <= 100
instance (m : Mo) (s : Si) (r : Rt) (b : Int) (l : Int) (k : Int) (c : V3) (e : V3) (d : Int) (T : List (List Int)) (v : V3) (u : Po) (y : Int) (j : Int) : Decidable (trP m s r b l k c e d T v u y j) := by unfold trP; infer_instance
def trTm (m : Mo) (s : Si) (r : Rt) (b : Int) (l : Int) (k : Int) (c : V3) (e : V3) (d : Int) (T : List (List Int)) (v : V3) (u : Po) (y : Int) (j : Int) : List (Nat × AV Tb) := [(5, (.w (.one (.int .i64 y)))), (17, (.w (.one (.int .i64 j))))]
def trS : LpSt trT Tb where
 ps := [6, 7, 9, 16, 12]
 tm := fun t => trTm t.m t.s t.r t.b t.l t.k t.c t.e t.d t.T t.v t.u t.y t.j
 hp := fun t => [⟨89, [.int .i64 t.m.z.mn, .int .i64 t.m.z.mx, .int .i64 t.m.z.sp, .int .i64 t.m.z.ac, .int .i64 t.m.l.mn, .int .i64 t.m.l.mx, .int .i64 t.m.l.sp, .int .i64 t.m.l.ac, .int .i64 t.m.p.az, .int .i64 t.m.p.al]⟩, ⟨35, [.int .i64 t.s.lat, .int .i64 t.s.lon, .int .i64 t.r.t, .int .i64 t.r.a, .int .i64 t.r.n, .int .i64 t.r.d, .int .i64 t.b, .int .i64 t.l, .int .i64 t.k, .int .i64 t.c.x, .int .i64 t.c.y, .int .i64 t.c.z, .int .i64 t.e.x, .int .i64 t.e.y, .int .i64 t.e.z, .int .i64 t.d, .fv (.tab [some .i64] t.T)]⟩, ⟨31, [.int .i64 t.v.x, .int .i64 t.v.y, .int .i64 t.v.z]⟩, ⟨87, [.int .i64 t.u.az, .int .i64 t.u.al]⟩, ⟨87, [.int .i64 0, .int .i64 0]⟩]
def trNx (m : Mo) (s : Si) (r : Rt) (b : Int) (l : Int) (k : Int) (c : V3) (e : V3) (d : Int) (T : List (List Int)) (v : V3) (u : Po) (y : Int) (j : Int) : Nxt trT Tb := if j <= y then (if foE m (aae s v) u (aaP s r b l v j) = 0 then .go ⟨m, s, r, b, l, k, c, e, d, T, v, foP m (aae s v) u (aaP s r b l v j), y, j + 1⟩ else .out .ret [(13, .w (.one (.int .i64 (foE m (aae s v) u (aaP s r b l v j)))))] [⟨89, [.int .i64 m.z.mn, .int .i64 m.z.mx, .int .i64 m.z.sp, .int .i64 m.z.ac, .int .i64 m.l.mn, .int .i64 m.l.mx, .int .i64 m.l.sp, .int .i64 m.l.ac, .int .i64 m.p.az, .int .i64 m.p.al]⟩, ⟨35, [.int .i64 s.lat, .int .i64 s.lon, .int .i64 r.t, .int .i64 r.a, .int .i64 r.n, .int .i64 r.d, .int .i64 b, .int .i64 l, .int .i64 k, .int .i64 c.x, .int .i64 c.y, .int .i64 c.z, .int .i64 e.x, .int .i64 e.y, .int .i64 e.z, .int .i64 d, .fv (.tab [some .i64] T)]⟩, ⟨31, [.int .i64 v.x, .int .i64 v.y, .int .i64 v.z]⟩, ⟨87, [.int .i64 u.az, .int .i64 u.al]⟩, ⟨87, [.int .i64 0, .int .i64 0]⟩]) else .out (.exit 0) [] [⟨89, [.int .i64 m.z.mn, .int .i64 m.z.mx, .int .i64 m.z.sp, .int .i64 m.z.ac, .int .i64 m.l.mn, .int .i64 m.l.mx, .int .i64 m.l.sp, .int .i64 m.l.ac, .int .i64 m.p.az, .int .i64 m.p.al]⟩, ⟨35, [.int .i64 s.lat, .int .i64 s.lon, .int .i64 r.t, .int .i64 r.a, .int .i64 r.n, .int .i64 r.d, .int .i64 b, .int .i64 l, .int .i64 k, .int .i64 c.x, .int .i64 c.y, .int .i64 c.z, .int .i64 e.x, .int .i64 e.y, .int .i64 e.z, .int .i64 d, .fv (.tab [some .i64] T)]⟩, ⟨31, [.int .i64 v.x, .int .i64 v.y, .int .i64 v.z]⟩, ⟨87, [.int .i64 u.az, .int .i64 u.al]⟩, ⟨87, [.int .i64 0, .int .i64 0]⟩]
def trStep (t : trT) : Nxt trT Tb := if trP t.m t.s t.r t.b t.l t.k t.c t.e t.d t.T t.v t.u t.y t.j then trNx t.m t.s t.r t.b t.l t.k t.c t.e t.d t.T t.v t.u t.y t.j else .bad
theorem tr_go {m : Mo} {s : Si} {r : Rt} {b : Int} {l : Int} {k : Int} {c : V3} {e : V3} {d : Int} {T : List (List Int)} {v : V3} {u : Po} {y : Int} {j : Int} (h : trP m s r b l k c e d T v u y j) : trStep ⟨m, s, r, b, l, k, c, e, d, T, v, u, y, j⟩ = trNx m s r b l k c e d T v u y j := if_pos h
set_option maxHeartbeats 4000000 in
theorem tr_round (t : trT) (hb : (trStep t).isBad = false) (rest : List (Nat × AV Tb)) : ∃ fuel path r, evC (ctxOf Tryz.prog tbI (fun _ => false) libK1) fuel 75 (false :: [false, true, false, true, true, true, true, true]) (loopAt (bodyOf Tryz.f41) [false, true, false, true, true, true, true, true]) (trS.tm t ++ (ptrN 0 trS.ps ++ rest)) (numb 0 (trS.hp t)) 5 path = some r /\ (∀ p ∈ r.cd, p.1 = p.2) /\ Gives trS 5 r (trStep t) := by
 obtain ⟨m, s, r, b, l, k, c, e, d, T, v, u, y, j⟩ := t
 by_cases ok : trP m s r b l k c e d T v u y j
 · rw [tr_go ok]
   clear hb
   unfold trNx
   obtain ⟨⟨h1, h2⟩, ⟨h3, h4⟩, h5, h6, h7⟩ := ok
   have e0 : IntKind.i64.wrap (j + 1) = j + 1 := v64 (by omega) (by omega)
   have i1 : (okM m && inM m u) = true := by unfold okM; rw [h1, h2]; rfl
   by_cases hk : j <= y
   · have c1 : decide (j <= y) = true := decide_eq_true hk
     rw [if_pos hk]
     by_cases hf : foE m (aae s v) u (aaP s r b l v j) = 0
     · have c2 : (foE m (aae s v) u (aaP s r b l v j) != 0) = false := by simpa using hf
       rw [if_pos hf]
       have L := tr_10 m s r b l k c e d T v u y j rest
       rw [e0] at L
       refine round_go L (pickL_ok ?_ _) rfl rfl rfl rfl
       repeat' (first | exact cd_nil | refine cd_cons ?_ ?_)
       all_goals first | with_reducible rfl | with_reducible assumption | rfl
     · have c2 : (foE m (aae s v) u (aaP s r b l v j) != 0) = true := by simpa using hf
       rw [if_neg hf]
       have L := trr_11 m s r b l k c e d T v u y j rest
       refine round_out L rfl (pickL_ok ?_ _) rfl rfl rfl
       repeat' (first | exact cd_nil | refine cd_cons ?_ ?_)
       all_goals first | with_reducible rfl | with_reducible assumption | rfl
   · have c1 : decide (j <= y) = false := decide_eq_false hk
     rw [if_neg hk]
     have L := trx_0 m s r b l k c e d T v u y j rest
     refine round_out L rfl (pickL_ok ?_ _) rfl rfl rfl
     repeat' (first | exact cd_nil | refine cd_cons ?_ ?_)
     all_goals first | with_reducible rfl | with_reducible assumption | rfl
 · exfalso
   have : trStep ⟨m, s, r, b, l, k, c, e, d, T, v, u, y, j⟩ = .bad := if_neg ok
   rw [this] at hb; cases hb
theorem tr_runs {m : Mo} {s : Si} {r : Rt} {b l k : Int} {c e : V3} {d : Int} {T : List (List Int)} {v : V3} {y : Int} (h1 : moE m = 0) (h3 : i64B r.n = true) (h4 : i64B r.d = true) (h7 : y <= 100) : ∀ (n : Nat) (j : Int) (u : Po), j + n = y + 1 -> 0 <= j -> j <= 101 -> inM m u = true -> ∃ c', runs trStep c' ⟨m, s, r, b, l, k, c, e, d, T, v, u, y, j⟩ = (if (trk m (aae s v) (aaP s r b l v) n (j) u).2 = 0 then some (.exit 0, [], [⟨89, [.int .i64 m.z.mn, .int .i64 m.z.mx, .int .i64 m.z.sp, .int .i64 m.z.ac, .int .i64 m.l.mn, .int .i64 m.l.mx, .int .i64 m.l.sp, .int .i64 m.l.ac, .int .i64 m.p.az, .int .i64 m.p.al]⟩, ⟨35, [.int .i64 s.lat, .int .i64 s.lon, .int .i64 r.t, .int .i64 r.a, .int .i64 r.n, .int .i64 r.d, .int .i64 b, .int .i64 l, .int .i64 k, .int .i64 c.x, .int .i64 c.y, .int .i64 c.z, .int .i64 e.x, .int .i64 e.y, .int .i64 e.z, .int .i64 d, .fv (.tab [some .i64] T)]⟩, ⟨31, [.int .i64 v.x, .int .i64 v.y, .int .i64 v.z]⟩, ⟨87, [.int .i64 (trk m (aae s v) (aaP s r b l v) n (j) u).1.az, .int .i64 (trk m (aae s v) (aaP s r b l v) n (j) u).1.al]⟩, ⟨87, [.int .i64 0, .int .i64 0]⟩]) else some (.ret, [(13, .w (.one (.int .i64 (trk m (aae s v) (aaP s r b l v) n (j) u).2)))], [⟨89, [.int .i64 m.z.mn, .int .i64 m.z.mx, .int .i64 m.z.sp, .int .i64 m.z.ac, .int .i64 m.l.mn, .int .i64 m.l.mx, .int .i64 m.l.sp, .int .i64 m.l.ac, .int .i64 m.p.az, .int .i64 m.p.al]⟩, ⟨35, [.int .i64 s.lat, .int .i64 s.lon, .int .i64 r.t, .int .i64 r.a, .int .i64 r.n, .int .i64 r.d, .int .i64 b, .int .i64 l, .int .i64 k, .int .i64 c.x, .int .i64 c.y, .int .i64 c.z, .int .i64 e.x, .int .i64 e.y, .int .i64 e.z, .int .i64 d, .fv (.tab [some .i64] T)]⟩, ⟨31, [.int .i64 v.x, .int .i64 v.y, .int .i64 v.z]⟩, ⟨87, [.int .i64 (trl m (aae s v) (aaP s r b l v) n (j) u).az, .int .i64 (trl m (aae s v) (aaP s r b l v) n (j) u).al]⟩, ⟨87, [.int .i64 0, .int .i64 0]⟩]))
 | 0, j, u, hn, h5, h6, h2 => by
   refine ⟨1, ?_⟩
   rw [runs, tr_go ⟨⟨h1, h2⟩, ⟨h3, h4⟩, h5, by omega, h7⟩]
   unfold trNx
   rw [if_neg (by omega)]
   rfl
 | n + 1, j, u, hn, h5, h6, h2 => by
   by_cases hf : foE m (aae s v) u (aaP s r b l v j) = 0
   · have hu : inM m (foP m (aae s v) u (aaP s r b l v j)) = true := by
       have := foP_in h1 h2 hf
       exact this
     obtain ⟨c', hr⟩ := tr_runs h1 h3 h4 h7 n (j + 1) (foP m (aae s v) u (aaP s r b l v j)) (by omega) (by omega) (by omega) hu
     refine ⟨c' + 1, ?_⟩
     rw [runs, tr_go ⟨⟨h1, h2⟩, ⟨h3, h4⟩, h5, by omega, h7⟩]
     unfold trNx
     rw [if_pos (by omega), if_pos hf]
     simp only [trk, trl, if_pos hf]
     exact hr
   · refine ⟨1, ?_⟩
     rw [runs, tr_go ⟨⟨h1, h2⟩, ⟨h3, h4⟩, h5, by omega, h7⟩]
     unfold trNx
     rw [if_pos (by omega), if_neg hf]
     simp only [trk, trl, if_neg hf]
def trD : LpDefR trT Tb where
 ts := [5, 17]
 ps := [6, 7, 9, 16, 12]
 rs := []
 W := [5, 6, 7, 9, 12, 13, 16, 17, 18, 19, 55, 56, 57, 58, 59, 60, 61, 62, 63, 64, 65, 66, 67, 68, 69, 70, 71, 72, 73]
 dec := fun vs tr ks => match vs, tr, ks with
   | [.w (.one (.int .i64 y)), .w (.one (.int .i64 j))], [], [⟨89, [.int .i64 m0, .int .i64 m1, .int .i64 m2, .int .i64 m3, .int .i64 m4, .int .i64 m5, .int .i64 m6, .int .i64 m7, .int .i64 m8, .int .i64 m9]⟩, ⟨35, [.int .i64 x0, .int .i64 x1, .int .i64 x2, .int .i64 x3, .int .i64 x4, .int .i64 x5, .int .i64 b, .int .i64 l, .int .i64 k, .int .i64 x9, .int .i64 x10, .int .i64 x11, .int .i64 x12, .int .i64 x13, .int .i64 x14, .int .i64 d, .fv (.tab [some .i64] T)]⟩, ⟨31, [.int .i64 v0, .int .i64 v1, .int .i64 v2]⟩, ⟨87, [.int .i64 u0, .int .i64 u1]⟩, ⟨87, [.int .i64 0, .int .i64 0]⟩] => some ⟨⟨⟨m0, m1, m2, m3⟩, ⟨m4, m5, m6, m7⟩, ⟨m8, m9⟩⟩, ⟨x0, x1⟩, ⟨x2, x3, x4, x5⟩, b, l, k, ⟨x9, x10, x11⟩, ⟨x12, x13, x14⟩, d, T, ⟨v0, v1, v2⟩, ⟨u0, u1⟩, y, j⟩
   | _, _, _ => none
 fk := fun t => some (decide ((trk t.m (aae t.s t.v) (aaP t.s t.r t.b t.l t.v) (t.y + 1 - t.j).toNat (t.j) t.u).2 = 0))
 spec := fun t β => match β with
   | true => some (.exit 0, [], [], [⟨89, [.int .i64 t.m.z.mn, .int .i64 t.m.z.mx, .int .i64 t.m.z.sp, .int .i64 t.m.z.ac, .int .i64 t.m.l.mn, .int .i64 t.m.l.mx, .int .i64 t.m.l.sp, .int .i64 t.m.l.ac, .int .i64 t.m.p.az, .int .i64 t.m.p.al]⟩, ⟨35, [.int .i64 t.s.lat, .int .i64 t.s.lon, .int .i64 t.r.t, .int .i64 t.r.a, .int .i64 t.r.n, .int .i64 t.r.d, .int .i64 t.b, .int .i64 t.l, .int .i64 t.k, .int .i64 t.c.x, .int .i64 t.c.y, .int .i64 t.c.z, .int .i64 t.e.x, .int .i64 t.e.y, .int .i64 t.e.z, .int .i64 t.d, .fv (.tab [some .i64] t.T)]⟩, ⟨31, [.int .i64 t.v.x, .int .i64 t.v.y, .int .i64 t.v.z]⟩, ⟨87, [.int .i64 (trk t.m (aae t.s t.v) (aaP t.s t.r t.b t.l t.v) (t.y + 1 - t.j).toNat (t.j) t.u).1.az, .int .i64 (trk t.m (aae t.s t.v) (aaP t.s t.r t.b t.l t.v) (t.y + 1 - t.j).toNat (t.j) t.u).1.al]⟩, ⟨87, [.int .i64 0, .int .i64 0]⟩], [((okM t.m && inM t.m t.u) && ((i64B t.r.n && i64B t.r.d) && (decide (0 <= t.j) && (decide (t.j <= t.y + 1) && decide (t.y <= 100)))), true)])
   | false => some (.ret, [(13, .w (.one (.int .i64 (trk t.m (aae t.s t.v) (aaP t.s t.r t.b t.l t.v) (t.y + 1 - t.j).toNat (t.j) t.u).2)))], [], [⟨89, [.int .i64 t.m.z.mn, .int .i64 t.m.z.mx, .int .i64 t.m.z.sp, .int .i64 t.m.z.ac, .int .i64 t.m.l.mn, .int .i64 t.m.l.mx, .int .i64 t.m.l.sp, .int .i64 t.m.l.ac, .int .i64 t.m.p.az, .int .i64 t.m.p.al]⟩, ⟨35, [.int .i64 t.s.lat, .int .i64 t.s.lon, .int .i64 t.r.t, .int .i64 t.r.a, .int .i64 t.r.n, .int .i64 t.r.d, .int .i64 t.b, .int .i64 t.l, .int .i64 t.k, .int .i64 t.c.x, .int .i64 t.c.y, .int .i64 t.c.z, .int .i64 t.e.x, .int .i64 t.e.y, .int .i64 t.e.z, .int .i64 t.d, .fv (.tab [some .i64] t.T)]⟩, ⟨31, [.int .i64 t.v.x, .int .i64 t.v.y, .int .i64 t.v.z]⟩, ⟨87, [.int .i64 (trl t.m (aae t.s t.v) (aaP t.s t.r t.b t.l t.v) (t.y + 1 - t.j).toNat (t.j) t.u).az, .int .i64 (trl t.m (aae t.s t.v) (aaP t.s t.r t.b t.l t.v) (t.y + 1 - t.j).toNat (t.j) t.u).al]⟩, ⟨87, [.int .i64 0, .int .i64 0]⟩], [((okM t.m && inM t.m t.u) && ((i64B t.r.n && i64B t.r.d) && (decide (0 <= t.j) && (decide (t.j <= t.y + 1) && decide (t.y <= 100)))), true)])
theorem trD_ok (x : Code) (hx : codeAt (bodyOf Tryz.f41) [false, true, false, true, true, true, true, true] = some (.loop x)) : LpOk Tryz.prog tbI 75 x (trD.sp (fun _ => true)) := by
 obtain rfl := loopAt_eq hx
 refine lpR_ok (c := ctxOf Tryz.prog tbI (fun _ => false) libK1) (ctxOf_ok libK1_ok (eq_none _)) (by kernel_rfl) (fun _ _ _ h => h) hx lps_nil (S := trS) (step := trStep) (fun _ _ => rfl) (by kernel_rfl) (by kernel_rfl) ?_ rfl (fun t e he => ?_) (fun t hb rest => tr_round t hb rest) ?_
 · intro vs tr ks s hv1 hv2 h hv3
   simp only [trD] at h
   split at h
   · cases h
     exact ⟨rfl, fun e he => .inl he⟩
   · cases h
 · simp only [trS, trTm, List.mem_cons, List.not_mem_nil, or_false] at he
   rcases he with rfl | rfl <;> rfl
 · intro s β ex outs rts wb cd h hfk hc
   obtain ⟨m, s, r, b, l, k, c, e, d, T, v, u, y, j⟩ := s
   have hβ := hfk _ rfl
   cases β with
   | true =>
     simp only [trD] at h hβ
     cases h
     have := ca1 hc
     simp only [Bool.and_eq_true, decide_eq_true_eq] at this
     obtain ⟨⟨h1, h2⟩, ⟨h3, h4⟩, h5, h6, h7⟩ := this
     obtain ⟨c', hr⟩ := tr_runs (c := c) (e := e) (d := d) (T := T) (v := v) (s := s) (b := b) (l := l) (k := k) h1 h3 h4 h7  _ j u (show j + ((y + 1 - j).toNat : Nat) = y + 1 by omega) h5 (by omega) h2
     refine ⟨c', ?_⟩
     rw [if_pos (of_decide_eq_true hβ)] at hr
     exact hr
   | false =>
     simp only [trD] at h hβ
     cases h
     have := ca1 hc
     simp only [Bool.and_eq_true, decide_eq_true_eq] at this
     obtain ⟨⟨h1, h2⟩, ⟨h3, h4⟩, h5, h6, h7⟩ := this
     obtain ⟨c', hr⟩ := tr_runs (c := c) (e := e) (d := d) (T := T) (v := v) (s := s) (b := b) (l := l) (k := k) h1 h3 h4 h7  _ j u (show j + ((y + 1 - j).toNat : Nat) = y + 1 by omega) h5 (by omega) h2
     refine ⟨c', ?_⟩
     rw [if_neg (of_decide_eq_false hβ)] at hr
     exact hr
def rkP (m : Mo) (s : Si) (r : Rt) (b : Int) (l : Int) (k : Int) (c : V3) (e : V3) (d : Int) (T : List (List Int)) (v : V3) (u : Po) (y : Int) (j : Int) : Prop := (moE m = 0 /\ inM m u = true) /\ (i64B r.n = true /\ i64B r.d = true) /\ 0 <= j /\ j <= 1000 /\ y <= 100 /\ y <= k
instance (m : Mo) (s : Si) (r : Rt) (b : Int) (l : Int) (k : Int) (c : V3) (e : V3) (d : Int) (T : List (List Int)) (v : V3) (u : Po) (y : Int) (j : Int) : Decidable (rkP m s r b l k c e d T v u y j) := by unfold rkP; infer_instance
noncomputable abbrev trLps : Lps Tb := [((75, [false, true, false, true, true, true, true, true]), trD.sp (fun _ => true))]
theorem trLps_ok : LpsOk Tryz.prog tbI trLps Tryz.f41.ntmps (bodyOf Tryz.f41) := lps_cons (fun _ x hx => trD_ok x hx) lps_nil
end
end Go.Proofs.YtmhhdedekblbnaaGreat.AtSl
