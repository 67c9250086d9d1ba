/-
 Package spymake's nights out of streams over tables.
 Conditions: those of each theorem.
-/
import Derived.Test.YtmhhdedekblbnaaGreatQSN
import Derived.Test.YtmhhdedekblbnaaGreatQLN
import Derived.Test.YtmhhdedekblbnaaGreatQH1
import Derived.Test.YtmhhdedekblbnaaGreatQPN
set_option maxRecDepth 100000
set_option linter.unusedVariables false
set_option linter.unusedSimpArgs false
namespace Go.Proofs.YtmhhdedekblbnaaGreat.AtSl
open Go.RowKit Ev Wd AtSn AtHz AtRt
open Go.Proofs.YtmhhdedekblbnaaGreat
variable {F : Type}
noncomputable section

def nlN (t : TypeId) : Option Tb := bif Nat.beq t 33 then some (.tab [some .i64] []) else none
theorem nlN_ok : ∀ t g D w, nlN t = some g -> tbI.hv g D w (.slice none 0 0) := fun t g D w h => by
 unfold nlN at h
 cases hb : Nat.beq t 33 with
 | false => rw [hb] at h; cases h
 | true => rw [hb] at h; cases h; exact nil_tab _ _ _
noncomputable abbrev rowN : Interp Tb := tbI.rows nlN nlN_ok
def cdV (l : List Int) (a : Int) : Int := bif nextV l a 5 == 0 then nextV l (a + 1) 5 else 0
def cdA (l : List Int) (a : Int) : Int := bif nextV l a 5 == 0 then a + 1 + 1 else a + 1
def ngL (l : List Int) : Nat -> Int -> List (List Int)
 | 0, _ => []
 | n + 1, a => [cdV l a] :: ngL l n (cdA l a)
def ngA (l : List Int) : Nat -> Int -> Int
 | 0, a => a
 | n + 1, a => ngA l n (cdA l a)
theorem cdA_in (l : List Int) (a : Int) : a + 1 <= cdA l a /\ cdA l a <= a + 2 := by
 unfold cdA
 cases nextV l a 5 == 0 <;> simp only [cond_true, cond_false] <;> omega
theorem ngA_in (l : List Int) : ∀ (n : Nat) (a : Int), a + n <= ngA l n a /\ ngA l n a <= a + 2 * n
 | 0, a => by simp only [ngA]; omega
 | n + 1, a => by
   have h1 := cdA_in l a
   have h2 := ngA_in l n (cdA l a)
   simp only [ngA]
   omega
theorem ngL_len (l : List Int) : ∀ (n : Nat) (a : Int), (ngL l n a).length = n
 | 0, a => rfl
 | n + 1, a => by simp only [ngL, List.length_cons, ngL_len l n]
theorem v64n {x : Int} (h1 : -9223372036854775808 <= x) (h2 : x <= 9223372036854775807) : IntKind.i64.wrap x = x := by rw [IntKind.wrap_i64]; omega
theorem ng_11 (T : List (List Int)) (a : Int) (s : Si) (r : Rt) (b : Int) (l : Int) (k : Int) (c : V3) (e : V3) (d : Int) (n : Nat) (C : List (List Int)) (y : Int) (j : Int) (rest : List (Nat × AV Tb)) : evView (ctxOf Tryz.prog rowN (fun _ => false) libS2T) 87 (false :: [false, true, false, true, true, true, true, true, true, true, true]) (loopAt (bodyOf Tryz.f28) [false, true, false, true, true, true, true, true, true, true, true]) ([(71, (.w (.one (.int .i64 y)))), (72, (.w (.one (.int .i64 j))))] ++ (ptrN 0 [0, 5] ++ rest)) [⟨69, [.fv (.tab [some .i64] T), .int .i64 a]⟩, ⟨35, [.int .i64 s.lat, .int .i64 s.lon, .int .i64 r.t, .int .i64 r.a, .int .i64 r.n, .int .i64 r.d, .int .i64 b, .int .i64 l, .int .i64 k, .int .i64 c.x, .int .i64 c.y, .int .i64 c.z, .int .i64 e.x, .int .i64 e.y, .int .i64 e.z, .int .i64 d, .tip 2 n (.tab [some .i64] C)]⟩, ⟨3, [.tok n 1]⟩] 3 [71, 72, 0, 5] [true, true] = some ((Ex.normal, [AV.w (AW.one (AC.int IntKind.i64 y)), AV.w (AW.one (AC.int IntKind.i64 (IntKind.i64.wrap (j + 1)))), AV.w (AW.one (AC.ptr 0 0)), AV.w (AW.one (AC.ptr 1 0))], [{ ty := 69, cs := [AC.fv (Tb.tab [some IntKind.i64] T), AC.int IntKind.i64 (a + 1 + 1)] }, { ty := 35, cs := [AC.int IntKind.i64 s.lat, AC.int IntKind.i64 s.lon, AC.int IntKind.i64 r.t, AC.int IntKind.i64 r.a, AC.int IntKind.i64 r.n, AC.int IntKind.i64 r.d, AC.int IntKind.i64 b, AC.int IntKind.i64 l, AC.int IntKind.i64 k, AC.int IntKind.i64 c.x, AC.int IntKind.i64 c.y, AC.int IntKind.i64 c.z, AC.int IntKind.i64 e.x, AC.int IntKind.i64 e.y, AC.int IntKind.i64 e.z, AC.int IntKind.i64 d, AC.tip 2 n.succ (Tb.tab [some IntKind.i64] (C ++ [[nextV (colT T) (a + 1) 5]]))] }, { ty := 3, cs := [AC.tok n.succ 1] }]), (pickL [(decide (j < y), true), (i64B 5, true), (listB (colT T), true), (atB a, true), (nextV (colT T) a 5 == 0, true), (atB (a + 1), true), (decide (n = n), true), (decide (n + 1 <= 34359738368), true)] [0, 1, 2, 3, 4, 1, 2, 5, 6, 7])) := by kernel_rfl
theorem ng_10 (T : List (List Int)) (a : Int) (s : Si) (r : Rt) (b : Int) (l : Int) (k : Int) (c : V3) (e : V3) (d : Int) (n : Nat) (C : List (List Int)) (y : Int) (j : Int) (rest : List (Nat × AV Tb)) : evView (ctxOf Tryz.prog rowN (fun _ => false) libS2T) 87 (false :: [false, true, false, true, true, true, true, true, true, true, true]) (loopAt (bodyOf Tryz.f28) [false, true, false, true, true, true, true, true, true, true, true]) ([(71, (.w (.one (.int .i64 y)))), (72, (.w (.one (.int .i64 j))))] ++ (ptrN 0 [0, 5] ++ rest)) [⟨69, [.fv (.tab [some .i64] T), .int .i64 a]⟩, ⟨35, [.int .i64 s.lat, .int .i64 s.lon, .int .i64 r.t, .int .i64 r.a, .int .i64 r.n, .int .i64 r.d, .int .i64 b, .int .i64 l, .int .i64 k, .int .i64 c.x, .int .i64 c.y, .int .i64 c.z, .int .i64 e.x, .int .i64 e.y, .int .i64 e.z, .int .i64 d, .tip 2 n (.tab [some .i64] C)]⟩, ⟨3, [.tok n 1]⟩] 3 [71, 72, 0, 5] [true, false] = some ((Ex.normal, [AV.w (AW.one (AC.int IntKind.i64 y)), AV.w (AW.one (AC.int IntKind.i64 (IntKind.i64.wrap (j + 1)))), AV.w (AW.one (AC.ptr 0 0)), AV.w (AW.one (AC.ptr 1 0))], [{ ty := 69, cs := [AC.fv (Tb.tab [some IntKind.i64] T), AC.int IntKind.i64 (a + 1)] }, { ty := 35, cs := [AC.int IntKind.i64 s.lat, AC.int IntKind.i64 s.lon, AC.int IntKind.i64 r.t, AC.int IntKind.i64 r.a, AC.int IntKind.i64 r.n, AC.int IntKind.i64 r.d, AC.int IntKind.i64 b, AC.int IntKind.i64 l, AC.int IntKind.i64 k, AC.int IntKind.i64 c.x, AC.int IntKind.i64 c.y, AC.int IntKind.i64 c.z, AC.int IntKind.i64 e.x, AC.int IntKind.i64 e.y, AC.int IntKind.i64 e.z, AC.int IntKind.i64 d, AC.tip 2 n.succ (Tb.tab [some IntKind.i64] (C ++ [[0]]))] }, { ty := 3, cs := [AC.tok n.succ 1] }]), (pickL [(decide (j < y), true), (i64B 5, true), (listB (colT T), true), (atB a, true), (nextV (colT T) a 5 == 0, false), (decide (n = n), true), (decide (n + 1 <= 34359738368), true)] [0, 1, 2, 3, 4, 5, 6])) := by kernel_rfl
theorem ngx_0 (T : List (List Int)) (a : Int) (s : Si) (r : Rt) (b : Int) (l : Int) (k : Int) (c : V3) (e : V3) (d : Int) (n : Nat) (C : List (List Int)) (y : Int) (j : Int) (rest : List (Nat × AV Tb)) : evView (ctxOf Tryz.prog rowN (fun _ => false) libS2T) 87 (false :: [false, true, false, true, true, true, true, true, true, true, true]) (loopAt (bodyOf Tryz.f28) [false, true, false, true, true, true, true, true, true, true, true]) ([(71, (.w (.one (.int .i64 y)))), (72, (.w (.one (.int .i64 j))))] ++ (ptrN 0 [0, 5] ++ rest)) [⟨69, [.fv (.tab [some .i64] T), .int .i64 a]⟩, ⟨35, [.int .i64 s.lat, .int .i64 s.lon, .int .i64 r.t, .int .i64 r.a, .int .i64 r.n, .int .i64 r.d, .int .i64 b, .int .i64 l, .int .i64 k, .int .i64 c.x, .int .i64 c.y, .int .i64 c.z, .int .i64 e.x, .int .i64 e.y, .int .i64 e.z, .int .i64 d, .tip 2 n (.tab [some .i64] C)]⟩, ⟨3, [.tok n 1]⟩] 3 [0, 5] [false] = some ((Ex.exit 0, [AV.w (AW.one (AC.ptr 0 0)), AV.w (AW.one (AC.ptr 1 0))], [{ ty := 69, cs := [AC.fv (Tb.tab [some IntKind.i64] T), AC.int IntKind.i64 a] }, { ty := 35, cs := [AC.int IntKind.i64 s.lat, AC.int IntKind.i64 s.lon, AC.int IntKind.i64 r.t, AC.int IntKind.i64 r.a, AC.int IntKind.i64 r.n, AC.int IntKind.i64 r.d, AC.int IntKind.i64 b, AC.int IntKind.i64 l, AC.int IntKind.i64 k, AC.int IntKind.i64 c.x, AC.int IntKind.i64 c.y, AC.int IntKind.i64 c.z, AC.int IntKind.i64 e.x, AC.int IntKind.i64 e.y, AC.int IntKind.i64 e.z, AC.int IntKind.i64 d, AC.tip 2 n (Tb.tab [some IntKind.i64] C)] }, { ty := 3, cs := [AC.tok n 1] }]), (pickL [(decide (j < y), false)] [0])) := by kernel_rfl
structure ngT where
 T : List (List Int)
 a : Int
 s : Si
 r : Rt
 b : Int
 l : Int
 k : Int
 c : V3
 e : V3
 d : Int
 n : Nat
 C : List (List Int)
 y : Int
 j : Int
def ngP (T : List (List Int)) (a : Int) (s : Si) (r : Rt) (b : Int) (l : Int) (k : Int) (c : V3) (e : V3) (d : Int) (n : Nat) (C : List (List Int)) (y : Int) (j : Int) : Prop := listB (colT T) = true /\ (0 <= a /\ a <= 999000) /\ (0 <= j /\ j <= 1000 /\ y <= 1000) /\ n <= 1000
instance (T : List (List Int)) (a : Int) (s : Si) (r : Rt) (b : Int) (l : Int) (k : Int) (c : V3) (e : V3) (d : Int) (n : Nat) (C : List (List Int)) (y : Int) (j : Int) : Decidable (ngP T a s r b l k c e d n C y j) := by unfold ngP; infer_instance
def ngTm (T : List (List Int)) (a : Int) (s : Si) (r : Rt) (b : Int) (l : Int) (k : Int) (c : V3) (e : V3) (d : Int) (n : Nat) (C : List (List Int)) (y : Int) (j : Int) : List (Nat × AV Tb) := [(71, (.w (.one (.int .i64 y)))), (72, (.w (.one (.int .i64 j))))]
def ngS : LpSt ngT Tb where
 ps := [0, 5]
 tm := fun t => ngTm t.T t.a t.s t.r t.b t.l t.k t.c t.e t.d t.n t.C t.y t.j
 hp := fun t => [⟨69, [.fv (.tab [some .i64] t.T), .int .i64 t.a]⟩, ⟨35, [.int .i64 t.s.lat, .int .i64 t.s.lon, .int .i64 t.r.t, .int .i64 t.r.a, .int .i64 t.r.n, .int .i64 t.r.d, .int .i64 t.b, .int .i64 t.l, .int .i64 t.k, .int .i64 t.c.x, .int .i64 t.c.y, .int .i64 t.c.z, .int .i64 t.e.x, .int .i64 t.e.y, .int .i64 t.e.z, .int .i64 t.d, .tip 2 t.n (.tab [some .i64] t.C)]⟩, ⟨3, [.tok t.n 1]⟩]
def ngNx (T : List (List Int)) (a : Int) (s : Si) (r : Rt) (b : Int) (l : Int) (k : Int) (c : V3) (e : V3) (d : Int) (n : Nat) (C : List (List Int)) (y : Int) (j : Int) : Nxt ngT Tb := if j < y then .go ⟨T, cdA (colT T) a, s, r, b, l, k, c, e, d, n + 1, C ++ [[cdV (colT T) a]], y, j + 1⟩ else .out (.exit 0) [] [⟨69, [.fv (.tab [some .i64] T), .int .i64 (a)]⟩, ⟨35, [.int .i64 s.lat, .int .i64 s.lon, .int .i64 r.t, .int .i64 r.a, .int .i64 r.n, .int .i64 r.d, .int .i64 b, .int .i64 l, .int .i64 k, .int .i64 c.x, .int .i64 c.y, .int .i64 c.z, .int .i64 e.x, .int .i64 e.y, .int .i64 e.z, .int .i64 d, .tip 2 (n) (.tab [some .i64] (C))]⟩, ⟨3, [.tok (n) 1]⟩]
def ngStep (t : ngT) : Nxt ngT Tb := if ngP t.T t.a t.s t.r t.b t.l t.k t.c t.e t.d t.n t.C t.y t.j then ngNx t.T t.a t.s t.r t.b t.l t.k t.c t.e t.d t.n t.C t.y t.j else .bad
theorem ng_go {T : List (List Int)} {a : Int} {s : Si} {r : Rt} {b : Int} {l : Int} {k : Int} {c : V3} {e : V3} {d : Int} {n : Nat} {C : List (List Int)} {y : Int} {j : Int} (h : ngP T a s r b l k c e d n C y j) : ngStep ⟨T, a, s, r, b, l, k, c, e, d, n, C, y, j⟩ = ngNx T a s r b l k c e d n C y j := if_pos h
set_option maxHeartbeats 4000000 in
theorem ng_round (t : ngT) (hb : (ngStep t).isBad = false) (rest : List (Nat × AV Tb)) : ∃ fuel path r, evC (ctxOf Tryz.prog rowN (fun _ => false) libS2T) fuel 87 (false :: [false, true, false, true, true, true, true, true, true, true, true]) (loopAt (bodyOf Tryz.f28) [false, true, false, true, true, true, true, true, true, true, true]) (ngS.tm t ++ (ptrN 0 ngS.ps ++ rest)) (numb 0 (ngS.hp t)) 3 path = some r /\ (∀ p ∈ r.cd, p.1 = p.2) /\ GivesT ngS 3 r (ngStep t) := by
 obtain ⟨T, a, s, r, b, l, k, c, e, d, n, C, y, j⟩ := t
 by_cases ok : ngP T a s r b l k c e d n C y j
 · rw [ng_go ok]
   clear hb
   unfold ngNx
   obtain ⟨h1, h2, h3, h4⟩ := ok
   have e0 : IntKind.i64.wrap (j + 1) = j + 1 := v64n (by omega) (by omega)
   have a1 : atB a = true := atB_iff.2 (by omega)
   have c5 : i64B 5 = true := by decide
   by_cases hk : j < y
   · have c1 : decide (j < y) = true := decide_eq_true hk
     rw [if_pos hk]
     cases k1 : (nextV (colT T) a 5 == 0) with
     | true =>
       have eA : cdA (colT T) a = a + 1 + 1 := by unfold cdA; rw [k1]; rfl
       have eV : cdV (colT T) a = nextV (colT T) (a + 1) 5 := by unfold cdV; rw [k1]; rfl
       rw [eA, eV]
       have L := ng_11 T a s r b l k c e d n C y j rest
       rw [e0] at L
       refine round_go L (pickL_ok ?_ _) rfl rfl rfl rfl
       repeat' (first | exact cd_nil | refine cd_cons ?_ ?_)
       all_goals first | with_reducible rfl | with_reducible assumption | rfl | exact decide_eq_true rfl | exact c5 | (refine atB_iff.2 ?_; omega) | exact decide_eq_true (by omega)
     | false =>
       have eA : cdA (colT T) a = a + 1 := by unfold cdA; rw [k1]; rfl
       have eV : cdV (colT T) a = 0 := by unfold cdV; rw [k1]; rfl
       rw [eA, eV]
       have L := ng_10 T a s r b l k c e d n C y j rest
       rw [e0] at L
       refine round_go L (pickL_ok ?_ _) rfl rfl rfl rfl
       repeat' (first | exact cd_nil | refine cd_cons ?_ ?_)
       all_goals first | with_reducible rfl | with_reducible assumption | rfl | exact decide_eq_true rfl | exact c5 | (refine atB_iff.2 ?_; omega) | exact decide_eq_true (by omega)
   · have c1 : decide (j < y) = false := decide_eq_false hk
     rw [if_neg hk]
     exact round_outT (P := Tryz.prog) (ngx_0 T a s r b l k c e d n C y j rest) rfl (pickL_ok (cd_cons c1 cd_nil) _) rfl
 · exfalso
   have : ngStep ⟨T, a, s, r, b, l, k, c, e, d, n, C, y, j⟩ = .bad := if_neg ok
   rw [this] at hb; cases hb
theorem ng_runs {T : List (List Int)} {s : Si} {r : Rt} {b l k : Int} {c e : V3} {d y : Int} (hl : listB (colT T) = true) (hy : y <= 1000) : ∀ (m : Nat) (a j : Int) (n : Nat) (C : List (List Int)), j + m = y -> 0 <= j -> 0 <= a -> a + 2 * m <= 999000 -> n + m <= 1000 -> ∃ c', runs ngStep c' ⟨T, a, s, r, b, l, k, c, e, d, n, C, y, j⟩ = some (.exit 0, [], [⟨69, [.fv (.tab [some .i64] T), .int .i64 (ngA (colT T) m a)]⟩, ⟨35, [.int .i64 s.lat, .int .i64 s.lon, .int .i64 r.t, .int .i64 r.a, .int .i64 r.n, .int .i64 r.d, .int .i64 b, .int .i64 l, .int .i64 k, .int .i64 c.x, .int .i64 c.y, .int .i64 c.z, .int .i64 e.x, .int .i64 e.y, .int .i64 e.z, .int .i64 d, .tip 2 (n + m) (.tab [some .i64] (C ++ ngL (colT T) m a))]⟩, ⟨3, [.tok (n + m) 1]⟩])
 | 0, a, j, n, C, h1, h2, h3, h4, h5 => by
   refine ⟨1, ?_⟩
   rw [runs, ng_go ⟨hl, by omega, by omega, by omega⟩]
   unfold ngNx
   rw [if_neg (by omega)]
   simp only [ngA, ngL, List.append_nil, Nat.add_zero]
 | m + 1, a, j, n, C, h1, h2, h3, h4, h5 => by
   have g := cdA_in (colT T) a
   obtain ⟨c', hr⟩ := ng_runs hl hy m (cdA (colT T) a) (j + 1) (n + 1) (C ++ [[cdV (colT T) a]]) (by omega) (by omega) (by omega) (by omega) (by omega)
   refine ⟨c' + 1, ?_⟩
   rw [runs, ng_go ⟨hl, by omega, by omega, by omega⟩]
   unfold ngNx
   rw [if_pos (by omega)]
   have e1 : n + 1 + m = n + (m + 1) := by omega
   rw [e1] at hr
   simp only [ngA, ngL]
   rw [List.append_assoc, List.singleton_append] at hr
   exact hr
def ngD : LpDefN ngT Tb where
 ts := [71, 72]
 ps := [0, 5]
 rb := 1
 rc := 16
 rf := .tab [some .i64] []
 ty := 3
 sz := 1
 W := [0, 5, 7, 71, 72, 73, 74, 75, 76, 77, 78, 79, 80, 81, 82, 83, 84, 85]
 dec := fun vs ks => match vs, ks with
   | [.w (.one (.int .i64 y)), .w (.one (.int .i64 j))], [⟨69, [.fv (.tab [some .i64] T), .int .i64 a]⟩, ⟨35, [.int .i64 x0, .int .i64 x1, .int .i64 x2, .int .i64 x3, .int .i64 x4, .int .i64 x5, .int .i64 b, .int .i64 l, .int .i64 k, .int .i64 x9, .int .i64 x10, .int .i64 x11, .int .i64 x12, .int .i64 x13, .int .i64 x14, .int .i64 d, .tip 2 0 (.tab [some .i64] [])]⟩, ⟨ti, [.tok 0 1]⟩] => bif Nat.beq ti 3 then some ⟨T, a, ⟨x0, x1⟩, ⟨x2, x3, x4, x5⟩, b, l, k, ⟨x9, x10, x11⟩, ⟨x12, x13, x14⟩, d, 0, [], y, j⟩ else none
   | _, _ => none
 fk := fun _ => none
 spec := fun t _ => some (.exit 0, [], [⟨69, [.fv (.tab [some .i64] t.T), .int .i64 (ngA (colT t.T) t.y.toNat t.a)]⟩, ⟨35, [.int .i64 t.s.lat, .int .i64 t.s.lon, .int .i64 t.r.t, .int .i64 t.r.a, .int .i64 t.r.n, .int .i64 t.r.d, .int .i64 t.b, .int .i64 t.l, .int .i64 t.k, .int .i64 t.c.x, .int .i64 t.c.y, .int .i64 t.c.z, .int .i64 t.e.x, .int .i64 t.e.y, .int .i64 t.e.z, .int .i64 t.d, .tip 2 (t.y.toNat) (.tab [some .i64] (ngL (colT t.T) t.y.toNat t.a))]⟩, ⟨3, [.tok (t.y.toNat) 1]⟩], [(listB (colT t.T) && decide (0 <= t.a) && decide (t.a <= 900000) && decide (t.j = 0) && decide (0 <= t.y) && decide (t.y <= 1000) && decide (t.n = 0), true), (decide (t.C = []), true)])
theorem ngD_ok (x : Code) (hx : codeAt (bodyOf Tryz.f28) [false, true, false, true, true, true, true, true, true, true, true] = some (.loop x)) : LpOk Tryz.prog rowN 87 x (ngD.sp (fun _ => true)) := by
 obtain rfl := loopAt_eq hx
 refine lpN_ok (c := ctxOf Tryz.prog rowN (fun _ => false) libS2T) (ctxOf_ok libS2T_ok.rows (eq_none _)) (by kernel_rfl) (fun _ _ _ h => h) hx lps_nil (S := ngS) (step := ngStep) (fun _ _ => rfl) (by kernel_rfl) (by kernel_rfl) ?_ rfl (fun D w => nil_tab _ _ _) rfl (by decide) (fun t e he => ?_) (fun t hb rest => ng_round t hb rest) ?_
 · intro vs ks s hv1 h hv2
   simp only [ngD] at h
   split at h
   · rename_i y j T a x0 x1 x2 x3 x4 x5 b l k x9 x10 x11 x12 x13 x14 d ti
     cases hb : Nat.beq ti 3 with
     | false => rw [hb] at h; cases h
     | true =>
       rw [hb] at h
       simp only [cond_true] at h
       cases h
       obtain rfl := Nat.eq_of_beq_eq_true hb
       exact ⟨rfl, fun e he => he⟩
   · cases h
 · simp only [ngS, ngTm, List.mem_cons, List.not_mem_nil, or_false] at he
   rcases he with rfl | rfl <;> rfl
 · intro s β ex outs wb cd h hfk hc
   obtain ⟨T, a, s, r, b, l, k, c, e, d, n, C, y, j⟩ := s
   simp only [ngD] at h
   cases h
   have h1 := hc (_, true) List.mem_cons_self
   have h2 := hc (_, true) (List.mem_cons_of_mem _ List.mem_cons_self)
   simp only [Bool.and_eq_true, decide_eq_true_eq] at h1 h2
   obtain ⟨⟨⟨⟨⟨⟨g1, g2⟩, g3⟩, rfl⟩, g5⟩, g6⟩, rfl⟩ := h1
   subst h2
   obtain ⟨c', hr⟩ := ng_runs (s := s) (r := r) (b := b) (l := l) (k := k) (c := c) (e := e) (d := d) g1 g6 y.toNat a 0 0 [] (by omega) (by omega) g2 (by omega) (by omega)
   refine ⟨c', ?_⟩
   rw [List.nil_append, Nat.zero_add] at hr
   exact hr
noncomputable abbrev ngLps : Lps Tb := [((87, [false, true, false, true, true, true, true, true, true, true, true]), ngD.sp (fun _ => true))]
theorem ngLps_ok : LpsOk Tryz.prog rowN ngLps Tryz.f28.ntmps (bodyOf Tryz.f28) := lps_cons (fun _ x hx => ngD_ok x hx) lps_nil
end
end Go.Proofs.YtmhhdedekblbnaaGreat.AtSl
