/-
 sphere.Grow, horizon.components and Aim, and the reference's Grown, as functions.
 Conditions: those of each theorem.
-/
import Derived.Test.YtmhhdedekblbnaaGreatQH1
import Derived.Test.YtmhhdedekblbnaaGreatQT2
set_option maxRecDepth 100000
set_option linter.unusedVariables false
set_option linter.unusedSimpArgs false
namespace Go.Proofs.YtmhhdedekblbnaaGreat.AtHz
open Go.RowKit Ev Wd Tg
open Go.Proofs.YtmhhdedekblbnaaGreat
variable {F : Type}
noncomputable section

abbrev grwS : FnSp F := sp1 dV3 (fun v => v3A (grV v)) (fun _ => [])
def dSi : Dec F Si where
 dec := fun x => match x with
   | .w (.agg [.int .i64 x, .int .i64 y]) => some ⟨x, y⟩
   | _ => none
 enc := siV
 ok := fun x a h => by
   split at h
   · cases h; rfl
   · cases h
abbrev sES : FnSp F := sp1 dSi (fun s => aInt .i64 (sE s)) (fun _ => [])
def cpA (x y a u : Int) : Int := rdV (x * cosV a + y * sinV a) u
def cpB (x y a u : Int) : Int := rdV (y * cosV a - x * sinV a) u
def lmB (n : Int) : Bool := decide (-4611686018427387903 <= n) && decide (n <= 4611686018427387903)
def cpP (x y a u : Int) : Bool := lmB (x * cosV a) && (lmB (y * sinV a) && (lmB (y * cosV a) && (lmB (x * sinV a) && (i64B a && i64B u))))
def sp4 {α β γ δ : Type} (d : Dec F α) (e : Dec F β) (g : Dec F γ) (k : Dec F δ) (r : α -> β -> γ -> δ -> AV F) (cd : α -> β -> γ -> δ -> List (Bool × Bool)) : FnSp F := plain fun args => match args with
 | [x, y, z, t] => match d.dec x with
   | some a => match e.dec y with
     | some b => match g.dec z with
       | some c => match k.dec t with
         | some q => some (r a b c q, cd a b c q)
         | none => none
       | none => none
     | none => none
   | none => none
 | _ => none
theorem sp4_ok {P : Program} {I : Interp F} {f : FuncId} {α β γ δ : Type} {d : Dec F α} {e : Dec F β} {g : Dec F γ} {k : Dec F δ} {r : α -> β -> γ -> δ -> AV F} {cd : α -> β -> γ -> δ -> List (Bool × Bool)} (h : ∀ a b c q, (∀ p ∈ cd a b c q, p.1 = p.2) -> ∃ u, (r a b c q).val = some u /\ Pl P f [d.enc a, e.enc b, g.enc c, k.enc q] u) : (sp4 d e g k r cd).ok P I f := plain_ok' fun args v cd' hg hc => by
 split at hg
 · rename_i x y z t
   split at hg
   · rename_i a ha
     split at hg
     · rename_i b hb
       split at hg
       · rename_i c' hc'
         split at hg
         · rename_i q hq
           cases hg
           obtain ⟨u, h1, h2⟩ := h a b c' q hc
           exact ⟨_, u, .cons (d.ok _ _ ha) (.cons (e.ok _ _ hb) (.cons (g.ok _ _ hc') (.cons (k.ok _ _ hq) .nil))), h1, h2⟩
         · cases hg
       · cases hg
     · cases hg
   · cases hg
 · cases hg
abbrev cpS : FnSp F := sp4 (dInt .i64) (dInt .i64) (dInt .i64) (dInt .i64) (fun x y a u => num2 (cpA x y a u) (cpB x y a u)) (fun x y a u => [(cpP x y a u, true)])
theorem sq_nn (x : Int) : 0 <= x * x := by
 rcases Int.le_total 0 x with h | h
 · exact Int.mul_nonneg h h
 · exact Int.mul_nonneg_of_nonpos_of_nonpos h h
theorem sq_lt {a b : Int} (h0 : 0 <= b) (h : b < a) : b * b < a * a := by
 have e : a * a = b * b + (b * (a - b) + b * (a - b)) + (a - b) * (a - b) := by grind
 have h1 := Int.mul_nonneg h0 (show 0 <= a - b by omega)
 have h2 := Int.mul_pos (show 0 < a - b by omega) (show 0 < a - b by omega)
 omega
theorem sq_le {a b : Int} (hb : 0 <= b) (h : a * a <= b * b) : -b <= a /\ a <= b := by
 constructor
 · apply Int.not_lt.1; intro h1
   have := sq_lt (a := -a) hb (by omega)
   rw [Int.neg_mul_neg] at this; omega
 · apply Int.not_lt.1; intro h1
   have := sq_lt (a := a) hb (by omega)
   omega
theorem sq_bd {a b : Int} (h1 : -b <= a) (h2 : a <= b) : a * a <= b * b := (mul_bd ⟨h1, h2⟩ ⟨h1, h2⟩).2
theorem circ_bd {x y c s X C K : Int} (hX : x * x + y * y <= X) (hC : c * c + s * s <= C) (hK : 0 <= K) (h : X * C <= K * K) : (-K <= x * c + y * s /\ x * c + y * s <= K) /\ -K <= y * c - x * s /\ y * c - x * s <= K := by
 have h1 : (x * x + y * y) * (c * c + s * s) = (x * c + y * s) * (x * c + y * s) + (y * c - x * s) * (y * c - x * s) := by grind
 have h2 : (x * x + y * y) * (c * c + s * s) <= X * (c * c + s * s) := Int.mul_le_mul_of_nonneg_right hX (by have := sq_nn c; have := sq_nn s; omega)
 have h3 : X * (c * c + s * s) <= X * C := Int.mul_le_mul_of_nonneg_left hC (by have := sq_nn x; have := sq_nn y; omega)
 have h4 := sq_nn (x * c + y * s)
 have h5 := sq_nn (y * c - x * s)
 exact ⟨sq_le hK (by omega), sq_le hK (by omega)⟩
theorem gk_ok {v : V3} : ∀ (n : Nat) (k : Int), vE ⟨v.x * k, v.y * k, v.z * k⟩ = 0 -> vE ⟨v.x * gk n v k, v.y * gk n v k, v.z * gk n v k⟩ = 0
 | 0, k, h => h
 | n + 1, k, h => by
   have d2 : ∀ x : Int, x * k * 2 = x * (k * 2) := fun x => Int.mul_assoc _ _ _
   by_cases g : vE ⟨v.x * k * 2, v.y * k * 2, v.z * k * 2⟩ = 0
   · rw [gk, if_pos g]
     rw [d2, d2, d2] at g
     exact gk_ok n (k * 2) g
   · rw [gk, if_neg g]; exact h
theorem gr_ok {v : V3} (h : vE v = 0) : vE (grV v) = 0 := by
 unfold grV
 rw [if_pos h]
 exact gk_ok 21 1 (by simpa using h)
theorem cpP_iff {x y a u : Int} : cpP x y a u = true ↔ (-4611686018427387903 <= x * cosV a /\ x * cosV a <= 4611686018427387903) /\ (-4611686018427387903 <= y * sinV a /\ y * sinV a <= 4611686018427387903) /\ (-4611686018427387903 <= y * cosV a /\ y * cosV a <= 4611686018427387903) /\ (-4611686018427387903 <= x * sinV a /\ x * sinV a <= 4611686018427387903) /\ i64B a = true /\ i64B u = true := by
 unfold cpP lmB
 simp only [Bool.and_eq_true, decide_eq_true_eq]
def hzL (s : Si) (t : Int) : Int := t % 4294967296 + s.lon
def hzO (s : Si) (t : Int) (v : V3) : Int := cpA (grV v).x (grV v).y (hzL s t) 1048576
def hzE (s : Si) (t : Int) (v : V3) : Int := cpB (grV v).x (grV v).y (hzL s t) 1048576
def hzU (s : Si) (t : Int) (v : V3) : Int := cpA (hzO s t v) (1024 * (grV v).z) s.lat 1073741824
def hzN (s : Si) (t : Int) (v : V3) : Int := cpB (hzO s t v) (1024 * (grV v).z) s.lat 1073741824
def hzS (s : Si) (t : Int) (v : V3) : Int := isq (hzN s t v * hzN s t v + hzE s t v * hzE s t v).toNat
def azA (s : Si) (t : Int) (v : V3) : Int := atanV (hzE s t v) (hzN s t v)
def alA (s : Si) (t : Int) (v : V3) : Int := if atanV (hzU s t v) (hzS s t v) > 2147483648 then atanV (hzU s t v) (hzS s t v) - 4294967296 else atanV (hzU s t v) (hzS s t v)
def aimAz (s : Si) (t : Int) (v : V3) : Int := if sE s ≠ 0 then 0 else if vE v ≠ 0 then 0 else azA s t v
def aimAl (s : Si) (t : Int) (v : V3) : Int := if sE s ≠ 0 then 0 else if vE v ≠ 0 then 0 else alA s t v
def aimE (s : Si) (t : Int) (v : V3) : Int := if sE s ≠ 0 then sE s else vE v
theorem hzL_eq {s : Si} {t : Int} (hs : sE s = 0) : IntKind.i64.wrap (mdV t 4294967296 + s.lon) = hzL s t := by
 have := sE_iff.1 hs
 have e : mdV t 4294967296 = t % 4294967296 := by unfold mdV; rw [if_neg (by omega)]
 rw [e]; exact v64 (by omega) (by omega)
theorem atanV_in (y x : Int) : 0 <= atanV y x /\ atanV y x < 4294967296 := by
 unfold atanV
 split
 · split
   · omega
   · unfold angV; omega
 · omega
theorem comp_in {x y a X K : Int} (h : x * x + y * y <= X) (hK : 0 <= K) (hX : X * 1152921506754330624 <= K * K) : (-K <= x * cosV a + y * sinV a /\ x * cosV a + y * sinV a <= K) /\ -K <= y * cosV a - x * sinV a /\ y * cosV a - x * sinV a <= K :=
 circ_bd h (C := 1152921506754330624) (by have := circle a; omega) hK hX
theorem gr_in {v : V3} (hv : vE v = 0) : (-1048576 <= (grV v).x /\ (grV v).x <= 1048576) /\ (-1048576 <= (grV v).y /\ (grV v).y <= 1048576) /\ -1048576 <= (grV v).z /\ (grV v).z <= 1048576 := (vE_iff.1 (gr_ok hv)).1
theorem aim_in {s : Si} {t : Int} {v : V3} (hs : sE s = 0) (hv : vE v = 0) :
   cpP (grV v).x (grV v).y (hzL s t) 1048576 = true /\ cpP (hzO s t v) (1024 * (grV v).z) s.lat 1073741824 = true /\ (-1048576 <= (grV v).z /\ (grV v).z <= 1048576) /\ (-1518500251 <= hzO s t v /\ hzO s t v <= 1518500251) /\ (-1518500251 <= hzE s t v /\ hzE s t v <= 1518500251) /\ (-1859775396 <= hzN s t v /\ hzN s t v <= 1859775396) /\ (-1859775396 <= hzU s t v /\ hzU s t v <= 1859775396) /\ (0 <= hzN s t v * hzN s t v /\ 0 <= hzE s t v * hzE s t v /\ hzN s t v * hzN s t v + hzE s t v * hzE s t v <= 9223372036854775807) := by
 obtain ⟨gx, gy, gz⟩ := gr_in hv
 have hs' := sE_iff.1 hs
 have i0 : i64B (hzL s t) = true := i64B_iff.2 (by unfold hzL; omega)
 have i1 : i64B s.lat = true := i64B_iff.2 (by omega)
 have cr := cos_range (hzL s t)
 have sr := sin_range (hzL s t)
 have q : (grV v).x * (grV v).x + (grV v).y * (grV v).y <= 2199023255552 := by
   have := sq_bd gx.1 gx.2; have := sq_bd gy.1 gy.2; omega
 have b1 := comp_in (a := hzL s t) q (K := 1592262919614354) (by omega) (by decide)
 have bO : -1518500251 <= hzO s t v /\ hzO s t v <= 1518500251 := by
   unfold hzO cpA rdV; generalize (grV v).x * cosV (hzL s t) + (grV v).y * sinV (hzL s t) = m at *
   rw [if_neg (by omega)]; split <;> omega
 have bE : -1518500251 <= hzE s t v /\ hzE s t v <= 1518500251 := by
   unfold hzE cpB rdV; generalize (grV v).y * cosV (hzL s t) - (grV v).x * sinV (hzL s t) = m at *
   rw [if_neg (by omega)]; split <;> omega
 have q2 : hzO s t v * hzO s t v + 1024 * (grV v).z * (1024 * (grV v).z) <= 1518500251 * 1518500251 + 1152921504606846976 := by
   have := sq_bd bO.1 bO.2
   have := sq_bd (a := 1024 * (grV v).z) (b := 1073741824) (by omega) (by omega)
   omega
 have b2 := comp_in (a := s.lat) q2 (K := 1996918625864795005) (by omega) (by decide)
 have bU : -1859775396 <= hzU s t v /\ hzU s t v <= 1859775396 := by
   unfold hzU cpA rdV; generalize hzO s t v * cosV s.lat + 1024 * (grV v).z * sinV s.lat = m at *
   rw [if_neg (by omega)]; split <;> omega
 have bN : -1859775396 <= hzN s t v /\ hzN s t v <= 1859775396 := by
   unfold hzN cpB rdV; generalize 1024 * (grV v).z * cosV s.lat - hzO s t v * sinV s.lat = m at *
   rw [if_neg (by omega)]; split <;> omega
 have p : ∀ {x c : Int}, -1518500251 <= x -> x <= 1518500251 -> -1073741824 <= c /\ c <= 1073741824 -> -4611686018427387903 <= x * c /\ x * c <= 4611686018427387903 := fun h1 h2 h3 => by
   have := mul_bd ⟨h1, h2⟩ h3; omega
 refine ⟨cpP_iff.2 ⟨p (by omega) (by omega) cr, p (by omega) (by omega) sr, p (by omega) (by omega) cr, p (by omega) (by omega) sr, i0, by decide⟩,
   cpP_iff.2 ⟨p (by omega) (by omega) (cos_range _), p (by omega) (by omega) (sin_range _), p (by omega) (by omega) (cos_range _), p (by omega) (by omega) (sin_range _), i1, by decide⟩, gz, bO, bE, bN, bU, sq_nn _, sq_nn _, ?_⟩
 have := sq_bd bN.1 bN.2
 have := sq_bd bE.1 bE.2
 omega
noncomputable abbrev gwLps : Lps Empty := [((23, [false, true, true]), gwD.sp (fun _ => true))]
theorem gwLps_ok : LpsOk Tryz.prog noFacts gwLps Tryz.f64.ntmps (bodyOf Tryz.f64) := lps_cons (fun _ x hx => gwD_ok x hx) lps_nil
theorem gwf_1 (v : V3) : evR (ctxLp Tryz.prog noFacts (fun _ => false) libH2 [] gwLps) Tryz.f64 [(v3A v)] [true] = some (AV.w (AW.agg [AC.int IntKind.i64 0, AC.int IntKind.i64 0, AC.int IntKind.i64 0]), (pickL [(vE v != 0, true)] [0])) := by kernel_rfl
theorem gwf_0 (v : V3) : evR (ctxLp Tryz.prog noFacts (fun _ => false) libH2 [] gwLps) Tryz.f64 [(v3A v)] [false] = some (AV.w (AW.agg [AC.int IntKind.i64 (grV v).x, AC.int IntKind.i64 (grV v).y, AC.int IntKind.i64 (grV v).z]), (pickL [(vE v != 0, false), (decide (vE v = 0), true)] [0, 1])) := by kernel_rfl
theorem gwf_pl (v : V3) : Pl Tryz.prog 64 [v3V v] (v3V (grV v)) := fun w => by
 by_cases hv : vE v = 0
 · have c1 : (vE v != 0) = false := by rw [hv]; rfl
   have c2 : decide (vE v = 0) = true := decide_eq_true hv
   refine evR_calls (I := noFacts) (v := v3V (grV v)) (ctxLp_ok libH2_ok (eq_none _) (fns_nil _) (fun f fn h => by cases h)) (by kernel_rfl) Tryz.func64 rfl gwLps_ok (gwf_0 v) rfl (all2_R (.cons rfl .nil)) rfl w (Nat.zero_le _) (pickL_ok ?_ _)
   repeat' (first | exact cd_nil | refine cd_cons ?_ ?_)
   all_goals first | rfl | with_reducible assumption
 · have c1 : (vE v != 0) = true := by simpa using hv
   rw [show grV v = ⟨0, 0, 0⟩ from if_neg hv]
   refine evR_calls (I := noFacts) (v := (v3V ⟨0, 0, 0⟩)) (ctxLp_ok libH2_ok (eq_none _) (fns_nil _) (fun f fn h => by cases h)) (by kernel_rfl) Tryz.func64 rfl gwLps_ok (gwf_1 v) rfl (all2_R (.cons rfl .nil)) rfl w (Nat.zero_le _) (pickL_ok ?_ _)
   repeat' (first | exact cd_nil | refine cd_cons ?_ ?_)
   all_goals first | rfl | with_reducible assumption

noncomputable abbrev libH5 : List (Nat × FnSp Empty) := [(119, sp1 (dInt .i64) (fun a => aInt .i64 (cosV a)) (fun _ => [])), (120, sp1 (dInt .i64) (fun a => aInt .i64 (sinV a)) (fun a => [(i64B a, true)])), (202, rdT)]
theorem libH5_ok : LibOk Tryz.prog noFacts (lib1 libH5) := (lib1_cons (sp1_ok fun a _ => ⟨_, rfl, cosf_pl a⟩) Tryz.call119 (lib1_cons (sp1_ok fun a hc => ⟨_, rfl, sinf_pl a (cd1 hc)⟩) Tryz.call120 (lib1_cons (rdT_ok _) Tryz.call202 (lib1_nil _ _))))
theorem cpf_ (x : Int) (y : Int) (a : Int) (u : Int) : evR (ctxOf Tryz.prog noFacts (fun _ => false) libH5) Tryz.f176 [(.w (.one (.int .i64 x))), (.w (.one (.int .i64 y))), (.w (.one (.int .i64 a))), (.w (.one (.int .i64 u)))] [] = some (AV.tup [AW.one (AC.int IntKind.i64 (rdV (IntKind.i64.wrap (IntKind.i64.wrap (x * cosV a) + IntKind.i64.wrap (y * sinV a))) u)), AW.one (AC.int IntKind.i64 (rdV (IntKind.i64.wrap (IntKind.i64.wrap (y * cosV a) - IntKind.i64.wrap (x * sinV a))) u))], (pickL [(i64B a, true), (i64B (IntKind.i64.wrap (IntKind.i64.wrap (x * cosV a) + IntKind.i64.wrap (y * sinV a))), true), (i64B u, true), (i64B (IntKind.i64.wrap (IntKind.i64.wrap (y * cosV a) - IntKind.i64.wrap (x * sinV a))), true)] [0, 1, 2, 3, 2])) := by kernel_rfl
theorem cpf_pl (x y a u : Int) (hp : cpP x y a u = true) : Pl Tryz.prog 176 [.int .i64 x, .int .i64 y, .int .i64 a, .int .i64 u] (.tuple #[.int .i64 (cpA x y a u), .int .i64 (cpB x y a u)]) := fun w => by
 obtain ⟨h1, h2, h3, h4, h5, h6⟩ := cpP_iff.1 hp
 have e1 : IntKind.i64.wrap (IntKind.i64.wrap (x * cosV a) + IntKind.i64.wrap (y * sinV a)) = x * cosV a + y * sinV a := by rw [v64 (x := x * cosV a) (by omega) (by omega), v64 (x := y * sinV a) (by omega) (by omega), v64 (by omega) (by omega)]
 have e2 : IntKind.i64.wrap (IntKind.i64.wrap (y * cosV a) - IntKind.i64.wrap (x * sinV a)) = y * cosV a - x * sinV a := by rw [v64 (x := y * cosV a) (by omega) (by omega), v64 (x := x * sinV a) (by omega) (by omega), v64 (by omega) (by omega)]
 have L := cpf_ x y a u
 rw [e1, e2] at L
 have i1 : i64B (x * cosV a + y * sinV a) = true := i64B_iff.2 (by omega)
 have i2 : i64B (y * cosV a - x * sinV a) = true := i64B_iff.2 (by omega)
 refine evR_calls (I := noFacts) (v := .tuple #[.int .i64 (cpA x y a u), .int .i64 (cpB x y a u)]) (ctxOf_ok libH5_ok (eq_none _)) (by kernel_rfl) Tryz.func176 rfl lps_nil L rfl (all2_R (.cons rfl (.cons rfl (.cons rfl (.cons rfl .nil))))) rfl w (Nat.zero_le _) (pickL_ok ?_ _)
 repeat' (first | exact cd_nil | refine cd_cons ?_ ?_)
 all_goals first | rfl | with_reducible assumption

noncomputable abbrev libH6 : List (Nat × FnSp Empty) := [(61, sES), (62, vES), (64, grwS), (165, modT), (176, cpS), (177, sp2 (dInt .i64) (dInt .i64) (fun y x => num2 (atanV y x) (atanE y x)) (fun _ _ => [])), (178, sp1 (dInt .i64) (fun a => aInt .i64 (isq a.toNat)) (fun a => [(i64B a, true)]))]
theorem libH6_ok : LibOk Tryz.prog noFacts (lib1 libH6) := (lib1_cons (sp1_ok fun s _ => ⟨_, rfl, site_pl s⟩) Tryz.call61 (lib1_cons (sp1_ok fun v _ => ⟨_, rfl, vch_pl v⟩) Tryz.call62 (lib1_cons (sp1_ok fun v _ => ⟨_, rfl, gwf_pl v⟩) Tryz.call64 (lib1_cons (modT_ok _) Tryz.call165 (lib1_cons (sp4_ok fun x y a u hc => ⟨_, rfl, cpf_pl x y a u (c1' hc)⟩) Tryz.call176 (lib1_cons (sp2_ok fun y x _ => ⟨_, rfl, atan_pl y x⟩) Tryz.call177 (lib1_cons (sp1_ok fun a hc => ⟨_, rfl, fun w => sqrt_any a (i64B_iff.1 (c1' hc)).1 (i64B_iff.1 (c1' hc)).2 w⟩) Tryz.call178 (lib1_nil _ _))))))))
theorem aimf_1 (s : Si) (t : Int) (v : V3) : evR (ctxOf Tryz.prog noFacts (fun _ => false) libH6) Tryz.f140 [(siA s), (.w (.one (.int .i64 t))), (v3A v)] [true] = some (AV.tup [AW.agg [AC.int IntKind.i64 0, AC.int IntKind.i64 0], AW.one (AC.int IntKind.i64 (sE s))], (pickL [(sE s != 0, true)] [0])) := by kernel_rfl
theorem aimf_01 (s : Si) (t : Int) (v : V3) : evR (ctxOf Tryz.prog noFacts (fun _ => false) libH6) Tryz.f140 [(siA s), (.w (.one (.int .i64 t))), (v3A v)] [false, true] = some (AV.tup [AW.agg [AC.int IntKind.i64 0, AC.int IntKind.i64 0], AW.one (AC.int IntKind.i64 (vE v))], (pickL [(sE s != 0, false), (vE v != 0, true)] [0, 1])) := by kernel_rfl
theorem aimf_001 (s : Si) (t : Int) (v : V3) : evR (ctxOf Tryz.prog noFacts (fun _ => false) libH6) Tryz.f140 [(siA s), (.w (.one (.int .i64 t))), (v3A v)] [false, false, true] = some (AV.tup [AW.agg [AC.int IntKind.i64 (atanV (cpB (grV v).x (grV v).y (IntKind.i64.wrap (mdV t 4294967296 + s.lon)) 1048576) (cpB (cpA (grV v).x (grV v).y (IntKind.i64.wrap (mdV t 4294967296 + s.lon)) 1048576) (IntKind.i64.wrap (1024 * (grV v).z)) s.lat 1073741824)), AC.int IntKind.i64 (IntKind.i64.wrap (atanV (cpA (cpA (grV v).x (grV v).y (IntKind.i64.wrap (mdV t 4294967296 + s.lon)) 1048576) (IntKind.i64.wrap (1024 * (grV v).z)) s.lat 1073741824) (isq (IntKind.i64.wrap (IntKind.i64.wrap (cpB (cpA (grV v).x (grV v).y (IntKind.i64.wrap (mdV t 4294967296 + s.lon)) 1048576) (IntKind.i64.wrap (1024 * (grV v).z)) s.lat 1073741824 * cpB (cpA (grV v).x (grV v).y (IntKind.i64.wrap (mdV t 4294967296 + s.lon)) 1048576) (IntKind.i64.wrap (1024 * (grV v).z)) s.lat 1073741824) + IntKind.i64.wrap (cpB (grV v).x (grV v).y (IntKind.i64.wrap (mdV t 4294967296 + s.lon)) 1048576 * cpB (grV v).x (grV v).y (IntKind.i64.wrap (mdV t 4294967296 + s.lon)) 1048576))).toNat) - 4294967296))], AW.one (AC.int IntKind.i64 0)], (pickL [(sE s != 0, false), (vE v != 0, false), (i64B t, true), (i64B 4294967296, true), (cpP (grV v).x (grV v).y (IntKind.i64.wrap (mdV t 4294967296 + s.lon)) 1048576, true), (cpP (cpA (grV v).x (grV v).y (IntKind.i64.wrap (mdV t 4294967296 + s.lon)) 1048576) (IntKind.i64.wrap (1024 * (grV v).z)) s.lat 1073741824, true), (i64B (IntKind.i64.wrap (IntKind.i64.wrap (cpB (cpA (grV v).x (grV v).y (IntKind.i64.wrap (mdV t 4294967296 + s.lon)) 1048576) (IntKind.i64.wrap (1024 * (grV v).z)) s.lat 1073741824 * cpB (cpA (grV v).x (grV v).y (IntKind.i64.wrap (mdV t 4294967296 + s.lon)) 1048576) (IntKind.i64.wrap (1024 * (grV v).z)) s.lat 1073741824) + IntKind.i64.wrap (cpB (grV v).x (grV v).y (IntKind.i64.wrap (mdV t 4294967296 + s.lon)) 1048576 * cpB (grV v).x (grV v).y (IntKind.i64.wrap (mdV t 4294967296 + s.lon)) 1048576))), true), (decide (atanV (cpA (cpA (grV v).x (grV v).y (IntKind.i64.wrap (mdV t 4294967296 + s.lon)) 1048576) (IntKind.i64.wrap (1024 * (grV v).z)) s.lat 1073741824) (isq (IntKind.i64.wrap (IntKind.i64.wrap (cpB (cpA (grV v).x (grV v).y (IntKind.i64.wrap (mdV t 4294967296 + s.lon)) 1048576) (IntKind.i64.wrap (1024 * (grV v).z)) s.lat 1073741824 * cpB (cpA (grV v).x (grV v).y (IntKind.i64.wrap (mdV t 4294967296 + s.lon)) 1048576) (IntKind.i64.wrap (1024 * (grV v).z)) s.lat 1073741824) + IntKind.i64.wrap (cpB (grV v).x (grV v).y (IntKind.i64.wrap (mdV t 4294967296 + s.lon)) 1048576 * cpB (grV v).x (grV v).y (IntKind.i64.wrap (mdV t 4294967296 + s.lon)) 1048576))).toNat) > 2147483648), true)] [0, 1, 2, 3, 4, 5, 6, 7])) := by kernel_rfl
theorem aimf_000 (s : Si) (t : Int) (v : V3) : evR (ctxOf Tryz.prog noFacts (fun _ => false) libH6) Tryz.f140 [(siA s), (.w (.one (.int .i64 t))), (v3A v)] [false, false, false] = some (AV.tup [AW.agg [AC.int IntKind.i64 (atanV (cpB (grV v).x (grV v).y (IntKind.i64.wrap (mdV t 4294967296 + s.lon)) 1048576) (cpB (cpA (grV v).x (grV v).y (IntKind.i64.wrap (mdV t 4294967296 + s.lon)) 1048576) (IntKind.i64.wrap (1024 * (grV v).z)) s.lat 1073741824)), AC.int IntKind.i64 (atanV (cpA (cpA (grV v).x (grV v).y (IntKind.i64.wrap (mdV t 4294967296 + s.lon)) 1048576) (IntKind.i64.wrap (1024 * (grV v).z)) s.lat 1073741824) (isq (IntKind.i64.wrap (IntKind.i64.wrap (cpB (cpA (grV v).x (grV v).y (IntKind.i64.wrap (mdV t 4294967296 + s.lon)) 1048576) (IntKind.i64.wrap (1024 * (grV v).z)) s.lat 1073741824 * cpB (cpA (grV v).x (grV v).y (IntKind.i64.wrap (mdV t 4294967296 + s.lon)) 1048576) (IntKind.i64.wrap (1024 * (grV v).z)) s.lat 1073741824) + IntKind.i64.wrap (cpB (grV v).x (grV v).y (IntKind.i64.wrap (mdV t 4294967296 + s.lon)) 1048576 * cpB (grV v).x (grV v).y (IntKind.i64.wrap (mdV t 4294967296 + s.lon)) 1048576))).toNat))], AW.one (AC.int IntKind.i64 0)], (pickL [(sE s != 0, false), (vE v != 0, false), (i64B t, true), (i64B 4294967296, true), (cpP (grV v).x (grV v).y (IntKind.i64.wrap (mdV t 4294967296 + s.lon)) 1048576, true), (cpP (cpA (grV v).x (grV v).y (IntKind.i64.wrap (mdV t 4294967296 + s.lon)) 1048576) (IntKind.i64.wrap (1024 * (grV v).z)) s.lat 1073741824, true), (i64B (IntKind.i64.wrap (IntKind.i64.wrap (cpB (cpA (grV v).x (grV v).y (IntKind.i64.wrap (mdV t 4294967296 + s.lon)) 1048576) (IntKind.i64.wrap (1024 * (grV v).z)) s.lat 1073741824 * cpB (cpA (grV v).x (grV v).y (IntKind.i64.wrap (mdV t 4294967296 + s.lon)) 1048576) (IntKind.i64.wrap (1024 * (grV v).z)) s.lat 1073741824) + IntKind.i64.wrap (cpB (grV v).x (grV v).y (IntKind.i64.wrap (mdV t 4294967296 + s.lon)) 1048576 * cpB (grV v).x (grV v).y (IntKind.i64.wrap (mdV t 4294967296 + s.lon)) 1048576))), true), (decide (atanV (cpA (cpA (grV v).x (grV v).y (IntKind.i64.wrap (mdV t 4294967296 + s.lon)) 1048576) (IntKind.i64.wrap (1024 * (grV v).z)) s.lat 1073741824) (isq (IntKind.i64.wrap (IntKind.i64.wrap (cpB (cpA (grV v).x (grV v).y (IntKind.i64.wrap (mdV t 4294967296 + s.lon)) 1048576) (IntKind.i64.wrap (1024 * (grV v).z)) s.lat 1073741824 * cpB (cpA (grV v).x (grV v).y (IntKind.i64.wrap (mdV t 4294967296 + s.lon)) 1048576) (IntKind.i64.wrap (1024 * (grV v).z)) s.lat 1073741824) + IntKind.i64.wrap (cpB (grV v).x (grV v).y (IntKind.i64.wrap (mdV t 4294967296 + s.lon)) 1048576 * cpB (grV v).x (grV v).y (IntKind.i64.wrap (mdV t 4294967296 + s.lon)) 1048576))).toNat) > 2147483648), false)] [0, 1, 2, 3, 4, 5, 6, 7])) := by kernel_rfl
theorem aimf_pl (s : Si) (t : Int) (v : V3) (ht : i64B t = true) : Pl Tryz.prog 140 [siV s, .int .i64 t, v3V v] (.tuple #[.agg #[.int .i64 (aimAz s t v), .int .i64 (aimAl s t v)], .int .i64 (aimE s t v)]) := fun w => by
 unfold aimAz aimAl aimE
 by_cases hs : sE s = 0
 · have c1 : (sE s != 0) = false := by rw [hs]; rfl
   have n1 : ¬ sE s ≠ 0 := fun h => h hs
   simp only [if_neg n1]
   by_cases hv : vE v = 0
   · have c2 : (vE v != 0) = false := by rw [hv]; rfl
     have n2 : ¬ vE v ≠ 0 := fun h => h hv
     simp only [if_neg n2]
     rw [hv]
     obtain ⟨p1, p2, b1, b2, b3, b4, b5, b6⟩ := aim_in (t := t) hs hv
     have eL : IntKind.i64.wrap (mdV t 4294967296 + s.lon) = hzL s t := hzL_eq hs
     have eZ : IntKind.i64.wrap (1024 * (grV v).z) = 1024 * (grV v).z := v64 (by omega) (by omega)
     have eQ : IntKind.i64.wrap (IntKind.i64.wrap (hzN s t v * hzN s t v) + IntKind.i64.wrap (hzE s t v * hzE s t v)) = hzN s t v * hzN s t v + hzE s t v * hzE s t v := by
       rw [v64 (x := hzN s t v * hzN s t v) (by omega) (by omega), v64 (x := hzE s t v * hzE s t v) (by omega) (by omega), v64 (by omega) (by omega)]
     have iQ : i64B (hzN s t v * hzN s t v + hzE s t v * hzE s t v) = true := i64B_iff.2 (by omega)
     by_cases hA : atanV (hzU s t v) (hzS s t v) > 2147483648
     · have c3 : decide (atanV (hzU s t v) (hzS s t v) > 2147483648) = true := decide_eq_true hA
       have eW : IntKind.i64.wrap (atanV (hzU s t v) (hzS s t v) - 4294967296) = atanV (hzU s t v) (hzS s t v) - 4294967296 := by
         have := atanV_in (hzU s t v) (hzS s t v)
         exact v64 (by omega) (by omega)
       have L := aimf_001 s t v
       rw [eL] at L
       rw [show cpB (grV v).x (grV v).y (hzL s t) 1048576 = hzE s t v from rfl, show cpA (grV v).x (grV v).y (hzL s t) 1048576 = hzO s t v from rfl, eZ] at L
       rw [show cpB (hzO s t v) (1024 * (grV v).z) s.lat 1073741824 = hzN s t v from rfl, show cpA (hzO s t v) (1024 * (grV v).z) s.lat 1073741824 = hzU s t v from rfl, eQ] at L
       rw [show ((isq (hzN s t v * hzN s t v + hzE s t v * hzE s t v).toNat : Nat) : Int) = hzS s t v from rfl, eW] at L
       unfold alA
       rw [if_pos hA]
       refine evR_calls (I := noFacts) (v := .tuple #[.agg #[.int .i64 (azA s t v), .int .i64 (atanV (hzU s t v) (hzS s t v) - 4294967296)], .int .i64 (0)]) (ctxOf_ok libH6_ok (eq_none _)) (by kernel_rfl) Tryz.func140 rfl lps_nil L rfl (all2_R (.cons rfl (.cons rfl (.cons rfl .nil)))) rfl w (Nat.zero_le _) (pickL_ok ?_ _)
       repeat' (first | exact cd_nil | refine cd_cons ?_ ?_)
       all_goals first | rfl | with_reducible assumption
     · have c3 : decide (atanV (hzU s t v) (hzS s t v) > 2147483648) = false := decide_eq_false hA
       have L := aimf_000 s t v
       rw [eL] at L
       rw [show cpB (grV v).x (grV v).y (hzL s t) 1048576 = hzE s t v from rfl, show cpA (grV v).x (grV v).y (hzL s t) 1048576 = hzO s t v from rfl, eZ] at L
       rw [show cpB (hzO s t v) (1024 * (grV v).z) s.lat 1073741824 = hzN s t v from rfl, show cpA (hzO s t v) (1024 * (grV v).z) s.lat 1073741824 = hzU s t v from rfl, eQ] at L
       rw [show ((isq (hzN s t v * hzN s t v + hzE s t v * hzE s t v).toNat : Nat) : Int) = hzS s t v from rfl] at L
       unfold alA
       rw [if_neg hA]
       refine evR_calls (I := noFacts) (v := .tuple #[.agg #[.int .i64 (azA s t v), .int .i64 (atanV (hzU s t v) (hzS s t v))], .int .i64 (0)]) (ctxOf_ok libH6_ok (eq_none _)) (by kernel_rfl) Tryz.func140 rfl lps_nil L rfl (all2_R (.cons rfl (.cons rfl (.cons rfl .nil)))) rfl w (Nat.zero_le _) (pickL_ok ?_ _)
       repeat' (first | exact cd_nil | refine cd_cons ?_ ?_)
       all_goals first | rfl | with_reducible assumption
   · have c2 : (vE v != 0) = true := by simpa using hv
     have n2 : vE v ≠ 0 := hv
     simp only [if_pos n2]
     refine evR_calls (I := noFacts) (v := .tuple #[.agg #[.int .i64 (0), .int .i64 (0)], .int .i64 (vE v)]) (ctxOf_ok libH6_ok (eq_none _)) (by kernel_rfl) Tryz.func140 rfl lps_nil (aimf_01 s t v) rfl (all2_R (.cons rfl (.cons rfl (.cons rfl .nil)))) rfl w (Nat.zero_le _) (pickL_ok ?_ _)
     repeat' (first | exact cd_nil | refine cd_cons ?_ ?_)
     all_goals first | rfl | with_reducible assumption
 · have c1 : (sE s != 0) = true := by simpa using hs
   have n1 : sE s ≠ 0 := hs
   simp only [if_pos n1]
   refine evR_calls (I := noFacts) (v := .tuple #[.agg #[.int .i64 (0), .int .i64 (0)], .int .i64 (sE s)]) (ctxOf_ok libH6_ok (eq_none _)) (by kernel_rfl) Tryz.func140 rfl lps_nil (aimf_1 s t v) rfl (all2_R (.cons rfl (.cons rfl (.cons rfl .nil)))) rfl w (Nat.zero_le _) (pickL_ok ?_ _)
   repeat' (first | exact cd_nil | refine cd_cons ?_ ?_)
   all_goals first | rfl | with_reducible assumption

end
end Go.Proofs.YtmhhdedekblbnaaGreat.AtHz
