/-
 Package scale: rotations: what CheckRate, Angle, When and Sidereal return.
 Conditions: those of each theorem.
-/
import Derived.Test.YtmhhdedekblbnaaGreatProg
import Derived.Test.YtmhhdedekblbnaaGreatQEv2
import Derived.IntWalk
import Derived.Test.YtmhhdedekblbnaaGreatQNS
set_option maxRecDepth 100000
set_option linter.unusedVariables false
set_option linter.unusedSimpArgs false
namespace Go.Proofs.YtmhhdedekblbnaaGreat.AtRt
open Go.RowKit Ev Wd
open Go.Proofs.YtmhhdedekblbnaaGreat
variable {F : Type}
noncomputable section

structure Rt where
 t : Int
 a : Int
 n : Int
 d : Int
abbrev rtV (r : Rt) : Value := .agg #[.int .i64 r.t, .int .i64 r.a, .int .i64 r.n, .int .i64 r.d]
abbrev rtA (r : Rt) : AV F := .w (.agg [.int .i64 r.t, .int .i64 r.a, .int .i64 r.n, .int .i64 r.d])
def dRt : Dec F Rt where
 dec := fun x => match x with
   | .w (.agg [.int .i64 t, .int .i64 a, .int .i64 n, .int .i64 d]) => some ⟨t, a, n, d⟩
   | _ => none
 enc := rtV
 ok := fun x a h => by
   split at h
   · cases h; rfl
   · cases h
def dFq : Dec F (Int × Int) where
 dec := fun x => match x with
   | .w (.agg [.int .i64 n, .int .i64 d]) => some (n, d)
   | _ => none
 enc := fun p => .agg #[.int .i64 p.1, .int .i64 p.2]
 ok := fun x a h => by
   split at h
   · cases h; rfl
   · cases h
def fqB (n d : Int) : Bool := decide (-1152921504606846976 <= n) && (decide (n <= 1152921504606846976) && (decide (1 <= d) && decide (d <= 1152921504606846976)))
def chkQ (n d : Int) : Int := if fqB n d = true then (if 1 < Int.gcd n d then 3 else 0) else 4
def chk2Q (a b c e : Int) : Int := if chkQ a b = 0 then chkQ c e else chkQ a b
def cmpQ (a b c e : Int) : Int := if chk2Q a b c e = 0 then cmpI (a * e) (c * b) else 0
def tmQ (t : Int) : Bool := decide (-17592186044416 <= t) && decide (t <= 17592186044416)
def trB (a : Int) : Bool := decide (0 <= a) && decide (a < 4294967296)
def rtE (r : Rt) : Int := if (tmQ r.t && trB r.a) = true then (if chkQ r.n r.d = 0 then (if r.n <= 0 \/ 65536 * r.d < r.n then 1 else 0) else chkQ r.n r.d) else 4
def wA (r : Rt) (t : Int) : Int := r.a + (t - r.t) * r.n / r.d
def agV (r : Rt) (t : Int) : Int := if rtE r = 0 /\ tmQ t = true then wA r t % 4294967296 else 0
abbrev firS : FnSp F := sp1 dFq (fun p => aBool (fqB p.1 p.2)) (fun _ => [])
abbrev gcdS : FnSp F := sp2 (dInt .i64) (dInt .i64) (fun a b => aInt .i64 (gcdV a b)) (fun a b => [(i64B a, true), (i64B b, true)])
abbrev fckS : FnSp F := sp1 dFq (fun p => aInt .i64 (chkQ p.1 p.2)) (fun p => [(i64B p.1, true), (i64B p.2, true)])
abbrev fcbS : FnSp F := sp2 dFq dFq (fun p q => aInt .i64 (chk2Q p.1 p.2 q.1 q.2)) (fun p q => [(i64B p.1, true), (i64B p.2, true), (i64B q.1, true), (i64B q.2, true)])
abbrev fcmS : FnSp F := sp2 dFq dFq (fun p q => aInt .i64 (cmpQ p.1 p.2 q.1 q.2)) (fun p q => [(i64B p.1, true), (i64B p.2, true), (i64B q.1, true), (i64B q.2, true)])
abbrev tmQS : FnSp F := sp1 (dInt .i64) (fun t => aBool (tmQ t)) (fun _ => [])
abbrev trS : FnSp F := sp1 (dInt .i64) (fun t => aBool (trB t)) (fun _ => [])
abbrev rtS : FnSp F := sp1 dRt (fun r => aInt .i64 (rtE r)) (fun r => [(i64B r.n, true), (i64B r.d, true)])
abbrev waS : FnSp F := sp2 dRt (dInt .i64) (fun r t => aInt .i64 (wA r t)) (fun r t => [(rtE r == 0, true), (tmQ t, true)])
abbrev mdS : FnSp F := sp2 (dInt .i64) (dInt .i64) (fun a b => aInt .i64 (mdV a b)) (fun a b => [(i64B a, true), (i64B b, true)])
theorem v64 {x : Int} (h1 : -9223372036854775808 <= x) (h2 : x <= 9223372036854775807) : IntKind.i64.wrap x = x := by rw [IntKind.wrap_i64]; omega
theorem c2' {a b : Bool} (h : ∀ p ∈ [(a, true), (b, true)], p.1 = p.2) : a = true /\ b = true := ⟨h (a, true) (by simp), h (b, true) (by simp)⟩
theorem c4' {a b c d : Bool} (h : ∀ p ∈ [(a, true), (b, true), (c, true), (d, true)], p.1 = p.2) : a = true /\ b = true /\ c = true /\ d = true := ⟨h (a, true) (by simp), h (b, true) (by simp), h (c, true) (by simp), h (d, true) (by simp)⟩
theorem tmQ_iff {t : Int} : tmQ t = true ↔ -17592186044416 <= t /\ t <= 17592186044416 := by unfold tmQ; simp
theorem trB_iff {t : Int} : trB t = true ↔ 0 <= t /\ t < 4294967296 := by unfold trB; simp
theorem fqB_iff {n d : Int} : fqB n d = true ↔ -1152921504606846976 <= n /\ n <= 1152921504606846976 /\ 1 <= d /\ d <= 1152921504606846976 := by unfold fqB; simp
theorem gcdS_ok (I : Interp F) : gcdS.ok Tryz.prog I 153 := sp2_ok fun a b hc => by
 obtain ⟨h1, h2⟩ := c2' hc
 rw [i64B_iff] at h1 h2
 exact ⟨_, rfl, fun w => gcd_any a b h1.1 h1.2 h2.1 h2.2 w⟩
theorem mdS_ok (I : Interp F) : mdS.ok Tryz.prog I 165 := sp2_ok fun a b hc => by
 obtain ⟨h1, h2⟩ := c2' hc
 rw [i64B_iff] at h1 h2
 exact ⟨_, rfl, Pl.same fun w => mod_any a b h2.1 h2.2 w⟩
theorem tmq_l0 (t : Int) : evR (ctxOf Tryz.prog noFacts (fun _ => false) []) Tryz.f100 [(.w (.one (.int .i64 t)))] [true] = some (AV.w (AW.one (AC.bool (decide (t <= 17592186044416)))), [(decide (-17592186044416 <= t), true), (decide (-17592186044416 <= t), true), (decide (-17592186044416 <= t), true)]) := by kernel_rfl
theorem tmq_l1 (t : Int) : evR (ctxOf Tryz.prog noFacts (fun _ => false) []) Tryz.f100 [(.w (.one (.int .i64 t)))] [false] = some (AV.w (AW.one (AC.yes false)), [(decide (-17592186044416 <= t), false), (decide (-17592186044416 <= t), false), (decide (-17592186044416 <= t), false)]) := by kernel_rfl
theorem tmq_t (t : Int) : Pl Tryz.prog 100 [.int .i64 t] (AV.get ((bif decide (-17592186044416 <= t) then (AV.w (AW.one (AC.bool (decide (t <= 17592186044416))))) else (AV.w (AW.one (AC.yes false)))) : AV Empty)) :=
 (pl_node (fun h0 => (pl_leaf rfl (ctxOf_ok (lib1_nil _ _) (eq_none _)) (by kernel_rfl) Tryz.func100 rfl (tmq_l0 t) rfl (all2_R (.cons rfl .nil)) rfl (cd_cons h0 (cd_cons h0 (cd_cons h0 cd_nil))))) (fun h0 => (pl_leaf rfl (ctxOf_ok (lib1_nil _ _) (eq_none _)) (by kernel_rfl) Tryz.func100 rfl (tmq_l1 t) rfl (all2_R (.cons rfl .nil)) rfl (cd_cons h0 (cd_cons h0 (cd_cons h0 cd_nil))))))
theorem tmq_pl (t : Int)  : Pl Tryz.prog 100 [.int .i64 t] (.bool (tmQ t)) := by
 refine Eq.mp (congrArg (Pl _ _ _) ?_) (tmq_t t)
 unfold tmQ; cases decide (-17592186044416 <= t) <;> rfl
theorem trq_l0 (t : Int) : evR (ctxOf Tryz.prog noFacts (fun _ => false) []) Tryz.f101 [(.w (.one (.int .i64 t)))] [true] = some (AV.w (AW.one (AC.bool (decide (t < 4294967296)))), [(decide (0 <= t), true), (decide (0 <= t), true), (decide (0 <= t), true)]) := by kernel_rfl
theorem trq_l1 (t : Int) : evR (ctxOf Tryz.prog noFacts (fun _ => false) []) Tryz.f101 [(.w (.one (.int .i64 t)))] [false] = some (AV.w (AW.one (AC.yes false)), [(decide (0 <= t), false), (decide (0 <= t), false), (decide (0 <= t), false)]) := by kernel_rfl
theorem trq_t (t : Int) : Pl Tryz.prog 101 [.int .i64 t] (AV.get ((bif decide (0 <= t) then (AV.w (AW.one (AC.bool (decide (t < 4294967296))))) else (AV.w (AW.one (AC.yes false)))) : AV Empty)) :=
 (pl_node (fun h0 => (pl_leaf rfl (ctxOf_ok (lib1_nil _ _) (eq_none _)) (by kernel_rfl) Tryz.func101 rfl (trq_l0 t) rfl (all2_R (.cons rfl .nil)) rfl (cd_cons h0 (cd_cons h0 (cd_cons h0 cd_nil))))) (fun h0 => (pl_leaf rfl (ctxOf_ok (lib1_nil _ _) (eq_none _)) (by kernel_rfl) Tryz.func101 rfl (trq_l1 t) rfl (all2_R (.cons rfl .nil)) rfl (cd_cons h0 (cd_cons h0 (cd_cons h0 cd_nil))))))
theorem trq_pl (t : Int)  : Pl Tryz.prog 101 [.int .i64 t] (.bool (trB t)) := by
 refine Eq.mp (congrArg (Pl _ _ _) ?_) (trq_t t)
 unfold trB; cases decide (0 <= t) <;> rfl
theorem fir_l0 (a : Int) (b : Int) : evR (ctxOf Tryz.prog noFacts (fun _ => false) []) Tryz.f152 [(.w (.agg [.int .i64 a, .int .i64 b]))] [true, true, true] = some (AV.w (AW.one (AC.bool (decide (b <= 1152921504606846976)))), [(decide (-1152921504606846976 <= a), true), (decide (-1152921504606846976 <= a), true), (decide (-1152921504606846976 <= a), true), (decide (-1152921504606846976 <= a), true), (decide (a <= 1152921504606846976), true), (decide (a <= 1152921504606846976), true), (decide (a <= 1152921504606846976), true), (decide (a <= 1152921504606846976), true), (decide (1 <= b), true), (decide (1 <= b), true), (decide (1 <= b), true), (decide (1 <= b), true)]) := by kernel_rfl
theorem fir_l1 (a : Int) (b : Int) : evR (ctxOf Tryz.prog noFacts (fun _ => false) []) Tryz.f152 [(.w (.agg [.int .i64 a, .int .i64 b]))] [true, true, false] = some (AV.w (AW.one (AC.yes false)), [(decide (-1152921504606846976 <= a), true), (decide (-1152921504606846976 <= a), true), (decide (-1152921504606846976 <= a), true), (decide (-1152921504606846976 <= a), true), (decide (a <= 1152921504606846976), true), (decide (a <= 1152921504606846976), true), (decide (a <= 1152921504606846976), true), (decide (a <= 1152921504606846976), true), (decide (1 <= b), false), (decide (1 <= b), false), (decide (1 <= b), false), (decide (1 <= b), false)]) := by kernel_rfl
theorem fir_l2 (a : Int) (b : Int) : evR (ctxOf Tryz.prog noFacts (fun _ => false) []) Tryz.f152 [(.w (.agg [.int .i64 a, .int .i64 b]))] [true, false] = some (AV.w (AW.one (AC.yes false)), [(decide (-1152921504606846976 <= a), true), (decide (-1152921504606846976 <= a), true), (decide (-1152921504606846976 <= a), true), (decide (-1152921504606846976 <= a), true), (decide (a <= 1152921504606846976), false), (decide (a <= 1152921504606846976), false), (decide (a <= 1152921504606846976), false), (decide (a <= 1152921504606846976), false), (false, false), (false, false), (false, false), (false, false)]) := by kernel_rfl
theorem fir_l3 (a : Int) (b : Int) : evR (ctxOf Tryz.prog noFacts (fun _ => false) []) Tryz.f152 [(.w (.agg [.int .i64 a, .int .i64 b]))] [false] = some (AV.w (AW.one (AC.yes false)), [(decide (-1152921504606846976 <= a), false), (decide (-1152921504606846976 <= a), false), (decide (-1152921504606846976 <= a), false), (decide (-1152921504606846976 <= a), false), (false, false), (false, false), (false, false), (false, false), (false, false), (false, false), (false, false), (false, false)]) := by kernel_rfl
theorem fir_t (a : Int) (b : Int) : Pl Tryz.prog 152 [.agg #[.int .i64 a, .int .i64 b]] (AV.get ((bif decide (-1152921504606846976 <= a) then (bif decide (a <= 1152921504606846976) then (bif decide (1 <= b) then (AV.w (AW.one (AC.bool (decide (b <= 1152921504606846976))))) else (AV.w (AW.one (AC.yes false)))) else (AV.w (AW.one (AC.yes false)))) else (AV.w (AW.one (AC.yes false)))) : AV Empty)) :=
 (pl_node (fun h0 => (pl_node (fun h1 => (pl_node (fun h2 => (pl_leaf rfl (ctxOf_ok (lib1_nil _ _) (eq_none _)) (by kernel_rfl) Tryz.func152 rfl (fir_l0 a b) rfl (all2_R (.cons rfl .nil)) rfl (cd_cons h0 (cd_cons h0 (cd_cons h0 (cd_cons h0 (cd_cons h1 (cd_cons h1 (cd_cons h1 (cd_cons h1 (cd_cons h2 (cd_cons h2 (cd_cons h2 (cd_cons h2 cd_nil)))))))))))))) (fun h2 => (pl_leaf rfl (ctxOf_ok (lib1_nil _ _) (eq_none _)) (by kernel_rfl) Tryz.func152 rfl (fir_l1 a b) rfl (all2_R (.cons rfl .nil)) rfl (cd_cons h0 (cd_cons h0 (cd_cons h0 (cd_cons h0 (cd_cons h1 (cd_cons h1 (cd_cons h1 (cd_cons h1 (cd_cons h2 (cd_cons h2 (cd_cons h2 (cd_cons h2 cd_nil)))))))))))))))) (fun h1 => (pl_leaf rfl (ctxOf_ok (lib1_nil _ _) (eq_none _)) (by kernel_rfl) Tryz.func152 rfl (fir_l2 a b) rfl (all2_R (.cons rfl .nil)) rfl (cd_cons h0 (cd_cons h0 (cd_cons h0 (cd_cons h0 (cd_cons h1 (cd_cons h1 (cd_cons h1 (cd_cons h1 (cd_cons rfl (cd_cons rfl (cd_cons rfl (cd_cons rfl cd_nil)))))))))))))))) (fun h0 => (pl_leaf rfl (ctxOf_ok (lib1_nil _ _) (eq_none _)) (by kernel_rfl) Tryz.func152 rfl (fir_l3 a b) rfl (all2_R (.cons rfl .nil)) rfl (cd_cons h0 (cd_cons h0 (cd_cons h0 (cd_cons h0 (cd_cons rfl (cd_cons rfl (cd_cons rfl (cd_cons rfl (cd_cons rfl (cd_cons rfl (cd_cons rfl (cd_cons rfl cd_nil)))))))))))))))
theorem fir_pl (a : Int) (b : Int)  : Pl Tryz.prog 152 [.agg #[.int .i64 a, .int .i64 b]] (.bool (fqB a b)) := by
 refine Eq.mp (congrArg (Pl _ _ _) ?_) (fir_t a b)
 unfold fqB; cases decide (-1152921504606846976 <= a) <;> cases decide (a <= 1152921504606846976) <;> cases decide (1 <= b) <;> rfl
noncomputable abbrev libEA : List (Nat × FnSp Empty) := [(152, firS), (153, gcdS)]
theorem libEA_ok : LibOk Tryz.prog noFacts (lib1 libEA) := lib1_cons (sp1_ok fun p _ => ⟨_, rfl, fir_pl p.1 p.2⟩) Tryz.call152 (lib1_cons (gcdS_ok _) Tryz.call153 (lib1_nil _ _))
theorem gcd_gt {a b : Int} (h : fqB a b = true) : decide (gcdV a b > 1) = decide (1 < Int.gcd a b) := by
 rw [fqB_iff] at h
 have hg : Nat.gcd a.natAbs b.natAbs <= b.natAbs := Nat.gcd_le_right _ (by omega)
 have e : gcdV a b = (Int.gcd a b : Int) := by unfold gcdV; rw [if_neg (by omega)]; rfl
 rw [e]
 by_cases g : 1 < Int.gcd a b
 · rw [decide_eq_true g, decide_eq_true (by omega)]
 · rw [decide_eq_false g, decide_eq_false (by omega)]
theorem fck_l0 (a : Int) (b : Int) : evR (ctxOf Tryz.prog noFacts (fun _ => false) libEA) Tryz.f102 [(.w (.agg [.int .i64 a, .int .i64 b]))] [true] = some (AV.w (AW.one (AC.int IntKind.i64 4)), [(!fqB a b, true)]) := by kernel_rfl
theorem fck_l1 (a : Int) (b : Int) : evR (ctxOf Tryz.prog noFacts (fun _ => false) libEA) Tryz.f102 [(.w (.agg [.int .i64 a, .int .i64 b]))] [false, true] = some (AV.w (AW.one (AC.int IntKind.i64 3)), [(!fqB a b, false), (i64B a, true), (i64B b, true), (decide (gcdV a b > 1), true)]) := by kernel_rfl
theorem fck_l2 (a : Int) (b : Int) : evR (ctxOf Tryz.prog noFacts (fun _ => false) libEA) Tryz.f102 [(.w (.agg [.int .i64 a, .int .i64 b]))] [false, false] = some (AV.w (AW.one (AC.int IntKind.i64 0)), [(!fqB a b, false), (i64B a, true), (i64B b, true), (decide (gcdV a b > 1), false)]) := by kernel_rfl
theorem fck_t (a : Int) (b : Int) (s0 : (!fqB a b) = false -> (decide (gcdV a b > 1)) = true -> (i64B b) = true) (s1 : (!fqB a b) = false -> (decide (gcdV a b > 1)) = true -> (i64B a) = true) (s2 : (!fqB a b) = false -> (decide (gcdV a b > 1)) = false -> (i64B b) = true) (s3 : (!fqB a b) = false -> (decide (gcdV a b > 1)) = false -> (i64B a) = true) : Pl Tryz.prog 102 [.agg #[.int .i64 a, .int .i64 b]] (AV.get ((bif !fqB a b then (AV.w (AW.one (AC.int IntKind.i64 4))) else (bif decide (gcdV a b > 1) then (AV.w (AW.one (AC.int IntKind.i64 3))) else (AV.w (AW.one (AC.int IntKind.i64 0))))) : AV Empty)) :=
 (pl_node (fun h0 => (pl_leaf rfl (ctxOf_ok libEA_ok (eq_none _)) (by kernel_rfl) Tryz.func102 rfl (fck_l0 a b) rfl (all2_R (.cons rfl .nil)) rfl (cd_cons h0 cd_nil))) (fun h0 => (pl_node (fun h1 => (pl_leaf rfl (ctxOf_ok libEA_ok (eq_none _)) (by kernel_rfl) Tryz.func102 rfl (fck_l1 a b) rfl (all2_R (.cons rfl .nil)) rfl (cd_cons h0 (cd_cons (s1 h0 h1) (cd_cons (s0 h0 h1) (cd_cons h1 cd_nil)))))) (fun h1 => (pl_leaf rfl (ctxOf_ok libEA_ok (eq_none _)) (by kernel_rfl) Tryz.func102 rfl (fck_l2 a b) rfl (all2_R (.cons rfl .nil)) rfl (cd_cons h0 (cd_cons (s3 h0 h1) (cd_cons (s2 h0 h1) (cd_cons h1 cd_nil)))))))))
theorem fck_pl (a : Int) (b : Int) (ha : i64B a = true) (hb : i64B b = true) : Pl Tryz.prog 102 [.agg #[.int .i64 a, .int .i64 b]] (.int .i64 (chkQ a b)) := by
 refine Eq.mp (congrArg (Pl _ _ _) ?_) (fck_t a b (fun h0 h1 => by assumption) (fun h0 h1 => by assumption) (fun h0 h1 => by assumption) (fun h0 h1 => by assumption))
 unfold chkQ
 cases hq : fqB a b with
 | false => rfl
 | true =>
   rw [gcd_gt hq]
   by_cases g : 1 < Int.gcd a b
   · rw [decide_eq_true g, if_pos g]; rfl
   · rw [decide_eq_false g, if_neg g]; rfl
noncomputable abbrev libEB : List (Nat × FnSp Empty) := [(102, fckS)]
theorem libEB_ok : LibOk Tryz.prog noFacts (lib1 libEB) := lib1_cons (sp1_ok fun p hc => ⟨_, rfl, fck_pl p.1 p.2 (c2' hc).1 (c2' hc).2⟩) Tryz.call102 (lib1_nil _ _)
theorem fcb_l0 (a : Int) (b : Int) (c : Int) (e : Int) : evR (ctxOf Tryz.prog noFacts (fun _ => false) libEB) Tryz.f154 [(.w (.agg [.int .i64 a, .int .i64 b])), (.w (.agg [.int .i64 c, .int .i64 e]))] [true] = some (AV.w (AW.one (AC.int IntKind.i64 (chkQ a b))), [(i64B a, true), (i64B b, true), (chkQ a b != 0, true)]) := by kernel_rfl
theorem fcb_l1 (a : Int) (b : Int) (c : Int) (e : Int) : evR (ctxOf Tryz.prog noFacts (fun _ => false) libEB) Tryz.f154 [(.w (.agg [.int .i64 a, .int .i64 b])), (.w (.agg [.int .i64 c, .int .i64 e]))] [false] = some (AV.w (AW.one (AC.int IntKind.i64 (chkQ c e))), [(i64B a, true), (i64B b, true), (chkQ a b != 0, false), (i64B c, true), (i64B e, true)]) := by kernel_rfl
theorem fcb_t (a : Int) (b : Int) (c : Int) (e : Int) (s0 : (chkQ a b != 0) = true -> (i64B b) = true) (s1 : (chkQ a b != 0) = true -> (i64B a) = true) (s2 : (chkQ a b != 0) = false -> (i64B e) = true) (s3 : (chkQ a b != 0) = false -> (i64B c) = true) (s4 : (chkQ a b != 0) = false -> (i64B b) = true) (s5 : (chkQ a b != 0) = false -> (i64B a) = true) : Pl Tryz.prog 154 [.agg #[.int .i64 a, .int .i64 b], .agg #[.int .i64 c, .int .i64 e]] (AV.get ((bif chkQ a b != 0 then (AV.w (AW.one (AC.int IntKind.i64 (chkQ a b)))) else (AV.w (AW.one (AC.int IntKind.i64 (chkQ c e))))) : AV Empty)) :=
 (pl_node (fun h0 => (pl_leaf rfl (ctxOf_ok libEB_ok (eq_none _)) (by kernel_rfl) Tryz.func154 rfl (fcb_l0 a b c e) rfl (all2_R (.cons rfl (.cons rfl .nil))) rfl (cd_cons (s1 h0) (cd_cons (s0 h0) (cd_cons h0 cd_nil))))) (fun h0 => (pl_leaf rfl (ctxOf_ok libEB_ok (eq_none _)) (by kernel_rfl) Tryz.func154 rfl (fcb_l1 a b c e) rfl (all2_R (.cons rfl (.cons rfl .nil))) rfl (cd_cons (s5 h0) (cd_cons (s4 h0) (cd_cons h0 (cd_cons (s3 h0) (cd_cons (s2 h0) cd_nil))))))))
theorem fcb_pl (a : Int) (b : Int) (c : Int) (e : Int) (ha : i64B a = true) (hb : i64B b = true) (hc : i64B c = true) (he : i64B e = true) : Pl Tryz.prog 154 [.agg #[.int .i64 a, .int .i64 b], .agg #[.int .i64 c, .int .i64 e]] (.int .i64 (chk2Q a b c e)) := by
 refine Eq.mp (congrArg (Pl _ _ _) ?_) (fcb_t a b c e (fun h0 => by assumption) (fun h0 => by assumption) (fun h0 => by assumption) (fun h0 => by assumption) (fun h0 => by assumption) (fun h0 => by assumption))
 unfold chk2Q
 by_cases g : chkQ a b = 0
 · rw [if_pos g, g]; rfl
 · rw [if_neg g, show (chkQ a b != 0) = true by simpa using g]; rfl
noncomputable abbrev libE1 : List (Nat × FnSp Empty) := [(154, fcbS), (155, productS), (156, wcmpS)]
theorem libE1_ok : LibOk Tryz.prog noFacts (lib1 libE1) := lib1_cons (sp2_ok fun p q hc => ⟨_, rfl, fcb_pl p.1 p.2 q.1 q.2 (c4' hc).1 (c4' hc).2.1 (c4' hc).2.2.1 (c4' hc).2.2.2⟩) Tryz.call154 (lib1_cons (productS_ok _) Tryz.call155 (lib1_cons (wcmpS_ok _) Tryz.call156 (lib1_nil _ _)))
theorem cutQ (n : Int) : n / 18446744073709551616 * 18446744073709551616 + n % 18446744073709551616 = n := by omega
theorem u64Q (n : Int) : u64B (n % 18446744073709551616) = true := by rw [u64B_iff]; omega
theorem fcm_l0 (a : Int) (b : Int) (c : Int) (e : Int) : evR (ctxOf Tryz.prog noFacts (fun _ => false) libE1) Tryz.f103 [(.w (.agg [.int .i64 a, .int .i64 b])), (.w (.agg [.int .i64 c, .int .i64 e]))] [true] = some (AV.w (AW.one (AC.int IntKind.i64 0)), [(i64B a, true), (i64B b, true), (i64B c, true), (i64B e, true), (chk2Q a b c e != 0, true)]) := by kernel_rfl
theorem fcm_l1 (a : Int) (b : Int) (c : Int) (e : Int) : evR (ctxOf Tryz.prog noFacts (fun _ => false) libE1) Tryz.f103 [(.w (.agg [.int .i64 a, .int .i64 b])), (.w (.agg [.int .i64 c, .int .i64 e]))] [false] = some (AV.w (AW.one (AC.int IntKind.i64 (cmpI (a * e / 18446744073709551616 * 18446744073709551616 + a * e % 18446744073709551616) (c * b / 18446744073709551616 * 18446744073709551616 + c * b % 18446744073709551616)))), [(i64B a, true), (i64B b, true), (i64B c, true), (i64B e, true), (chk2Q a b c e != 0, false), (i64B a, true), (i64B e, true), (i64B c, true), (i64B b, true), (u64B (a * e % 18446744073709551616), true), (u64B (c * b % 18446744073709551616), true)]) := by kernel_rfl
theorem fcm_t (a : Int) (b : Int) (c : Int) (e : Int) (s0 : (chk2Q a b c e != 0) = true -> (i64B e) = true) (s1 : (chk2Q a b c e != 0) = true -> (i64B c) = true) (s2 : (chk2Q a b c e != 0) = true -> (i64B b) = true) (s3 : (chk2Q a b c e != 0) = true -> (i64B a) = true) (s4 : (chk2Q a b c e != 0) = false -> (u64B (c * b % 18446744073709551616)) = true) (s5 : (chk2Q a b c e != 0) = false -> (u64B (a * e % 18446744073709551616)) = true) (s6 : (chk2Q a b c e != 0) = false -> (i64B b) = true) (s7 : (chk2Q a b c e != 0) = false -> (i64B c) = true) (s8 : (chk2Q a b c e != 0) = false -> (i64B e) = true) (s9 : (chk2Q a b c e != 0) = false -> (i64B a) = true) : Pl Tryz.prog 103 [.agg #[.int .i64 a, .int .i64 b], .agg #[.int .i64 c, .int .i64 e]] (AV.get ((bif chk2Q a b c e != 0 then (AV.w (AW.one (AC.int IntKind.i64 0))) else (AV.w (AW.one (AC.int IntKind.i64 (cmpI (a * e / 18446744073709551616 * 18446744073709551616 + a * e % 18446744073709551616) (c * b / 18446744073709551616 * 18446744073709551616 + c * b % 18446744073709551616)))))) : AV Empty)) :=
 (pl_node (fun h0 => (pl_leaf rfl (ctxOf_ok libE1_ok (eq_none _)) (by kernel_rfl) Tryz.func103 rfl (fcm_l0 a b c e) rfl (all2_R (.cons rfl (.cons rfl .nil))) rfl (cd_cons (s3 h0) (cd_cons (s2 h0) (cd_cons (s1 h0) (cd_cons (s0 h0) (cd_cons h0 cd_nil))))))) (fun h0 => (pl_leaf rfl (ctxOf_ok libE1_ok (eq_none _)) (by kernel_rfl) Tryz.func103 rfl (fcm_l1 a b c e) rfl (all2_R (.cons rfl (.cons rfl .nil))) rfl (cd_cons (s9 h0) (cd_cons (s6 h0) (cd_cons (s7 h0) (cd_cons (s8 h0) (cd_cons h0 (cd_cons (s9 h0) (cd_cons (s8 h0) (cd_cons (s7 h0) (cd_cons (s6 h0) (cd_cons (s5 h0) (cd_cons (s4 h0) cd_nil))))))))))))))
theorem fcm_pl (a : Int) (b : Int) (c : Int) (e : Int) (ha : i64B a = true) (hb : i64B b = true) (hc : i64B c = true) (he : i64B e = true) : Pl Tryz.prog 103 [.agg #[.int .i64 a, .int .i64 b], .agg #[.int .i64 c, .int .i64 e]] (.int .i64 (cmpQ a b c e)) := by
 refine Eq.mp (congrArg (Pl _ _ _) ?_) (fcm_t a b c e (fun h0 => by first | assumption | exact u64Q _) (fun h0 => by first | assumption | exact u64Q _) (fun h0 => by first | assumption | exact u64Q _) (fun h0 => by first | assumption | exact u64Q _) (fun h0 => by first | assumption | exact u64Q _) (fun h0 => by first | assumption | exact u64Q _) (fun h0 => by first | assumption | exact u64Q _) (fun h0 => by first | assumption | exact u64Q _) (fun h0 => by first | assumption | exact u64Q _) (fun h0 => by first | assumption | exact u64Q _))
 rw [cutQ, cutQ]
 unfold cmpQ
 by_cases g : chk2Q a b c e = 0
 · rw [if_pos g, g]; rfl
 · rw [if_neg g, show (chk2Q a b c e != 0) = true by simpa using g]; rfl
noncomputable abbrev libE2 : List (Nat × FnSp Empty) := [(100, tmQS), (101, trS), (102, fckS), (103, fcmS)]
theorem libE2_ok : LibOk Tryz.prog noFacts (lib1 libE2) := lib1_cons (sp1_ok fun t _ => ⟨_, rfl, tmq_pl t⟩) Tryz.call100 (lib1_cons (sp1_ok fun t _ => ⟨_, rfl, trq_pl t⟩) Tryz.call101 (lib1_cons (sp1_ok fun p hc => ⟨_, rfl, fck_pl p.1 p.2 (c2' hc).1 (c2' hc).2⟩) Tryz.call102 (lib1_cons (sp2_ok fun p q hc => ⟨_, rfl, fcm_pl p.1 p.2 q.1 q.2 (c4' hc).1 (c4' hc).2.1 (c4' hc).2.2.1 (c4' hc).2.2.2⟩) Tryz.call103 (lib1_nil _ _))))
theorem cmp_max {n d : Int} (h : chkQ n d = 0) : decide (cmpQ n d 65536 1 > 0) = decide (65536 * d < n) := by
 have e : chk2Q n d 65536 1 = 0 := by unfold chk2Q; rw [if_pos h]; decide
 unfold cmpQ
 rw [if_pos e, Int.mul_one]
 unfold cmpI
 by_cases h1 : n < 65536 * d
 · rw [if_pos h1, decide_eq_false (show ¬ 65536 * d < n by omega)]; rfl
 · rw [if_neg h1]
   by_cases h2 : 65536 * d < n
   · rw [if_pos h2, decide_eq_true h2]; rfl
   · rw [if_neg h2, decide_eq_false h2]; rfl
theorem rte_l0 (r : Rt) : evR (ctxOf Tryz.prog noFacts (fun _ => false) libE2) Tryz.f53 [(rtA r)] [true] = some (AV.w (AW.one (AC.int IntKind.i64 4)), [(!tmQ r.t, true), (!tmQ r.t, true), (!tmQ r.t, true), (!tmQ r.t, true), (!tmQ r.t, true), (true, true)]) := by kernel_rfl
theorem rte_l1 (r : Rt) : evR (ctxOf Tryz.prog noFacts (fun _ => false) libE2) Tryz.f53 [(rtA r)] [false, true] = some (AV.w (AW.one (AC.int IntKind.i64 4)), [(!tmQ r.t, false), (!tmQ r.t, false), (!tmQ r.t, false), (!tmQ r.t, false), (!tmQ r.t, false), (!trB r.a, true)]) := by kernel_rfl
theorem rte_l2 (r : Rt) : evR (ctxOf Tryz.prog noFacts (fun _ => false) libE2) Tryz.f53 [(rtA r)] [false, false, true] = some (AV.w (AW.one (AC.int IntKind.i64 (chkQ r.n r.d))), [(!tmQ r.t, false), (!tmQ r.t, false), (!tmQ r.t, false), (!tmQ r.t, false), (!tmQ r.t, false), (!trB r.a, false), (i64B r.n, true), (i64B r.d, true), (chkQ r.n r.d != 0, true)]) := by kernel_rfl
theorem rte_l3 (r : Rt) : evR (ctxOf Tryz.prog noFacts (fun _ => false) libE2) Tryz.f53 [(rtA r)] [false, false, false, true] = some (AV.w (AW.one (AC.int IntKind.i64 1)), [(!tmQ r.t, false), (!tmQ r.t, false), (!tmQ r.t, false), (!tmQ r.t, false), (!tmQ r.t, false), (!trB r.a, false), (i64B r.n, true), (i64B r.d, true), (chkQ r.n r.d != 0, false), (decide (r.n <= 0), true), (decide (r.n <= 0), true), (decide (r.n <= 0), true), (decide (r.n <= 0), true), (decide (r.n <= 0), true), (decide (r.n <= 0), true), (true, true)]) := by kernel_rfl
theorem rte_l4 (r : Rt) : evR (ctxOf Tryz.prog noFacts (fun _ => false) libE2) Tryz.f53 [(rtA r)] [false, false, false, false, true] = some (AV.w (AW.one (AC.int IntKind.i64 1)), [(!tmQ r.t, false), (!tmQ r.t, false), (!tmQ r.t, false), (!tmQ r.t, false), (!tmQ r.t, false), (!trB r.a, false), (i64B r.n, true), (i64B r.d, true), (chkQ r.n r.d != 0, false), (decide (r.n <= 0), false), (decide (r.n <= 0), false), (decide (r.n <= 0), false), (decide (r.n <= 0), false), (i64B r.n, true), (i64B r.d, true), (i64B 65536, true), (i64B 1, true), (decide (r.n <= 0), false), (decide (r.n <= 0), false), (decide (cmpQ r.n r.d 65536 1 > 0), true)]) := by kernel_rfl
theorem rte_l5 (r : Rt) : evR (ctxOf Tryz.prog noFacts (fun _ => false) libE2) Tryz.f53 [(rtA r)] [false, false, false, false, false] = some (AV.w (AW.one (AC.int IntKind.i64 0)), [(!tmQ r.t, false), (!tmQ r.t, false), (!tmQ r.t, false), (!tmQ r.t, false), (!tmQ r.t, false), (!trB r.a, false), (i64B r.n, true), (i64B r.d, true), (chkQ r.n r.d != 0, false), (decide (r.n <= 0), false), (decide (r.n <= 0), false), (decide (r.n <= 0), false), (decide (r.n <= 0), false), (i64B r.n, true), (i64B r.d, true), (i64B 65536, true), (i64B 1, true), (decide (r.n <= 0), false), (decide (r.n <= 0), false), (decide (cmpQ r.n r.d 65536 1 > 0), false)]) := by kernel_rfl
theorem rte_t (r : Rt) (s0 : (!tmQ r.t) = false -> (!trB r.a) = false -> (chkQ r.n r.d != 0) = true -> (i64B r.d) = true) (s1 : (!tmQ r.t) = false -> (!trB r.a) = false -> (chkQ r.n r.d != 0) = true -> (i64B r.n) = true) (s2 : (!tmQ r.t) = false -> (!trB r.a) = false -> (chkQ r.n r.d != 0) = false -> (decide (r.n <= 0)) = true -> (i64B r.d) = true) (s3 : (!tmQ r.t) = false -> (!trB r.a) = false -> (chkQ r.n r.d != 0) = false -> (decide (r.n <= 0)) = true -> (i64B r.n) = true) (s4 : (!tmQ r.t) = false -> (!trB r.a) = false -> (chkQ r.n r.d != 0) = false -> (decide (r.n <= 0)) = false -> (decide (cmpQ r.n r.d 65536 1 > 0)) = true -> (i64B 1) = true) (s5 : (!tmQ r.t) = false -> (!trB r.a) = false -> (chkQ r.n r.d != 0) = false -> (decide (r.n <= 0)) = false -> (decide (cmpQ r.n r.d 65536 1 > 0)) = true -> (i64B 65536) = true) (s6 : (!tmQ r.t) = false -> (!trB r.a) = false -> (chkQ r.n r.d != 0) = false -> (decide (r.n <= 0)) = false -> (decide (cmpQ r.n r.d 65536 1 > 0)) = true -> (i64B r.d) = true) (s7 : (!tmQ r.t) = false -> (!trB r.a) = false -> (chkQ r.n r.d != 0) = false -> (decide (r.n <= 0)) = false -> (decide (cmpQ r.n r.d 65536 1 > 0)) = true -> (i64B r.n) = true) (s8 : (!tmQ r.t) = false -> (!trB r.a) = false -> (chkQ r.n r.d != 0) = false -> (decide (r.n <= 0)) = false -> (decide (cmpQ r.n r.d 65536 1 > 0)) = false -> (i64B 1) = true) (s9 : (!tmQ r.t) = false -> (!trB r.a) = false -> (chkQ r.n r.d != 0) = false -> (decide (r.n <= 0)) = false -> (decide (cmpQ r.n r.d 65536 1 > 0)) = false -> (i64B 65536) = true) (s10 : (!tmQ r.t) = false -> (!trB r.a) = false -> (chkQ r.n r.d != 0) = false -> (decide (r.n <= 0)) = false -> (decide (cmpQ r.n r.d 65536 1 > 0)) = false -> (i64B r.d) = true) (s11 : (!tmQ r.t) = false -> (!trB r.a) = false -> (chkQ r.n r.d != 0) = false -> (decide (r.n <= 0)) = false -> (decide (cmpQ r.n r.d 65536 1 > 0)) = false -> (i64B r.n) = true) : Pl Tryz.prog 53 [rtV r] (AV.get ((bif !tmQ r.t then (AV.w (AW.one (AC.int IntKind.i64 4))) else (bif !trB r.a then (AV.w (AW.one (AC.int IntKind.i64 4))) else (bif chkQ r.n r.d != 0 then (AV.w (AW.one (AC.int IntKind.i64 (chkQ r.n r.d)))) else (bif decide (r.n <= 0) then (AV.w (AW.one (AC.int IntKind.i64 1))) else (bif decide (cmpQ r.n r.d 65536 1 > 0) then (AV.w (AW.one (AC.int IntKind.i64 1))) else (AV.w (AW.one (AC.int IntKind.i64 0)))))))) : AV Empty)) :=
 (pl_node (fun h0 => (pl_leaf rfl (ctxOf_ok libE2_ok (eq_none _)) (by kernel_rfl) Tryz.func53 rfl (rte_l0 r) rfl (all2_R (.cons rfl .nil)) rfl (cd_cons h0 (cd_cons h0 (cd_cons h0 (cd_cons h0 (cd_cons h0 (cd_cons rfl cd_nil)))))))) (fun h0 => (pl_node (fun h1 => (pl_leaf rfl (ctxOf_ok libE2_ok (eq_none _)) (by kernel_rfl) Tryz.func53 rfl (rte_l1 r) rfl (all2_R (.cons rfl .nil)) rfl (cd_cons h0 (cd_cons h0 (cd_cons h0 (cd_cons h0 (cd_cons h0 (cd_cons h1 cd_nil)))))))) (fun h1 => (pl_node (fun h2 => (pl_leaf rfl (ctxOf_ok libE2_ok (eq_none _)) (by kernel_rfl) Tryz.func53 rfl (rte_l2 r) rfl (all2_R (.cons rfl .nil)) rfl (cd_cons h0 (cd_cons h0 (cd_cons h0 (cd_cons h0 (cd_cons h0 (cd_cons h1 (cd_cons (s1 h0 h1 h2) (cd_cons (s0 h0 h1 h2) (cd_cons h2 cd_nil))))))))))) (fun h2 => (pl_node (fun h3 => (pl_leaf rfl (ctxOf_ok libE2_ok (eq_none _)) (by kernel_rfl) Tryz.func53 rfl (rte_l3 r) rfl (all2_R (.cons rfl .nil)) rfl (cd_cons h0 (cd_cons h0 (cd_cons h0 (cd_cons h0 (cd_cons h0 (cd_cons h1 (cd_cons (s3 h0 h1 h2 h3) (cd_cons (s2 h0 h1 h2 h3) (cd_cons h2 (cd_cons h3 (cd_cons h3 (cd_cons h3 (cd_cons h3 (cd_cons h3 (cd_cons h3 (cd_cons rfl cd_nil)))))))))))))))))) (fun h3 => (pl_node (fun h4 => (pl_leaf rfl (ctxOf_ok libE2_ok (eq_none _)) (by kernel_rfl) Tryz.func53 rfl (rte_l4 r) rfl (all2_R (.cons rfl .nil)) rfl (cd_cons h0 (cd_cons h0 (cd_cons h0 (cd_cons h0 (cd_cons h0 (cd_cons h1 (cd_cons (s7 h0 h1 h2 h3 h4) (cd_cons (s6 h0 h1 h2 h3 h4) (cd_cons h2 (cd_cons h3 (cd_cons h3 (cd_cons h3 (cd_cons h3 (cd_cons (s7 h0 h1 h2 h3 h4) (cd_cons (s6 h0 h1 h2 h3 h4) (cd_cons (s5 h0 h1 h2 h3 h4) (cd_cons (s4 h0 h1 h2 h3 h4) (cd_cons h3 (cd_cons h3 (cd_cons h4 cd_nil)))))))))))))))))))))) (fun h4 => (pl_leaf rfl (ctxOf_ok libE2_ok (eq_none _)) (by kernel_rfl) Tryz.func53 rfl (rte_l5 r) rfl (all2_R (.cons rfl .nil)) rfl (cd_cons h0 (cd_cons h0 (cd_cons h0 (cd_cons h0 (cd_cons h0 (cd_cons h1 (cd_cons (s11 h0 h1 h2 h3 h4) (cd_cons (s10 h0 h1 h2 h3 h4) (cd_cons h2 (cd_cons h3 (cd_cons h3 (cd_cons h3 (cd_cons h3 (cd_cons (s11 h0 h1 h2 h3 h4) (cd_cons (s10 h0 h1 h2 h3 h4) (cd_cons (s9 h0 h1 h2 h3 h4) (cd_cons (s8 h0 h1 h2 h3 h4) (cd_cons h3 (cd_cons h3 (cd_cons h4 cd_nil)))))))))))))))))))))))))))))))
theorem rte_pl (r : Rt) (hn : i64B r.n = true) (hd : i64B r.d = true) : Pl Tryz.prog 53 [rtV r] (.int .i64 (rtE r)) := by
 refine Eq.mp (congrArg (Pl _ _ _) ?_) (rte_t r (fun h0 h1 h2 => by first | rfl | assumption) (fun h0 h1 h2 => by first | rfl | assumption) (fun h0 h1 h2 h3 => by first | rfl | assumption) (fun h0 h1 h2 h3 => by first | rfl | assumption) (fun h0 h1 h2 h3 h4 => by first | rfl | assumption) (fun h0 h1 h2 h3 h4 => by first | rfl | assumption) (fun h0 h1 h2 h3 h4 => by first | rfl | assumption) (fun h0 h1 h2 h3 h4 => by first | rfl | assumption) (fun h0 h1 h2 h3 h4 => by first | rfl | assumption) (fun h0 h1 h2 h3 h4 => by first | rfl | assumption) (fun h0 h1 h2 h3 h4 => by first | rfl | assumption) (fun h0 h1 h2 h3 h4 => by first | rfl | assumption))
 unfold rtE
 cases h1 : tmQ r.t with
 | false => rfl
 | true =>
   cases h2 : trB r.a with
   | false => rfl
   | true =>
     by_cases h3 : chkQ r.n r.d = 0
     · rw [cmp_max h3]
       by_cases h4 : r.n <= 0
       · rw [h3, decide_eq_true h4]
         simp only [h4, true_or, if_true]
         rfl
       · by_cases h5 : 65536 * r.d < r.n
         · rw [h3, decide_eq_false h4, decide_eq_true h5]
           simp only [h5, or_true, if_true]
           rfl
         · rw [h3, decide_eq_false h4, decide_eq_false h5]
           simp only [h4, h5, or_self, if_false]
           rfl
     · rw [show (chkQ r.n r.d != 0) = true by simpa using h3]
       simp only [h3, if_false]
       rfl
theorem rt_in {r : Rt} (h : rtE r = 0) : (-17592186044416 <= r.t /\ r.t <= 17592186044416) /\ (0 <= r.a /\ r.a < 4294967296) /\ 1 <= r.n /\ r.n <= 65536 * r.d /\ r.n <= 1152921504606846976 /\ 1 <= r.d /\ r.d <= 1152921504606846976 /\ i64B r.n = true /\ i64B r.d = true := by
 unfold rtE at h
 by_cases h1 : (tmQ r.t && trB r.a) = true
 · rw [if_pos h1] at h
   rw [Bool.and_eq_true, tmQ_iff, trB_iff] at h1
   by_cases h2 : chkQ r.n r.d = 0
   · rw [if_pos h2] at h
     have hf : fqB r.n r.d = true := by
       unfold chkQ at h2
       by_cases g : fqB r.n r.d = true
       · exact g
       · rw [if_neg g] at h2; omega
     rw [fqB_iff] at hf
     by_cases h3 : r.n <= 0 \/ 65536 * r.d < r.n
     · rw [if_pos h3] at h; omega
     · exact ⟨h1.1, h1.2, by omega, by omega, by omega, by omega, by omega, i64B_iff.2 (by omega), i64B_iff.2 (by omega)⟩
   · rw [if_neg h2] at h; omega
 · rw [if_neg h1] at h; omega
theorem div_in {x n d K X : Int} (hd : 1 <= d) (hn : 0 <= n) (hk : n <= K * d) (hX : 0 <= X) (h1 : -X <= x) (h2 : x <= X) : -(X * K) <= x * n / d /\ x * n / d <= X * K := by
 have a : x * n <= X * n := Int.mul_le_mul_of_nonneg_right h2 hn
 have b : X * n <= X * (K * d) := Int.mul_le_mul_of_nonneg_left hk hX
 have c : (-X) * n <= x * n := Int.mul_le_mul_of_nonneg_right h1 hn
 rw [<- Int.mul_assoc] at b
 constructor
 · apply Int.le_ediv_of_mul_le (by omega)
   rw [Int.neg_mul] at c ⊢
   omega
 · exact Int.ediv_le_of_le_mul (by omega) (by omega)
theorem wa_in {r : Rt} {t : Int} (h : rtE r = 0) (ht : tmQ t = true) : -2305843009213693952 <= (t - r.t) * r.n / r.d /\ (t - r.t) * r.n / r.d <= 2305843009213693952 := by
 obtain ⟨h1, h2, h3, h4, h5, h6, h7, _⟩ := rt_in h
 rw [tmQ_iff] at ht
 exact div_in (K := 65536) (X := 35184372088832) h6 (by omega) h4 (by omega) (by omega) (by omega)
theorem divV_eq {n d : Int} (hd : 1 <= d) (h1 : -9223372036854775808 <= n / d) (h2 : n / d <= 9223372036854775807) : divV n d = n / d := by
 unfold divV; rw [if_neg (by omega), if_neg (by omega)]
noncomputable abbrev libE3 : List (Nat × FnSp Empty) := [(160, muldivS)]
theorem libE3_ok : LibOk Tryz.prog noFacts (lib1 libE3) := lib1_cons (muldivS_ok _) Tryz.call160 (lib1_nil _ _)
theorem waf_l0 (r : Rt) (t : Int) : evR (ctxOf Tryz.prog noFacts (fun _ => false) libE3) Tryz.f179 [(rtA r), (.w (.one (.int .i64 t)))] [] = some (AV.w (AW.one (AC.int IntKind.i64 (IntKind.i64.wrap (r.a + divV (IntKind.i64.wrap (t - r.t) * r.n) r.d)))), [(i64B (IntKind.i64.wrap (t - r.t)), true), (i64B r.n, true), (i64B r.d, true)]) := by kernel_rfl
theorem waf_t (r : Rt) (t : Int) (s0 : (i64B r.d) = true) (s1 : (i64B r.n) = true) (s2 : (i64B (IntKind.i64.wrap (t - r.t))) = true) : Pl Tryz.prog 179 [rtV r, .int .i64 t] (AV.get ((AV.w (AW.one (AC.int IntKind.i64 (IntKind.i64.wrap (r.a + divV (IntKind.i64.wrap (t - r.t) * r.n) r.d))))) : AV Empty)) :=
 (pl_leaf rfl (ctxOf_ok libE3_ok (eq_none _)) (by kernel_rfl) Tryz.func179 rfl (waf_l0 r t) rfl (all2_R (.cons rfl (.cons rfl .nil))) rfl (cd_cons (s2 ) (cd_cons (s1 ) (cd_cons (s0 ) cd_nil))))
theorem waf_pl (r : Rt) (t : Int) (h : rtE r = 0) (ht : tmQ t = true) : Pl Tryz.prog 179 [rtV r, .int .i64 t] (.int .i64 (wA r t)) := by
 refine Eq.mp (congrArg (Pl _ _ _) ?_) (waf_t r t (by first | exact (rt_in h).2.2.2.2.2.2.2.1 | exact (rt_in h).2.2.2.2.2.2.2.2 | (rw [tmQ_iff] at ht; obtain ⟨h1, _⟩ := rt_in h; rw [v64 (by omega) (by omega)]; exact i64B_iff.2 (by omega))) (by first | exact (rt_in h).2.2.2.2.2.2.2.1 | exact (rt_in h).2.2.2.2.2.2.2.2 | (rw [tmQ_iff] at ht; obtain ⟨h1, _⟩ := rt_in h; rw [v64 (by omega) (by omega)]; exact i64B_iff.2 (by omega))) (by first | exact (rt_in h).2.2.2.2.2.2.2.1 | exact (rt_in h).2.2.2.2.2.2.2.2 | (rw [tmQ_iff] at ht; obtain ⟨h1, _⟩ := rt_in h; rw [v64 (by omega) (by omega)]; exact i64B_iff.2 (by omega))))
 refine congrArg (Value.int .i64) ?_
 obtain ⟨h1, h2, h3, h4, h5, h6, h7, _⟩ := rt_in h
 have b := wa_in h ht
 rw [tmQ_iff] at ht
 rw [v64 (x := t - r.t) (by omega) (by omega), divV_eq h6 (by omega) (by omega), v64 (by omega) (by omega)]
 rfl
noncomputable abbrev libE4 : List (Nat × FnSp Empty) := [(53, rtS), (100, tmQS), (101, trS), (179, waS), (165, mdS), (161, muldivupS)]
theorem libE4_ok : LibOk Tryz.prog noFacts (lib1 libE4) := lib1_cons (sp1_ok fun r hc => ⟨_, rfl, rte_pl r (c2' hc).1 (c2' hc).2⟩) Tryz.call53 (lib1_cons (sp1_ok fun t _ => ⟨_, rfl, tmq_pl t⟩) Tryz.call100 (lib1_cons (sp1_ok fun t _ => ⟨_, rfl, trq_pl t⟩) Tryz.call101 (lib1_cons (sp2_ok fun r t hc => ⟨_, rfl, waf_pl r t (by simpa using (c2' hc).1) (c2' hc).2⟩) Tryz.call179 (lib1_cons (mdS_ok _) Tryz.call165 (lib1_cons (muldivupS_ok _) Tryz.call161 (lib1_nil _ _))))))
theorem wA_in {r : Rt} {t : Int} (h : rtE r = 0) (ht : tmQ t = true) : -2305843009213693952 <= wA r t /\ wA r t <= 2305843013508661248 := by
 obtain ⟨_, h2, _⟩ := rt_in h
 have b := wa_in h ht
 unfold wA; omega
theorem mdV_eq (x : Int) : mdV x 4294967296 = x % 4294967296 := by unfold mdV; rw [if_neg (by omega)]
theorem agf_l0 (r : Rt) (t : Int) : evR (ctxOf Tryz.prog noFacts (fun _ => false) libE4) Tryz.f141 [(rtA r), (.w (.one (.int .i64 t)))] [true] = some (AV.w (AW.one (AC.int IntKind.i64 0)), [(i64B r.n, true), (i64B r.d, true), (rtE r != 0, true), (rtE r != 0, true), (rtE r != 0, true), (rtE r != 0, true), (true, true)]) := by kernel_rfl
theorem agf_l1 (r : Rt) (t : Int) : evR (ctxOf Tryz.prog noFacts (fun _ => false) libE4) Tryz.f141 [(rtA r), (.w (.one (.int .i64 t)))] [false, true] = some (AV.w (AW.one (AC.int IntKind.i64 0)), [(i64B r.n, true), (i64B r.d, true), (rtE r != 0, false), (rtE r != 0, false), (rtE r != 0, false), (rtE r != 0, false), (!tmQ t, true)]) := by kernel_rfl
theorem agf_l2 (r : Rt) (t : Int) : evR (ctxOf Tryz.prog noFacts (fun _ => false) libE4) Tryz.f141 [(rtA r), (.w (.one (.int .i64 t)))] [false, false] = some (AV.w (AW.one (AC.int IntKind.i64 (mdV (wA r t) 4294967296))), [(i64B r.n, true), (i64B r.d, true), (rtE r != 0, false), (rtE r != 0, false), (rtE r != 0, false), (rtE r != 0, false), (!tmQ t, false), (rtE r == 0, true), (tmQ t, true), (i64B (wA r t), true), (i64B 4294967296, true)]) := by kernel_rfl
theorem agf_t (r : Rt) (t : Int) (s0 : (rtE r != 0) = true -> (i64B r.d) = true) (s1 : (rtE r != 0) = true -> (i64B r.n) = true) (s2 : (rtE r != 0) = false -> (!tmQ t) = true -> (i64B r.d) = true) (s3 : (rtE r != 0) = false -> (!tmQ t) = true -> (i64B r.n) = true) (s4 : (rtE r != 0) = false -> (!tmQ t) = false -> (i64B 4294967296) = true) (s5 : (rtE r != 0) = false -> (!tmQ t) = false -> (i64B (wA r t)) = true) (s6 : (rtE r != 0) = false -> (!tmQ t) = false -> (tmQ t) = true) (s7 : (rtE r != 0) = false -> (!tmQ t) = false -> (rtE r == 0) = true) (s8 : (rtE r != 0) = false -> (!tmQ t) = false -> (i64B r.d) = true) (s9 : (rtE r != 0) = false -> (!tmQ t) = false -> (i64B r.n) = true) : Pl Tryz.prog 141 [rtV r, .int .i64 t] (AV.get ((bif rtE r != 0 then (AV.w (AW.one (AC.int IntKind.i64 0))) else (bif !tmQ t then (AV.w (AW.one (AC.int IntKind.i64 0))) else (AV.w (AW.one (AC.int IntKind.i64 (mdV (wA r t) 4294967296)))))) : AV Empty)) :=
 (pl_node (fun h0 => (pl_leaf rfl (ctxOf_ok libE4_ok (eq_none _)) (by kernel_rfl) Tryz.func141 rfl (agf_l0 r t) rfl (all2_R (.cons rfl (.cons rfl .nil))) rfl (cd_cons (s1 h0) (cd_cons (s0 h0) (cd_cons h0 (cd_cons h0 (cd_cons h0 (cd_cons h0 (cd_cons rfl cd_nil))))))))) (fun h0 => (pl_node (fun h1 => (pl_leaf rfl (ctxOf_ok libE4_ok (eq_none _)) (by kernel_rfl) Tryz.func141 rfl (agf_l1 r t) rfl (all2_R (.cons rfl (.cons rfl .nil))) rfl (cd_cons (s3 h0 h1) (cd_cons (s2 h0 h1) (cd_cons h0 (cd_cons h0 (cd_cons h0 (cd_cons h0 (cd_cons h1 cd_nil))))))))) (fun h1 => (pl_leaf rfl (ctxOf_ok libE4_ok (eq_none _)) (by kernel_rfl) Tryz.func141 rfl (agf_l2 r t) rfl (all2_R (.cons rfl (.cons rfl .nil))) rfl (cd_cons (s9 h0 h1) (cd_cons (s8 h0 h1) (cd_cons h0 (cd_cons h0 (cd_cons h0 (cd_cons h0 (cd_cons h1 (cd_cons (s7 h0 h1) (cd_cons (s6 h0 h1) (cd_cons (s5 h0 h1) (cd_cons (s4 h0 h1) cd_nil))))))))))))))))
theorem agf_pl (r : Rt) (t : Int) (hn : i64B r.n = true) (hd : i64B r.d = true) : Pl Tryz.prog 141 [rtV r, .int .i64 t] (.int .i64 (agV r t)) := by
 refine Eq.mp (congrArg (Pl _ _ _) ?_) (agf_t r t (fun h0 => by first | rfl | assumption | (simp only [bne_eq_false_iff_eq, Bool.not_eq_false'] at *; first | assumption | (simp only [beq_iff_eq]; assumption) | (refine i64B_iff.2 ?_; have := wA_in (r := r) (t := t) (by assumption) (by assumption); omega))) (fun h0 => by first | rfl | assumption | (simp only [bne_eq_false_iff_eq, Bool.not_eq_false'] at *; first | assumption | (simp only [beq_iff_eq]; assumption) | (refine i64B_iff.2 ?_; have := wA_in (r := r) (t := t) (by assumption) (by assumption); omega))) (fun h0 h1 => by first | rfl | assumption | (simp only [bne_eq_false_iff_eq, Bool.not_eq_false'] at *; first | assumption | (simp only [beq_iff_eq]; assumption) | (refine i64B_iff.2 ?_; have := wA_in (r := r) (t := t) (by assumption) (by assumption); omega))) (fun h0 h1 => by first | rfl | assumption | (simp only [bne_eq_false_iff_eq, Bool.not_eq_false'] at *; first | assumption | (simp only [beq_iff_eq]; assumption) | (refine i64B_iff.2 ?_; have := wA_in (r := r) (t := t) (by assumption) (by assumption); omega))) (fun h0 h1 => by first | rfl | assumption | (simp only [bne_eq_false_iff_eq, Bool.not_eq_false'] at *; first | assumption | (simp only [beq_iff_eq]; assumption) | (refine i64B_iff.2 ?_; have := wA_in (r := r) (t := t) (by assumption) (by assumption); omega))) (fun h0 h1 => by first | rfl | assumption | (simp only [bne_eq_false_iff_eq, Bool.not_eq_false'] at *; first | assumption | (simp only [beq_iff_eq]; assumption) | (refine i64B_iff.2 ?_; have := wA_in (r := r) (t := t) (by assumption) (by assumption); omega))) (fun h0 h1 => by first | rfl | assumption | (simp only [bne_eq_false_iff_eq, Bool.not_eq_false'] at *; first | assumption | (simp only [beq_iff_eq]; assumption) | (refine i64B_iff.2 ?_; have := wA_in (r := r) (t := t) (by assumption) (by assumption); omega))) (fun h0 h1 => by first | rfl | assumption | (simp only [bne_eq_false_iff_eq, Bool.not_eq_false'] at *; first | assumption | (simp only [beq_iff_eq]; assumption) | (refine i64B_iff.2 ?_; have := wA_in (r := r) (t := t) (by assumption) (by assumption); omega))) (fun h0 h1 => by first | rfl | assumption | (simp only [bne_eq_false_iff_eq, Bool.not_eq_false'] at *; first | assumption | (simp only [beq_iff_eq]; assumption) | (refine i64B_iff.2 ?_; have := wA_in (r := r) (t := t) (by assumption) (by assumption); omega))) (fun h0 h1 => by first | rfl | assumption | (simp only [bne_eq_false_iff_eq, Bool.not_eq_false'] at *; first | assumption | (simp only [beq_iff_eq]; assumption) | (refine i64B_iff.2 ?_; have := wA_in (r := r) (t := t) (by assumption) (by assumption); omega))))
 unfold agV
 rw [mdV_eq]
 by_cases h1 : rtE r = 0
 · cases h2 : tmQ t with
   | false => rw [h1, if_neg (fun h => by cases h.2)]; rfl
   | true => rw [h1, if_pos ⟨rfl, rfl⟩]; rfl
 · rw [show (rtE r != 0) = true by simpa using h1, if_neg (fun h => h1 h.1)]; rfl
end
end Go.Proofs.YtmhhdedekblbnaaGreat.AtRt
