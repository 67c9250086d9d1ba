/-
 Axes and mounts: what CheckAxis, CheckMount and In return; the reference's likewise.
 Conditions: those of each theorem.
-/
import Derived.Test.YtmhhdedekblbnaaGreatQQM
import Derived.Test.YtmhhdedekblbnaaGreatQNS
set_option maxRecDepth 100000
set_option linter.unusedVariables false
set_option linter.unusedSimpArgs false
namespace Go.Proofs.YtmhhdedekblbnaaGreat.AtSl
open Go.RowKit Ev Wd
open Go.Proofs.YtmhhdedekblbnaaGreat
variable {F : Type}
noncomputable section

abbrev axV (a : Ax) : Value := .agg #[.int .i64 a.mn, .int .i64 a.mx, .int .i64 a.sp, .int .i64 a.ac]
abbrev axA (a : Ax) : AV F := .w (.agg [.int .i64 a.mn, .int .i64 a.mx, .int .i64 a.sp, .int .i64 a.ac])
def dAx : Dec F Ax where
 dec := fun x => match x with
   | .w (.agg [.int .i64 x, .int .i64 y, .int .i64 z, .int .i64 t]) => some ⟨x, y, z, t⟩
   | _ => none
 enc := axV
 ok := fun x a h => by
   split at h
   · cases h; rfl
   · cases h
structure Po where
 az : Int
 al : Int
abbrev poV (p : Po) : Value := .agg #[.int .i64 p.az, .int .i64 p.al]
abbrev poA (p : Po) : AV F := .w (.agg [.int .i64 p.az, .int .i64 p.al])
def dPo : Dec F Po where
 dec := fun x => match x with
   | .w (.agg [.int .i64 x, .int .i64 y]) => some ⟨x, y⟩
   | _ => none
 enc := poV
 ok := fun x a h => by
   split at h
   · cases h; rfl
   · cases h
structure Mo where
 z : Ax
 l : Ax
 p : Po
abbrev moV (m : Mo) : Value := .agg #[.int .i64 m.z.mn, .int .i64 m.z.mx, .int .i64 m.z.sp, .int .i64 m.z.ac, .int .i64 m.l.mn, .int .i64 m.l.mx, .int .i64 m.l.sp, .int .i64 m.l.ac, .int .i64 m.p.az, .int .i64 m.p.al]
abbrev moA (m : Mo) : AV F := .w (.agg [.int .i64 m.z.mn, .int .i64 m.z.mx, .int .i64 m.z.sp, .int .i64 m.z.ac, .int .i64 m.l.mn, .int .i64 m.l.mx, .int .i64 m.l.sp, .int .i64 m.l.ac, .int .i64 m.p.az, .int .i64 m.p.al])
def dMo : Dec F Mo where
 dec := fun x => match x with
   | .w (.agg [.int .i64 a, .int .i64 b, .int .i64 c, .int .i64 d, .int .i64 e, .int .i64 f, .int .i64 g, .int .i64 h, .int .i64 i, .int .i64 j]) => some ⟨⟨a, b, c, d⟩, ⟨e, f, g, h⟩, ⟨i, j⟩⟩
   | _ => none
 enc := moV
 ok := fun x a h => by
   split at h
   · cases h; rfl
   · cases h
def inM (m : Mo) (p : Po) : Bool := inA m.z p.az && inA m.l p.al
def moE (m : Mo) : Int := if axE m.z = 0 then (if axE m.l = 0 then (if inM m m.p = true then 0 else 4) else axE m.l) else axE m.z
def rgB (x : Int) : Bool := decide (-1099511627776 <= x) && decide (x <= 1099511627776)
abbrev inS : FnSp F := sp2 dAx (dInt .i64) (fun a p => aBool (inA a p)) (fun _ _ => [])
abbrev axS : FnSp F := sp1 dAx (fun a => aInt .i64 (axE a)) (fun _ => [])
abbrev moS : FnSp F := sp1 dMo (fun m => aInt .i64 (moE m)) (fun _ => [])
abbrev rcS : FnSp F := sp2 dMo dPo (fun m p => aBool (inM m p)) (fun _ _ => [])
abbrev jpS : FnSp F := sp2 (dInt .i64) (dInt .i64) (fun p q => aBool (decide (dst p q > 1073741824))) (fun p q => [(rgB p, true), (rgB q, true)])
def tgS : FnSp F := sp3 dAx (dInt .i64) (dInt .i64) (fun a p ang => .tup [.one (.int .i64 (tgP a p ang)), .one (.int .i64 (tgE a p ang))]) (fun a p ang => [(decide (axE a = 0), true), (inA a p, true), (i64B ang, true)])
def TPv (a : Ax) (p ang : Int) : Int := if axE a = 0 /\ inA a p = true then tgP a p ang else 0
def TEv (a : Ax) (p ang : Int) : Int := if axE a = 0 then (if inA a p = true then tgE a p ang else 4) else axE a
abbrev TGS : FnSp F := sp3 dAx (dInt .i64) (dInt .i64) (fun a p ang => .tup [.one (.int .i64 (TPv a p ang)), .one (.int .i64 (TEv a p ang))]) (fun a p ang => [(i64B ang, true)])
abbrev fsS : FnSp F := sp2 dAx (dInt .i64) (fun a d => aInt .i64 (fstV a.sp a.ac d)) (fun a d => [(decide (axE a = 0), true), (decide (0 <= d), true)])
abbrev stS : FnSp F := sp3 dAx (dInt .i64) (dInt .i64) (fun a p q => aInt .i64 (stV a.sp a.ac (dst p q))) (fun a p q => [(decide (axE a = 0), true), (inA a p, true), (inA a q, true)])
def SNv (a : Ax) (p q : Int) : Int := if axE a = 0 /\ inA a p = true /\ inA a q = true then stV a.sp a.ac (dst p q) else 0
def SEv (a : Ax) (p q : Int) : Int := if axE a = 0 then (if inA a p = true /\ inA a q = true then 0 else 4) else axE a
abbrev STS : FnSp F := sp3 dAx (dInt .i64) (dInt .i64) (fun a p q => .tup [.one (.int .i64 (SNv a p q)), .one (.int .i64 (SEv a p q))]) (fun _ _ _ => [])
theorem v64 {x : Int} (h1 : -9223372036854775808 <= x) (h2 : x <= 9223372036854775807) : IntKind.i64.wrap x = x := by rw [IntKind.wrap_i64]; omega
theorem rgB_iff {x : Int} : rgB x = true ↔ -1099511627776 <= x /\ x <= 1099511627776 := by unfold rgB; simp
theorem ca1 {a : Bool} (h : ∀ p ∈ [(a, true)], p.1 = p.2) : a = true := h (a, true) (by simp)
theorem ca2 {a b : Bool} (h : ∀ p ∈ [(a, true), (b, true)], p.1 = p.2) : a = true /\ b = true := ⟨h (a, true) (by simp), h (b, true) (by simp)⟩
theorem ca3 {a b c : Bool} (h : ∀ p ∈ [(a, true), (b, true), (c, true)], p.1 = p.2) : a = true /\ b = true /\ c = true := ⟨h (a, true) (by simp), h (b, true) (by simp), h (c, true) (by simp)⟩
theorem inn_1 (a : Ax) (x : Int) : evR (ctxOf Tryz.prog noFacts (fun _ => false) []) Tryz.f127 [(axA a), (.w (.one (.int .i64 x)))] [true] = some (AV.w (AW.one (AC.bool (decide (x <= a.mx)))), (pickL [(decide (a.mn <= x), true)] [0, 0, 0, 0, 0])) := by kernel_rfl
theorem inn_0 (a : Ax) (x : Int) : evR (ctxOf Tryz.prog noFacts (fun _ => false) []) Tryz.f127 [(axA a), (.w (.one (.int .i64 x)))] [false] = some (AV.w (AW.one (AC.yes false)), (pickL [(decide (a.mn <= x), false)] [0, 0, 0, 0, 0])) := by kernel_rfl
theorem inn_pl (a : Ax) (x : Int)  : Pl Tryz.prog 127 [axV a, .int .i64 x] (.bool (inA a x)) := fun w => by
 cases k0 : (decide (a.mn <= x)) with
 | true =>
   have V : (inA a x) = ((decide (x <= a.mx))) := by
     unfold inA
     simp_all <;> omega
   rw [V]
   refine evR_calls (I := noFacts) (v := .bool ((decide (x <= a.mx)))) (ctxOf_ok (lib1_nil _ _) (eq_none _)) (by kernel_rfl) Tryz.func127 rfl lps_nil (inn_1 a x) rfl (all2_R (.cons rfl (.cons rfl .nil))) rfl w (Nat.zero_le _) (pickL_ok ?_ _)
   repeat' (first | exact cd_nil | refine cd_cons ?_ ?_)
   all_goals first | rfl | with_reducible assumption
 | false =>
   have V : (inA a x) = (false) := by
     unfold inA
     simp_all <;> omega
   rw [V]
   refine evR_calls (I := noFacts) (v := .bool (false)) (ctxOf_ok (lib1_nil _ _) (eq_none _)) (by kernel_rfl) Tryz.func127 rfl lps_nil (inn_0 a x) rfl (all2_R (.cons rfl (.cons rfl .nil))) rfl w (Nat.zero_le _) (pickL_ok ?_ _)
   repeat' (first | exact cd_nil | refine cd_cons ?_ ?_)
   all_goals first | rfl | with_reducible assumption
theorem cax_1 (a : Ax) : evR (ctxOf Tryz.prog noFacts (fun _ => false) []) Tryz.f126 [(axA a)] [true] = some (AV.w (AW.one (AC.int IntKind.i64 4)), (pickL [(decide (a.mn < -17179869184), true), (true, true)] [0, 0, 0, 0, 1])) := by kernel_rfl
theorem cax_01 (a : Ax) : evR (ctxOf Tryz.prog noFacts (fun _ => false) []) Tryz.f126 [(axA a)] [false, true] = some (AV.w (AW.one (AC.int IntKind.i64 4)), (pickL [(decide (a.mn < -17179869184), false), (decide (a.mx > 17179869184), true)] [0, 0, 0, 0, 1])) := by kernel_rfl
theorem cax_001 (a : Ax) : evR (ctxOf Tryz.prog noFacts (fun _ => false) []) Tryz.f126 [(axA a)] [false, false, true] = some (AV.w (AW.one (AC.int IntKind.i64 11)), (pickL [(decide (a.mn < -17179869184), false), (decide (a.mx > 17179869184), false), (decide (a.mn > a.mx), true)] [0, 0, 0, 0, 1, 2])) := by kernel_rfl
theorem cax_0001 (a : Ax) : evR (ctxOf Tryz.prog noFacts (fun _ => false) []) Tryz.f126 [(axA a)] [false, false, false, true] = some (AV.w (AW.one (AC.int IntKind.i64 4)), (pickL [(decide (a.mn < -17179869184), false), (decide (a.mx > 17179869184), false), (decide (a.mn > a.mx), false), (decide (a.sp < 16777216), true), (true, true)] [0, 0, 0, 0, 1, 2, 3, 3, 3, 3, 4, 4, 4, 4, 4, 4, 4, 4, 4, 4, 4, 4, 4, 4, 4, 4, 4, 4])) := by kernel_rfl
theorem cax_00001 (a : Ax) : evR (ctxOf Tryz.prog noFacts (fun _ => false) []) Tryz.f126 [(axA a)] [false, false, false, false, true] = some (AV.w (AW.one (AC.int IntKind.i64 4)), (pickL [(decide (a.mn < -17179869184), false), (decide (a.mx > 17179869184), false), (decide (a.mn > a.mx), false), (decide (a.sp < 16777216), false), (decide (a.sp > 1073741824), true), (true, true)] [0, 0, 0, 0, 1, 2, 3, 3, 3, 3, 4, 4, 4, 4, 5, 5, 5, 5, 5, 5, 5, 5, 5, 5, 5, 5, 5, 5])) := by kernel_rfl
theorem cax_000001 (a : Ax) : evR (ctxOf Tryz.prog noFacts (fun _ => false) []) Tryz.f126 [(axA a)] [false, false, false, false, false, true] = some (AV.w (AW.one (AC.int IntKind.i64 4)), (pickL [(decide (a.mn < -17179869184), false), (decide (a.mx > 17179869184), false), (decide (a.mn > a.mx), false), (decide (a.sp < 16777216), false), (decide (a.sp > 1073741824), false), (decide (a.ac < 1), true), (true, true)] [0, 0, 0, 0, 1, 2, 3, 3, 3, 3, 4, 4, 4, 4, 5, 5, 5, 5, 5, 5, 6, 6, 6, 6, 6, 6, 6, 6])) := by kernel_rfl
theorem cax_0000001 (a : Ax) : evR (ctxOf Tryz.prog noFacts (fun _ => false) []) Tryz.f126 [(axA a)] [false, false, false, false, false, false, true] = some (AV.w (AW.one (AC.int IntKind.i64 4)), (pickL [(decide (a.mn < -17179869184), false), (decide (a.mx > 17179869184), false), (decide (a.mn > a.mx), false), (decide (a.sp < 16777216), false), (decide (a.sp > 1073741824), false), (decide (a.ac < 1), false), (decide (a.ac > a.sp), true), (true, true)] [0, 0, 0, 0, 1, 2, 3, 3, 3, 3, 4, 4, 4, 4, 5, 5, 5, 5, 5, 5, 6, 6, 6, 6, 6, 6, 6, 7])) := by kernel_rfl
theorem cax_00000001 (a : Ax) : evR (ctxOf Tryz.prog noFacts (fun _ => false) []) Tryz.f126 [(axA a)] [false, false, false, false, false, false, false, true] = some (AV.w (AW.one (AC.int IntKind.i64 4)), (pickL [(decide (a.mn < -17179869184), false), (decide (a.mx > 17179869184), false), (decide (a.mn > a.mx), false), (decide (a.sp < 16777216), false), (decide (a.sp > 1073741824), false), (decide (a.ac < 1), false), (decide (a.ac > a.sp), false), (decide (IntKind.i64.wrap (64 * a.ac) < a.sp), true)] [0, 0, 0, 0, 1, 2, 3, 3, 3, 3, 4, 4, 4, 4, 5, 5, 5, 5, 5, 5, 6, 6, 6, 6, 6, 6, 6, 7])) := by kernel_rfl
theorem cax_00000000 (a : Ax) : evR (ctxOf Tryz.prog noFacts (fun _ => false) []) Tryz.f126 [(axA a)] [false, false, false, false, false, false, false, false] = some (AV.w (AW.one (AC.int IntKind.i64 0)), (pickL [(decide (a.mn < -17179869184), false), (decide (a.mx > 17179869184), false), (decide (a.mn > a.mx), false), (decide (a.sp < 16777216), false), (decide (a.sp > 1073741824), false), (decide (a.ac < 1), false), (decide (a.ac > a.sp), false), (decide (IntKind.i64.wrap (64 * a.ac) < a.sp), false)] [0, 0, 0, 0, 1, 2, 3, 3, 3, 3, 4, 4, 4, 4, 5, 5, 5, 5, 5, 5, 6, 6, 6, 6, 6, 6, 6, 7])) := by kernel_rfl
theorem cax_pl (a : Ax)  : Pl Tryz.prog 126 [axV a] (.int .i64 (axE a)) := fun w => by
 cases k0 : (decide (a.mn < -17179869184)) with
 | true =>
   have V : (axE a) = (4) := by
     simp only [beq_iff_eq, beq_eq_false_iff_ne, ne_eq, bne_iff_ne, bne_eq_false_iff_eq, decide_eq_true_eq, decide_eq_false_iff_not, Bool.not_eq_true', Bool.not_eq_false', ge_iff_le, gt_iff_lt] at *
     try simp only [IntKind.wrap_i64] at *
     unfold axE
     repeat' split
     all_goals omega
   rw [V]
   refine evR_calls (I := noFacts) (v := .int .i64 (4)) (ctxOf_ok (lib1_nil _ _) (eq_none _)) (by kernel_rfl) Tryz.func126 rfl lps_nil (cax_1 a) rfl (all2_R (.cons rfl .nil)) rfl w (Nat.zero_le _) (pickL_ok ?_ _)
   repeat' (first | exact cd_nil | refine cd_cons ?_ ?_)
   all_goals first | rfl | with_reducible assumption
 | false =>
   cases k1 : (decide (a.mx > 17179869184)) with
   | true =>
     have V : (axE a) = (4) := by
       simp only [beq_iff_eq, beq_eq_false_iff_ne, ne_eq, bne_iff_ne, bne_eq_false_iff_eq, decide_eq_true_eq, decide_eq_false_iff_not, Bool.not_eq_true', Bool.not_eq_false', ge_iff_le, gt_iff_lt] at *
       try simp only [IntKind.wrap_i64] at *
       unfold axE
       repeat' split
       all_goals omega
     rw [V]
     refine evR_calls (I := noFacts) (v := .int .i64 (4)) (ctxOf_ok (lib1_nil _ _) (eq_none _)) (by kernel_rfl) Tryz.func126 rfl lps_nil (cax_01 a) rfl (all2_R (.cons rfl .nil)) rfl w (Nat.zero_le _) (pickL_ok ?_ _)
     repeat' (first | exact cd_nil | refine cd_cons ?_ ?_)
     all_goals first | rfl | with_reducible assumption
   | false =>
     cases k2 : (decide (a.mn > a.mx)) with
     | true =>
       have V : (axE a) = (11) := by
         simp only [beq_iff_eq, beq_eq_false_iff_ne, ne_eq, bne_iff_ne, bne_eq_false_iff_eq, decide_eq_true_eq, decide_eq_false_iff_not, Bool.not_eq_true', Bool.not_eq_false', ge_iff_le, gt_iff_lt] at *
         try simp only [IntKind.wrap_i64] at *
         unfold axE
         repeat' split
         all_goals omega
       rw [V]
       refine evR_calls (I := noFacts) (v := .int .i64 (11)) (ctxOf_ok (lib1_nil _ _) (eq_none _)) (by kernel_rfl) Tryz.func126 rfl lps_nil (cax_001 a) rfl (all2_R (.cons rfl .nil)) rfl w (Nat.zero_le _) (pickL_ok ?_ _)
       repeat' (first | exact cd_nil | refine cd_cons ?_ ?_)
       all_goals first | rfl | with_reducible assumption
     | false =>
       cases k3 : (decide (a.sp < 16777216)) with
       | true =>
         have V : (axE a) = (4) := by
           simp only [beq_iff_eq, beq_eq_false_iff_ne, ne_eq, bne_iff_ne, bne_eq_false_iff_eq, decide_eq_true_eq, decide_eq_false_iff_not, Bool.not_eq_true', Bool.not_eq_false', ge_iff_le, gt_iff_lt] at *
           try simp only [IntKind.wrap_i64] at *
           unfold axE
           repeat' split
           all_goals omega
         rw [V]
         refine evR_calls (I := noFacts) (v := .int .i64 (4)) (ctxOf_ok (lib1_nil _ _) (eq_none _)) (by kernel_rfl) Tryz.func126 rfl lps_nil (cax_0001 a) rfl (all2_R (.cons rfl .nil)) rfl w (Nat.zero_le _) (pickL_ok ?_ _)
         repeat' (first | exact cd_nil | refine cd_cons ?_ ?_)
         all_goals first | rfl | with_reducible assumption
       | false =>
         cases k4 : (decide (a.sp > 1073741824)) with
         | true =>
           have V : (axE a) = (4) := by
             simp only [beq_iff_eq, beq_eq_false_iff_ne, ne_eq, bne_iff_ne, bne_eq_false_iff_eq, decide_eq_true_eq, decide_eq_false_iff_not, Bool.not_eq_true', Bool.not_eq_false', ge_iff_le, gt_iff_lt] at *
             try simp only [IntKind.wrap_i64] at *
             unfold axE
             repeat' split
             all_goals omega
           rw [V]
           refine evR_calls (I := noFacts) (v := .int .i64 (4)) (ctxOf_ok (lib1_nil _ _) (eq_none _)) (by kernel_rfl) Tryz.func126 rfl lps_nil (cax_00001 a) rfl (all2_R (.cons rfl .nil)) rfl w (Nat.zero_le _) (pickL_ok ?_ _)
           repeat' (first | exact cd_nil | refine cd_cons ?_ ?_)
           all_goals first | rfl | with_reducible assumption
         | false =>
           cases k5 : (decide (a.ac < 1)) with
           | true =>
             have V : (axE a) = (4) := by
               simp only [beq_iff_eq, beq_eq_false_iff_ne, ne_eq, bne_iff_ne, bne_eq_false_iff_eq, decide_eq_true_eq, decide_eq_false_iff_not, Bool.not_eq_true', Bool.not_eq_false', ge_iff_le, gt_iff_lt] at *
               try simp only [IntKind.wrap_i64] at *
               unfold axE
               repeat' split
               all_goals omega
             rw [V]
             refine evR_calls (I := noFacts) (v := .int .i64 (4)) (ctxOf_ok (lib1_nil _ _) (eq_none _)) (by kernel_rfl) Tryz.func126 rfl lps_nil (cax_000001 a) rfl (all2_R (.cons rfl .nil)) rfl w (Nat.zero_le _) (pickL_ok ?_ _)
             repeat' (first | exact cd_nil | refine cd_cons ?_ ?_)
             all_goals first | rfl | with_reducible assumption
           | false =>
             cases k6 : (decide (a.ac > a.sp)) with
             | true =>
               have V : (axE a) = (4) := by
                 simp only [beq_iff_eq, beq_eq_false_iff_ne, ne_eq, bne_iff_ne, bne_eq_false_iff_eq, decide_eq_true_eq, decide_eq_false_iff_not, Bool.not_eq_true', Bool.not_eq_false', ge_iff_le, gt_iff_lt] at *
                 try simp only [IntKind.wrap_i64] at *
                 unfold axE
                 repeat' split
                 all_goals omega
               rw [V]
               refine evR_calls (I := noFacts) (v := .int .i64 (4)) (ctxOf_ok (lib1_nil _ _) (eq_none _)) (by kernel_rfl) Tryz.func126 rfl lps_nil (cax_0000001 a) rfl (all2_R (.cons rfl .nil)) rfl w (Nat.zero_le _) (pickL_ok ?_ _)
               repeat' (first | exact cd_nil | refine cd_cons ?_ ?_)
               all_goals first | rfl | with_reducible assumption
             | false =>
               cases k7 : (decide (IntKind.i64.wrap (64 * a.ac) < a.sp)) with
               | true =>
                 have V : (axE a) = (4) := by
                   simp only [beq_iff_eq, beq_eq_false_iff_ne, ne_eq, bne_iff_ne, bne_eq_false_iff_eq, decide_eq_true_eq, decide_eq_false_iff_not, Bool.not_eq_true', Bool.not_eq_false', ge_iff_le, gt_iff_lt] at *
                   try simp only [IntKind.wrap_i64] at *
                   unfold axE
                   repeat' split
                   all_goals omega
                 rw [V]
                 refine evR_calls (I := noFacts) (v := .int .i64 (4)) (ctxOf_ok (lib1_nil _ _) (eq_none _)) (by kernel_rfl) Tryz.func126 rfl lps_nil (cax_00000001 a) rfl (all2_R (.cons rfl .nil)) rfl w (Nat.zero_le _) (pickL_ok ?_ _)
                 repeat' (first | exact cd_nil | refine cd_cons ?_ ?_)
                 all_goals first | rfl | with_reducible assumption
               | false =>
                 have V : (axE a) = (0) := by
                   simp only [beq_iff_eq, beq_eq_false_iff_ne, ne_eq, bne_iff_ne, bne_eq_false_iff_eq, decide_eq_true_eq, decide_eq_false_iff_not, Bool.not_eq_true', Bool.not_eq_false', ge_iff_le, gt_iff_lt] at *
                   try simp only [IntKind.wrap_i64] at *
                   unfold axE
                   repeat' split
                   all_goals omega
                 rw [V]
                 refine evR_calls (I := noFacts) (v := .int .i64 (0)) (ctxOf_ok (lib1_nil _ _) (eq_none _)) (by kernel_rfl) Tryz.func126 rfl lps_nil (cax_00000000 a) rfl (all2_R (.cons rfl .nil)) rfl w (Nat.zero_le _) (pickL_ok ?_ _)
                 repeat' (first | exact cd_nil | refine cd_cons ?_ ?_)
                 all_goals first | rfl | with_reducible assumption
theorem jmp_ (x : Int) (y : Int) : evR (ctxOf Tryz.prog noFacts (fun _ => false) []) Tryz.f143 [(.w (.one (.int .i64 x))), (.w (.one (.int .i64 y)))] [] = some (AV.w (AW.one (AC.bool (decide (IntKind.i64.wrap ((bif true then if y > x then y else x else if y < x then y else x) - bif false then if y > x then y else x else if y < x then y else x) > 1073741824)))), (pickL [] [])) := by kernel_rfl
theorem jmp_pl (x : Int) (y : Int) (hrp : rgB x = true) (hrq : rgB y = true) : Pl Tryz.prog 143 [.int .i64 x, .int .i64 y] (.bool (decide (dst x y > 1073741824))) := fun w => by
 have hp := rgB_iff.1 hrp
 have hq := rgB_iff.1 hrq
 have V : (decide (dst x y > 1073741824)) = ((decide (IntKind.i64.wrap ((bif true then if y > x then y else x else if y < x then y else x) - bif false then if y > x then y else x else if y < x then y else x) > 1073741824))) := by
   refine decide_eq_decide.2 ?_
   simp only [IntKind.wrap_i64, cond_true, cond_false] at *
   unfold dst
   repeat' split
   all_goals omega
 rw [V]
 refine evR_calls (I := noFacts) (v := .bool ((decide (IntKind.i64.wrap ((bif true then if y > x then y else x else if y < x then y else x) - bif false then if y > x then y else x else if y < x then y else x) > 1073741824)))) (ctxOf_ok (lib1_nil _ _) (eq_none _)) (by kernel_rfl) Tryz.func143 rfl lps_nil (jmp_ x y) rfl (all2_R (.cons rfl (.cons rfl .nil))) rfl w (Nat.zero_le _) (pickL_ok ?_ _)
 repeat' (first | exact cd_nil | refine cd_cons ?_ ?_)
 all_goals first | rfl | with_reducible assumption
noncomputable abbrev libA0 : List (Nat × FnSp Empty) := [(127, inS)]
theorem libA0_ok : LibOk Tryz.prog noFacts (lib1 libA0) := (lib1_cons (sp2_ok fun a p _ => ⟨_, rfl, inn_pl a p⟩) Tryz.call127 (lib1_nil _ _))
theorem rch_1 (m : Mo) (u : Po) : evR (ctxOf Tryz.prog noFacts (fun _ => false) libA0) Tryz.f83 [(moA m), (poA u)] [true] = some (AV.w (AW.one (AC.bool (inA m.l u.al))), (pickL [(inA m.z u.az, true)] [0, 0, 0, 0, 0, 0])) := by kernel_rfl
theorem rch_0 (m : Mo) (u : Po) : evR (ctxOf Tryz.prog noFacts (fun _ => false) libA0) Tryz.f83 [(moA m), (poA u)] [false] = some (AV.w (AW.one (AC.yes false)), (pickL [(inA m.z u.az, false)] [0, 0, 0, 0, 0, 0])) := by kernel_rfl
theorem rch_pl (m : Mo) (u : Po)  : Pl Tryz.prog 83 [moV m, poV u] (.bool (inM m u)) := fun w => by
 cases k0 : (inA m.z u.az) with
 | true =>
   have V : (inM m u) = ((inA m.l u.al)) := by
     unfold inM
     simp_all
   rw [V]
   refine evR_calls (I := noFacts) (v := .bool ((inA m.l u.al))) (ctxOf_ok libA0_ok (eq_none _)) (by kernel_rfl) Tryz.func83 rfl lps_nil (rch_1 m u) rfl (all2_R (.cons rfl (.cons rfl .nil))) rfl w (Nat.zero_le _) (pickL_ok ?_ _)
   repeat' (first | exact cd_nil | refine cd_cons ?_ ?_)
   all_goals first | rfl | with_reducible assumption
 | false =>
   have V : (inM m u) = (false) := by
     unfold inM
     simp_all
   rw [V]
   refine evR_calls (I := noFacts) (v := .bool (false)) (ctxOf_ok libA0_ok (eq_none _)) (by kernel_rfl) Tryz.func83 rfl lps_nil (rch_0 m u) rfl (all2_R (.cons rfl (.cons rfl .nil))) rfl w (Nat.zero_le _) (pickL_ok ?_ _)
   repeat' (first | exact cd_nil | refine cd_cons ?_ ?_)
   all_goals first | rfl | with_reducible assumption
noncomputable abbrev libA1 : List (Nat × FnSp Empty) := [(126, axS), (83, rcS)]
theorem libA1_ok : LibOk Tryz.prog noFacts (lib1 libA1) := (lib1_cons (sp1_ok fun a _ => ⟨_, rfl, cax_pl a⟩) Tryz.call126 (lib1_cons (sp2_ok fun m p _ => ⟨_, rfl, rch_pl m p⟩) Tryz.call83 (lib1_nil _ _)))
theorem cmo_1 (m : Mo) : evR (ctxOf Tryz.prog noFacts (fun _ => false) libA1) Tryz.f82 [(moA m)] [true] = some (AV.w (AW.one (AC.int IntKind.i64 (axE m.z))), (pickL [(axE m.z != 0, true)] [0])) := by kernel_rfl
theorem cmo_01 (m : Mo) : evR (ctxOf Tryz.prog noFacts (fun _ => false) libA1) Tryz.f82 [(moA m)] [false, true] = some (AV.w (AW.one (AC.int IntKind.i64 (axE m.l))), (pickL [(axE m.z != 0, false), (axE m.l != 0, true)] [0, 1])) := by kernel_rfl
theorem cmo_001 (m : Mo) : evR (ctxOf Tryz.prog noFacts (fun _ => false) libA1) Tryz.f82 [(moA m)] [false, false, true] = some (AV.w (AW.one (AC.int IntKind.i64 4)), (pickL [(axE m.z != 0, false), (axE m.l != 0, false), (!inM m m.p, true)] [0, 1, 2])) := by kernel_rfl
theorem cmo_000 (m : Mo) : evR (ctxOf Tryz.prog noFacts (fun _ => false) libA1) Tryz.f82 [(moA m)] [false, false, false] = some (AV.w (AW.one (AC.int IntKind.i64 0)), (pickL [(axE m.z != 0, false), (axE m.l != 0, false), (!inM m m.p, false)] [0, 1, 2])) := by kernel_rfl
theorem cmo_pl (m : Mo)  : Pl Tryz.prog 82 [moV m] (.int .i64 (moE m)) := fun w => by
 cases k0 : (axE m.z != 0) with
 | true =>
   have V : (moE m) = ((axE m.z)) := by
     unfold moE
     simp_all
   rw [V]
   refine evR_calls (I := noFacts) (v := .int .i64 ((axE m.z))) (ctxOf_ok libA1_ok (eq_none _)) (by kernel_rfl) Tryz.func82 rfl lps_nil (cmo_1 m) rfl (all2_R (.cons rfl .nil)) rfl w (Nat.zero_le _) (pickL_ok ?_ _)
   repeat' (first | exact cd_nil | refine cd_cons ?_ ?_)
   all_goals first | rfl | with_reducible assumption
 | false =>
   cases k1 : (axE m.l != 0) with
   | true =>
     have V : (moE m) = ((axE m.l)) := by
       unfold moE
       simp_all
     rw [V]
     refine evR_calls (I := noFacts) (v := .int .i64 ((axE m.l))) (ctxOf_ok libA1_ok (eq_none _)) (by kernel_rfl) Tryz.func82 rfl lps_nil (cmo_01 m) rfl (all2_R (.cons rfl .nil)) rfl w (Nat.zero_le _) (pickL_ok ?_ _)
     repeat' (first | exact cd_nil | refine cd_cons ?_ ?_)
     all_goals first | rfl | with_reducible assumption
   | false =>
     cases k2 : (!inM m m.p) with
     | true =>
       have V : (moE m) = (4) := by
         unfold moE
         simp_all
       rw [V]
       refine evR_calls (I := noFacts) (v := .int .i64 (4)) (ctxOf_ok libA1_ok (eq_none _)) (by kernel_rfl) Tryz.func82 rfl lps_nil (cmo_001 m) rfl (all2_R (.cons rfl .nil)) rfl w (Nat.zero_le _) (pickL_ok ?_ _)
       repeat' (first | exact cd_nil | refine cd_cons ?_ ?_)
       all_goals first | rfl | with_reducible assumption
     | false =>
       have V : (moE m) = (0) := by
         unfold moE
         simp_all
       rw [V]
       refine evR_calls (I := noFacts) (v := .int .i64 (0)) (ctxOf_ok libA1_ok (eq_none _)) (by kernel_rfl) Tryz.func82 rfl lps_nil (cmo_000 m) rfl (all2_R (.cons rfl .nil)) rfl w (Nat.zero_le _) (pickL_ok ?_ _)
       repeat' (first | exact cd_nil | refine cd_cons ?_ ?_)
       all_goals first | rfl | with_reducible assumption
end
end Go.Proofs.YtmhhdedekblbnaaGreat.AtSl
