/-
 To as a function, the reference's likewise; the walk of the law SlewPoses.
 Conditions: those of each theorem.
-/
import Derived.Test.YtmhhdedekblbnaaGreatQQE
import Derived.Test.YtmhhdedekblbnaaGreatQGO
set_option maxRecDepth 100000
set_option linter.unusedVariables false
set_option linter.unusedSimpArgs false
namespace Go.Proofs.YtmhhdedekblbnaaGreat.AtSl
open Go.RowKit Ev Wd
open Go.Proofs.YtmhhdedekblbnaaGreat
variable {F : Type}
noncomputable section

def po0 : Po := ⟨0, 0⟩
def tsE (m : Mo) (u v : Po) : Int := if tgE m.z u.az v.az = 0 then tgE m.l u.al v.al else tgE m.z u.az v.az
def tsP (m : Mo) (u v : Po) : Po := if tsE m u v = 0 then ⟨tgP m.z u.az v.az, tgP m.l u.al v.al⟩ else po0
def toE (m : Mo) (u v : Po) : Int := if moE m = 0 then (if inM m u = true then tsE m u v else 4) else moE m
def toP (m : Mo) (u v : Po) : Po := if toE m u v = 0 then tsP m u v else po0
def toN (m : Mo) (u v : Po) : Int := if toE m u v = 0 then ma (stV m.z.sp m.z.ac (dst u.az (tgP m.z u.az v.az))) (stV m.l.sp m.l.ac (dst u.al (tgP m.l u.al v.al))) else 0
abbrev okM (m : Mo) : Bool := decide (moE m = 0)
def i64P (v : Po) : Bool := i64B v.az && i64B v.al
abbrev tsS : FnSp F := sp3 dMo dPo dPo (fun m u v => .tup [.agg [.int .i64 (tsP m u v).az, .int .i64 (tsP m u v).al], .one (.int .i64 (tsE m u v))]) (fun m u v => [(okM m && inM m u, true), (i64P v, true)])
abbrev toS : FnSp F := sp3 dMo dPo dPo (fun m u v => .tup [.agg [.int .i64 (toP m u v).az, .int .i64 (toP m u v).al], .one (.int .i64 (toN m u v)), .one (.int .i64 (toE m u v))]) (fun m u v => [(i64P v, true)])
theorem mo_iff {m : Mo} : moE m = 0 ↔ axE m.z = 0 /\ axE m.l = 0 /\ inM m m.p = true := by
 unfold moE
 split
 · split
   · split <;> simp_all
   · simp_all
 · simp_all
theorem inM_iff {m : Mo} {u : Po} : inM m u = true ↔ inA m.z u.az = true /\ inA m.l u.al = true := by unfold inM; rw [Bool.and_eq_true]
theorem i64P_iff {v : Po} : i64P v = true ↔ i64B v.az = true /\ i64B v.al = true := by unfold i64P; rw [Bool.and_eq_true]
theorem tgE_or (a : Ax) (x y : Int) : tgE a x y = 0 /\ tgO a x y = true \/ tgE a x y = 4 /\ tgO a x y = false := by
 unfold tgE
 cases tgO a x y <;> simp
theorem tg_in {a : Ax} {x y : Int} (h1 : axE a = 0) (h2 : inA a x = true) (h3 : tgE a x y = 0) : inA a (tgP a x y) = true := by
 rcases tgE_or a x y with ⟨_, h⟩ | ⟨h, _⟩
 · exact inA_iff.2 ((tg_sp y (inA_iff.1 h2)).1 h).1
 · omega
theorem ts_in {m : Mo} {u v : Po} (h1 : moE m = 0) (h2 : inM m u = true) (h3 : tsE m u v = 0) : tsP m u v = ⟨tgP m.z u.az v.az, tgP m.l u.al v.al⟩ /\ inA m.z (tgP m.z u.az v.az) = true /\ inA m.l (tgP m.l u.al v.al) = true := by
 obtain ⟨a1, a2, _⟩ := mo_iff.1 h1
 obtain ⟨b1, b2⟩ := inM_iff.1 h2
 have e : tgE m.z u.az v.az = 0 /\ tgE m.l u.al v.al = 0 := by
   unfold tsE at h3
   split at h3
   · exact ⟨by assumption, h3⟩
   · exact absurd h3 (by assumption)
 exact ⟨if_pos h3, tg_in a1 b1 e.1, tg_in a2 b2 e.2⟩
noncomputable abbrev libG1 : List (Nat × FnSp Empty) := [(128, tgS)]
theorem libG1_ok : LibOk Tryz.prog noFacts (lib1 libG1) := (lib1_cons (sp3_ok fun a p g hc => ⟨_, rfl, tar_pl a p g (ca3 hc).1 (ca3 hc).2.1 (ca3 hc).2.2⟩) Tryz.call128 (lib1_nil _ _))
theorem tgs_1 (m : Mo) (u : Po) (v : Po) : evR (ctxOf Tryz.prog noFacts (fun _ => false) libG1) Tryz.f84 [(moA m), (poA u), (poA v)] [true] = some (AV.tup [AW.agg [AC.int IntKind.i64 0, AC.int IntKind.i64 0], AW.one (AC.int IntKind.i64 (tgE m.z u.az v.az))], (pickL [(decide (axE m.z = 0), true), (inA m.z u.az, true), (i64B v.az, true), (tgE m.z u.az v.az != 0, true)] [0, 1, 2, 3])) := by kernel_rfl
theorem tgs_01 (m : Mo) (u : Po) (v : Po) : evR (ctxOf Tryz.prog noFacts (fun _ => false) libG1) Tryz.f84 [(moA m), (poA u), (poA v)] [false, true] = some (AV.tup [AW.agg [AC.int IntKind.i64 0, AC.int IntKind.i64 0], AW.one (AC.int IntKind.i64 (tgE m.l u.al v.al))], (pickL [(decide (axE m.z = 0), true), (inA m.z u.az, true), (i64B v.az, true), (tgE m.z u.az v.az != 0, false), (decide (axE m.l = 0), true), (inA m.l u.al, true), (i64B v.al, true), (tgE m.l u.al v.al != 0, true)] [0, 1, 2, 3, 4, 5, 6, 7])) := by kernel_rfl
theorem tgs_00 (m : Mo) (u : Po) (v : Po) : evR (ctxOf Tryz.prog noFacts (fun _ => false) libG1) Tryz.f84 [(moA m), (poA u), (poA v)] [false, false] = some (AV.tup [AW.agg [AC.int IntKind.i64 (tgP m.z u.az v.az), AC.int IntKind.i64 (tgP m.l u.al v.al)], AW.one (AC.int IntKind.i64 0)], (pickL [(decide (axE m.z = 0), true), (inA m.z u.az, true), (i64B v.az, true), (tgE m.z u.az v.az != 0, false), (decide (axE m.l = 0), true), (inA m.l u.al, true), (i64B v.al, true), (tgE m.l u.al v.al != 0, false)] [0, 1, 2, 3, 4, 5, 6, 7])) := by kernel_rfl
set_option maxHeartbeats 4000000 in
theorem tgs_pl (m : Mo) (u : Po) (v : Po) (h1 : (okM m && inM m u) = true) (h2 : i64P v = true) : Pl Tryz.prog 84 [moV m, poV u, poV v] (.tuple #[.agg #[.int .i64 ((tsP m u v).az), .int .i64 ((tsP m u v).al)], .int .i64 (tsE m u v)]) := fun w => by
 obtain ⟨h11, h12⟩ := (Bool.and_eq_true _ _).mp h1
 have g1 : moE m = 0 := of_decide_eq_true h11
 obtain ⟨a1, a2, _⟩ := mo_iff.1 g1
 obtain ⟨b1, b2⟩ := inM_iff.1 h12
 obtain ⟨c1, c2⟩ := i64P_iff.1 h2
 have d1 : decide (axE m.z = 0) = true := decide_eq_true a1
 have d2 : decide (axE m.l = 0) = true := decide_eq_true a2
 cases k0 : (tgE m.z u.az v.az != 0) with
 | true =>
   have V0 : ((tsP m u v).az) = (0) := by
     unfold tsP tsE po0
     simp_all
   have V1 : ((tsP m u v).al) = (0) := by
     unfold tsP tsE po0
     simp_all
   have V2 : (tsE m u v) = ((tgE m.z u.az v.az)) := by
     unfold tsE
     simp_all
   rw [V0, V1, V2]
   refine evR_calls (I := noFacts) (v := .tuple #[.agg #[.int .i64 (0), .int .i64 (0)], .int .i64 ((tgE m.z u.az v.az))]) (ctxOf_ok libG1_ok (eq_none _)) (by kernel_rfl) Tryz.func84 rfl lps_nil (tgs_1 m u v) rfl (all2_R (.cons rfl (.cons rfl (.cons rfl .nil)))) rfl w (Nat.zero_le _) (pickL_ok ?_ _)
   repeat' (first | exact cd_nil | refine cd_cons ?_ ?_)
   all_goals first | with_reducible rfl | with_reducible assumption | rfl | (refine decide_eq_true ?_; simp only [beq_iff_eq, beq_eq_false_iff_ne, ne_eq, bne_iff_ne, bne_eq_false_iff_eq, decide_eq_true_eq, decide_eq_false_iff_not, Bool.not_eq_true', Bool.not_eq_false'] at *; omega) | (simp_all; done)
 | false =>
   cases k1 : (tgE m.l u.al v.al != 0) with
   | true =>
     have V0 : ((tsP m u v).az) = (0) := by
       unfold tsP tsE po0
       simp_all
     have V1 : ((tsP m u v).al) = (0) := by
       unfold tsP tsE po0
       simp_all
     have V2 : (tsE m u v) = ((tgE m.l u.al v.al)) := by
       unfold tsE
       simp_all
     rw [V0, V1, V2]
     refine evR_calls (I := noFacts) (v := .tuple #[.agg #[.int .i64 (0), .int .i64 (0)], .int .i64 ((tgE m.l u.al v.al))]) (ctxOf_ok libG1_ok (eq_none _)) (by kernel_rfl) Tryz.func84 rfl lps_nil (tgs_01 m u v) rfl (all2_R (.cons rfl (.cons rfl (.cons rfl .nil)))) rfl w (Nat.zero_le _) (pickL_ok ?_ _)
     repeat' (first | exact cd_nil | refine cd_cons ?_ ?_)
     all_goals first | with_reducible rfl | with_reducible assumption | rfl | (refine decide_eq_true ?_; simp only [beq_iff_eq, beq_eq_false_iff_ne, ne_eq, bne_iff_ne, bne_eq_false_iff_eq, decide_eq_true_eq, decide_eq_false_iff_not, Bool.not_eq_true', Bool.not_eq_false'] at *; omega) | (simp_all; done)
   | false =>
     have V0 : ((tsP m u v).az) = ((tgP m.z u.az v.az)) := by
       unfold tsP tsE po0
       simp_all
     have V1 : ((tsP m u v).al) = ((tgP m.l u.al v.al)) := by
       unfold tsP tsE po0
       simp_all
     have V2 : (tsE m u v) = (0) := by
       unfold tsE
       simp_all
     rw [V0, V1, V2]
     refine evR_calls (I := noFacts) (v := .tuple #[.agg #[.int .i64 ((tgP m.z u.az v.az)), .int .i64 ((tgP m.l u.al v.al))], .int .i64 (0)]) (ctxOf_ok libG1_ok (eq_none _)) (by kernel_rfl) Tryz.func84 rfl lps_nil (tgs_00 m u v) rfl (all2_R (.cons rfl (.cons rfl (.cons rfl .nil)))) rfl w (Nat.zero_le _) (pickL_ok ?_ _)
     repeat' (first | exact cd_nil | refine cd_cons ?_ ?_)
     all_goals first | with_reducible rfl | with_reducible assumption | rfl | (refine decide_eq_true ?_; simp only [beq_iff_eq, beq_eq_false_iff_ne, ne_eq, bne_iff_ne, bne_eq_false_iff_eq, decide_eq_true_eq, decide_eq_false_iff_not, Bool.not_eq_true', Bool.not_eq_false'] at *; omega) | (simp_all; done)
noncomputable abbrev libG2 : List (Nat × FnSp Empty) := [(82, moS), (83, rcS), (84, tsS), (85, stS)]
theorem libG2_ok : LibOk Tryz.prog noFacts (lib1 libG2) := (lib1_cons (sp1_ok fun m _ => ⟨_, rfl, cmo_pl m⟩) Tryz.call82 (lib1_cons (sp2_ok fun m p _ => ⟨_, rfl, rch_pl m p⟩) Tryz.call83 (lib1_cons (sp3_ok fun m u v hc => ⟨_, rfl, tgs_pl m u v (ca2 hc).1 (ca2 hc).2⟩) Tryz.call84 (lib1_cons (sp3_ok fun a p q hc => ⟨_, rfl, ste_pl a p q (ca3 hc).1 (ca3 hc).2.1 (ca3 hc).2.2⟩) Tryz.call85 (lib1_nil _ _)))))
theorem too_1 (m : Mo) (u : Po) (v : Po) : evR (ctxOf Tryz.prog noFacts (fun _ => false) libG2) Tryz.f40 [(moA m), (poA u), (poA v)] [true] = some (AV.tup [AW.agg [AC.int IntKind.i64 0, AC.int IntKind.i64 0], AW.one (AC.int IntKind.i64 0), AW.one (AC.int IntKind.i64 (moE m))], (pickL [(moE m != 0, true)] [0])) := by kernel_rfl
theorem too_01 (m : Mo) (u : Po) (v : Po) : evR (ctxOf Tryz.prog noFacts (fun _ => false) libG2) Tryz.f40 [(moA m), (poA u), (poA v)] [false, true] = some (AV.tup [AW.agg [AC.int IntKind.i64 0, AC.int IntKind.i64 0], AW.one (AC.int IntKind.i64 0), AW.one (AC.int IntKind.i64 4)], (pickL [(moE m != 0, false), (!inM m u, true)] [0, 1])) := by kernel_rfl
theorem too_001 (m : Mo) (u : Po) (v : Po) : evR (ctxOf Tryz.prog noFacts (fun _ => false) libG2) Tryz.f40 [(moA m), (poA u), (poA v)] [false, false, true] = some (AV.tup [AW.agg [AC.int IntKind.i64 0, AC.int IntKind.i64 0], AW.one (AC.int IntKind.i64 0), AW.one (AC.int IntKind.i64 (tsE m u v))], (pickL [(moE m != 0, false), (!inM m u, false), (okM m && inM m u, true), (i64P v, true), (tsE m u v != 0, true)] [0, 1, 2, 3, 4])) := by kernel_rfl
theorem too_000 (m : Mo) (u : Po) (v : Po) : evR (ctxOf Tryz.prog noFacts (fun _ => false) libG2) Tryz.f40 [(moA m), (poA u), (poA v)] [false, false, false] = some (AV.tup [AW.agg [AC.int IntKind.i64 (tsP m u v).az, AC.int IntKind.i64 (tsP m u v).al], AW.one (AC.int IntKind.i64 (bif true then if stV m.l.sp m.l.ac (dst u.al (tsP m u v).al) > stV m.z.sp m.z.ac (dst u.az (tsP m u v).az) then stV m.l.sp m.l.ac (dst u.al (tsP m u v).al) else stV m.z.sp m.z.ac (dst u.az (tsP m u v).az) else if stV m.l.sp m.l.ac (dst u.al (tsP m u v).al) < stV m.z.sp m.z.ac (dst u.az (tsP m u v).az) then stV m.l.sp m.l.ac (dst u.al (tsP m u v).al) else stV m.z.sp m.z.ac (dst u.az (tsP m u v).az))), AW.one (AC.int IntKind.i64 0)], (pickL [(moE m != 0, false), (!inM m u, false), (okM m && inM m u, true), (i64P v, true), (tsE m u v != 0, false), (decide (axE m.z = 0), true), (inA m.z u.az, true), (inA m.z (tsP m u v).az, true), (decide (axE m.l = 0), true), (inA m.l u.al, true), (inA m.l (tsP m u v).al, true)] [0, 1, 2, 3, 4, 5, 6, 7, 8, 9, 10])) := by kernel_rfl
set_option maxHeartbeats 4000000 in
theorem too_pl (m : Mo) (u : Po) (v : Po) (h2 : i64P v = true) : Pl Tryz.prog 40 [moV m, poV u, poV v] (.tuple #[.agg #[.int .i64 ((toP m u v).az), .int .i64 ((toP m u v).al)], .int .i64 (toN m u v), .int .i64 (toE m u v)]) := fun w => by
 cases k0 : (moE m != 0) with
 | true =>
   have V0 : ((toP m u v).az) = (0) := by
     unfold toP toE po0
     simp_all
   have V1 : ((toP m u v).al) = (0) := by
     unfold toP toE po0
     simp_all
   have V2 : (toN m u v) = (0) := by
     unfold toN toE
     simp_all
   have V3 : (toE m u v) = ((moE m)) := by
     unfold toE
     simp_all
   rw [V0, V1, V2, V3]
   refine evR_calls (I := noFacts) (v := .tuple #[.agg #[.int .i64 (0), .int .i64 (0)], .int .i64 (0), .int .i64 ((moE m))]) (ctxOf_ok libG2_ok (eq_none _)) (by kernel_rfl) Tryz.func40 rfl lps_nil (too_1 m u v) rfl (all2_R (.cons rfl (.cons rfl (.cons rfl .nil)))) rfl w (Nat.zero_le _) (pickL_ok ?_ _)
   repeat' (first | exact cd_nil | refine cd_cons ?_ ?_)
   all_goals first | with_reducible rfl | with_reducible assumption | rfl | (refine decide_eq_true ?_; simp only [beq_iff_eq, beq_eq_false_iff_ne, ne_eq, bne_iff_ne, bne_eq_false_iff_eq, decide_eq_true_eq, decide_eq_false_iff_not, Bool.not_eq_true', Bool.not_eq_false'] at *; omega) | (have g1 : moE m = 0 := (by simpa using k0); have g2 : inM m u = true := (by simpa using k1); have q1 := (mo_iff.1 g1).1; have q2 := (mo_iff.1 g1).2.1; have q3 := inM_iff.1 g2; first | exact decide_eq_true (by assumption) | exact q3.1 | exact q3.2 | (unfold okM; rw [g1, g2]; rfl) | (have g3 : tsE m u v = 0 := (by simp_all); have T := ts_in g1 g2 g3; rw [T.1]; first | exact T.2.1 | exact T.2.2))
 | false =>
   cases k1 : (!inM m u) with
   | true =>
     have V0 : ((toP m u v).az) = (0) := by
       unfold toP toE po0
       simp_all
     have V1 : ((toP m u v).al) = (0) := by
       unfold toP toE po0
       simp_all
     have V2 : (toN m u v) = (0) := by
       unfold toN toE
       simp_all
     have V3 : (toE m u v) = (4) := by
       unfold toE
       simp_all
     rw [V0, V1, V2, V3]
     refine evR_calls (I := noFacts) (v := .tuple #[.agg #[.int .i64 (0), .int .i64 (0)], .int .i64 (0), .int .i64 (4)]) (ctxOf_ok libG2_ok (eq_none _)) (by kernel_rfl) Tryz.func40 rfl lps_nil (too_01 m u v) rfl (all2_R (.cons rfl (.cons rfl (.cons rfl .nil)))) rfl w (Nat.zero_le _) (pickL_ok ?_ _)
     repeat' (first | exact cd_nil | refine cd_cons ?_ ?_)
     all_goals first | with_reducible rfl | with_reducible assumption | rfl | (refine decide_eq_true ?_; simp only [beq_iff_eq, beq_eq_false_iff_ne, ne_eq, bne_iff_ne, bne_eq_false_iff_eq, decide_eq_true_eq, decide_eq_false_iff_not, Bool.not_eq_true', Bool.not_eq_false'] at *; omega) | (have g1 : moE m = 0 := (by simpa using k0); have g2 : inM m u = true := (by simpa using k1); have q1 := (mo_iff.1 g1).1; have q2 := (mo_iff.1 g1).2.1; have q3 := inM_iff.1 g2; first | exact decide_eq_true (by assumption) | exact q3.1 | exact q3.2 | (unfold okM; rw [g1, g2]; rfl) | (have g3 : tsE m u v = 0 := (by simp_all); have T := ts_in g1 g2 g3; rw [T.1]; first | exact T.2.1 | exact T.2.2))
   | false =>
     cases k2 : (tsE m u v != 0) with
     | true =>
       have V0 : ((toP m u v).az) = (0) := by
         unfold toP toE po0
         simp_all
       have V1 : ((toP m u v).al) = (0) := by
         unfold toP toE po0
         simp_all
       have V2 : (toN m u v) = (0) := by
         unfold toN toE
         simp_all
       have V3 : (toE m u v) = ((tsE m u v)) := by
         unfold toE
         simp_all
       rw [V0, V1, V2, V3]
       refine evR_calls (I := noFacts) (v := .tuple #[.agg #[.int .i64 (0), .int .i64 (0)], .int .i64 (0), .int .i64 ((tsE m u v))]) (ctxOf_ok libG2_ok (eq_none _)) (by kernel_rfl) Tryz.func40 rfl lps_nil (too_001 m u v) rfl (all2_R (.cons rfl (.cons rfl (.cons rfl .nil)))) rfl w (Nat.zero_le _) (pickL_ok ?_ _)
       repeat' (first | exact cd_nil | refine cd_cons ?_ ?_)
       all_goals first | with_reducible rfl | with_reducible assumption | rfl | (refine decide_eq_true ?_; simp only [beq_iff_eq, beq_eq_false_iff_ne, ne_eq, bne_iff_ne, bne_eq_false_iff_eq, decide_eq_true_eq, decide_eq_false_iff_not, Bool.not_eq_true', Bool.not_eq_false'] at *; omega) | (have g1 : moE m = 0 := (by simpa using k0); have g2 : inM m u = true := (by simpa using k1); have q1 := (mo_iff.1 g1).1; have q2 := (mo_iff.1 g1).2.1; have q3 := inM_iff.1 g2; first | exact decide_eq_true (by assumption) | exact q3.1 | exact q3.2 | (unfold okM; rw [g1, g2]; rfl) | (have g3 : tsE m u v = 0 := (by simp_all); have T := ts_in g1 g2 g3; rw [T.1]; first | exact T.2.1 | exact T.2.2))
     | false =>
       have V0 : ((toP m u v).az) = ((tsP m u v).az) := by
         unfold toP toE po0
         simp_all
       have V1 : ((toP m u v).al) = ((tsP m u v).al) := by
         unfold toP toE po0
         simp_all
       have V2 : (toN m u v) = ((bif true then if stV m.l.sp m.l.ac (dst u.al (tsP m u v).al) > stV m.z.sp m.z.ac (dst u.az (tsP m u v).az) then stV m.l.sp m.l.ac (dst u.al (tsP m u v).al) else stV m.z.sp m.z.ac (dst u.az (tsP m u v).az) else if stV m.l.sp m.l.ac (dst u.al (tsP m u v).al) < stV m.z.sp m.z.ac (dst u.az (tsP m u v).az) then stV m.l.sp m.l.ac (dst u.al (tsP m u v).al) else stV m.z.sp m.z.ac (dst u.az (tsP m u v).az))) := by
         have g1 : moE m = 0 := (by simpa using k0)
         have g2 : inM m u = true := (by simpa using k1)
         have g3 : tsE m u v = 0 := (by simp_all)
         have T := ts_in g1 g2 g3
         have e : toE m u v = 0 := by unfold toE; simp_all
         rw [T.1]
         unfold toN
         rw [if_pos e]
         rfl
       have V3 : (toE m u v) = (0) := by
         unfold toE
         simp_all
       rw [V0, V1, V2, V3]
       refine evR_calls (I := noFacts) (v := .tuple #[.agg #[.int .i64 ((tsP m u v).az), .int .i64 ((tsP m u v).al)], .int .i64 ((bif true then if stV m.l.sp m.l.ac (dst u.al (tsP m u v).al) > stV m.z.sp m.z.ac (dst u.az (tsP m u v).az) then stV m.l.sp m.l.ac (dst u.al (tsP m u v).al) else stV m.z.sp m.z.ac (dst u.az (tsP m u v).az) else if stV m.l.sp m.l.ac (dst u.al (tsP m u v).al) < stV m.z.sp m.z.ac (dst u.az (tsP m u v).az) then stV m.l.sp m.l.ac (dst u.al (tsP m u v).al) else stV m.z.sp m.z.ac (dst u.az (tsP m u v).az))), .int .i64 (0)]) (ctxOf_ok libG2_ok (eq_none _)) (by kernel_rfl) Tryz.func40 rfl lps_nil (too_000 m u v) rfl (all2_R (.cons rfl (.cons rfl (.cons rfl .nil)))) rfl w (Nat.zero_le _) (pickL_ok ?_ _)
       repeat' (first | exact cd_nil | refine cd_cons ?_ ?_)
       all_goals first | with_reducible rfl | with_reducible assumption | rfl | (refine decide_eq_true ?_; simp only [beq_iff_eq, beq_eq_false_iff_ne, ne_eq, bne_iff_ne, bne_eq_false_iff_eq, decide_eq_true_eq, decide_eq_false_iff_not, Bool.not_eq_true', Bool.not_eq_false'] at *; omega) | (have g1 : moE m = 0 := (by simpa using k0); have g2 : inM m u = true := (by simpa using k1); have q1 := (mo_iff.1 g1).1; have q2 := (mo_iff.1 g1).2.1; have q3 := inM_iff.1 g2; first | exact decide_eq_true (by assumption) | exact q3.1 | exact q3.2 | (unfold okM; rw [g1, g2]; rfl) | (have g3 : tsE m u v = 0 := (by simp_all); have T := ts_in g1 g2 g3; rw [T.1]; first | exact T.2.1 | exact T.2.2))
end
end Go.Proofs.YtmhhdedekblbnaaGreat.AtSl
