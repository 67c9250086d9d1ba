/-
  horizon.Height as a function.
  Conditions: none.
-/
import Derived.Test.YtagbpehfieejcaaHT
set_option linter.unusedVariables false
set_option linter.unusedSimpArgs false
namespace Go.Proofs.Ytagbpehfieejcaa.AtHz
open Go.RowKit Ev Wd Tg
open Go.Proofs.Ytagbpehfieejcaa
variable {F : Type}
noncomputable section

theorem c2'' {a b : Bool} (h : ∀ p ∈ [(a, true), (b, true)], p.1 = p.2) : a = true ∧ b = true := ⟨h (a, true) (by simp), h (b, true) (by simp)⟩
abbrev bC (a : Bd) : AW F := .agg [.int .i64 a.lo, .int .i64 a.hi, .bool a.u]
noncomputable abbrev libHB : List (Nat × FnSp Empty) := [(74, sES), (75, vES), (76, grwS), (50, sp1 (dInt .i64) (fun x => bA (ofB x x)) (fun _ => [])), (56, sp2 dBd dBd (fun a b => bA (addB a b)) (fun _ _ => [])), (108, sp1 dBd (fun a => bA (waveV cosV 0 a)) (fun _ => [])), (109, sp1 dBd (fun a => bA (waveV sinV 1073741824 a)) (fun _ => [])), (66, sp0 (bA noneB)), (111, sp1 (dInt .i64) (fun x => bA (ofB x x)) (fun _ => [])), (67, sp2 (dInt .i64) (dInt .i64) (fun x y => bA (ofB x y)) (fun _ _ => [])), (19, sp2 dBd dBd (fun a b => bA (addB a b)) (fun _ _ => [])), (28, sp3 dBd (dInt .i64) (dInt .i64) (fun a n d => bA (scaB a n d)) (fun a n d => [(i64B n, true), (i64B d, true)])), (26, sp3 dBd dBd (dInt .i64) (fun a b n => bA (mulB a b n)) (fun a b n => [(i64B n, true)])), (27, sp3 dBd dBd (dInt .i64) (fun a b n => bA (divB a b n)) (fun a b n => [(i64B n, true)])), (110, sp2 dBd (dInt .i64) (fun a n => bA (rootB a n)) (fun a n => [(i64B n, true)])), (112, sp2 dBd dBd (fun a b => .tup [bC (meetB a b), .one (.bool (meetO a b))]) (fun _ _ => []))]
theorem libHB_ok : LibOk Try.prog noFacts (lib1 libHB) := (lib1_cons (sp1_ok fun s _ => ⟨_, rfl, site_pl s⟩) Try.call74 (lib1_cons (sp1_ok fun v _ => ⟨_, rfl, vch_pl v⟩) Try.call75 (lib1_cons (sp1_ok fun v _ => ⟨_, rfl, gwf_pl v⟩) Try.call76 (lib1_cons (sp1_ok fun x _ => ⟨_, rfl, AtArc.exact_pl x⟩) Try.call50 (lib1_cons (sp2_ok fun a b _ => ⟨_, rfl, AtArc.add_pl a b⟩) Try.call56 (lib1_cons (sp1_ok fun a _ => ⟨_, rfl, cosb_pl a⟩) Try.call108 (lib1_cons (sp1_ok fun a _ => ⟨_, rfl, sinb_pl a⟩) Try.call109 (lib1_cons (sp0_ok rfl none_pl) Try.call66 (lib1_cons (sp1_ok fun x _ => ⟨_, rfl, exact_pl x⟩) Try.call111 (lib1_cons (sp2_ok fun x y _ => ⟨_, rfl, of_pl x y⟩) Try.call67 (lib1_cons (sp2_ok fun a b _ => ⟨_, rfl, add_pl a b⟩) Try.call19 (lib1_cons (sp3_ok fun a n d hc => ⟨_, rfl, scale_pl a n d (c2'' hc).1 (c2'' hc).2⟩) Try.call28 (lib1_cons (sp3_ok fun a b n hc => ⟨_, rfl, mul_pl a b n (c1' hc)⟩) Try.call26 (lib1_cons (sp3_ok fun a b n hc => ⟨_, rfl, div_pl a b n (c1' hc)⟩) Try.call27 (lib1_cons (sp2_ok fun a n hc => ⟨_, rfl, root_pl a n (c1' hc)⟩) Try.call110 (lib1_cons (sp2_ok fun a b _ => ⟨_, rfl, meet_pl a b⟩) Try.call112 (lib1_nil _ _)))))))))))))))))
set_option maxRecDepth 100000 in
theorem htf_1 (s : Si) (b : Bd) (v : V3) : evR (ctxOf Try.prog noFacts (fun _ => false) libHB) Try.f49 [(siA s), (bA b), (v3A v)] [true] = some (AV.w (AW.agg [AC.int IntKind.i64 noneB.lo, AC.int IntKind.i64 noneB.hi, AC.bool noneB.u]), (pickL [(sE s != 0, true), (true, true)] [0, 0, 0, 0, 1, 1, 1, 1])) := by kernel_rfl
set_option maxRecDepth 100000 in
theorem htf_01 (s : Si) (b : Bd) (v : V3) : evR (ctxOf Try.prog noFacts (fun _ => false) libHB) Try.f49 [(siA s), (bA b), (v3A v)] [false, true] = some (AV.w (AW.agg [AC.int IntKind.i64 noneB.lo, AC.int IntKind.i64 noneB.hi, AC.bool noneB.u]), (pickL [(sE s != 0, false), (vE v != 0, true), (true, true)] [0, 0, 0, 0, 1, 1, 1, 2])) := by kernel_rfl
set_option maxRecDepth 100000 in
theorem htf_001 (s : Si) (b : Bd) (v : V3) : evR (ctxOf Try.prog noFacts (fun _ => false) libHB) Try.f49 [(siA s), (bA b), (v3A v)] [false, false, true] = some (AV.w (AW.agg [AC.int IntKind.i64 noneB.lo, AC.int IntKind.i64 noneB.hi, AC.bool noneB.u]), (pickL [(sE s != 0, false), (vE v != 0, false), ((addB b (ofB s.lon s.lon)).u, true)] [0, 0, 0, 0, 1, 1, 1, 2])) := by kernel_rfl
set_option maxRecDepth 100000 in
theorem htf_000 (s : Si) (b : Bd) (v : V3) : evR (ctxOf Try.prog noFacts (fun _ => false) libHB) Try.f49 [(siA s), (bA b), (v3A v)] [false, false, false] = some (AV.w (AW.agg [AC.int IntKind.i64 (meetB (divB (addB (scaB (waveV sinV 1073741824 (ofB s.lat s.lat)) (grV v).z 1) (mulB (waveV cosV 0 (ofB s.lat s.lat)) (addB (scaB (waveV cosV 0 (addB b (ofB s.lon s.lon))) (grV v).x 1) (scaB (waveV sinV 1073741824 (addB b (ofB s.lon s.lon))) (grV v).y 1)) 1073741824)) (rootB (ofB (IntKind.i64.wrap (IntKind.i64.wrap (IntKind.i64.wrap ((grV v).x * (grV v).x) + IntKind.i64.wrap ((grV v).y * (grV v).y)) + IntKind.i64.wrap ((grV v).z * (grV v).z))) (IntKind.i64.wrap (IntKind.i64.wrap (IntKind.i64.wrap ((grV v).x * (grV v).x) + IntKind.i64.wrap ((grV v).y * (grV v).y)) + IntKind.i64.wrap ((grV v).z * (grV v).z)))) 1099511627776) 1048576) (ofB (-1073741824) 1073741824)).lo, AC.int IntKind.i64 (meetB (divB (addB (scaB (waveV sinV 1073741824 (ofB s.lat s.lat)) (grV v).z 1) (mulB (waveV cosV 0 (ofB s.lat s.lat)) (addB (scaB (waveV cosV 0 (addB b (ofB s.lon s.lon))) (grV v).x 1) (scaB (waveV sinV 1073741824 (addB b (ofB s.lon s.lon))) (grV v).y 1)) 1073741824)) (rootB (ofB (IntKind.i64.wrap (IntKind.i64.wrap (IntKind.i64.wrap ((grV v).x * (grV v).x) + IntKind.i64.wrap ((grV v).y * (grV v).y)) + IntKind.i64.wrap ((grV v).z * (grV v).z))) (IntKind.i64.wrap (IntKind.i64.wrap (IntKind.i64.wrap ((grV v).x * (grV v).x) + IntKind.i64.wrap ((grV v).y * (grV v).y)) + IntKind.i64.wrap ((grV v).z * (grV v).z)))) 1099511627776) 1048576) (ofB (-1073741824) 1073741824)).hi, AC.bool (meetB (divB (addB (scaB (waveV sinV 1073741824 (ofB s.lat s.lat)) (grV v).z 1) (mulB (waveV cosV 0 (ofB s.lat s.lat)) (addB (scaB (waveV cosV 0 (addB b (ofB s.lon s.lon))) (grV v).x 1) (scaB (waveV sinV 1073741824 (addB b (ofB s.lon s.lon))) (grV v).y 1)) 1073741824)) (rootB (ofB (IntKind.i64.wrap (IntKind.i64.wrap (IntKind.i64.wrap ((grV v).x * (grV v).x) + IntKind.i64.wrap ((grV v).y * (grV v).y)) + IntKind.i64.wrap ((grV v).z * (grV v).z))) (IntKind.i64.wrap (IntKind.i64.wrap (IntKind.i64.wrap ((grV v).x * (grV v).x) + IntKind.i64.wrap ((grV v).y * (grV v).y)) + IntKind.i64.wrap ((grV v).z * (grV v).z)))) 1099511627776) 1048576) (ofB (-1073741824) 1073741824)).u]), (pickL [(sE s != 0, false), (vE v != 0, false), ((addB b (ofB s.lon s.lon)).u, false), (i64B (grV v).x, true), (i64B 1, true), (i64B (grV v).y, true), (i64B (grV v).z, true), (i64B 1073741824, true), (i64B 1099511627776, true), (i64B 1048576, true)] [0, 0, 0, 0, 1, 1, 1, 2, 3, 4, 5, 4, 6, 4, 7, 8, 9])) := by kernel_rfl
theorem bC_val (a : Bd) : (AV.w (bC a) : AV Empty).val = some (bV a) := rfl
theorem nn_eq {v : V3} (h : vE v = 0) : IntKind.i64.wrap (IntKind.i64.wrap (IntKind.i64.wrap ((grV v).x * (grV v).x) + IntKind.i64.wrap ((grV v).y * (grV v).y)) + IntKind.i64.wrap ((grV v).z * (grV v).z)) = nnV v := by
  have g := gr_in h
  have s1 := sq_bd g.1.1 g.1.2
  have s2 := sq_bd g.2.1.1 g.2.1.2
  have s3 := sq_bd g.2.2.1 g.2.2.2
  have n1 := sq_nn (grV v).x
  have n2 := sq_nn (grV v).y
  have n3 := sq_nn (grV v).z
  unfold nnV
  rw [v64 (x := (grV v).x * (grV v).x) (by omega) (by omega), v64 (x := (grV v).y * (grV v).y) (by omega) (by omega), v64 (x := (grV v).z * (grV v).z) (by omega) (by omega), v64 (x := (grV v).x * (grV v).x + (grV v).y * (grV v).y) (by omega) (by omega), v64 (by omega) (by omega)]
theorem htf_pl (s : Si) (b : Bd) (v : V3) : Pl Try.prog 49 [siV s, bV b, v3V v] (bV (htV s b v)) := fun w => by
  by_cases hs : sE s = 0
  · have c1 : (sE s != 0) = false := by rw [hs]; rfl
    by_cases hv : vE v = 0
    · have c2 : (vE v != 0) = false := by rw [hv]; rfl
      cases hu : (hLoc s b).u with
      | false =>
        have c3 : (addB b (ofB s.lon s.lon)).u = false := hu
        have hq : hQ s b v := ⟨hs, hv, hu⟩
        rw [show htV s b v = meetB (hTV s b v) (ofB (-1073741824) 1073741824) from if_pos hq]
        have g := gr_in hv
        have i1 : i64B (grV v).x = true := i64B_iff.2 (by omega)
        have i2 : i64B (grV v).y = true := i64B_iff.2 (by omega)
        have i3 : i64B (grV v).z = true := i64B_iff.2 (by omega)
        have L := htf_000 s b v
        rw [nn_eq hv] at L
        refine evR_calls (I := noFacts) (v := bV (meetB (hTV s b v) (ofB (-1073741824) 1073741824))) (ctxOf_ok libHB_ok (eq_none _)) (by kernel_rfl) Try.func49 rfl lps_nil L rfl (all2_R (.cons rfl (.cons rfl (.cons rfl .nil)))) rfl w (Nat.zero_le _) (pickL_ok ?_ _)
        repeat' (first | exact cd_nil | refine cd_cons ?_ ?_)
        all_goals first | rfl | with_reducible assumption

      | true =>
        have c3 : (addB b (ofB s.lon s.lon)).u = true := hu
        rw [show htV s b v = noneB from if_neg (fun h => by have := h.2.2; rw [hu] at this; cases this)]
        refine evR_calls (I := noFacts) (v := bV noneB) (ctxOf_ok libHB_ok (eq_none _)) (by kernel_rfl) Try.func49 rfl lps_nil (htf_001 s b v) rfl (all2_R (.cons rfl (.cons rfl (.cons rfl .nil)))) rfl w (Nat.zero_le _) (pickL_ok ?_ _)
        repeat' (first | exact cd_nil | refine cd_cons ?_ ?_)
        all_goals first | rfl | with_reducible assumption

    · have c2 : (vE v != 0) = true := by simpa using hv
      rw [show htV s b v = noneB from if_neg (fun h => hv h.2.1)]
      refine evR_calls (I := noFacts) (v := bV noneB) (ctxOf_ok libHB_ok (eq_none _)) (by kernel_rfl) Try.func49 rfl lps_nil (htf_01 s b v) rfl (all2_R (.cons rfl (.cons rfl (.cons rfl .nil)))) rfl w (Nat.zero_le _) (pickL_ok ?_ _)
      repeat' (first | exact cd_nil | refine cd_cons ?_ ?_)
      all_goals first | rfl | with_reducible assumption

  · have c1 : (sE s != 0) = true := by simpa using hs
    rw [show htV s b v = noneB from if_neg (fun h => hs h.1)]
    refine evR_calls (I := noFacts) (v := bV noneB) (ctxOf_ok libHB_ok (eq_none _)) (by kernel_rfl) Try.func49 rfl lps_nil (htf_1 s b v) rfl (all2_R (.cons rfl (.cons rfl (.cons rfl .nil)))) rfl w (Nat.zero_le _) (pickL_ok ?_ _)
    repeat' (first | exact cd_nil | refine cd_cons ?_ ?_)
    all_goals first | rfl | with_reducible assumption

end
end Go.Proofs.Ytagbpehfieejcaa.AtHz

