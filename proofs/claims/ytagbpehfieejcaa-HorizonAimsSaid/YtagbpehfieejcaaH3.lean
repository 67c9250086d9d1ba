/-
  The reference's Round and AimOf as functions; the closed fact of the laws on horizons; the walk of HorizonAims.
  Conditions: those of each theorem.
-/
import Derived.Test.YtagbpehfieejcaaH2
import Derived.Test.YtagbpehfieejcaaT6
import Derived.Test.YtagbpehfieejcaaZK
import Derived.Test.YtagbpehfieejcaaGO
set_option linter.unusedVariables false
set_option linter.unusedSimpArgs false
namespace Go.Proofs.Ytagbpehfieejcaa.AtHz
open Go.RowKit Go.Shelf Ev Zd Wd Tg
open Go.Proofs.Ytagbpehfieejcaa
noncomputable section

def wzB (z : Int) : Bool := decide (-100000000000000000000000000000000000000000000000000 ≤ z) && decide (z ≤ 100000000000000000000000000000000000000000000000000)
abbrev roundS : FnSp Nm := factSp (gBin rdV (fun a b => [(decide (1 ≤ b), true), (wzB a, true), (wzB b, true)]))
abbrev nRoot := nUn (fun a => (isq a.toNat : Int)) (fun a => [(decide (0 ≤ a), true), (szB a, true)])
def hf2V (a : Int) : Int := if 2147483648 ≤ a then IntKind.i64.wrap (a - 4294967296) else a
theorem wzB_iff {z : Int} : wzB z = true ↔ -100000000000000000000000000000000000000000000000000 ≤ z ∧ z ≤ 100000000000000000000000000000000000000000000000000 := by unfold wzB; simp
theorem c2' {a b : Bool} {l : List (Bool × Bool)} (h : ∀ p ∈ (a, true) :: (b, true) :: l, p.1 = p.2) : a = true ∧ b = true := ⟨h (a, true) (by simp), h (b, true) (by simp)⟩
theorem szBig {z : Int} (h1 : -100000000000000000000000000000000000000000000000000000000000 ≤ z) (h2 : z ≤ 100000000000000000000000000000000000000000000000000000000000) : szB z = true := by
  have h : z.natAbs < 1000000 ^ 10 := by
    rw [show (1000000 : Nat) ^ 10 = 1000000000000000000000000000000000000000000000000000000000000 by decide +kernel]; omega
  exact szB_le (digs_len h) (by omega)
theorem absI_eq (a : Int) : absI a = if a < 0 then -a else a := by unfold absI; split <;> omega
theorem nRoot_ok : (nfn nRoot).ok Try.prog numI 90 := nUn_ok fun a hc => n_num1 fun v w ha => by
  have h0 : 0 ≤ a := of_decide_eq_true (hc (decide (0 ≤ a), true) (by simp))
  have h1 : (digs a.natAbs).length ≤ 1000 := szB_iff.1 (hc (szB a, true) (by simp))
  exact zroot_any v a h0 (by omega) w ha
theorem num_R {E : Env Nm} {x z : Int} {u : Value} (hz : z = x) (h : AV.R E (.w (.agg [.bool (decide (x < 0)), .fv (.num x)])) u) : AV.R E (.w (.agg [.bool (decide (z < 0)), .fv (.num z)])) u := by subst hz; exact h
noncomputable abbrev libH7 : List (Nat × FnSp Nm) := [(128, nfn nAbs), (24, nfn nTimes), (15, nfn nI), (12, nfn nPlus), (69, nfn nFloor), (14, nfn nMinus)]
theorem libH7_ok : LibOk Try.prog numI (lib1 libH7) := (lib1_cons nAbs_ok Try.call128 (lib1_cons nTimes_ok Try.call24 (lib1_cons nI_ok Try.call15 (lib1_cons nPlus_ok Try.call12 (lib1_cons nFloor_ok Try.call69 (lib1_cons nMinus_ok Try.call14 (lib1_nil _ _)))))))
set_option maxRecDepth 100000 in
theorem rou_1 (u : Bool) (a : Int) (v : Bool) (b : Int) : evR (ctxOf Try.prog numI (fun _ => false) libH7) Try.f88 [(.w (.agg [.bool u, .fv (.num a)])), (.w (.agg [.bool v, .fv (.num b)]))] [true] = some (AV.w (AW.agg [AC.bool (decide (-((absI a * 2 + b) / (b * 2)) < 0)), AC.fv (Nm.num (-((absI a * 2 + b) / (b * 2))))]), (pickL [(u == decide (a < 0), true), (i64B 2, true), (decide (absI a < 0) == decide (absI a < 0), true), (decide ((2 : Int) < 0) == decide ((2 : Int) < 0), true), (szB (absI a), true), (szB 2, true), (decide (absI a * 2 < 0) == decide (absI a * 2 < 0), true), (v == decide (b < 0), true), (szB (absI a * 2), true), (szB b, true), (decide (absI a * 2 + b < 0) == decide (absI a * 2 + b < 0), true), (decide (b * 2 < 0) == decide (b * 2 < 0), true), (szB (absI a * 2 + b), true), (szB (b * 2), true), (decide (b * 2 = 0), false), (u, true), (decide ((absI a * 2 + b) / (b * 2) < 0) == decide ((absI a * 2 + b) / (b * 2) < 0), true), (szB ((absI a * 2 + b) / (b * 2)), true)] [0, 1, 2, 3, 4, 5, 6, 7, 8, 9, 1, 7, 3, 9, 5, 10, 11, 12, 13, 14, 15, 16, 17])) := by kernel_rfl
set_option maxRecDepth 100000 in
theorem rou_0 (u : Bool) (a : Int) (v : Bool) (b : Int) : evR (ctxOf Try.prog numI (fun _ => false) libH7) Try.f88 [(.w (.agg [.bool u, .fv (.num a)])), (.w (.agg [.bool v, .fv (.num b)]))] [false] = some (AV.w (AW.agg [AC.bool (decide ((absI a * 2 + b) / (b * 2) < 0)), AC.fv (Nm.num ((absI a * 2 + b) / (b * 2)))]), (pickL [(u == decide (a < 0), true), (i64B 2, true), (decide (absI a < 0) == decide (absI a < 0), true), (decide ((2 : Int) < 0) == decide ((2 : Int) < 0), true), (szB (absI a), true), (szB 2, true), (decide (absI a * 2 < 0) == decide (absI a * 2 < 0), true), (v == decide (b < 0), true), (szB (absI a * 2), true), (szB b, true), (decide (absI a * 2 + b < 0) == decide (absI a * 2 + b < 0), true), (decide (b * 2 < 0) == decide (b * 2 < 0), true), (szB (absI a * 2 + b), true), (szB (b * 2), true), (decide (b * 2 = 0), false), (u, false)] [0, 1, 2, 3, 4, 5, 6, 7, 8, 9, 1, 7, 3, 9, 5, 10, 11, 12, 13, 14, 15])) := by kernel_rfl
theorem roundS_ok : roundS.ok Try.prog numI 88 :=
  factR_ok (ctxOf_ok libH7_ok (eq_none _)) (by kernel_rfl) Try.func88 rfl lps_nil fun args v cd hg hc => by
    unfold gBin at hg
    split at hg
    · rename_i s a t b
      cases hg
      refine ⟨rfl, rfl, rfl, ?_⟩
      have h1 : s = decide (a < 0) := by simpa using hc (s == decide (a < 0), true) (by simp)
      have h2 : t = decide (b < 0) := by simpa using hc (t == decide (b < 0), true) (by simp)
      have h3 : 1 ≤ b := of_decide_eq_true (hc (decide (1 ≤ b), true) (by simp))
      have h4 := wzB_iff.1 (hc (wzB a, true) (by simp))
      have h5 := wzB_iff.1 (hc (wzB b, true) (by simp))
      subst h1 h2
      have ab := absI_eq a
      have hq : ∀ q : Int, (absI a * 2 + b) / (b * 2) = q → -100000000000000000000000000000000000000000000000000000 ≤ q ∧ q ≤ 100000000000000000000000000000000000000000000000000000000 := fun q e => by
        have p0 : 0 ≤ absI a * 2 + b := by rw [ab]; split <;> omega
        have p1 := Int.ediv_nonneg p0 (show 0 ≤ b * 2 by omega)
        have p2 := Int.ediv_le_self (b * 2) p0
        rw [ab] at p2
        rw [e] at p1
        rw [← ab, e, ab] at p2
        split at p2 <;> omega
      have hq' := hq _ rfl
      have hn : decide (b * 2 = 0) = false := decide_eq_false (by omega)
      by_cases ha : a < 0
      · have c1 : decide (a < 0) = true := decide_eq_true ha
        have e : rdV a b = -((absI a * 2 + b) / (b * 2)) := by unfold rdV; rw [if_neg (by omega), if_pos ha, ab, if_pos ha, Int.mul_comm 2]
        refine ⟨[true], _, _, rou_1 (decide (a < 0)) a (decide (b < 0)) b, fun E u hu => num_R e hu, pickL_ok ?_ _⟩
        rw [ab, if_pos ha] at *
        repeat' (first | exact cd_nil | refine cd_cons ?_ ?_)
        all_goals first | rfl | with_reducible assumption | exact eq_self_b' _ | (refine szBig ?_ ?_ <;> omega)
      · have c1 : decide (a < 0) = false := decide_eq_false ha
        have e : rdV a b = (absI a * 2 + b) / (b * 2) := by unfold rdV; rw [if_neg (by omega), if_neg ha, ab, if_neg ha, Int.mul_comm 2]
        refine ⟨[false], _, _, rou_0 (decide (a < 0)) a (decide (b < 0)) b, fun E u hu => num_R e hu, pickL_ok ?_ _⟩
        rw [ab, if_neg ha] at *
        repeat' (first | exact cd_nil | refine cd_cons ?_ ?_)
        all_goals first | rfl | with_reducible assumption | exact eq_self_b' _ | (refine szBig ?_ ?_ <;> omega)
    · cases hg
set_option maxRecDepth 100000 in
theorem hf2_1 (a : Int) : evR (ctxOf Try.prog noFacts (fun _ => false) []) Try.f91 [(.w (.one (.int .i64 a)))] [true] = some (AV.w (AW.one (AC.int IntKind.i64 (IntKind.i64.wrap (a - 4294967296)))), (pickL [(decide (a ≥ 2147483648), true)] [0])) := by kernel_rfl
set_option maxRecDepth 100000 in
theorem hf2_0 (a : Int) : evR (ctxOf Try.prog noFacts (fun _ => false) []) Try.f91 [(.w (.one (.int .i64 a)))] [false] = some (AV.w (AW.one (AC.int IntKind.i64 a)), (pickL [(decide (a ≥ 2147483648), false)] [0])) := by kernel_rfl
theorem hf2_pl (a : Int) : Pl Try.prog 91 [.int .i64 a] (.int .i64 (hf2V a)) := fun w => by
  by_cases h : 2147483648 ≤ a
  · have k0 : decide (a ≥ 2147483648) = true := decide_eq_true h
    rw [show hf2V a = IntKind.i64.wrap (a - 4294967296) from if_pos h]
    refine evR_calls (I := noFacts) (v := .int .i64 (IntKind.i64.wrap (a - 4294967296))) (ctxOf_ok (lib1_nil _ _) (eq_none _)) (by kernel_rfl) Try.func91 rfl lps_nil (hf2_1 a) rfl (all2_R (.cons rfl .nil)) rfl w (Nat.zero_le _) (pickL_ok ?_ _)
    repeat' (first | exact cd_nil | refine cd_cons ?_ ?_)
    all_goals first | rfl | with_reducible assumption
  · have k0 : decide (a ≥ 2147483648) = false := decide_eq_false h
    rw [show hf2V a = a from if_neg h]
    refine evR_calls (I := noFacts) (v := .int .i64 a) (ctxOf_ok (lib1_nil _ _) (eq_none _)) (by kernel_rfl) Try.func91 rfl lps_nil (hf2_0 a) rfl (all2_R (.cons rfl .nil)) rfl w (Nat.zero_le _) (pickL_ok ?_ _)
    repeat' (first | exact cd_nil | refine cd_cons ?_ ?_)
    all_goals first | rfl | with_reducible assumption
/-- An angle to the right of the vertical is not half a turn. -/
theorem atan_half {y x : Int} (hx : 0 ≤ x) : atanV y x ≠ 2147483648 := by
  unfold atanV
  split
  · split
    · omega
    · have r := steepV_range (absV_nn y) (absV_nn x)
      unfold angV turnX turnY
      rw [if_neg (show ¬ x < 0 by omega)]
      split <;> omega
  · omega
theorem alA_hf (s : Si) (t : Int) (v : V3) : hf2V (atanV (hzU s t v) (hzS s t v)) = alA s t v := by
  have h := atan_half (y := hzU s t v) (x := hzS s t v) (by unfold hzS; omega)
  have r := atanV_in (hzU s t v) (hzS s t v)
  unfold hf2V alA
  by_cases g : 2147483648 < atanV (hzU s t v) (hzS s t v)
  · rw [if_pos (by omega), if_pos g, v64 (by omega) (by omega)]
  · rw [if_neg (by omega), if_neg g]
noncomputable abbrev libH8 : List (Nat × FnSp Nm) := [(81, sES), (82, vES), (83, grwS), (84, nfn nSplit), (85, factSp gTwo), (88, roundS), (90, nfn nRoot), (89, sp2 (dInt .i64) (dInt .i64) (fun y x => num2 (atanV y x) (atanE y x)) (fun _ _ => [])), (91, sp1 (dInt .i64) (fun a => aInt .i64 (hf2V a)) (fun _ => [])), (86, sp1 (dInt .i64) (fun a => aInt .i64 (cosV a)) (fun a => [(i64B a, true)])), (87, sp1 (dInt .i64) (fun a => aInt .i64 (sinV a)) (fun a => [(i64B a, true)])), (24, nfn nTimes), (15, nfn nI), (12, nfn nPlus), (13, nfn nLess), (59, nfn nSmall)]
theorem libH8_ok : LibOk Try.prog numI (lib1 libH8) := (lib1_cons (sp1_ok fun s _ => ⟨_, rfl, sit2_pl s⟩) Try.call81 (lib1_cons (sp1_ok fun v _ => ⟨_, rfl, ver_pl v⟩) Try.call82 (lib1_cons (sp1_ok fun v _ => ⟨_, rfl, grf_pl v⟩) Try.call83 (lib1_cons nSplit_ok Try.call84 (lib1_cons gTwo_ok Try.call85 (lib1_cons roundS_ok Try.call88 (lib1_cons nRoot_ok Try.call90 (lib1_cons (sp2_ok fun y x _ => ⟨_, rfl, angle_pl y x⟩) Try.call89 (lib1_cons (sp1_ok fun a _ => ⟨_, rfl, hf2_pl a⟩) Try.call91 (lib1_cons (sp1_ok fun a hc => ⟨_, rfl, cosine_pl a (c1' hc)⟩) Try.call86 (lib1_cons (sp1_ok fun a hc => ⟨_, rfl, sine_pl a (c1' hc)⟩) Try.call87 (lib1_cons nTimes_ok Try.call24 (lib1_cons nI_ok Try.call15 (lib1_cons nPlus_ok Try.call12 (lib1_cons nLess_ok Try.call13 (lib1_cons nSmall_ok Try.call59 (lib1_nil _ _)))))))))))))))))
set_option maxRecDepth 100000 in
theorem aof_1 (s : Si) (t : Int) (v : V3) : evR (ctxOf Try.prog numI (fun _ => false) libH8) Try.f30 [(siA s), (.w (.one (.int .i64 t))), (v3A v)] [true] = some (AV.tup [AW.agg [AC.int IntKind.i64 0, AC.int IntKind.i64 0], AW.one (AC.int IntKind.i64 (sE s))], (pickL [(sE s != 0, true)] [0])) := by kernel_rfl
set_option maxRecDepth 100000 in
theorem aof_01 (s : Si) (t : Int) (v : V3) : evR (ctxOf Try.prog numI (fun _ => false) libH8) Try.f30 [(siA s), (.w (.one (.int .i64 t))), (v3A v)] [false, true] = some (AV.tup [AW.agg [AC.int IntKind.i64 0, AC.int IntKind.i64 0], AW.one (AC.int IntKind.i64 (vE v))], (pickL [(sE s != 0, false), (vE v != 0, true)] [0, 1])) := by kernel_rfl
set_option maxRecDepth 100000 in
theorem aof_00 (s : Si) (t : Int) (v : V3) : evR (ctxOf Try.prog numI (fun _ => false) libH8) Try.f30 [(siA s), (.w (.one (.int .i64 t))), (v3A v)] [false, false] = some (AV.tup [AW.agg [AC.int IntKind.i64 (atanV (smV (rdV ((grV v).y * cosV (smV ((t + s.lon) % twoV 32)) - (grV v).x * sinV (smV ((t + s.lon) % twoV 32))) (twoV 20))) (smV (rdV ((grV v).z * twoV 10 * cosV s.lat - rdV ((grV v).x * cosV (smV ((t + s.lon) % twoV 32)) + (grV v).y * sinV (smV ((t + s.lon) % twoV 32))) (twoV 20) * sinV s.lat) (twoV 30)))), AC.int IntKind.i64 (hf2V (atanV (smV (rdV ((grV v).z * twoV 10 * sinV s.lat + rdV ((grV v).x * cosV (smV ((t + s.lon) % twoV 32)) + (grV v).y * sinV (smV ((t + s.lon) % twoV 32))) (twoV 20) * cosV s.lat) (twoV 30))) (smV ↑(isq (smV (rdV ((grV v).z * twoV 10 * cosV s.lat - rdV ((grV v).x * cosV (smV ((t + s.lon) % twoV 32)) + (grV v).y * sinV (smV ((t + s.lon) % twoV 32))) (twoV 20) * sinV s.lat) (twoV 30)) * smV (rdV ((grV v).z * twoV 10 * cosV s.lat - rdV ((grV v).x * cosV (smV ((t + s.lon) % twoV 32)) + (grV v).y * sinV (smV ((t + s.lon) % twoV 32))) (twoV 20) * sinV s.lat) (twoV 30)) + smV (rdV ((grV v).y * cosV (smV ((t + s.lon) % twoV 32)) - (grV v).x * sinV (smV ((t + s.lon) % twoV 32))) (twoV 20)) * smV (rdV ((grV v).y * cosV (smV ((t + s.lon) % twoV 32)) - (grV v).x * sinV (smV ((t + s.lon) % twoV 32))) (twoV 20))).toNat))))], AW.one (AC.int IntKind.i64 0)], (pickL [(sE s != 0, false), (vE v != 0, false), (i64B t, true), (i64B s.lon, true), (decide (t < 0) == decide (t < 0), true), (decide (s.lon < 0) == decide (s.lon < 0), true), (szB t, true), (szB s.lon, true), (twoB 32, true), (decide (t + s.lon < 0) == decide (t + s.lon < 0), true), (decide (twoV 32 < 0) == decide (twoV 32 < 0), true), (szB (t + s.lon), true), (szB (twoV 32), true), (decide (twoV 32 = 0), false), (decide ((t + s.lon) % twoV 32 < 0) == decide ((t + s.lon) % twoV 32 < 0), true), (szB ((t + s.lon) % twoV 32), true), (i64B (smV ((t + s.lon) % twoV 32)), true), (i64B (cosV (smV ((t + s.lon) % twoV 32))), true), (i64B (sinV (smV ((t + s.lon) % twoV 32))), true), (i64B s.lat, true), (i64B (cosV s.lat), true), (i64B (sinV s.lat), true), (i64B (grV v).x, true), (i64B (grV v).y, true), (i64B (grV v).z, true), (twoB 10, true), (decide ((grV v).z < 0) == decide ((grV v).z < 0), true), (decide (twoV 10 < 0) == decide (twoV 10 < 0), true), (szB (grV v).z, true), (szB (twoV 10), true), (decide ((grV v).x < 0) == decide ((grV v).x < 0), true), (decide (cosV (smV ((t + s.lon) % twoV 32)) < 0) == decide (cosV (smV ((t + s.lon) % twoV 32)) < 0), true), (szB (grV v).x, true), (szB (cosV (smV ((t + s.lon) % twoV 32))), true), (decide ((grV v).y < 0) == decide ((grV v).y < 0), true), (decide (sinV (smV ((t + s.lon) % twoV 32)) < 0) == decide (sinV (smV ((t + s.lon) % twoV 32)) < 0), true), (szB (grV v).y, true), (szB (sinV (smV ((t + s.lon) % twoV 32))), true), (decide ((grV v).x * cosV (smV ((t + s.lon) % twoV 32)) < 0) == decide ((grV v).x * cosV (smV ((t + s.lon) % twoV 32)) < 0), true), (decide ((grV v).y * sinV (smV ((t + s.lon) % twoV 32)) < 0) == decide ((grV v).y * sinV (smV ((t + s.lon) % twoV 32)) < 0), true), (szB ((grV v).x * cosV (smV ((t + s.lon) % twoV 32))), true), (szB ((grV v).y * sinV (smV ((t + s.lon) % twoV 32))), true), (twoB 20, true), (decide ((grV v).x * cosV (smV ((t + s.lon) % twoV 32)) + (grV v).y * sinV (smV ((t + s.lon) % twoV 32)) < 0) == decide ((grV v).x * cosV (smV ((t + s.lon) % twoV 32)) + (grV v).y * sinV (smV ((t + s.lon) % twoV 32)) < 0), true), (decide (twoV 20 < 0) == decide (twoV 20 < 0), true), (decide (1 ≤ twoV 20), true), (wzB ((grV v).x * cosV (smV ((t + s.lon) % twoV 32)) + (grV v).y * sinV (smV ((t + s.lon) % twoV 32))), true), (wzB (twoV 20), true), (decide ((grV v).y * cosV (smV ((t + s.lon) % twoV 32)) < 0) == decide ((grV v).y * cosV (smV ((t + s.lon) % twoV 32)) < 0), true), (decide ((grV v).x * sinV (smV ((t + s.lon) % twoV 32)) < 0) == decide ((grV v).x * sinV (smV ((t + s.lon) % twoV 32)) < 0), true), (szB ((grV v).y * cosV (smV ((t + s.lon) % twoV 32))), true), (szB ((grV v).x * sinV (smV ((t + s.lon) % twoV 32))), true), (decide ((grV v).y * cosV (smV ((t + s.lon) % twoV 32)) - (grV v).x * sinV (smV ((t + s.lon) % twoV 32)) < 0) == decide ((grV v).y * cosV (smV ((t + s.lon) % twoV 32)) - (grV v).x * sinV (smV ((t + s.lon) % twoV 32)) < 0), true), (wzB ((grV v).y * cosV (smV ((t + s.lon) % twoV 32)) - (grV v).x * sinV (smV ((t + s.lon) % twoV 32))), true), (decide (rdV ((grV v).y * cosV (smV ((t + s.lon) % twoV 32)) - (grV v).x * sinV (smV ((t + s.lon) % twoV 32))) (twoV 20) < 0) == decide (rdV ((grV v).y * cosV (smV ((t + s.lon) % twoV 32)) - (grV v).x * sinV (smV ((t + s.lon) % twoV 32))) (twoV 20) < 0), true), (szB (rdV ((grV v).y * cosV (smV ((t + s.lon) % twoV 32)) - (grV v).x * sinV (smV ((t + s.lon) % twoV 32))) (twoV 20)), true), (decide ((grV v).z * twoV 10 < 0) == decide ((grV v).z * twoV 10 < 0), true), (decide (sinV s.lat < 0) == decide (sinV s.lat < 0), true), (szB ((grV v).z * twoV 10), true), (szB (sinV s.lat), true), (decide (rdV ((grV v).x * cosV (smV ((t + s.lon) % twoV 32)) + (grV v).y * sinV (smV ((t + s.lon) % twoV 32))) (twoV 20) < 0) == decide (rdV ((grV v).x * cosV (smV ((t + s.lon) % twoV 32)) + (grV v).y * sinV (smV ((t + s.lon) % twoV 32))) (twoV 20) < 0), true), (decide (cosV s.lat < 0) == decide (cosV s.lat < 0), true), (szB (rdV ((grV v).x * cosV (smV ((t + s.lon) % twoV 32)) + (grV v).y * sinV (smV ((t + s.lon) % twoV 32))) (twoV 20)), true), (szB (cosV s.lat), true), (decide ((grV v).z * twoV 10 * sinV s.lat < 0) == decide ((grV v).z * twoV 10 * sinV s.lat < 0), true), (decide (rdV ((grV v).x * cosV (smV ((t + s.lon) % twoV 32)) + (grV v).y * sinV (smV ((t + s.lon) % twoV 32))) (twoV 20) * cosV s.lat < 0) == decide (rdV ((grV v).x * cosV (smV ((t + s.lon) % twoV 32)) + (grV v).y * sinV (smV ((t + s.lon) % twoV 32))) (twoV 20) * cosV s.lat < 0), true), (szB ((grV v).z * twoV 10 * sinV s.lat), true), (szB (rdV ((grV v).x * cosV (smV ((t + s.lon) % twoV 32)) + (grV v).y * sinV (smV ((t + s.lon) % twoV 32))) (twoV 20) * cosV s.lat), true), (twoB 30, true), (decide ((grV v).z * twoV 10 * sinV s.lat + rdV ((grV v).x * cosV (smV ((t + s.lon) % twoV 32)) + (grV v).y * sinV (smV ((t + s.lon) % twoV 32))) (twoV 20) * cosV s.lat < 0) == decide ((grV v).z * twoV 10 * sinV s.lat + rdV ((grV v).x * cosV (smV ((t + s.lon) % twoV 32)) + (grV v).y * sinV (smV ((t + s.lon) % twoV 32))) (twoV 20) * cosV s.lat < 0), true), (decide (twoV 30 < 0) == decide (twoV 30 < 0), true), (decide (1 ≤ twoV 30), true), (wzB ((grV v).z * twoV 10 * sinV s.lat + rdV ((grV v).x * cosV (smV ((t + s.lon) % twoV 32)) + (grV v).y * sinV (smV ((t + s.lon) % twoV 32))) (twoV 20) * cosV s.lat), true), (wzB (twoV 30), true), (decide (rdV ((grV v).z * twoV 10 * sinV s.lat + rdV ((grV v).x * cosV (smV ((t + s.lon) % twoV 32)) + (grV v).y * sinV (smV ((t + s.lon) % twoV 32))) (twoV 20) * cosV s.lat) (twoV 30) < 0) == decide (rdV ((grV v).z * twoV 10 * sinV s.lat + rdV ((grV v).x * cosV (smV ((t + s.lon) % twoV 32)) + (grV v).y * sinV (smV ((t + s.lon) % twoV 32))) (twoV 20) * cosV s.lat) (twoV 30) < 0), true), (szB (rdV ((grV v).z * twoV 10 * sinV s.lat + rdV ((grV v).x * cosV (smV ((t + s.lon) % twoV 32)) + (grV v).y * sinV (smV ((t + s.lon) % twoV 32))) (twoV 20) * cosV s.lat) (twoV 30)), true), (decide ((grV v).z * twoV 10 * cosV s.lat < 0) == decide ((grV v).z * twoV 10 * cosV s.lat < 0), true), (decide (rdV ((grV v).x * cosV (smV ((t + s.lon) % twoV 32)) + (grV v).y * sinV (smV ((t + s.lon) % twoV 32))) (twoV 20) * sinV s.lat < 0) == decide (rdV ((grV v).x * cosV (smV ((t + s.lon) % twoV 32)) + (grV v).y * sinV (smV ((t + s.lon) % twoV 32))) (twoV 20) * sinV s.lat < 0), true), (szB ((grV v).z * twoV 10 * cosV s.lat), true), (szB (rdV ((grV v).x * cosV (smV ((t + s.lon) % twoV 32)) + (grV v).y * sinV (smV ((t + s.lon) % twoV 32))) (twoV 20) * sinV s.lat), true), (decide ((grV v).z * twoV 10 * cosV s.lat - rdV ((grV v).x * cosV (smV ((t + s.lon) % twoV 32)) + (grV v).y * sinV (smV ((t + s.lon) % twoV 32))) (twoV 20) * sinV s.lat < 0) == decide ((grV v).z * twoV 10 * cosV s.lat - rdV ((grV v).x * cosV (smV ((t + s.lon) % twoV 32)) + (grV v).y * sinV (smV ((t + s.lon) % twoV 32))) (twoV 20) * sinV s.lat < 0), true), (wzB ((grV v).z * twoV 10 * cosV s.lat - rdV ((grV v).x * cosV (smV ((t + s.lon) % twoV 32)) + (grV v).y * sinV (smV ((t + s.lon) % twoV 32))) (twoV 20) * sinV s.lat), true), (decide (rdV ((grV v).z * twoV 10 * cosV s.lat - rdV ((grV v).x * cosV (smV ((t + s.lon) % twoV 32)) + (grV v).y * sinV (smV ((t + s.lon) % twoV 32))) (twoV 20) * sinV s.lat) (twoV 30) < 0) == decide (rdV ((grV v).z * twoV 10 * cosV s.lat - rdV ((grV v).x * cosV (smV ((t + s.lon) % twoV 32)) + (grV v).y * sinV (smV ((t + s.lon) % twoV 32))) (twoV 20) * sinV s.lat) (twoV 30) < 0), true), (szB (rdV ((grV v).z * twoV 10 * cosV s.lat - rdV ((grV v).x * cosV (smV ((t + s.lon) % twoV 32)) + (grV v).y * sinV (smV ((t + s.lon) % twoV 32))) (twoV 20) * sinV s.lat) (twoV 30)), true), (i64B (smV (rdV ((grV v).z * twoV 10 * cosV s.lat - rdV ((grV v).x * cosV (smV ((t + s.lon) % twoV 32)) + (grV v).y * sinV (smV ((t + s.lon) % twoV 32))) (twoV 20) * sinV s.lat) (twoV 30))), true), (decide (smV (rdV ((grV v).z * twoV 10 * cosV s.lat - rdV ((grV v).x * cosV (smV ((t + s.lon) % twoV 32)) + (grV v).y * sinV (smV ((t + s.lon) % twoV 32))) (twoV 20) * sinV s.lat) (twoV 30)) < 0) == decide (smV (rdV ((grV v).z * twoV 10 * cosV s.lat - rdV ((grV v).x * cosV (smV ((t + s.lon) % twoV 32)) + (grV v).y * sinV (smV ((t + s.lon) % twoV 32))) (twoV 20) * sinV s.lat) (twoV 30)) < 0), true), (szB (smV (rdV ((grV v).z * twoV 10 * cosV s.lat - rdV ((grV v).x * cosV (smV ((t + s.lon) % twoV 32)) + (grV v).y * sinV (smV ((t + s.lon) % twoV 32))) (twoV 20) * sinV s.lat) (twoV 30))), true), (i64B (smV (rdV ((grV v).y * cosV (smV ((t + s.lon) % twoV 32)) - (grV v).x * sinV (smV ((t + s.lon) % twoV 32))) (twoV 20))), true), (decide (smV (rdV ((grV v).y * cosV (smV ((t + s.lon) % twoV 32)) - (grV v).x * sinV (smV ((t + s.lon) % twoV 32))) (twoV 20)) < 0) == decide (smV (rdV ((grV v).y * cosV (smV ((t + s.lon) % twoV 32)) - (grV v).x * sinV (smV ((t + s.lon) % twoV 32))) (twoV 20)) < 0), true), (szB (smV (rdV ((grV v).y * cosV (smV ((t + s.lon) % twoV 32)) - (grV v).x * sinV (smV ((t + s.lon) % twoV 32))) (twoV 20))), true), (decide (smV (rdV ((grV v).z * twoV 10 * cosV s.lat - rdV ((grV v).x * cosV (smV ((t + s.lon) % twoV 32)) + (grV v).y * sinV (smV ((t + s.lon) % twoV 32))) (twoV 20) * sinV s.lat) (twoV 30)) * smV (rdV ((grV v).z * twoV 10 * cosV s.lat - rdV ((grV v).x * cosV (smV ((t + s.lon) % twoV 32)) + (grV v).y * sinV (smV ((t + s.lon) % twoV 32))) (twoV 20) * sinV s.lat) (twoV 30)) < 0) == decide (smV (rdV ((grV v).z * twoV 10 * cosV s.lat - rdV ((grV v).x * cosV (smV ((t + s.lon) % twoV 32)) + (grV v).y * sinV (smV ((t + s.lon) % twoV 32))) (twoV 20) * sinV s.lat) (twoV 30)) * smV (rdV ((grV v).z * twoV 10 * cosV s.lat - rdV ((grV v).x * cosV (smV ((t + s.lon) % twoV 32)) + (grV v).y * sinV (smV ((t + s.lon) % twoV 32))) (twoV 20) * sinV s.lat) (twoV 30)) < 0), true), (decide (smV (rdV ((grV v).y * cosV (smV ((t + s.lon) % twoV 32)) - (grV v).x * sinV (smV ((t + s.lon) % twoV 32))) (twoV 20)) * smV (rdV ((grV v).y * cosV (smV ((t + s.lon) % twoV 32)) - (grV v).x * sinV (smV ((t + s.lon) % twoV 32))) (twoV 20)) < 0) == decide (smV (rdV ((grV v).y * cosV (smV ((t + s.lon) % twoV 32)) - (grV v).x * sinV (smV ((t + s.lon) % twoV 32))) (twoV 20)) * smV (rdV ((grV v).y * cosV (smV ((t + s.lon) % twoV 32)) - (grV v).x * sinV (smV ((t + s.lon) % twoV 32))) (twoV 20)) < 0), true), (szB (smV (rdV ((grV v).z * twoV 10 * cosV s.lat - rdV ((grV v).x * cosV (smV ((t + s.lon) % twoV 32)) + (grV v).y * sinV (smV ((t + s.lon) % twoV 32))) (twoV 20) * sinV s.lat) (twoV 30)) * smV (rdV ((grV v).z * twoV 10 * cosV s.lat - rdV ((grV v).x * cosV (smV ((t + s.lon) % twoV 32)) + (grV v).y * sinV (smV ((t + s.lon) % twoV 32))) (twoV 20) * sinV s.lat) (twoV 30))), true), (szB (smV (rdV ((grV v).y * cosV (smV ((t + s.lon) % twoV 32)) - (grV v).x * sinV (smV ((t + s.lon) % twoV 32))) (twoV 20)) * smV (rdV ((grV v).y * cosV (smV ((t + s.lon) % twoV 32)) - (grV v).x * sinV (smV ((t + s.lon) % twoV 32))) (twoV 20))), true), (decide (smV (rdV ((grV v).z * twoV 10 * cosV s.lat - rdV ((grV v).x * cosV (smV ((t + s.lon) % twoV 32)) + (grV v).y * sinV (smV ((t + s.lon) % twoV 32))) (twoV 20) * sinV s.lat) (twoV 30)) * smV (rdV ((grV v).z * twoV 10 * cosV s.lat - rdV ((grV v).x * cosV (smV ((t + s.lon) % twoV 32)) + (grV v).y * sinV (smV ((t + s.lon) % twoV 32))) (twoV 20) * sinV s.lat) (twoV 30)) + smV (rdV ((grV v).y * cosV (smV ((t + s.lon) % twoV 32)) - (grV v).x * sinV (smV ((t + s.lon) % twoV 32))) (twoV 20)) * smV (rdV ((grV v).y * cosV (smV ((t + s.lon) % twoV 32)) - (grV v).x * sinV (smV ((t + s.lon) % twoV 32))) (twoV 20)) < 0) == decide (smV (rdV ((grV v).z * twoV 10 * cosV s.lat - rdV ((grV v).x * cosV (smV ((t + s.lon) % twoV 32)) + (grV v).y * sinV (smV ((t + s.lon) % twoV 32))) (twoV 20) * sinV s.lat) (twoV 30)) * smV (rdV ((grV v).z * twoV 10 * cosV s.lat - rdV ((grV v).x * cosV (smV ((t + s.lon) % twoV 32)) + (grV v).y * sinV (smV ((t + s.lon) % twoV 32))) (twoV 20) * sinV s.lat) (twoV 30)) + smV (rdV ((grV v).y * cosV (smV ((t + s.lon) % twoV 32)) - (grV v).x * sinV (smV ((t + s.lon) % twoV 32))) (twoV 20)) * smV (rdV ((grV v).y * cosV (smV ((t + s.lon) % twoV 32)) - (grV v).x * sinV (smV ((t + s.lon) % twoV 32))) (twoV 20)) < 0), true), (decide (0 ≤ smV (rdV ((grV v).z * twoV 10 * cosV s.lat - rdV ((grV v).x * cosV (smV ((t + s.lon) % twoV 32)) + (grV v).y * sinV (smV ((t + s.lon) % twoV 32))) (twoV 20) * sinV s.lat) (twoV 30)) * smV (rdV ((grV v).z * twoV 10 * cosV s.lat - rdV ((grV v).x * cosV (smV ((t + s.lon) % twoV 32)) + (grV v).y * sinV (smV ((t + s.lon) % twoV 32))) (twoV 20) * sinV s.lat) (twoV 30)) + smV (rdV ((grV v).y * cosV (smV ((t + s.lon) % twoV 32)) - (grV v).x * sinV (smV ((t + s.lon) % twoV 32))) (twoV 20)) * smV (rdV ((grV v).y * cosV (smV ((t + s.lon) % twoV 32)) - (grV v).x * sinV (smV ((t + s.lon) % twoV 32))) (twoV 20))), true), (szB (smV (rdV ((grV v).z * twoV 10 * cosV s.lat - rdV ((grV v).x * cosV (smV ((t + s.lon) % twoV 32)) + (grV v).y * sinV (smV ((t + s.lon) % twoV 32))) (twoV 20) * sinV s.lat) (twoV 30)) * smV (rdV ((grV v).z * twoV 10 * cosV s.lat - rdV ((grV v).x * cosV (smV ((t + s.lon) % twoV 32)) + (grV v).y * sinV (smV ((t + s.lon) % twoV 32))) (twoV 20) * sinV s.lat) (twoV 30)) + smV (rdV ((grV v).y * cosV (smV ((t + s.lon) % twoV 32)) - (grV v).x * sinV (smV ((t + s.lon) % twoV 32))) (twoV 20)) * smV (rdV ((grV v).y * cosV (smV ((t + s.lon) % twoV 32)) - (grV v).x * sinV (smV ((t + s.lon) % twoV 32))) (twoV 20))), true), (decide (↑(isq (smV (rdV ((grV v).z * twoV 10 * cosV s.lat - rdV ((grV v).x * cosV (smV ((t + s.lon) % twoV 32)) + (grV v).y * sinV (smV ((t + s.lon) % twoV 32))) (twoV 20) * sinV s.lat) (twoV 30)) * smV (rdV ((grV v).z * twoV 10 * cosV s.lat - rdV ((grV v).x * cosV (smV ((t + s.lon) % twoV 32)) + (grV v).y * sinV (smV ((t + s.lon) % twoV 32))) (twoV 20) * sinV s.lat) (twoV 30)) + smV (rdV ((grV v).y * cosV (smV ((t + s.lon) % twoV 32)) - (grV v).x * sinV (smV ((t + s.lon) % twoV 32))) (twoV 20)) * smV (rdV ((grV v).y * cosV (smV ((t + s.lon) % twoV 32)) - (grV v).x * sinV (smV ((t + s.lon) % twoV 32))) (twoV 20))).toNat) < 0) == decide (↑(isq (smV (rdV ((grV v).z * twoV 10 * cosV s.lat - rdV ((grV v).x * cosV (smV ((t + s.lon) % twoV 32)) + (grV v).y * sinV (smV ((t + s.lon) % twoV 32))) (twoV 20) * sinV s.lat) (twoV 30)) * smV (rdV ((grV v).z * twoV 10 * cosV s.lat - rdV ((grV v).x * cosV (smV ((t + s.lon) % twoV 32)) + (grV v).y * sinV (smV ((t + s.lon) % twoV 32))) (twoV 20) * sinV s.lat) (twoV 30)) + smV (rdV ((grV v).y * cosV (smV ((t + s.lon) % twoV 32)) - (grV v).x * sinV (smV ((t + s.lon) % twoV 32))) (twoV 20)) * smV (rdV ((grV v).y * cosV (smV ((t + s.lon) % twoV 32)) - (grV v).x * sinV (smV ((t + s.lon) % twoV 32))) (twoV 20))).toNat) < 0), true), (szB ↑(isq (smV (rdV ((grV v).z * twoV 10 * cosV s.lat - rdV ((grV v).x * cosV (smV ((t + s.lon) % twoV 32)) + (grV v).y * sinV (smV ((t + s.lon) % twoV 32))) (twoV 20) * sinV s.lat) (twoV 30)) * smV (rdV ((grV v).z * twoV 10 * cosV s.lat - rdV ((grV v).x * cosV (smV ((t + s.lon) % twoV 32)) + (grV v).y * sinV (smV ((t + s.lon) % twoV 32))) (twoV 20) * sinV s.lat) (twoV 30)) + smV (rdV ((grV v).y * cosV (smV ((t + s.lon) % twoV 32)) - (grV v).x * sinV (smV ((t + s.lon) % twoV 32))) (twoV 20)) * smV (rdV ((grV v).y * cosV (smV ((t + s.lon) % twoV 32)) - (grV v).x * sinV (smV ((t + s.lon) % twoV 32))) (twoV 20))).toNat), true)] [0, 1, 2, 3, 4, 5, 6, 7, 8, 9, 10, 11, 12, 13, 14, 15, 16, 17, 16, 18, 19, 20, 19, 21, 22, 23, 24, 25, 26, 27, 28, 29, 30, 31, 32, 33, 34, 35, 36, 37, 38, 39, 40, 41, 42, 43, 44, 45, 46, 47, 34, 31, 36, 33, 30, 35, 32, 37, 48, 49, 50, 51, 42, 52, 44, 45, 53, 47, 54, 55, 56, 57, 58, 59, 60, 61, 62, 63, 64, 65, 66, 67, 68, 69, 70, 71, 72, 73, 74, 75, 56, 61, 58, 63, 60, 57, 62, 59, 76, 77, 78, 79, 68, 80, 70, 71, 81, 73, 82, 83, 84, 84, 85, 85, 86, 86, 87, 87, 88, 88, 89, 89, 90, 91, 92, 93, 94, 95, 96, 97, 98])) := by kernel_rfl
theorem isq_le (n : Int) (h : 0 ≤ n) : 0 ≤ ((isq n.toNat : Nat) : Int) ∧ ((isq n.toNat : Nat) : Int) ≤ n := by
  refine ⟨by omega, ?_⟩
  have q := (isq_spec n.toNat).1
  by_cases h0 : isq n.toNat = 0
  · omega
  · have := Nat.mul_le_mul_left (isq n.toNat) (show 1 ≤ isq n.toNat by omega)
    omega
theorem aof_pl (s : Si) (t : Int) (v : V3) (ht : i64B t = true) : Pl Try.prog 30 [siV s, .int .i64 t, v3V v] (.tuple #[.agg #[.int .i64 (aimAz s t v), .int .i64 (aimAl s t v)], .int .i64 (aimE s t v)]) := fun w => by
  unfold aimAz aimAl aimE
  by_cases hs : sE s = 0
  · have c1 : (sE s != 0) = false := by rw [hs]; rfl
    have n1 : ¬ sE s ≠ 0 := fun h => h hs
    simp only [if_neg n1]
    by_cases hv : vE v = 0
    · have c2 : (vE v != 0) = false := by rw [hv]; rfl
      have n2 : ¬ vE v ≠ 0 := fun h => h hv
      simp only [if_neg n2]
      rw [hv]
      obtain ⟨p1, p2, b1, b2, b3, b4, b5, b6⟩ := aim_in (t := t) hs hv
      obtain ⟨gx, gy, gz⟩ := gr_in hv
      have hs' := sE_iff.1 hs
      have ht' := i64B_iff.1 ht
      have iL : i64B (hzL s t) = true := i64B_iff.2 (by unfold hzL; omega)
      have cg : (t + s.lon) % 4294967296 % 4294967296 = hzL s t % 4294967296 := by unfold hzL; omega
      obtain ⟨m1, m2, m3, m4, _, _⟩ := cpP_iff.1 p1
      obtain ⟨m5, m6, m7, m8, _, _⟩ := cpP_iff.1 p2
      have r1 := cos_range (hzL s t)
      have r2 := sin_range (hzL s t)
      have r3 := cos_range s.lat
      have r4 := sin_range s.lat
      have L := aof_00 s t v
      rw [sm32, cos_cong cg, sin_cong cg, two_20, two_10, two_30, two_32] at L
      have eO : rdV ((grV v).x * cosV (hzL s t) + (grV v).y * sinV (hzL s t)) 1048576 = hzO s t v := rfl
      have eE : rdV ((grV v).y * cosV (hzL s t) - (grV v).x * sinV (hzL s t)) 1048576 = hzE s t v := rfl
      have eZ : (grV v).z * 1024 = 1024 * (grV v).z := Int.mul_comm _ _
      rw [eO, eE, eZ] at L
      have eU : 1024 * (grV v).z * sinV s.lat + hzO s t v * cosV s.lat = hzO s t v * cosV s.lat + 1024 * (grV v).z * sinV s.lat := Int.add_comm _ _
      rw [eU] at L
      have eU2 : rdV (hzO s t v * cosV s.lat + 1024 * (grV v).z * sinV s.lat) 1073741824 = hzU s t v := rfl
      have eN : rdV (1024 * (grV v).z * cosV s.lat - hzO s t v * sinV s.lat) 1073741824 = hzN s t v := rfl
      rw [eU2, eN, smV_id (a := hzE s t v) (by omega) (by omega), smV_id (a := hzN s t v) (by omega) (by omega), smV_id (a := hzU s t v) (by omega) (by omega)] at L
      have q := isq_le (hzN s t v * hzN s t v + hzE s t v * hzE s t v) (by omega)
      rw [smV_id (by omega) (by omega)] at L
      have eS : ((isq (hzN s t v * hzN s t v + hzE s t v * hzE s t v).toNat : Nat) : Int) = hzS s t v := rfl
      rw [eS] at L q
      rw [alA_hf] at L
      refine evR_calls (I := numI) (v := .tuple #[.agg #[.int .i64 (azA s t v), .int .i64 (alA s t v)], .int .i64 (0)]) (ctxOf_ok libH8_ok (eq_none _)) (by kernel_rfl) Try.func30 rfl lps_nil L rfl (all2_R (.cons rfl (.cons rfl (.cons rfl .nil)))) rfl w (Nat.zero_le _) (pickL_ok ?_ _)
      repeat' (first | exact cd_nil | refine cd_cons ?_ ?_)
      all_goals first | rfl | with_reducible assumption | exact eq_self_b' _ | (refine szBig ?_ ?_ <;> omega) | (refine i64B_iff.2 ?_; omega) | (refine wzB_iff.2 ?_; omega) | (refine decide_eq_true ?_; omega)

    · have c2 : (vE v != 0) = true := by simpa using hv
      have n2 : vE v ≠ 0 := hv
      simp only [if_pos n2]
      refine evR_calls (I := numI) (v := .tuple #[.agg #[.int .i64 (0), .int .i64 (0)], .int .i64 (vE v)]) (ctxOf_ok libH8_ok (eq_none _)) (by kernel_rfl) Try.func30 rfl lps_nil (aof_01 s t v) rfl (all2_R (.cons rfl (.cons rfl (.cons rfl .nil)))) rfl w (Nat.zero_le _) (pickL_ok ?_ _)
      repeat' (first | exact cd_nil | refine cd_cons ?_ ?_)
      all_goals first | rfl | with_reducible assumption

  · have c1 : (sE s != 0) = true := by simpa using hs
    have n1 : sE s ≠ 0 := hs
    simp only [if_pos n1]
    refine evR_calls (I := numI) (v := .tuple #[.agg #[.int .i64 (0), .int .i64 (0)], .int .i64 (sE s)]) (ctxOf_ok libH8_ok (eq_none _)) (by kernel_rfl) Try.func30 rfl lps_nil (aof_1 s t v) rfl (all2_R (.cons rfl (.cons rfl (.cons rfl .nil)))) rfl w (Nat.zero_le _) (pickL_ok ?_ _)
    repeat' (first | exact cd_nil | refine cd_cons ?_ ?_)
    all_goals first | rfl | with_reducible assumption

noncomputable abbrev libH9 : List (Nat × FnSp Empty) := [(29, sp3 dSi (dInt .i64) dV3 (fun s t v => .tup [.agg [.int .i64 (aimAz s t v), .int .i64 (aimAl s t v)], .one (.int .i64 (aimE s t v))]) (fun _ t _ => [(i64B t, true)]))]
theorem libH9_ok : LibOk Try.prog noFacts (lib1 libH9) := (lib1_cons (sp3_ok fun s t v hc => ⟨_, rfl, aimf_pl s t v (c1' hc)⟩) Try.call29 (lib1_nil _ _))
theorem eqP_ok : EqOk Try.prog (tabOf Try.prog) (fun t => Nat.beq t 55) := eq_of fun t ht => by
  have := Nat.eq_of_beq_eq_true ht
  subst this
  exact ⟨by kernel_rfl, by kernel_rfl, by kernel_rfl⟩
set_option maxRecDepth 100000 in
theorem hzf_1  : evR (ctxOf Try.prog noFacts (fun t => Nat.beq t 55) libH9) Try.f31 [] [true] = some (AV.w (AW.one (AC.bool (aimAz { lat := 536870912, lon := 0 } 0 { x := 0, y := 0, z := 1 } == 0 && (aimAl { lat := 536870912, lon := 0 } 0 { x := 0, y := 0, z := 1 } == 536870912 && true)))), (pickL [(i64B 0, true), (aimE { lat := 536870912, lon := 0 } 0 { x := 0, y := 0, z := 1 } == 0, true)] [0, 1, 1, 1, 1])) := by kernel_rfl
set_option maxRecDepth 100000 in
theorem hzf_0  : evR (ctxOf Try.prog noFacts (fun t => Nat.beq t 55) libH9) Try.f31 [] [false] = some (AV.w (AW.one (AC.yes false)), (pickL [(i64B 0, true), (aimE { lat := 536870912, lon := 0 } 0 { x := 0, y := 0, z := 1 } == 0, false)] [0, 1, 1, 1, 1])) := by kernel_rfl
theorem isq_mul (n : Nat) : isq (n * n) = n := (isq_unique (Nat.le_refl _) (Nat.mul_lt_mul'' (by omega) (by omega))).symm
theorem hz_num : hzU ⟨536870912, 0⟩ 0 ⟨0, 0, 1⟩ = 759250125 ∧ hzN ⟨536870912, 0⟩ 0 ⟨0, 0, 1⟩ = 759250125 ∧ hzE ⟨536870912, 0⟩ 0 ⟨0, 0, 1⟩ = 0 := by decide +kernel
theorem hz_S : hzS ⟨536870912, 0⟩ 0 ⟨0, 0, 1⟩ = 759250125 := by
  unfold hzS
  rw [hz_num.2.1, hz_num.2.2, show ((759250125 : Int) * 759250125 + 0 * 0).toNat = 759250125 * 759250125 by decide +kernel, isq_mul]; rfl
theorem hzf_pl : Pl Try.prog 31 [] (.bool true) := fun w => by
  have hs : sE ⟨536870912, 0⟩ = 0 := by decide +kernel
  have hv : vE ⟨0, 0, 1⟩ = 0 := by decide +kernel
  have e1 : aimAz ⟨536870912, 0⟩ 0 ⟨0, 0, 1⟩ = 0 := by
    unfold aimAz azA; rw [if_neg (fun h => h hs), if_neg (fun h => h hv), hz_num.2.1, hz_num.2.2]; decide +kernel
  have e2 : aimAl ⟨536870912, 0⟩ 0 ⟨0, 0, 1⟩ = 536870912 := by
    unfold aimAl alA; rw [if_neg (fun h => h hs), if_neg (fun h => h hv), hz_num.1, hz_S]; decide +kernel
  have k1 : (aimE ⟨536870912, 0⟩ 0 ⟨0, 0, 1⟩ == 0) = true := by unfold aimE; rw [if_neg (fun h => h hs), hv]; rfl
  have L := hzf_1
  rw [e1, e2] at L
  refine evR_calls (I := noFacts) (v := .bool true) (ctxOf_ok libH9_ok eqP_ok) (by kernel_rfl) Try.func31 rfl lps_nil L rfl (all2_R .nil) rfl w (Nat.zero_le _) (pickL_ok ?_ _)
  repeat' (first | exact cd_nil | refine cd_cons ?_ ?_)
  all_goals first | rfl | with_reducible assumption

noncomputable abbrev libHA : List (Nat × FnSp Empty) := [(31, sp0 (aBool true)), (29, sp3 dSi (dInt .i64) dV3 (fun s t v => .tup [.agg [.int .i64 (aimAz s t v), .int .i64 (aimAl s t v)], .one (.int .i64 (aimE s t v))]) (fun _ t _ => [(i64B t, true)])), (30, sp3 dSi (dInt .i64) dV3 (fun s t v => .tup [.agg [.int .i64 (aimAz s t v), .int .i64 (aimAl s t v)], .one (.int .i64 (aimE s t v))]) (fun _ t _ => [(i64B t, true)]))]
theorem libHA_ok : LibOk Try.prog noFacts (lib1 libHA) := (lib1_cons (sp0_ok rfl hzf_pl) Try.call31 (lib1_cons (sp3_ok fun s t v hc => ⟨_, rfl, aimf_pl s t v (c1' hc)⟩) Try.call29 (lib1_cons (sp3_ok fun s t v hc => ⟨_, rfl, aof_pl s t v (c1' hc)⟩) Try.call30 (lib1_nil _ _))))
set_option maxRecDepth 100000 in
theorem la_11 (s : Si) (t : Int) (v : V3) : evR (ctxOf Try.prog noFacts (fun t => Nat.beq t 55) libHA) Try.f5 [(siA s), (.w (.one (.int .i64 t))), (v3A v)] [true, true] = some (AV.w (AW.one (AC.bool (aimE s t v == aimE s t v))), (pickL [(i64B t, true), (true, true), (aimAz s t v == aimAz s t v && (aimAl s t v == aimAl s t v && true), true)] [0, 0, 1, 1, 1, 1, 2, 2, 2, 2])) := by kernel_rfl
theorem ha_walk (w : World) (lat : Int) (h1 : okK (some .i64) lat) (lon : Int) (h2 : okK (some .i64) lon) (t : Int) (h3 : okK (some .i64) t) (x : Int) (h4 : okK (some .i64) x) (y : Int) (h5 : okK (some .i64) y) (z : Int) (h6 : okK (some .i64) z) : Calls Try.prog 5 #[.agg #[.int .i64 lat, .int .i64 lon], .int .i64 t, .agg #[.int .i64 x, .int .i64 y, .int .i64 z]] w fun e w' => e = .returned (.bool true) ∧ Below w.heap.size w w' := by
  have ht : i64B t = true := i64B_iff.2 (okK_i64 h3)
  have k : (aimAz ⟨lat, lon⟩ t ⟨x, y, z⟩ == aimAz ⟨lat, lon⟩ t ⟨x, y, z⟩ && (aimAl ⟨lat, lon⟩ t ⟨x, y, z⟩ == aimAl ⟨lat, lon⟩ t ⟨x, y, z⟩ && true)) = true := by simp
  have V : (aimE ⟨lat, lon⟩ t ⟨x, y, z⟩ == aimE ⟨lat, lon⟩ t ⟨x, y, z⟩) = true := by simp
  have L := la_11 ⟨lat, lon⟩ t ⟨x, y, z⟩
  rw [V] at L
  refine evR_calls (I := noFacts) (v := .bool true) (ctxOf_ok libHA_ok eqP_ok) (by kernel_rfl) Try.func5 rfl lps_nil L rfl (all2_R (.cons rfl (.cons rfl (.cons rfl .nil)))) rfl w (Nat.zero_le _) (pickL_ok ?_ _)
  repeat' (first | exact cd_nil | refine cd_cons ?_ ?_)
  all_goals first | rfl | with_reducible assumption

end
end Go.Proofs.Ytagbpehfieejcaa.AtHz

