/-
  The reference's search for the first time at which a rotation has reached an angle: its loop.
  Conditions: those of each theorem.
-/
import Derived.Test.YtoaoifiklnbknaaEC
set_option linter.unusedVariables false
set_option linter.unusedSimpArgs false
namespace Go.Proofs.Ytoaoifiklnbknaa.AtRt
open Ev Go.RowKit Go.Shelf Zd Wd
open Go.Proofs.Ytoaoifiklnbknaa
noncomputable section

noncomputable abbrev libG4 : List (Nat × FnSp Nm) := [(129, capSp 95 gF), (17, nfn nI), (48, nfn nTimes), (31, nfn nLess), (30, nfn nPlus), (90, nfn nFloor), (91, nfn nCeil), (15, nfn nCmp), (142, nfn nGcd)]
noncomputable abbrev libG5 : List (Nat × FnSp Nm) := [(73, factSp gTwo), (72, nfn nSplit), (129, capSp 95 gF), (17, nfn nI), (48, nfn nTimes), (31, nfn nLess), (30, nfn nPlus), (90, nfn nFloor), (91, nfn nCeil), (15, nfn nCmp), (142, nfn nGcd)]
theorem libG4_ok : LibOk Try.prog numI (lib1 libG4) := (lib1_cons gF_ok Try.call129 (lib1_cons nI_ok Try.call17 (lib1_cons nTimes_ok Try.call48 (lib1_cons nLess_ok Try.call31 (lib1_cons nPlus_ok Try.call30 (lib1_cons nFloor_ok Try.call90 (lib1_cons nCeil_ok Try.call91 (lib1_cons nCmp_ok Try.call15 (lib1_cons nGcd_ok Try.call142 (lib1_nil _ _))))))))))
theorem libG5_ok : LibOk Try.prog numI (lib1 libG5) := (lib1_cons gTwo_ok Try.call73 (lib1_cons nSplit_ok Try.call72 (lib1_cons gF_ok Try.call129 (lib1_cons nI_ok Try.call17 (lib1_cons nTimes_ok Try.call48 (lib1_cons nLess_ok Try.call31 (lib1_cons nPlus_ok Try.call30 (lib1_cons nFloor_ok Try.call90 (lib1_cons nCeil_ok Try.call91 (lib1_cons nCmp_ok Try.call15 (lib1_cons nGcd_ok Try.call142 (lib1_nil _ _))))))))))))
set_option maxRecDepth 100000 in
theorem rl_11 (lo : Int) (hi : Int) (g1 : Int) (g2 : Int) (g3 : Int) (g4 : Int) (u : Bool) (z : Int) (rest : List (Nat × AV Nm)) : evView (ctxOf Try.prog numI (fun _ => false) libG4) 58 (false :: [false, false, true, true, true, true, true, true, true]) (loopAt (bodyOf Try.f80) [false, false, true, true, true, true, true, true, true]) ([(13, (.w (.one (.int .i64 lo)))), (14, (.w (.one (.int .i64 hi))))] ++ (ptrN 0 [(65536 * (129 + 1) + 8), 12] ++ rest)) [⟨95, [.int .i64 g1, .int .i64 g2, .int .i64 g3, .int .i64 g4]⟩, ⟨27, [.bool u, .fv (.num z)]⟩] 2 [13, 14, 8, 12] [true, true] = some ((Ex.normal, [AV.w (AW.one (AC.int IntKind.i64 lo)), AV.w (AW.one (AC.int IntKind.i64 (IntKind.i64.wrap ((IntKind.i64.wrap (lo + hi)).tdiv 2)))), AV.w (AW.one (AC.fnc 129 [(0, 0)])), AV.w (AW.one (AC.ptr 1 0))], [{ ty := 95, cs := [AC.int IntKind.i64 g1, AC.int IntKind.i64 g2, AC.int IntKind.i64 g3, AC.int IntKind.i64 g4] }, { ty := 27, cs := [AC.bool u, AC.fv (Nm.num z)] }]), (pickL [(decide (IntKind.i64.wrap (hi - lo) > 1), true), (decide (2 = 0), false), (okR { t := g1, a := g2, n := g3, d := g4 }, true), (i64B (IntKind.i64.wrap ((IntKind.i64.wrap (lo + hi)).tdiv 2)), true), (decide (wA { t := g1, a := g2, n := g3, d := g4 } (IntKind.i64.wrap ((IntKind.i64.wrap (lo + hi)).tdiv 2)) < 0) == decide (wA { t := g1, a := g2, n := g3, d := g4 } (IntKind.i64.wrap ((IntKind.i64.wrap (lo + hi)).tdiv 2)) < 0), true), (u == decide (z < 0), true), (szB (wA { t := g1, a := g2, n := g3, d := g4 } (IntKind.i64.wrap ((IntKind.i64.wrap (lo + hi)).tdiv 2))), true), (szB z, true), (decide (cmpI (wA { t := g1, a := g2, n := g3, d := g4 } (IntKind.i64.wrap ((IntKind.i64.wrap (lo + hi)).tdiv 2))) z ≥ 0), true)] [0, 1, 2, 3, 4, 5, 6, 7, 8])) := by kernel_rfl
set_option maxRecDepth 100000 in
theorem rl_10 (lo : Int) (hi : Int) (g1 : Int) (g2 : Int) (g3 : Int) (g4 : Int) (u : Bool) (z : Int) (rest : List (Nat × AV Nm)) : evView (ctxOf Try.prog numI (fun _ => false) libG4) 58 (false :: [false, false, true, true, true, true, true, true, true]) (loopAt (bodyOf Try.f80) [false, false, true, true, true, true, true, true, true]) ([(13, (.w (.one (.int .i64 lo)))), (14, (.w (.one (.int .i64 hi))))] ++ (ptrN 0 [(65536 * (129 + 1) + 8), 12] ++ rest)) [⟨95, [.int .i64 g1, .int .i64 g2, .int .i64 g3, .int .i64 g4]⟩, ⟨27, [.bool u, .fv (.num z)]⟩] 2 [13, 14, 8, 12] [true, false] = some ((Ex.normal, [AV.w (AW.one (AC.int IntKind.i64 (IntKind.i64.wrap ((IntKind.i64.wrap (lo + hi)).tdiv 2)))), AV.w (AW.one (AC.int IntKind.i64 hi)), AV.w (AW.one (AC.fnc 129 [(0, 0)])), AV.w (AW.one (AC.ptr 1 0))], [{ ty := 95, cs := [AC.int IntKind.i64 g1, AC.int IntKind.i64 g2, AC.int IntKind.i64 g3, AC.int IntKind.i64 g4] }, { ty := 27, cs := [AC.bool u, AC.fv (Nm.num z)] }]), (pickL [(decide (IntKind.i64.wrap (hi - lo) > 1), true), (decide (2 = 0), false), (okR { t := g1, a := g2, n := g3, d := g4 }, true), (i64B (IntKind.i64.wrap ((IntKind.i64.wrap (lo + hi)).tdiv 2)), true), (decide (wA { t := g1, a := g2, n := g3, d := g4 } (IntKind.i64.wrap ((IntKind.i64.wrap (lo + hi)).tdiv 2)) < 0) == decide (wA { t := g1, a := g2, n := g3, d := g4 } (IntKind.i64.wrap ((IntKind.i64.wrap (lo + hi)).tdiv 2)) < 0), true), (u == decide (z < 0), true), (szB (wA { t := g1, a := g2, n := g3, d := g4 } (IntKind.i64.wrap ((IntKind.i64.wrap (lo + hi)).tdiv 2))), true), (szB z, true), (decide (cmpI (wA { t := g1, a := g2, n := g3, d := g4 } (IntKind.i64.wrap ((IntKind.i64.wrap (lo + hi)).tdiv 2))) z ≥ 0), false)] [0, 1, 2, 3, 4, 5, 6, 7, 8])) := by kernel_rfl
set_option maxRecDepth 100000 in
theorem rl_0 (lo : Int) (hi : Int) (g1 : Int) (g2 : Int) (g3 : Int) (g4 : Int) (u : Bool) (z : Int) (rest : List (Nat × AV Nm)) : evView (ctxOf Try.prog numI (fun _ => false) libG4) 58 (false :: [false, false, true, true, true, true, true, true, true]) (loopAt (bodyOf Try.f80) [false, false, true, true, true, true, true, true, true]) ([(13, (.w (.one (.int .i64 lo)))), (14, (.w (.one (.int .i64 hi))))] ++ (ptrN 0 [(65536 * (129 + 1) + 8), 12] ++ rest)) [⟨95, [.int .i64 g1, .int .i64 g2, .int .i64 g3, .int .i64 g4]⟩, ⟨27, [.bool u, .fv (.num z)]⟩] 2 [13, 14, 8, 12] [false] = some ((Ex.exit 0, [AV.w (AW.one (AC.int IntKind.i64 lo)), AV.w (AW.one (AC.int IntKind.i64 hi)), AV.w (AW.one (AC.fnc 129 [(0, 0)])), AV.w (AW.one (AC.ptr 1 0))], [{ ty := 95, cs := [AC.int IntKind.i64 g1, AC.int IntKind.i64 g2, AC.int IntKind.i64 g3, AC.int IntKind.i64 g4] }, { ty := 27, cs := [AC.bool u, AC.fv (Nm.num z)] }]), (pickL [(decide (IntKind.i64.wrap (hi - lo) > 1), false)] [0])) := by kernel_rfl
theorem mid_in {lo hi : Int} (h : 1 < hi - lo) : lo < (lo + hi).tdiv 2 ∧ (lo + hi).tdiv 2 < hi := by
  by_cases g : 0 ≤ lo + hi
  · rw [Int.tdiv_eq_ediv_of_nonneg g]; omega
  · rw [show lo + hi = -(-(lo + hi)) by omega, Int.neg_tdiv, Int.tdiv_eq_ediv_of_nonneg (by omega)]; omega
theorem cmp_ge (a b : Int) : decide (cmpI a b ≥ 0) = decide (b ≤ a) := by
  unfold cmpI
  by_cases h : a < b
  · rw [if_pos h, decide_eq_false (show ¬ b ≤ a by omega)]; rfl
  · rw [if_neg h, decide_eq_true (show b ≤ a by omega)]
    split <;> rfl
theorem wA_dl {r : Rt} {x : Int} (ho : okR r = true) (hx : i64B x = true) : Dl 20 (wA r x) := by
  obtain ⟨it, ia, ii, d0, id'⟩ := okR_iff.1 ho
  exact ((Dl.i64 ia).add' (((Dl.i64 hx).sub' (Dl.i64 it)).mul (Dl.i64 ii)).div).le (by omega)
theorem wA_sz {r : Rt} {x : Int} (ho : okR r = true) (hx : i64B x = true) : szB (wA r x) = true := (wA_dl ho hx).sz (by omega)
/-- The first time at which the angle has reached z. -/
def gW (r : Rt) (z : Int) : Int := r.t + ((z - r.a) * r.d + (r.n - 1)) / r.n
theorem gW_iff {r : Rt} {z x : Int} (ho : okR r = true) (hn : 1 ≤ r.n) : z ≤ wA r x ↔ gW r z ≤ x := by
  obtain ⟨_, _, _, d0, _⟩ := okR_iff.1 ho
  rw [wA_le (by omega), ← wait_le hn]
  unfold gW; omega
/-- The first time behind lo. -/
def fsV (lo g : Int) : Int := if lo + 1 ≤ g then g else lo + 1
structure rlT where
  lo : Int
  hi : Int
  g1 : Int
  g2 : Int
  g3 : Int
  g4 : Int
  u : Bool
  z : Int
def rlP (lo : Int) (hi : Int) (g1 : Int) (g2 : Int) (g3 : Int) (g4 : Int) (u : Bool) (z : Int) : Prop := okR ⟨g1, g2, g3, g4⟩ = true ∧ 1 ≤ g3 ∧ i64B z = true ∧ u = decide (z < 0) ∧ -1152921504606846976 ≤ lo ∧ hi ≤ 1152921504606846976 ∧ lo < hi
instance (lo : Int) (hi : Int) (g1 : Int) (g2 : Int) (g3 : Int) (g4 : Int) (u : Bool) (z : Int) : Decidable (rlP lo hi g1 g2 g3 g4 u z) := by unfold rlP; infer_instance
def rlTm (lo : Int) (hi : Int) (g1 : Int) (g2 : Int) (g3 : Int) (g4 : Int) (u : Bool) (z : Int) : List (Nat × AV Nm) := [(13, (.w (.one (.int .i64 lo)))), (14, (.w (.one (.int .i64 hi))))]
def rlS : LpSt rlT Nm where
  ps := [(65536 * (129 + 1) + 8), 12]
  tm := fun t => rlTm t.lo t.hi t.g1 t.g2 t.g3 t.g4 t.u t.z
  hp := fun t => [⟨95, [.int .i64 t.g1, .int .i64 t.g2, .int .i64 t.g3, .int .i64 t.g4]⟩, ⟨27, [.bool t.u, .fv (.num t.z)]⟩]
def rlNx (lo : Int) (hi : Int) (g1 : Int) (g2 : Int) (g3 : Int) (g4 : Int) (u : Bool) (z : Int) : Nxt rlT Nm := if 1 < hi - lo then (if z ≤ wA ⟨g1, g2, g3, g4⟩ ((lo + hi).tdiv 2) then .go ⟨lo, (lo + hi).tdiv 2, g1, g2, g3, g4, u, z⟩ else .go ⟨(lo + hi).tdiv 2, hi, g1, g2, g3, g4, u, z⟩) else .out (.exit 0) (rlTm lo hi g1 g2 g3 g4 u z) [⟨95, [.int .i64 g1, .int .i64 g2, .int .i64 g3, .int .i64 g4]⟩, ⟨27, [.bool u, .fv (.num z)]⟩]
def rlStep (t : rlT) : Nxt rlT Nm := if rlP t.lo t.hi t.g1 t.g2 t.g3 t.g4 t.u t.z then rlNx t.lo t.hi t.g1 t.g2 t.g3 t.g4 t.u t.z else .bad
theorem rl_go {lo : Int} {hi : Int} {g1 : Int} {g2 : Int} {g3 : Int} {g4 : Int} {u : Bool} {z : Int} (h : rlP lo hi g1 g2 g3 g4 u z) : rlStep ⟨lo, hi, g1, g2, g3, g4, u, z⟩ = rlNx lo hi g1 g2 g3 g4 u z := if_pos h
set_option maxRecDepth 100000 in
set_option maxHeartbeats 4000000 in
theorem rl_round (t : rlT) (hb : (rlStep t).isBad = false) (rest : List (Nat × AV Nm)) : ∃ fuel path r, evC (ctxOf Try.prog numI (fun _ => false) libG4) fuel 58 (false :: [false, false, true, true, true, true, true, true, true]) (loopAt (bodyOf Try.f80) [false, false, true, true, true, true, true, true, true]) (rlS.tm t ++ (ptrN 0 rlS.ps ++ rest)) (numb 0 (rlS.hp t)) 2 path = some r ∧ (∀ p ∈ r.cd, p.1 = p.2) ∧ Gives rlS 2 r (rlStep t) := by
  obtain ⟨lo, hi, g1, g2, g3, g4, u, z⟩ := t
  by_cases ok : rlP lo hi g1 g2 g3 g4 u z
  · rw [rl_go ok]
    clear hb
    unfold rlNx
    obtain ⟨h1, h2, h3, rfl, h4, h5, h6⟩ := ok
    have e0 : IntKind.i64.wrap (hi - lo) = hi - lo := v64 (by omega) (by omega)
    have e1 : IntKind.i64.wrap (lo + hi) = lo + hi := v64 (by omega) (by omega)
    by_cases hk : 1 < hi - lo
    · have c1 : decide (hi - lo > 1) = true := decide_eq_true hk
      obtain ⟨m1, m2⟩ := mid_in hk
      have e2 : IntKind.i64.wrap ((lo + hi).tdiv 2) = (lo + hi).tdiv 2 := v64 (by omega) (by omega)
      rw [if_pos hk]
      generalize hm : (lo + hi).tdiv 2 = m at *
      have i1 : i64B m = true := i64B_iff.2 (by omega)
      have s1 := wA_sz h1 i1
      have s2 : szB z = true := (Dl.i64 h3).sz (by omega)
      by_cases hz : z ≤ wA ⟨g1, g2, g3, g4⟩ m
      · have c2 : decide (cmpI (wA ⟨g1, g2, g3, g4⟩ m) z ≥ 0) = true := by rw [cmp_ge]; exact decide_eq_true hz
        rw [if_pos hz]
        have L := rl_11 lo hi g1 g2 g3 g4 (decide (z < 0)) z rest
        rw [e0, e1, hm, e2] at L
        refine round_go L (pickL_ok ?_ _) rfl rfl rfl rfl
        repeat' (first | exact cd_nil | refine cd_cons ?_ ?_)
        all_goals first | rfl | with_reducible assumption | exact eqB _
      · have c2 : decide (cmpI (wA ⟨g1, g2, g3, g4⟩ m) z ≥ 0) = false := by rw [cmp_ge]; exact decide_eq_false hz
        rw [if_neg hz]
        have L := rl_10 lo hi g1 g2 g3 g4 (decide (z < 0)) z rest
        rw [e0, e1, hm, e2] at L
        refine round_go L (pickL_ok ?_ _) rfl rfl rfl rfl
        repeat' (first | exact cd_nil | refine cd_cons ?_ ?_)
        all_goals first | rfl | with_reducible assumption | exact eqB _
    · have c1 : decide (hi - lo > 1) = false := decide_eq_false hk
      rw [if_neg hk]
      have L := rl_0 lo hi g1 g2 g3 g4 (decide (z < 0)) z rest
      rw [e0] at L
      refine round_out L rfl (pickL_ok ?_ _) rfl rfl rfl
      repeat' (first | exact cd_nil | refine cd_cons ?_ ?_)
      all_goals first | rfl | with_reducible assumption | exact eqB _
  · exfalso
    have : rlStep ⟨lo, hi, g1, g2, g3, g4, u, z⟩ = .bad := if_neg ok
    rw [this] at hb; cases hb
theorem rl_runs {g1 g2 g3 g4 : Int} {u : Bool} {z : Int} (h1 : okR ⟨g1, g2, g3, g4⟩ = true) (h2 : 1 ≤ g3) (h3 : i64B z = true) (h4 : u = decide (z < 0)) {g : Int} (hg : g = gW ⟨g1, g2, g3, g4⟩ z) : ∀ (n : Nat) (lo hi : Int), (hi - lo).toNat ≤ n → -1152921504606846976 ≤ lo → hi ≤ 1152921504606846976 → lo < hi → g ≤ hi → ∃ c, runs rlStep c ⟨lo, hi, g1, g2, g3, g4, u, z⟩ = some (.exit 0, rlTm (fsV lo g - 1) (fsV lo g) g1 g2 g3 g4 u z, [⟨95, [.int .i64 g1, .int .i64 g2, .int .i64 g3, .int .i64 g4]⟩, ⟨27, [.bool u, .fv (.num z)]⟩])
  | n, lo, hi, hn, q1, q2, q3, q4 => by
    by_cases hk : 1 < hi - lo
    · obtain ⟨m1, m2⟩ := mid_in hk
      match n, hn with
      | 0, hn => omega
      | n + 1, hn =>
      by_cases hz : z ≤ wA ⟨g1, g2, g3, g4⟩ ((lo + hi).tdiv 2)
      · have hz' := (gW_iff h1 h2).1 hz
        rw [← hg] at hz'
        obtain ⟨c, hc⟩ := rl_runs h1 h2 h3 h4 hg n lo ((lo + hi).tdiv 2) (by omega) q1 (by omega) m1 hz'
        refine ⟨c + 1, ?_⟩
        rw [runs, rl_go ⟨h1, h2, h3, h4, q1, q2, q3⟩]
        unfold rlNx
        rw [if_pos hk, if_pos hz]
        exact hc
      · have hz' : ¬ gW ⟨g1, g2, g3, g4⟩ z ≤ (lo + hi).tdiv 2 := fun h => hz ((gW_iff h1 h2).2 h)
        rw [← hg] at hz'
        obtain ⟨c, hc⟩ := rl_runs h1 h2 h3 h4 hg n ((lo + hi).tdiv 2) hi (by omega) (by omega) q2 m2 q4
        refine ⟨c + 1, ?_⟩
        rw [runs, rl_go ⟨h1, h2, h3, h4, q1, q2, q3⟩]
        unfold rlNx
        rw [if_pos hk, if_neg hz]
        have e1 : fsV ((lo + hi).tdiv 2) g = g := by unfold fsV; rw [if_pos (by omega)]
        have e2 : fsV lo g = g := by unfold fsV; rw [if_pos (by omega)]
        rw [e1] at hc
        rw [e2]
        exact hc
    · refine ⟨1, ?_⟩
      rw [runs, rl_go ⟨h1, h2, h3, h4, q1, q2, q3⟩]
      unfold rlNx
      have e : fsV lo g = hi := by
        unfold fsV
        split <;> omega
      rw [if_neg hk, e, show hi - 1 = lo by omega]
def rlD : LpDef rlT Nm where
  ts := [13, 14]
  ps := [(65536 * (129 + 1) + 8), 12]
  W := [8, 12, 13, 14, 15, 41, 42, 43, 44, 45, 46, 47, 48, 49, 50, 51, 52, 53, 54, 55, 56]
  dec := fun vs ks => match vs, ks with
    | [.w (.one (.int .i64 lo)), .w (.one (.int .i64 hi))], [⟨95, [.int .i64 g1, .int .i64 g2, .int .i64 g3, .int .i64 g4]⟩, ⟨27, [.bool u, .fv (.num z)]⟩] => some ⟨lo, hi, g1, g2, g3, g4, u, z⟩
    | _, _ => none
  spec := fun t => some ((.exit 0), rlTm (fsV t.lo (gW ⟨t.g1, t.g2, t.g3, t.g4⟩ t.z) - 1) (fsV t.lo (gW ⟨t.g1, t.g2, t.g3, t.g4⟩ t.z)) t.g1 t.g2 t.g3 t.g4 t.u t.z, [⟨95, [.int .i64 t.g1, .int .i64 t.g2, .int .i64 t.g3, .int .i64 t.g4]⟩, ⟨27, [.bool t.u, .fv (.num t.z)]⟩], [(decide (rlP t.lo t.hi t.g1 t.g2 t.g3 t.g4 t.u t.z) && decide ((gW ⟨t.g1, t.g2, t.g3, t.g4⟩ t.z) ≤ t.hi), true)])
theorem rlD_ok (x : Code) (hx : codeAt (bodyOf Try.f80) [false, false, true, true, true, true, true, true, true] = some (.loop x)) : LpOk Try.prog numI 58 x (rlD.sp nmSafe) := by
  obtain rfl := loopAt_eq hx
  refine lp_ok (c := ctxOf Try.prog numI (fun _ => false) libG4) (ctxOf_ok libG4_ok (eq_none _)) (by kernel_rfl) hx lps_nil (S := rlS) (step := rlStep) (fun _ h => h) (by kernel_rfl) (by kernel_rfl) ?_ rfl (fun t e he => ?_) (fun t hb rest => rl_round t hb rest) ?_
  · intro vs ks s hv1 h hv2
    simp only [rlD] at h
    split at h
    · cases h
      exact ⟨rfl, fun e he => he⟩
    · cases h
  · simp only [rlS, rlTm, List.mem_cons, List.not_mem_nil, or_false] at he
    rcases he with rfl | rfl <;> rfl
  · intro s ex outs wb cd h hc
    obtain ⟨lo, hi, g1, g2, g3, g4, u, z⟩ := s
    simp only [rlD] at h
    cases h
    have := c1' hc
    simp only [Bool.and_eq_true, decide_eq_true_eq] at this
    obtain ⟨⟨h1, h2, h3, h4, h5, h6, h7⟩, h8⟩ := this
    exact rl_runs h1 h2 h3 h4 rfl _ lo hi (Nat.le_refl _) h5 h6 h7 h8
noncomputable abbrev lpsRl : Lps Nm := [((58, [false, false, true, true, true, true, true, true, true]), rlD.sp nmSafe)]
theorem lps_Rl : LpsOk Try.prog numI lpsRl Try.f80.ntmps (bodyOf Try.f80) := lps_cons (fun _ x hx => rlD_ok x hx) lps_nil
end
end Go.Proofs.Ytoaoifiklnbknaa.AtRt

