/-
  The reference's SiderealOf, and that it is what Sidereal returns.
  Conditions: those of each theorem.
-/
import Derived.Test.YtoaoifiklnbknaaE4
set_option linter.unusedVariables false
set_option linter.unusedSimpArgs false
namespace Go.Proofs.Ytoaoifiklnbknaa.AtRt
open Ev Go.RowKit Go.Shelf Zd Wd
open Go.Proofs.Ytoaoifiklnbknaa
noncomputable section

def gBd : List (AV Nm) → Option (AV Nm × List (Bool × Bool))
  | [.w (.agg [.bool s, .fv (.num x)]), .w (.agg [.bool k, .fv (.num y)])] => some (bA (ofB x y), [(s == decide (x < 0), true), (k == decide (y < 0), true), (szB x, true), (szB y, true)])
  | _ => none
def dRtN : Dec Nm Rt := dRt
noncomputable abbrev libH1 : List (Nat × FnSp Nm) := [(17, nfn nI), (15, nfn nCmp), (85, nfn nSmall)]
noncomputable abbrev libH2 : List (Nat × FnSp Nm) := [(70, sp1 dRt (fun r => aInt .i64 (rtE r)) (fun r => [(i64B r.n, true), (i64B r.d, true)])), (155, sp1 dBd (fun b => aInt .i64 (chkB b)) (fun _ => [])), (124, factSp gBd), (125, factSp gBd), (71, factSp gTurned), (31, nfn nLess), (30, nfn nPlus), (17, nfn nI)]
noncomputable abbrev fnsH : List (Nat × Func) := [(123, Try.f123)]
/-! ### Bounds -/
theorem ofB_in {x y : Int} (h1 : -1152921504606846976 ≤ x) (h2 : x ≤ y) (h3 : y ≤ 1152921504606846976) : ofB x y = ⟨x, y, false⟩ := by
  unfold ofB normB
  rw [knB_iff.2 ⟨rfl, h1, h2, h3⟩]; rfl
theorem ofB_out {x y : Int} (h : ¬ (-1152921504606846976 ≤ x ∧ x ≤ y ∧ y ≤ 1152921504606846976)) : ofB x y = noneB := by
  unfold ofB normB
  cases k : knB ⟨x, y, false⟩ with
  | true => exact absurd (knB_iff.1 k).2 h
  | false => rfl
theorem kn_mk {x y : Int} (h1 : -1152921504606846976 ≤ x) (h2 : x ≤ y) (h3 : y ≤ 1152921504606846976) : knB (⟨x, y, false⟩ : Bd) = true := knB_iff.2 ⟨rfl, h1, h2, h3⟩
theorem kn_no : knB noneB = false := by decide
theorem add_no (a : Bd) : addB noneB a = noneB := by unfold addB; rw [kn_no]; rfl
theorem sca_no (n d : Int) : scaB noneB n d = noneB := by unfold scaB; rw [kn_no]; rfl
theorem norm_of (x y : Int) : normB (ofB x y) = ofB x y := by
  unfold ofB normB
  cases k : knB ⟨x, y, false⟩ with
  | true => simp only [cond_true, k]
  | false => simp only [cond_false, kn_no]
theorem kn_chk {b : Bd} (h : b.u = false) : (chkB b != 0) = !knB b := by
  unfold chkB knB
  rw [h]
  by_cases g : b.lo ≤ b.hi
  · rw [decide_eq_true g, decide_eq_false (show ¬ b.lo > b.hi by omega)]
    cases inB b.lo <;> cases inB b.hi <;> rfl
  · rw [decide_eq_false g, decide_eq_true (show b.lo > b.hi by omega)]
    cases inB b.lo <;> cases inB b.hi <;> rfl
theorem ce_eq {m d : Int} (hd : 1 ≤ d) : (m + (d - 1)) / d = -(-m / d) := by
  have e1 := Int.emod_add_mul_ediv (-m) d
  have e2 := Int.emod_lt_of_pos (-m) (show 0 < d by omega)
  have e3 := Int.emod_nonneg (-m) (show d ≠ 0 by omega)
  generalize -m / d = q at *
  apply Int.le_antisymm
  · have : (m + (d - 1)) / d < -q + 1 := Int.ediv_lt_of_lt_mul (by omega) (by rw [Int.add_mul, Int.neg_mul, Int.mul_comm q d]; omega)
    omega
  · exact Int.le_ediv_of_mul_le (by omega) (by rw [Int.neg_mul, Int.mul_comm q d]; omega)
theorem ce_fl {m d : Int} (hd : 1 ≤ d) : m / d ≤ -(-m / d) ∧ -(-m / d) ≤ m / d + 1 := by
  have e1 := Int.emod_add_mul_ediv (-m) d
  have e2 := Int.emod_lt_of_pos (-m) (show 0 < d by omega)
  have e3 := Int.emod_nonneg (-m) (show d ≠ 0 by omega)
  generalize -m / d = q at *
  constructor
  · have : m / d < -q + 1 := Int.ediv_lt_of_lt_mul (by omega) (by rw [Int.add_mul, Int.neg_mul, Int.mul_comm q d]; omega)
    omega
  · have : -q - 1 ≤ m / d := Int.le_ediv_of_mul_le (by omega) (by rw [Int.sub_mul, Int.neg_mul, Int.mul_comm q d]; omega)
    omega
theorem divE_sp {m d : Int} (hd : 1 ≤ d) : divE m d = if m / d < -9223372036854775808 ∨ 9223372036854775807 < m / d then 2 else 0 := by
  unfold divE; rw [if_neg (by omega)]
theorem quot_val {x n d : Int} (hd : 1 ≤ d) (h1 : -9223372036854775808 ≤ x * n / d) (h2 : -(-(x * n) / d) ≤ 9223372036854775807) : divV (x * n) d = x * n / d ∧ divV (x * n + (d - 1)) d = -(-(x * n) / d) := by
  have c := ce_fl (m := x * n) hd
  rw [← ce_eq hd] at h2 c ⊢
  exact ⟨divV_eq hd (by omega) (by omega), divV_eq hd (by omega) (by omega)⟩
theorem quot_sp {x n d : Int} (hd : 1 ≤ d) : quotB x n d = ofB (x * n / d) (-(-(x * n) / d)) := by
  have c := ce_fl (m := x * n) hd
  have v := quot_val (x := x) (n := n) hd
  unfold quotB
  rw [divE_sp hd, divE_sp hd, ce_eq hd]
  generalize x * n / d = f at *
  generalize -(-(x * n) / d) = e at *
  by_cases h1 : f < -9223372036854775808 ∨ 9223372036854775807 < f
  · rw [if_pos h1, ofB_out (x := f) (y := e) (by omega)]; rfl
  · rw [if_neg h1]
    by_cases h2 : e < -9223372036854775808 ∨ 9223372036854775807 < e
    · rw [if_pos h2, ofB_out (x := f) (y := e) (by omega)]; rfl
    · obtain ⟨v1, v2⟩ := v (by omega) (by omega)
      rw [if_neg h2, v1, v2]; rfl
theorem hull_sp {f1 c1 f2 c2 : Int} (h1 : f1 ≤ c1) (h2 : f2 ≤ c2) (h3 : f1 ≤ f2) (h4 : c1 ≤ c2) : hullB (ofB f1 c1) (ofB f2 c2) = ofB f1 c2 := by
  by_cases g : -1152921504606846976 ≤ f1 ∧ c2 ≤ 1152921504606846976
  · rw [ofB_in g.1 h1 (by omega), ofB_in (x := f2) (y := c2) (by omega) h2 g.2]
    unfold hullB
    rw [kn_mk g.1 h1 (by omega), kn_mk (x := f2) (y := c2) (by omega) h2 g.2]
    simp only [Bool.and_self, cond_true]
    rw [show minI f1 f2 = f1 from if_neg (by omega)]
    congr 1
    unfold maxI
    split <;> omega
  · rw [ofB_out (x := f1) (y := c2) (by omega)]
    by_cases g1 : -1152921504606846976 ≤ f1
    · rw [ofB_out (x := f2) (y := c2) (by omega)]
      unfold hullB
      rw [kn_no, Bool.and_false]; rfl
    · rw [ofB_out (x := f1) (y := c1) (by omega)]
      unfold hullB
      rw [kn_no, Bool.false_and]; rfl
/-- The bound of the angle, by the reference's steps. -/
def rfB (r : Rt) (b : Bd) : Bd :=
  if (ofB (b.lo - r.t) (b.hi - r.t)).u = true then noneB else if (ofB (tnV r b.lo false) (tnV r b.hi true)).u = true then noneB else ofB (tnV r b.lo false + r.a) (tnV r b.hi true + r.a)
theorem sd_ref {r : Rt} {b : Bd} (h : rtE r = 0) (hb : knB b = true) : sdB r b = rfB r b := by
  obtain ⟨h1, h2, h3, h4, h5, h6, h7, h8, h9⟩ := rt_in h
  obtain ⟨q1, q2, q3, q4⟩ := knB_iff.1 hb
  have hn : inB r.n = true := inB_iff.2 (by omega)
  have s1 : subB b (ofB r.t r.t) = ofB (b.lo - r.t) (b.hi - r.t) := by
    rw [ofB_in (x := r.t) (y := r.t) (by omega) (by omega) (by omega)]
    unfold subB negB
    rw [kn_mk (x := r.t) (y := r.t) (by omega) (by omega) (by omega), cond_true, ofB_in (x := -r.t) (y := -r.t) (by omega) (by omega) (by omega)]
    unfold addB
    rw [hb, kn_mk (x := -r.t) (y := -r.t) (by omega) (by omega) (by omega)]
    rfl
  unfold sdB rfB
  rw [if_pos h, s1, norm_of]
  by_cases g : -1152921504606846976 ≤ b.lo - r.t ∧ b.hi - r.t ≤ 1152921504606846976
  · have e : ofB (b.lo - r.t) (b.hi - r.t) = ⟨b.lo - r.t, b.hi - r.t, false⟩ := ofB_in g.1 (by omega) g.2
    rw [e, if_neg (by simp)]
    have s2 : scaB ⟨b.lo - r.t, b.hi - r.t, false⟩ r.n r.d = ofB (tnV r b.lo false) (tnV r b.hi true) := by
      unfold scaB
      rw [kn_mk g.1 (by omega) g.2, hn]
      simp only [Bool.and_self, cond_true]
      rw [quot_sp h6, quot_sp h6]
      have hm : (b.lo - r.t) * r.n ≤ (b.hi - r.t) * r.n := Int.mul_le_mul_of_nonneg_right (by omega) (by omega)
      have m1 : (b.lo - r.t) * r.n / r.d ≤ (b.hi - r.t) * r.n / r.d := Int.ediv_le_ediv (by omega) hm
      have m2 : -((b.hi - r.t) * r.n) / r.d ≤ -((b.lo - r.t) * r.n) / r.d := Int.ediv_le_ediv (by omega) (by omega)
      exact hull_sp (ce_fl h6).1 (ce_fl h6).1 m1 (by omega)
    rw [s2]
    have ea : ofB r.a r.a = ⟨r.a, r.a, false⟩ := ofB_in (by omega) (by omega) (by omega)
    by_cases k : -1152921504606846976 ≤ tnV r b.lo false ∧ tnV r b.lo false ≤ tnV r b.hi true ∧ tnV r b.hi true ≤ 1152921504606846976
    · rw [ofB_in k.1 k.2.1 k.2.2, if_neg (by simp), ea]
      unfold addB
      rw [kn_mk k.1 k.2.1 k.2.2, kn_mk (x := r.a) (y := r.a) (by omega) (by omega) (by omega)]
      rfl
    · rw [ofB_out k, if_pos (by rfl), add_no]
  · have e : ofB (b.lo - r.t) (b.hi - r.t) = noneB := ofB_out (by omega)
    rw [e, if_pos (by rfl), sca_no, add_no]
theorem sd_unk {r : Rt} {b : Bd} (hb : knB b = false) : sdB r b = noneB := by
  unfold sdB
  split
  · have e : subB b (ofB r.t r.t) = noneB := by unfold subB addB; rw [hb]; rfl
    rw [e, show normB noneB = noneB by unfold normB; rw [kn_no]; rfl, sca_no, add_no]
  · rfl
theorem sd_bad {r : Rt} {b : Bd} (h : ¬ rtE r = 0) : sdB r b = noneB := if_neg h
theorem okR_in' {r : Rt} (h : rtE r = 0) : okR r = true := by
  obtain ⟨h1, h2, h3, h4, h5, h6, h7, h8, h9⟩ := rt_in h
  exact okR_iff.2 ⟨i64B_iff.2 (by omega), i64B_iff.2 (by omega), h8, by omega, h9⟩
/-! ### The reference's steps -/
set_option maxRecDepth 100000 in
theorem bte_l0 (a : Bd) : evR (ctxOf Try.prog noFacts (fun _ => false) []) Try.f155 [(bA a)] [true, true, true] = some (AV.w (AW.one (AC.int IntKind.i64 0)), [(a.u, true), (a.lo == 0, true), (a.lo == 0, true), (a.lo == 0, true), (a.lo == 0, true), (a.hi == 0, true)]) := by kernel_rfl
set_option maxRecDepth 100000 in
theorem bte_l1 (a : Bd) : evR (ctxOf Try.prog noFacts (fun _ => false) []) Try.f155 [(bA a)] [true, true, false] = some (AV.w (AW.one (AC.int IntKind.i64 3)), [(a.u, true), (a.lo == 0, true), (a.lo == 0, true), (a.lo == 0, true), (a.lo == 0, true), (a.hi == 0, false)]) := by kernel_rfl
set_option maxRecDepth 100000 in
theorem bte_l2 (a : Bd) : evR (ctxOf Try.prog noFacts (fun _ => false) []) Try.f155 [(bA a)] [true, false] = some (AV.w (AW.one (AC.int IntKind.i64 3)), [(a.u, true), (a.lo == 0, false), (a.lo == 0, false), (a.lo == 0, false), (a.lo == 0, false), (false, false)]) := by kernel_rfl
set_option maxRecDepth 100000 in
theorem bte_l3 (a : Bd) : evR (ctxOf Try.prog noFacts (fun _ => false) []) Try.f155 [(bA a)] [false, true, true] = some (AV.w (AW.one (AC.int IntKind.i64 4)), [(a.u, false), (decide (0 < ((2 : Nat) : Int)), true), (decide (0 ≤ 0), true), (decide (0 < ((2 : Nat) : Int)), true), (decide (a.lo > 1152921504606846976), true), (decide (a.lo > 1152921504606846976), true), (decide (a.lo > 1152921504606846976), true), (true, true)]) := by kernel_rfl
set_option maxRecDepth 100000 in
theorem bte_l4 (a : Bd) : evR (ctxOf Try.prog noFacts (fun _ => false) []) Try.f155 [(bA a)] [false, true, false, true] = some (AV.w (AW.one (AC.int IntKind.i64 4)), [(a.u, false), (decide (0 < ((2 : Nat) : Int)), true), (decide (0 ≤ 0), true), (decide (0 < ((2 : Nat) : Int)), true), (decide (a.lo > 1152921504606846976), false), (decide (a.lo > 1152921504606846976), false), (decide (a.lo > 1152921504606846976), false), (decide (a.lo < -1152921504606846976), true)]) := by kernel_rfl
set_option maxRecDepth 100000 in
theorem bte_l5 (a : Bd) : evR (ctxOf Try.prog noFacts (fun _ => false) []) Try.f155 [(bA a)] [false, true, false, false, true, true] = some (AV.w (AW.one (AC.int IntKind.i64 4)), [(a.u, false), (decide (0 < ((2 : Nat) : Int)), true), (decide (0 ≤ 0), true), (decide (0 < ((2 : Nat) : Int)), true), (decide (a.lo > 1152921504606846976), false), (decide (a.lo > 1152921504606846976), false), (decide (a.lo > 1152921504606846976), false), (decide (a.lo < -1152921504606846976), false), (decide (IntKind.i64.wrap (0 + 1) < ((2 : Nat) : Int)), true), (decide (0 ≤ IntKind.i64.wrap (0 + 1)), true), (decide (IntKind.i64.wrap (0 + 1) < ((2 : Nat) : Int)), true), (decide (a.hi > 1152921504606846976), true), (decide (a.hi > 1152921504606846976), true), (decide (a.hi > 1152921504606846976), true), (true, true)]) := by kernel_rfl
set_option maxRecDepth 100000 in
theorem bte_l6 (a : Bd) : evR (ctxOf Try.prog noFacts (fun _ => false) []) Try.f155 [(bA a)] [false, true, false, false, true, false, true] = some (AV.w (AW.one (AC.int IntKind.i64 4)), [(a.u, false), (decide (0 < ((2 : Nat) : Int)), true), (decide (0 ≤ 0), true), (decide (0 < ((2 : Nat) : Int)), true), (decide (a.lo > 1152921504606846976), false), (decide (a.lo > 1152921504606846976), false), (decide (a.lo > 1152921504606846976), false), (decide (a.lo < -1152921504606846976), false), (decide (IntKind.i64.wrap (0 + 1) < ((2 : Nat) : Int)), true), (decide (0 ≤ IntKind.i64.wrap (0 + 1)), true), (decide (IntKind.i64.wrap (0 + 1) < ((2 : Nat) : Int)), true), (decide (a.hi > 1152921504606846976), false), (decide (a.hi > 1152921504606846976), false), (decide (a.hi > 1152921504606846976), false), (decide (a.hi < -1152921504606846976), true)]) := by kernel_rfl
set_option maxRecDepth 100000 in
theorem bte_l7 (a : Bd) : evR (ctxOf Try.prog noFacts (fun _ => false) []) Try.f155 [(bA a)] [false, true, false, false, true, false, false, false, true] = some (AV.w (AW.one (AC.int IntKind.i64 11)), [(a.u, false), (decide (0 < ((2 : Nat) : Int)), true), (decide (0 ≤ 0), true), (decide (0 < ((2 : Nat) : Int)), true), (decide (a.lo > 1152921504606846976), false), (decide (a.lo > 1152921504606846976), false), (decide (a.lo > 1152921504606846976), false), (decide (a.lo < -1152921504606846976), false), (decide (IntKind.i64.wrap (0 + 1) < ((2 : Nat) : Int)), true), (decide (0 ≤ IntKind.i64.wrap (0 + 1)), true), (decide (IntKind.i64.wrap (0 + 1) < ((2 : Nat) : Int)), true), (decide (a.hi > 1152921504606846976), false), (decide (a.hi > 1152921504606846976), false), (decide (a.hi > 1152921504606846976), false), (decide (a.hi < -1152921504606846976), false), (decide (IntKind.i64.wrap (IntKind.i64.wrap (0 + 1) + 1) < ((2 : Nat) : Int)), false), (decide (a.hi < a.lo), true)]) := by kernel_rfl
set_option maxRecDepth 100000 in
theorem bte_l8 (a : Bd) : evR (ctxOf Try.prog noFacts (fun _ => false) []) Try.f155 [(bA a)] [false, true, false, false, true, false, false, false, false] = some (AV.w (AW.one (AC.int IntKind.i64 0)), [(a.u, false), (decide (0 < ((2 : Nat) : Int)), true), (decide (0 ≤ 0), true), (decide (0 < ((2 : Nat) : Int)), true), (decide (a.lo > 1152921504606846976), false), (decide (a.lo > 1152921504606846976), false), (decide (a.lo > 1152921504606846976), false), (decide (a.lo < -1152921504606846976), false), (decide (IntKind.i64.wrap (0 + 1) < ((2 : Nat) : Int)), true), (decide (0 ≤ IntKind.i64.wrap (0 + 1)), true), (decide (IntKind.i64.wrap (0 + 1) < ((2 : Nat) : Int)), true), (decide (a.hi > 1152921504606846976), false), (decide (a.hi > 1152921504606846976), false), (decide (a.hi > 1152921504606846976), false), (decide (a.hi < -1152921504606846976), false), (decide (IntKind.i64.wrap (IntKind.i64.wrap (0 + 1) + 1) < ((2 : Nat) : Int)), false), (decide (a.hi < a.lo), false)]) := by kernel_rfl
set_option maxRecDepth 100000 in
theorem bte_t (a : Bd) (s0 : (a.u) = false → (decide (a.lo > 1152921504606846976)) = true → (decide (0 < ((2 : Nat) : Int))) = true) (s1 : (a.u) = false → (decide (a.lo > 1152921504606846976)) = true → (decide (0 ≤ 0)) = true) (s2 : (a.u) = false → (decide (a.lo > 1152921504606846976)) = false → (decide (a.lo < -1152921504606846976)) = true → (decide (0 < ((2 : Nat) : Int))) = true) (s3 : (a.u) = false → (decide (a.lo > 1152921504606846976)) = false → (decide (a.lo < -1152921504606846976)) = true → (decide (0 ≤ 0)) = true) (s4 : (a.u) = false → (decide (a.lo > 1152921504606846976)) = false → (decide (a.lo < -1152921504606846976)) = false → (decide (a.hi > 1152921504606846976)) = true → (decide (IntKind.i64.wrap (0 + 1) < ((2 : Nat) : Int))) = true) (s5 : (a.u) = false → (decide (a.lo > 1152921504606846976)) = false → (decide (a.lo < -1152921504606846976)) = false → (decide (a.hi > 1152921504606846976)) = true → (decide (0 ≤ IntKind.i64.wrap (0 + 1))) = true) (s6 : (a.u) = false → (decide (a.lo > 1152921504606846976)) = false → (decide (a.lo < -1152921504606846976)) = false → (decide (a.hi > 1152921504606846976)) = true → (decide (0 < ((2 : Nat) : Int))) = true) (s7 : (a.u) = false → (decide (a.lo > 1152921504606846976)) = false → (decide (a.lo < -1152921504606846976)) = false → (decide (a.hi > 1152921504606846976)) = true → (decide (0 ≤ 0)) = true) (s8 : (a.u) = false → (decide (a.lo > 1152921504606846976)) = false → (decide (a.lo < -1152921504606846976)) = false → (decide (a.hi > 1152921504606846976)) = false → (decide (a.hi < -1152921504606846976)) = true → (decide (IntKind.i64.wrap (0 + 1) < ((2 : Nat) : Int))) = true) (s9 : (a.u) = false → (decide (a.lo > 1152921504606846976)) = false → (decide (a.lo < -1152921504606846976)) = false → (decide (a.hi > 1152921504606846976)) = false → (decide (a.hi < -1152921504606846976)) = true → (decide (0 ≤ IntKind.i64.wrap (0 + 1))) = true) (s10 : (a.u) = false → (decide (a.lo > 1152921504606846976)) = false → (decide (a.lo < -1152921504606846976)) = false → (decide (a.hi > 1152921504606846976)) = false → (decide (a.hi < -1152921504606846976)) = true → (decide (0 < ((2 : Nat) : Int))) = true) (s11 : (a.u) = false → (decide (a.lo > 1152921504606846976)) = false → (decide (a.lo < -1152921504606846976)) = false → (decide (a.hi > 1152921504606846976)) = false → (decide (a.hi < -1152921504606846976)) = true → (decide (0 ≤ 0)) = true) (s12 : (a.u) = false → (decide (a.lo > 1152921504606846976)) = false → (decide (a.lo < -1152921504606846976)) = false → (decide (a.hi > 1152921504606846976)) = false → (decide (a.hi < -1152921504606846976)) = false → (decide (a.hi < a.lo)) = true → (decide (IntKind.i64.wrap (IntKind.i64.wrap (0 + 1) + 1) < ((2 : Nat) : Int))) = false) (s13 : (a.u) = false → (decide (a.lo > 1152921504606846976)) = false → (decide (a.lo < -1152921504606846976)) = false → (decide (a.hi > 1152921504606846976)) = false → (decide (a.hi < -1152921504606846976)) = false → (decide (a.hi < a.lo)) = true → (decide (IntKind.i64.wrap (0 + 1) < ((2 : Nat) : Int))) = true) (s14 : (a.u) = false → (decide (a.lo > 1152921504606846976)) = false → (decide (a.lo < -1152921504606846976)) = false → (decide (a.hi > 1152921504606846976)) = false → (decide (a.hi < -1152921504606846976)) = false → (decide (a.hi < a.lo)) = true → (decide (0 ≤ IntKind.i64.wrap (0 + 1))) = true) (s15 : (a.u) = false → (decide (a.lo > 1152921504606846976)) = false → (decide (a.lo < -1152921504606846976)) = false → (decide (a.hi > 1152921504606846976)) = false → (decide (a.hi < -1152921504606846976)) = false → (decide (a.hi < a.lo)) = true → (decide (0 < ((2 : Nat) : Int))) = true) (s16 : (a.u) = false → (decide (a.lo > 1152921504606846976)) = false → (decide (a.lo < -1152921504606846976)) = false → (decide (a.hi > 1152921504606846976)) = false → (decide (a.hi < -1152921504606846976)) = false → (decide (a.hi < a.lo)) = true → (decide (0 ≤ 0)) = true) (s17 : (a.u) = false → (decide (a.lo > 1152921504606846976)) = false → (decide (a.lo < -1152921504606846976)) = false → (decide (a.hi > 1152921504606846976)) = false → (decide (a.hi < -1152921504606846976)) = false → (decide (a.hi < a.lo)) = false → (decide (IntKind.i64.wrap (IntKind.i64.wrap (0 + 1) + 1) < ((2 : Nat) : Int))) = false) (s18 : (a.u) = false → (decide (a.lo > 1152921504606846976)) = false → (decide (a.lo < -1152921504606846976)) = false → (decide (a.hi > 1152921504606846976)) = false → (decide (a.hi < -1152921504606846976)) = false → (decide (a.hi < a.lo)) = false → (decide (IntKind.i64.wrap (0 + 1) < ((2 : Nat) : Int))) = true) (s19 : (a.u) = false → (decide (a.lo > 1152921504606846976)) = false → (decide (a.lo < -1152921504606846976)) = false → (decide (a.hi > 1152921504606846976)) = false → (decide (a.hi < -1152921504606846976)) = false → (decide (a.hi < a.lo)) = false → (decide (0 ≤ IntKind.i64.wrap (0 + 1))) = true) (s20 : (a.u) = false → (decide (a.lo > 1152921504606846976)) = false → (decide (a.lo < -1152921504606846976)) = false → (decide (a.hi > 1152921504606846976)) = false → (decide (a.hi < -1152921504606846976)) = false → (decide (a.hi < a.lo)) = false → (decide (0 < ((2 : Nat) : Int))) = true) (s21 : (a.u) = false → (decide (a.lo > 1152921504606846976)) = false → (decide (a.lo < -1152921504606846976)) = false → (decide (a.hi > 1152921504606846976)) = false → (decide (a.hi < -1152921504606846976)) = false → (decide (a.hi < a.lo)) = false → (decide (0 ≤ 0)) = true) : Pl Try.prog 155 [bV a] (AV.get ((bif a.u then (bif a.lo == 0 then (bif a.hi == 0 then (AV.w (AW.one (AC.int IntKind.i64 0))) else (AV.w (AW.one (AC.int IntKind.i64 3)))) else (AV.w (AW.one (AC.int IntKind.i64 3)))) else (bif decide (a.lo > 1152921504606846976) then (AV.w (AW.one (AC.int IntKind.i64 4))) else (bif decide (a.lo < -1152921504606846976) then (AV.w (AW.one (AC.int IntKind.i64 4))) else (bif decide (a.hi > 1152921504606846976) then (AV.w (AW.one (AC.int IntKind.i64 4))) else (bif decide (a.hi < -1152921504606846976) then (AV.w (AW.one (AC.int IntKind.i64 4))) else (bif decide (a.hi < a.lo) then (AV.w (AW.one (AC.int IntKind.i64 11))) else (AV.w (AW.one (AC.int IntKind.i64 0))))))))) : AV Empty)) :=
  (pl_node (fun h0 => (pl_node (fun h1 => (pl_node (fun h2 => (pl_leaf rfl (ctxOf_ok (lib1_nil _ _) (eq_none _)) (by kernel_rfl) Try.func155 rfl (bte_l0 a) rfl (all2_R (.cons rfl .nil)) rfl (cd_cons h0 (cd_cons h1 (cd_cons h1 (cd_cons h1 (cd_cons h1 (cd_cons h2 cd_nil)))))))) (fun h2 => (pl_leaf rfl (ctxOf_ok (lib1_nil _ _) (eq_none _)) (by kernel_rfl) Try.func155 rfl (bte_l1 a) rfl (all2_R (.cons rfl .nil)) rfl (cd_cons h0 (cd_cons h1 (cd_cons h1 (cd_cons h1 (cd_cons h1 (cd_cons h2 cd_nil)))))))))) (fun h1 => (pl_leaf rfl (ctxOf_ok (lib1_nil _ _) (eq_none _)) (by kernel_rfl) Try.func155 rfl (bte_l2 a) rfl (all2_R (.cons rfl .nil)) rfl (cd_cons h0 (cd_cons h1 (cd_cons h1 (cd_cons h1 (cd_cons h1 (cd_cons rfl cd_nil)))))))))) (fun h0 => (pl_node (fun h1 => (pl_leaf rfl (ctxOf_ok (lib1_nil _ _) (eq_none _)) (by kernel_rfl) Try.func155 rfl (bte_l3 a) rfl (all2_R (.cons rfl .nil)) rfl (cd_cons h0 (cd_cons (s0 h0 h1) (cd_cons (s1 h0 h1) (cd_cons (s0 h0 h1) (cd_cons h1 (cd_cons h1 (cd_cons h1 (cd_cons rfl cd_nil)))))))))) (fun h1 => (pl_node (fun h2 => (pl_leaf rfl (ctxOf_ok (lib1_nil _ _) (eq_none _)) (by kernel_rfl) Try.func155 rfl (bte_l4 a) rfl (all2_R (.cons rfl .nil)) rfl (cd_cons h0 (cd_cons (s2 h0 h1 h2) (cd_cons (s3 h0 h1 h2) (cd_cons (s2 h0 h1 h2) (cd_cons h1 (cd_cons h1 (cd_cons h1 (cd_cons h2 cd_nil)))))))))) (fun h2 => (pl_node (fun h3 => (pl_leaf rfl (ctxOf_ok (lib1_nil _ _) (eq_none _)) (by kernel_rfl) Try.func155 rfl (bte_l5 a) rfl (all2_R (.cons rfl .nil)) rfl (cd_cons h0 (cd_cons (s6 h0 h1 h2 h3) (cd_cons (s7 h0 h1 h2 h3) (cd_cons (s6 h0 h1 h2 h3) (cd_cons h1 (cd_cons h1 (cd_cons h1 (cd_cons h2 (cd_cons (s4 h0 h1 h2 h3) (cd_cons (s5 h0 h1 h2 h3) (cd_cons (s4 h0 h1 h2 h3) (cd_cons h3 (cd_cons h3 (cd_cons h3 (cd_cons rfl cd_nil))))))))))))))))) (fun h3 => (pl_node (fun h4 => (pl_leaf rfl (ctxOf_ok (lib1_nil _ _) (eq_none _)) (by kernel_rfl) Try.func155 rfl (bte_l6 a) rfl (all2_R (.cons rfl .nil)) rfl (cd_cons h0 (cd_cons (s10 h0 h1 h2 h3 h4) (cd_cons (s11 h0 h1 h2 h3 h4) (cd_cons (s10 h0 h1 h2 h3 h4) (cd_cons h1 (cd_cons h1 (cd_cons h1 (cd_cons h2 (cd_cons (s8 h0 h1 h2 h3 h4) (cd_cons (s9 h0 h1 h2 h3 h4) (cd_cons (s8 h0 h1 h2 h3 h4) (cd_cons h3 (cd_cons h3 (cd_cons h3 (cd_cons h4 cd_nil))))))))))))))))) (fun h4 => (pl_node (fun h5 => (pl_leaf rfl (ctxOf_ok (lib1_nil _ _) (eq_none _)) (by kernel_rfl) Try.func155 rfl (bte_l7 a) rfl (all2_R (.cons rfl .nil)) rfl (cd_cons h0 (cd_cons (s15 h0 h1 h2 h3 h4 h5) (cd_cons (s16 h0 h1 h2 h3 h4 h5) (cd_cons (s15 h0 h1 h2 h3 h4 h5) (cd_cons h1 (cd_cons h1 (cd_cons h1 (cd_cons h2 (cd_cons (s13 h0 h1 h2 h3 h4 h5) (cd_cons (s14 h0 h1 h2 h3 h4 h5) (cd_cons (s13 h0 h1 h2 h3 h4 h5) (cd_cons h3 (cd_cons h3 (cd_cons h3 (cd_cons h4 (cd_cons (s12 h0 h1 h2 h3 h4 h5) (cd_cons h5 cd_nil))))))))))))))))))) (fun h5 => (pl_leaf rfl (ctxOf_ok (lib1_nil _ _) (eq_none _)) (by kernel_rfl) Try.func155 rfl (bte_l8 a) rfl (all2_R (.cons rfl .nil)) rfl (cd_cons h0 (cd_cons (s20 h0 h1 h2 h3 h4 h5) (cd_cons (s21 h0 h1 h2 h3 h4 h5) (cd_cons (s20 h0 h1 h2 h3 h4 h5) (cd_cons h1 (cd_cons h1 (cd_cons h1 (cd_cons h2 (cd_cons (s18 h0 h1 h2 h3 h4 h5) (cd_cons (s19 h0 h1 h2 h3 h4 h5) (cd_cons (s18 h0 h1 h2 h3 h4 h5) (cd_cons h3 (cd_cons h3 (cd_cons h3 (cd_cons h4 (cd_cons (s17 h0 h1 h2 h3 h4 h5) (cd_cons h5 cd_nil))))))))))))))))))))))))))))))
theorem bte_pl (a : Bd)  : Pl Try.prog 155 [bV a] (.int .i64 (chkB a)) := by
  refine Eq.mp (congrArg (Pl _ _ _) ?_) (bte_t a (fun h0 h1 => by first | rfl | decide) (fun h0 h1 => by first | rfl | decide) (fun h0 h1 h2 => by first | rfl | decide) (fun h0 h1 h2 => by first | rfl | decide) (fun h0 h1 h2 h3 => by first | rfl | decide) (fun h0 h1 h2 h3 => by first | rfl | decide) (fun h0 h1 h2 h3 => by first | rfl | decide) (fun h0 h1 h2 h3 => by first | rfl | decide) (fun h0 h1 h2 h3 h4 => by first | rfl | decide) (fun h0 h1 h2 h3 h4 => by first | rfl | decide) (fun h0 h1 h2 h3 h4 => by first | rfl | decide) (fun h0 h1 h2 h3 h4 => by first | rfl | decide) (fun h0 h1 h2 h3 h4 h5 => by first | rfl | decide) (fun h0 h1 h2 h3 h4 h5 => by first | rfl | decide) (fun h0 h1 h2 h3 h4 h5 => by first | rfl | decide) (fun h0 h1 h2 h3 h4 h5 => by first | rfl | decide) (fun h0 h1 h2 h3 h4 h5 => by first | rfl | decide) (fun h0 h1 h2 h3 h4 h5 => by first | rfl | decide) (fun h0 h1 h2 h3 h4 h5 => by first | rfl | decide) (fun h0 h1 h2 h3 h4 h5 => by first | rfl | decide) (fun h0 h1 h2 h3 h4 h5 => by first | rfl | decide) (fun h0 h1 h2 h3 h4 h5 => by first | rfl | decide))
  obtain ⟨x, y, u⟩ := a
  have e1 : decide (-1152921504606846976 ≤ x) = !decide (x < -1152921504606846976) := by (by_cases h : x < -1152921504606846976 <;> simp [h] <;> omega)
  have e2 : decide (-1152921504606846976 ≤ y) = !decide (y < -1152921504606846976) := by (by_cases h : y < -1152921504606846976 <;> simp [h] <;> omega)
  have e3 : decide (x ≤ 1152921504606846976) = !decide (x > 1152921504606846976) := by (by_cases h : x > 1152921504606846976 <;> simp [h] <;> omega)
  have e4 : decide (y ≤ 1152921504606846976) = !decide (y > 1152921504606846976) := by (by_cases h : y > 1152921504606846976 <;> simp [h] <;> omega)
  simp only [chkB, inB, e1, e2, e3, e4]
  cases u
  · cases decide (x > 1152921504606846976) <;> cases decide (x < -1152921504606846976) <;> cases decide (y > 1152921504606846976) <;> cases decide (y < -1152921504606846976) <;> cases decide (y < x) <;> rfl
  · cases hx : (x == 0) with
    | false => cases (y == 0) <;> rfl
    | true =>
      cases hy : (y == 0) with
      | false => rfl
      | true =>
        obtain rfl : x = 0 := by simpa using hx
        obtain rfl : y = 0 := by simpa using hy
        rfl
theorem libH1_ok : LibOk Try.prog numI (lib1 libH1) := (lib1_cons nI_ok Try.call17 (lib1_cons nCmp_ok Try.call15 (lib1_cons nSmall_ok Try.call85 (lib1_nil _ _))))
theorem bd_R {E : Env Nm} {x y : Int} {b : Bool} {u : Value} (h : AV.R E (.w (.agg [.int .i64 x, .int .i64 y, .yes b])) u) : AV.R E (bA ⟨x, y, b⟩) u := by
  obtain ⟨vs, rfl, h⟩ := h
  cases h with
  | cons r1 h => cases h with
    | cons r2 h => cases h with
      | cons r3 h =>
        cases h
        exact ⟨_, rfl, .cons r1 (.cons r2 (.cons r3 .nil))⟩
theorem sm_id {a : Int} (h1 : -9223372036854775808 ≤ a) (h2 : a ≤ 9223372036854775807) : smV a = a := if_pos ⟨h1, h2⟩
theorem cmp_lt' (a b : Int) : decide (cmpI a b < 0) = decide (a < b) := by
  unfold cmpI
  by_cases h : a < b
  · rw [if_pos h, decide_eq_true h]; rfl
  · rw [if_neg h, decide_eq_false h]
    split <;> rfl
theorem i_lo : i64B (-1152921504606846976) = true := by decide
theorem i_hi : i64B 1152921504606846976 = true := by decide
set_option maxRecDepth 100000 in
theorem bdt_1 (s : Bool) (x : Int) (k : Bool) (y : Int) : evR (ctxOf Try.prog numI (fun _ => false) libH1) Try.f124 [(.w (.agg [.bool s, .fv (.num x)])), (.w (.agg [.bool k, .fv (.num y)]))] [true] = some (AV.w (AW.agg [AC.int IntKind.i64 0, AC.int IntKind.i64 0, AC.yes true]), (pickL [(i64B (-1152921504606846976), true), (s == decide (x < 0), true), (decide (-1152921504606846976 < 0) == decide (-1152921504606846976 < 0), true), (szB x, true), (szB (-1152921504606846976), true), (decide (cmpI x (-1152921504606846976) < 0), true), (true, true)] [0, 1, 2, 3, 4, 5, 5, 5, 5, 5, 6, 6, 6, 6, 6, 6])) := by kernel_rfl
set_option maxRecDepth 100000 in
theorem bdt_01 (s : Bool) (x : Int) (k : Bool) (y : Int) : evR (ctxOf Try.prog numI (fun _ => false) libH1) Try.f124 [(.w (.agg [.bool s, .fv (.num x)])), (.w (.agg [.bool k, .fv (.num y)]))] [false, true] = some (AV.w (AW.agg [AC.int IntKind.i64 0, AC.int IntKind.i64 0, AC.yes true]), (pickL [(i64B (-1152921504606846976), true), (s == decide (x < 0), true), (decide (-1152921504606846976 < 0) == decide (-1152921504606846976 < 0), true), (szB x, true), (szB (-1152921504606846976), true), (decide (cmpI x (-1152921504606846976) < 0), false), (i64B 1152921504606846976, true), (k == decide (y < 0), true), (decide (1152921504606846976 < 0) == decide (1152921504606846976 < 0), true), (szB y, true), (szB 1152921504606846976, true), (decide (cmpI y 1152921504606846976 > 0), true), (true, true)] [0, 1, 2, 3, 4, 5, 5, 6, 5, 7, 8, 9, 10, 5, 5, 11, 11, 11, 11, 11, 12])) := by kernel_rfl
set_option maxRecDepth 100000 in
theorem bdt_001 (s : Bool) (x : Int) (k : Bool) (y : Int) : evR (ctxOf Try.prog numI (fun _ => false) libH1) Try.f124 [(.w (.agg [.bool s, .fv (.num x)])), (.w (.agg [.bool k, .fv (.num y)]))] [false, false, true] = some (AV.w (AW.agg [AC.int IntKind.i64 0, AC.int IntKind.i64 0, AC.yes true]), (pickL [(i64B (-1152921504606846976), true), (s == decide (x < 0), true), (decide (-1152921504606846976 < 0) == decide (-1152921504606846976 < 0), true), (szB x, true), (szB (-1152921504606846976), true), (decide (cmpI x (-1152921504606846976) < 0), false), (i64B 1152921504606846976, true), (k == decide (y < 0), true), (decide (1152921504606846976 < 0) == decide (1152921504606846976 < 0), true), (szB y, true), (szB 1152921504606846976, true), (decide (cmpI y 1152921504606846976 > 0), false), (decide (cmpI x y > 0), true)] [0, 1, 2, 3, 4, 5, 5, 6, 5, 7, 8, 9, 10, 5, 5, 11, 11, 11, 1, 7, 3, 9, 11, 11, 12])) := by kernel_rfl
set_option maxRecDepth 100000 in
theorem bdt_000 (s : Bool) (x : Int) (k : Bool) (y : Int) : evR (ctxOf Try.prog numI (fun _ => false) libH1) Try.f124 [(.w (.agg [.bool s, .fv (.num x)])), (.w (.agg [.bool k, .fv (.num y)]))] [false, false, false] = some (AV.w (AW.agg [AC.int IntKind.i64 (smV x), AC.int IntKind.i64 (smV y), AC.yes false]), (pickL [(i64B (-1152921504606846976), true), (s == decide (x < 0), true), (decide (-1152921504606846976 < 0) == decide (-1152921504606846976 < 0), true), (szB x, true), (szB (-1152921504606846976), true), (decide (cmpI x (-1152921504606846976) < 0), false), (i64B 1152921504606846976, true), (k == decide (y < 0), true), (decide (1152921504606846976 < 0) == decide (1152921504606846976 < 0), true), (szB y, true), (szB 1152921504606846976, true), (decide (cmpI y 1152921504606846976 > 0), false), (decide (cmpI x y > 0), false)] [0, 1, 2, 3, 4, 5, 5, 6, 5, 7, 8, 9, 10, 5, 5, 11, 11, 11, 1, 7, 3, 9, 11, 11, 12, 1, 3, 7, 9])) := by kernel_rfl
theorem bdt_ok : (factSp gBd).ok Try.prog numI 124 :=
  factR_ok (ctxOf_ok libH1_ok (eq_none _)) (by kernel_rfl) Try.func124 rfl lps_nil fun args v cd hg hc => by
    unfold gBd at hg
    split at hg
    · rename_i s x k y
      cases hg
      have h1 : (s == decide (x < 0)) = true := hc (s == decide (x < 0), true) (by simp)
      have h2 : (k == decide (y < 0)) = true := hc (k == decide (y < 0), true) (by simp)
      have h3 : szB x = true := hc (szB x, true) (by simp)
      have h4 : szB y = true := hc (szB y, true) (by simp)
      by_cases g1 : x < -1152921504606846976
      · have c1 : decide (cmpI x (-1152921504606846976) < 0) = true := by rw [cmp_lt']; exact decide_eq_true g1
        refine ⟨rfl, rfl, rfl, [true], _, _, bdt_1 s x k y, fun E u hu => by rw [ofB_out (x := x) (y := y) (by omega)]; exact bd_R (x := 0) (y := 0) (b := true) hu, pickL_ok ?_ _⟩
        repeat' (first | exact cd_nil | refine cd_cons ?_ ?_)
        all_goals first | rfl | with_reducible assumption | exact eqB _ | exact i_lo | exact i_hi | exact (Dl.i64 i_lo).sz (by omega) | exact (Dl.i64 i_hi).sz (by omega)
      have c1 : decide (cmpI x (-1152921504606846976) < 0) = false := by rw [cmp_lt']; exact decide_eq_false g1
      by_cases g2 : 1152921504606846976 < y
      · have c2 : decide (cmpI y 1152921504606846976 > 0) = true := by rw [cmp_gt]; exact decide_eq_true g2
        refine ⟨rfl, rfl, rfl, [false, true], _, _, bdt_01 s x k y, fun E u hu => by rw [ofB_out (x := x) (y := y) (by omega)]; exact bd_R (x := 0) (y := 0) (b := true) hu, pickL_ok ?_ _⟩
        repeat' (first | exact cd_nil | refine cd_cons ?_ ?_)
        all_goals first | rfl | with_reducible assumption | exact eqB _ | exact i_lo | exact i_hi | exact (Dl.i64 i_lo).sz (by omega) | exact (Dl.i64 i_hi).sz (by omega)
      have c2 : decide (cmpI y 1152921504606846976 > 0) = false := by rw [cmp_gt]; exact decide_eq_false g2
      by_cases g3 : y < x
      · have c3 : decide (cmpI x y > 0) = true := by rw [cmp_gt]; exact decide_eq_true g3
        refine ⟨rfl, rfl, rfl, [false, false, true], _, _, bdt_001 s x k y, fun E u hu => by rw [ofB_out (x := x) (y := y) (by omega)]; exact bd_R (x := 0) (y := 0) (b := true) hu, pickL_ok ?_ _⟩
        repeat' (first | exact cd_nil | refine cd_cons ?_ ?_)
        all_goals first | rfl | with_reducible assumption | exact eqB _ | exact i_lo | exact i_hi | exact (Dl.i64 i_lo).sz (by omega) | exact (Dl.i64 i_hi).sz (by omega)
      have c3 : decide (cmpI x y > 0) = false := by rw [cmp_gt]; exact decide_eq_false g3
      refine ⟨rfl, rfl, rfl, [false, false, false], _, _, bdt_000 s x k y, fun E u hu => by rw [ofB_in (x := x) (y := y) (by omega) (by omega) (by omega)]; rw [sm_id (a := x) (by omega) (by omega), sm_id (a := y) (by omega) (by omega)] at hu; exact bd_R (x := x) (y := y) (b := false) hu, pickL_ok ?_ _⟩
      repeat' (first | exact cd_nil | refine cd_cons ?_ ?_)
      all_goals first | rfl | with_reducible assumption | exact eqB _ | exact i_lo | exact i_hi | exact (Dl.i64 i_lo).sz (by omega) | exact (Dl.i64 i_hi).sz (by omega)
    · cases hg
set_option maxRecDepth 100000 in
theorem bda_1 (s : Bool) (x : Int) (k : Bool) (y : Int) : evR (ctxOf Try.prog numI (fun _ => false) libH1) Try.f125 [(.w (.agg [.bool s, .fv (.num x)])), (.w (.agg [.bool k, .fv (.num y)]))] [true] = some (AV.w (AW.agg [AC.int IntKind.i64 0, AC.int IntKind.i64 0, AC.yes true]), (pickL [(i64B (-1152921504606846976), true), (s == decide (x < 0), true), (decide (-1152921504606846976 < 0) == decide (-1152921504606846976 < 0), true), (szB x, true), (szB (-1152921504606846976), true), (decide (cmpI x (-1152921504606846976) < 0), true), (true, true)] [0, 1, 2, 3, 4, 5, 5, 5, 5, 5, 6, 6, 6, 6, 6, 6])) := by kernel_rfl
set_option maxRecDepth 100000 in
theorem bda_01 (s : Bool) (x : Int) (k : Bool) (y : Int) : evR (ctxOf Try.prog numI (fun _ => false) libH1) Try.f125 [(.w (.agg [.bool s, .fv (.num x)])), (.w (.agg [.bool k, .fv (.num y)]))] [false, true] = some (AV.w (AW.agg [AC.int IntKind.i64 0, AC.int IntKind.i64 0, AC.yes true]), (pickL [(i64B (-1152921504606846976), true), (s == decide (x < 0), true), (decide (-1152921504606846976 < 0) == decide (-1152921504606846976 < 0), true), (szB x, true), (szB (-1152921504606846976), true), (decide (cmpI x (-1152921504606846976) < 0), false), (i64B 1152921504606846976, true), (k == decide (y < 0), true), (decide (1152921504606846976 < 0) == decide (1152921504606846976 < 0), true), (szB y, true), (szB 1152921504606846976, true), (decide (cmpI y 1152921504606846976 > 0), true), (true, true)] [0, 1, 2, 3, 4, 5, 5, 6, 5, 7, 8, 9, 10, 5, 5, 11, 11, 11, 11, 11, 12])) := by kernel_rfl
set_option maxRecDepth 100000 in
theorem bda_001 (s : Bool) (x : Int) (k : Bool) (y : Int) : evR (ctxOf Try.prog numI (fun _ => false) libH1) Try.f125 [(.w (.agg [.bool s, .fv (.num x)])), (.w (.agg [.bool k, .fv (.num y)]))] [false, false, true] = some (AV.w (AW.agg [AC.int IntKind.i64 0, AC.int IntKind.i64 0, AC.yes true]), (pickL [(i64B (-1152921504606846976), true), (s == decide (x < 0), true), (decide (-1152921504606846976 < 0) == decide (-1152921504606846976 < 0), true), (szB x, true), (szB (-1152921504606846976), true), (decide (cmpI x (-1152921504606846976) < 0), false), (i64B 1152921504606846976, true), (k == decide (y < 0), true), (decide (1152921504606846976 < 0) == decide (1152921504606846976 < 0), true), (szB y, true), (szB 1152921504606846976, true), (decide (cmpI y 1152921504606846976 > 0), false), (decide (cmpI x y > 0), true)] [0, 1, 2, 3, 4, 5, 5, 6, 5, 7, 8, 9, 10, 5, 5, 11, 11, 11, 1, 7, 3, 9, 11, 11, 12])) := by kernel_rfl
set_option maxRecDepth 100000 in
theorem bda_000 (s : Bool) (x : Int) (k : Bool) (y : Int) : evR (ctxOf Try.prog numI (fun _ => false) libH1) Try.f125 [(.w (.agg [.bool s, .fv (.num x)])), (.w (.agg [.bool k, .fv (.num y)]))] [false, false, false] = some (AV.w (AW.agg [AC.int IntKind.i64 (smV x), AC.int IntKind.i64 (smV y), AC.yes false]), (pickL [(i64B (-1152921504606846976), true), (s == decide (x < 0), true), (decide (-1152921504606846976 < 0) == decide (-1152921504606846976 < 0), true), (szB x, true), (szB (-1152921504606846976), true), (decide (cmpI x (-1152921504606846976) < 0), false), (i64B 1152921504606846976, true), (k == decide (y < 0), true), (decide (1152921504606846976 < 0) == decide (1152921504606846976 < 0), true), (szB y, true), (szB 1152921504606846976, true), (decide (cmpI y 1152921504606846976 > 0), false), (decide (cmpI x y > 0), false)] [0, 1, 2, 3, 4, 5, 5, 6, 5, 7, 8, 9, 10, 5, 5, 11, 11, 11, 1, 7, 3, 9, 11, 11, 12, 1, 3, 7, 9])) := by kernel_rfl
theorem bda_ok : (factSp gBd).ok Try.prog numI 125 :=
  factR_ok (ctxOf_ok libH1_ok (eq_none _)) (by kernel_rfl) Try.func125 rfl lps_nil fun args v cd hg hc => by
    unfold gBd at hg
    split at hg
    · rename_i s x k y
      cases hg
      have h1 : (s == decide (x < 0)) = true := hc (s == decide (x < 0), true) (by simp)
      have h2 : (k == decide (y < 0)) = true := hc (k == decide (y < 0), true) (by simp)
      have h3 : szB x = true := hc (szB x, true) (by simp)
      have h4 : szB y = true := hc (szB y, true) (by simp)
      by_cases g1 : x < -1152921504606846976
      · have c1 : decide (cmpI x (-1152921504606846976) < 0) = true := by rw [cmp_lt']; exact decide_eq_true g1
        refine ⟨rfl, rfl, rfl, [true], _, _, bda_1 s x k y, fun E u hu => by rw [ofB_out (x := x) (y := y) (by omega)]; exact bd_R (x := 0) (y := 0) (b := true) hu, pickL_ok ?_ _⟩
        repeat' (first | exact cd_nil | refine cd_cons ?_ ?_)
        all_goals first | rfl | with_reducible assumption | exact eqB _ | exact i_lo | exact i_hi | exact (Dl.i64 i_lo).sz (by omega) | exact (Dl.i64 i_hi).sz (by omega)
      have c1 : decide (cmpI x (-1152921504606846976) < 0) = false := by rw [cmp_lt']; exact decide_eq_false g1
      by_cases g2 : 1152921504606846976 < y
      · have c2 : decide (cmpI y 1152921504606846976 > 0) = true := by rw [cmp_gt]; exact decide_eq_true g2
        refine ⟨rfl, rfl, rfl, [false, true], _, _, bda_01 s x k y, fun E u hu => by rw [ofB_out (x := x) (y := y) (by omega)]; exact bd_R (x := 0) (y := 0) (b := true) hu, pickL_ok ?_ _⟩
        repeat' (first | exact cd_nil | refine cd_cons ?_ ?_)
        all_goals first | rfl | with_reducible assumption | exact eqB _ | exact i_lo | exact i_hi | exact (Dl.i64 i_lo).sz (by omega) | exact (Dl.i64 i_hi).sz (by omega)
      have c2 : decide (cmpI y 1152921504606846976 > 0) = false := by rw [cmp_gt]; exact decide_eq_false g2
      by_cases g3 : y < x
      · have c3 : decide (cmpI x y > 0) = true := by rw [cmp_gt]; exact decide_eq_true g3
        refine ⟨rfl, rfl, rfl, [false, false, true], _, _, bda_001 s x k y, fun E u hu => by rw [ofB_out (x := x) (y := y) (by omega)]; exact bd_R (x := 0) (y := 0) (b := true) hu, pickL_ok ?_ _⟩
        repeat' (first | exact cd_nil | refine cd_cons ?_ ?_)
        all_goals first | rfl | with_reducible assumption | exact eqB _ | exact i_lo | exact i_hi | exact (Dl.i64 i_lo).sz (by omega) | exact (Dl.i64 i_hi).sz (by omega)
      have c3 : decide (cmpI x y > 0) = false := by rw [cmp_gt]; exact decide_eq_false g3
      refine ⟨rfl, rfl, rfl, [false, false, false], _, _, bda_000 s x k y, fun E u hu => by rw [ofB_in (x := x) (y := y) (by omega) (by omega) (by omega)]; rw [sm_id (a := x) (by omega) (by omega), sm_id (a := y) (by omega) (by omega)] at hu; exact bd_R (x := x) (y := y) (b := false) hu, pickL_ok ?_ _⟩
      repeat' (first | exact cd_nil | refine cd_cons ?_ ?_)
      all_goals first | rfl | with_reducible assumption | exact eqB _ | exact i_lo | exact i_hi | exact (Dl.i64 i_lo).sz (by omega) | exact (Dl.i64 i_hi).sz (by omega)
    · cases hg
theorem libH2_ok : LibOk Try.prog numI (lib1 libH2) := (lib1_cons (sp1_ok fun r hc => ⟨_, rfl, rer_pl r (c2' hc).1 (c2' hc).2⟩) Try.call70 (lib1_cons (sp1_ok fun b _ => ⟨_, rfl, bte_pl b⟩) Try.call155 (lib1_cons bdt_ok Try.call124 (lib1_cons bda_ok Try.call125 (lib1_cons gTurned_ok Try.call71 (lib1_cons nLess_ok Try.call31 (lib1_cons nPlus_ok Try.call30 (lib1_cons nI_ok Try.call17 (lib1_nil _ _)))))))))
set_option maxRecDepth 100000 in
theorem so_1 (r : Rt) (b : Bd) : evR (ctxLp Try.prog numI (fun _ => false) libH2 fnsH []) Try.f77 [(rtA r), (bA b)] [true] = some (AV.w (AW.agg [AC.int IntKind.i64 0, AC.int IntKind.i64 0, AC.yes true]), (pickL [(chkB b != 0, true), (true, true), (!false, true)] [0, 0, 0, 1, 2, 2, 2, 2, 1])) := by kernel_rfl
set_option maxRecDepth 100000 in
theorem so_01 (r : Rt) (b : Bd) : evR (ctxLp Try.prog numI (fun _ => false) libH2 fnsH []) Try.f77 [(rtA r), (bA b)] [false, true] = some (AV.w (AW.agg [AC.int IntKind.i64 0, AC.int IntKind.i64 0, AC.yes true]), (pickL [(chkB b != 0, false), (b.u, true), (!false, true), (true, true)] [0, 0, 0, 1, 2, 2, 2, 2, 3])) := by kernel_rfl
set_option maxRecDepth 100000 in
theorem so_001 (r : Rt) (b : Bd) : evR (ctxLp Try.prog numI (fun _ => false) libH2 fnsH []) Try.f77 [(rtA r), (bA b)] [false, false, true] = some (AV.w (AW.agg [AC.int IntKind.i64 0, AC.int IntKind.i64 0, AC.yes true]), (pickL [(chkB b != 0, false), (b.u, false), (i64B b.lo, true), (i64B b.hi, true), (!true, false), (i64B r.n, true), (i64B r.d, true), (rtE r != 0, true)] [0, 0, 0, 1, 2, 3, 4, 4, 5, 6, 4, 4, 7])) := by kernel_rfl
set_option maxRecDepth 100000 in
theorem so_0001 (r : Rt) (b : Bd) : evR (ctxLp Try.prog numI (fun _ => false) libH2 fnsH []) Try.f77 [(rtA r), (bA b)] [false, false, false, true] = some (AV.w (AW.agg [AC.int IntKind.i64 0, AC.int IntKind.i64 0, AC.yes true]), (pickL [(chkB b != 0, false), (b.u, false), (i64B b.lo, true), (i64B b.hi, true), (!true, false), (i64B r.n, true), (i64B r.d, true), (rtE r != 0, false), (i64B r.t, true), (decide (b.lo < 0) == decide (b.lo < 0), true), (decide (r.t < 0) == decide (r.t < 0), true), (szB b.lo, true), (szB r.t, true), (decide (b.hi < 0) == decide (b.hi < 0), true), (szB b.hi, true), (decide (b.lo - r.t < 0) == decide (b.lo - r.t < 0), true), (decide (b.hi - r.t < 0) == decide (b.hi - r.t < 0), true), (szB (b.lo - r.t), true), (szB (b.hi - r.t), true), ((ofB (b.lo - r.t) (b.hi - r.t)).u, true)] [0, 0, 0, 1, 2, 3, 4, 4, 5, 6, 4, 4, 7, 8, 9, 10, 11, 12, 13, 10, 14, 12, 15, 16, 17, 18, 19])) := by kernel_rfl
set_option maxRecDepth 100000 in
theorem so_00001 (r : Rt) (b : Bd) : evR (ctxLp Try.prog numI (fun _ => false) libH2 fnsH []) Try.f77 [(rtA r), (bA b)] [false, false, false, false, true] = some (AV.w (AW.agg [AC.int IntKind.i64 0, AC.int IntKind.i64 0, AC.yes true]), (pickL [(chkB b != 0, false), (b.u, false), (i64B b.lo, true), (i64B b.hi, true), (!true, false), (i64B r.n, true), (i64B r.d, true), (rtE r != 0, false), (i64B r.t, true), (decide (b.lo < 0) == decide (b.lo < 0), true), (decide (r.t < 0) == decide (r.t < 0), true), (szB b.lo, true), (szB r.t, true), (decide (b.hi < 0) == decide (b.hi < 0), true), (szB b.hi, true), (decide (b.lo - r.t < 0) == decide (b.lo - r.t < 0), true), (decide (b.hi - r.t < 0) == decide (b.hi - r.t < 0), true), (szB (b.lo - r.t), true), (szB (b.hi - r.t), true), ((ofB (b.lo - r.t) (b.hi - r.t)).u, false), (okR r, true), (decide (tnV r b.lo false < 0) == decide (tnV r b.lo false < 0), true), (decide (tnV r b.hi true < 0) == decide (tnV r b.hi true < 0), true), (szB (tnV r b.lo false), true), (szB (tnV r b.hi true), true), ((ofB (tnV r b.lo false) (tnV r b.hi true)).u, true)] [0, 0, 0, 1, 2, 3, 4, 4, 5, 6, 4, 4, 7, 8, 9, 10, 11, 12, 13, 10, 14, 12, 15, 16, 17, 18, 19, 9, 20, 2, 13, 20, 3, 21, 22, 23, 24, 25])) := by kernel_rfl
set_option maxRecDepth 100000 in
theorem so_00000 (r : Rt) (b : Bd) : evR (ctxLp Try.prog numI (fun _ => false) libH2 fnsH []) Try.f77 [(rtA r), (bA b)] [false, false, false, false, false] = some (AV.w (AW.agg [AC.int IntKind.i64 (ofB (tnV r b.lo false + r.a) (tnV r b.hi true + r.a)).lo, AC.int IntKind.i64 (ofB (tnV r b.lo false + r.a) (tnV r b.hi true + r.a)).hi, AC.bool (ofB (tnV r b.lo false + r.a) (tnV r b.hi true + r.a)).u]), (pickL [(chkB b != 0, false), (b.u, false), (i64B b.lo, true), (i64B b.hi, true), (!true, false), (i64B r.n, true), (i64B r.d, true), (rtE r != 0, false), (i64B r.t, true), (decide (b.lo < 0) == decide (b.lo < 0), true), (decide (r.t < 0) == decide (r.t < 0), true), (szB b.lo, true), (szB r.t, true), (decide (b.hi < 0) == decide (b.hi < 0), true), (szB b.hi, true), (decide (b.lo - r.t < 0) == decide (b.lo - r.t < 0), true), (decide (b.hi - r.t < 0) == decide (b.hi - r.t < 0), true), (szB (b.lo - r.t), true), (szB (b.hi - r.t), true), ((ofB (b.lo - r.t) (b.hi - r.t)).u, false), (okR r, true), (decide (tnV r b.lo false < 0) == decide (tnV r b.lo false < 0), true), (decide (tnV r b.hi true < 0) == decide (tnV r b.hi true < 0), true), (szB (tnV r b.lo false), true), (szB (tnV r b.hi true), true), ((ofB (tnV r b.lo false) (tnV r b.hi true)).u, false), (i64B r.a, true), (decide (r.a < 0) == decide (r.a < 0), true), (szB r.a, true), (decide (tnV r b.lo false + r.a < 0) == decide (tnV r b.lo false + r.a < 0), true), (decide (tnV r b.hi true + r.a < 0) == decide (tnV r b.hi true + r.a < 0), true), (szB (tnV r b.lo false + r.a), true), (szB (tnV r b.hi true + r.a), true)] [0, 0, 0, 1, 2, 3, 4, 4, 5, 6, 4, 4, 7, 8, 9, 10, 11, 12, 13, 10, 14, 12, 15, 16, 17, 18, 19, 9, 20, 2, 13, 20, 3, 21, 22, 23, 24, 25, 26, 21, 27, 23, 28, 26, 22, 27, 24, 28, 29, 30, 31, 32])) := by kernel_rfl
theorem fns_H : FnsOk Try.prog fnsH := fns_cons Try.func123 rfl Try.call123 (fns_nil _)
theorem fnl_H : ∀ f fn, Ev.look f fnsH = some fn → LpsOk Try.prog numI ([] : Lps Nm) fn.ntmps (bodyOf fn) := fun f fn h => by
  unfold fnsH at h
  rw [look_cons] at h
  split at h
  · cases h; exact lps_nil
  · cases h
set_option maxHeartbeats 4000000 in
theorem so_pl (r : Rt) (b : Bd) (hn : i64B r.n = true) (hd : i64B r.d = true) (l1 : i64B b.lo = true) (l2 : i64B b.hi = true) : Pl Try.prog 77 [rtV r, bV b] (bV (sdB r b)) := fun W => by
  have unk : knB b = false → sdB r b = noneB := sd_unk
  cases hu : b.u with
  | true =>
    have hk : knB b = false := by unfold knB; rw [hu]; rfl
    rw [unk hk]
    cases hc : (chkB b != 0) with
    | true =>
      refine evR_calls (I := numI) (ctxLp_ok libH2_ok (eq_none _) fns_H fnl_H) (by kernel_rfl) Try.func77 rfl lps_nil (so_1 r b) rfl (all2_R (.cons rfl (.cons rfl .nil))) rfl W (Nat.zero_le _) (pickL_ok ?_ _)
      repeat' (first | exact cd_nil | refine cd_cons ?_ ?_)
      all_goals first | rfl | with_reducible assumption | exact eqB _ | (apply Dl.sz; (repeat' (first | with_reducible assumption | with_reducible apply Dl.sub' | with_reducible apply Dl.add')); omega)
    | false =>
      refine evR_calls (I := numI) (ctxLp_ok libH2_ok (eq_none _) fns_H fnl_H) (by kernel_rfl) Try.func77 rfl lps_nil (so_01 r b) rfl (all2_R (.cons rfl (.cons rfl .nil))) rfl W (Nat.zero_le _) (pickL_ok ?_ _)
      repeat' (first | exact cd_nil | refine cd_cons ?_ ?_)
      all_goals first | rfl | with_reducible assumption | exact eqB _ | (apply Dl.sz; (repeat' (first | with_reducible assumption | with_reducible apply Dl.sub' | with_reducible apply Dl.add')); omega)
  | false =>
    have hkc := kn_chk hu
    cases hk : knB b with
    | false =>
      have hc : (chkB b != 0) = true := by rw [hkc, hk]; rfl
      rw [unk hk]
      refine evR_calls (I := numI) (ctxLp_ok libH2_ok (eq_none _) fns_H fnl_H) (by kernel_rfl) Try.func77 rfl lps_nil (so_1 r b) rfl (all2_R (.cons rfl (.cons rfl .nil))) rfl W (Nat.zero_le _) (pickL_ok ?_ _)
      repeat' (first | exact cd_nil | refine cd_cons ?_ ?_)
      all_goals first | rfl | with_reducible assumption | exact eqB _ | (apply Dl.sz; (repeat' (first | with_reducible assumption | with_reducible apply Dl.sub' | with_reducible apply Dl.add')); omega)
    | true =>
      have hc : (chkB b != 0) = false := by rw [hkc, hk]; rfl
      by_cases h : rtE r = 0
      · have k1 : (rtE r != 0) = false := by rw [h]; rfl
        rw [sd_ref h hk]
        have ok := okR_in' h
        obtain ⟨it, ia, ii, d0, id'⟩ := okR_iff.1 ok
        have e1 := Dl.i64 it
        have e2 := Dl.i64 ia
        have e4 := Dl.i64 l1
        have e5 := Dl.i64 l2
        have e6 : Dl 14 (tnV r b.lo false) := ((e4.sub' e1).mul (Dl.i64 ii)).div
        have e7 : Dl 14 (tnV r b.hi true) := ((e5.sub' e1).mul (Dl.i64 ii)).neg.div.neg
        unfold rfB
        cases p1 : (ofB (b.lo - r.t) (b.hi - r.t)).u with
        | true =>
          rw [if_pos rfl]
          refine evR_calls (I := numI) (ctxLp_ok libH2_ok (eq_none _) fns_H fnl_H) (by kernel_rfl) Try.func77 rfl lps_nil (so_0001 r b) rfl (all2_R (.cons rfl (.cons rfl .nil))) rfl W (Nat.zero_le _) (pickL_ok ?_ _)
          repeat' (first | exact cd_nil | refine cd_cons ?_ ?_)
          all_goals first | rfl | with_reducible assumption | exact eqB _ | (apply Dl.sz; (repeat' (first | with_reducible assumption | with_reducible apply Dl.sub' | with_reducible apply Dl.add')); omega)
        | false =>
          rw [if_neg (by simp)]
          cases p2 : (ofB (tnV r b.lo false) (tnV r b.hi true)).u with
          | true =>
            rw [if_pos rfl]
            refine evR_calls (I := numI) (ctxLp_ok libH2_ok (eq_none _) fns_H fnl_H) (by kernel_rfl) Try.func77 rfl lps_nil (so_00001 r b) rfl (all2_R (.cons rfl (.cons rfl .nil))) rfl W (Nat.zero_le _) (pickL_ok ?_ _)
            repeat' (first | exact cd_nil | refine cd_cons ?_ ?_)
            all_goals first | rfl | with_reducible assumption | exact eqB _ | (apply Dl.sz; (repeat' (first | with_reducible assumption | with_reducible apply Dl.sub' | with_reducible apply Dl.add')); omega)
          | false =>
            rw [if_neg (by simp)]
            refine evR_calls (I := numI) (ctxLp_ok libH2_ok (eq_none _) fns_H fnl_H) (by kernel_rfl) Try.func77 rfl lps_nil (so_00000 r b) rfl (all2_R (.cons rfl (.cons rfl .nil))) rfl W (Nat.zero_le _) (pickL_ok ?_ _)
            repeat' (first | exact cd_nil | refine cd_cons ?_ ?_)
            all_goals first | rfl | with_reducible assumption | exact eqB _ | (apply Dl.sz; (repeat' (first | with_reducible assumption | with_reducible apply Dl.sub' | with_reducible apply Dl.add')); omega)
      · have k1 : (rtE r != 0) = true := by simpa using h
        rw [sd_bad h]
        refine evR_calls (I := numI) (ctxLp_ok libH2_ok (eq_none _) fns_H fnl_H) (by kernel_rfl) Try.func77 rfl lps_nil (so_001 r b) rfl (all2_R (.cons rfl (.cons rfl .nil))) rfl W (Nat.zero_le _) (pickL_ok ?_ _)
        repeat' (first | exact cd_nil | refine cd_cons ?_ ?_)
        all_goals first | rfl | with_reducible assumption | exact eqB _ | (apply Dl.sz; (repeat' (first | with_reducible assumption | with_reducible apply Dl.sub' | with_reducible apply Dl.add')); omega)
end
end Go.Proofs.Ytoaoifiklnbknaa.AtRt

