/-
  The reference's Ratios as a callee over local slices; products, quotients and scaled bounds by floors and ceilings.
  Conditions: those of each theorem.
-/
import Derived.Test.YtfhidjldmopbgaaQPR
import Derived.Test.YtfhidjldmopbgaaQLK

set_option linter.unusedVariables false
set_option linter.unusedSimpArgs false
namespace Go.Proofs.Ytfhidjldmopbgaa.AtBr
open Ev Go.RowKit Go.Shelf Zd Wd
open Go.Proofs.Ytfhidjldmopbgaa
noncomputable section

def gRa (args : List (AV Nm)) (bs : List (Blk Nm)) : Option (AV Nm × List (Bool × Bool)) := match args, bs with
  | [.w (.one (.slc 0 0 4 4)), .w (.one (.slc 1 0 4 4))], [⟨t, [.bool xs0, .fv (.num xx0), .bool xs1, .fv (.num xx1), .bool xs2, .fv (.num xx2), .bool xs3, .fv (.num xx3)]⟩, ⟨t', [.bool ys0, .fv (.num yx0), .bool ys1, .fv (.num yx1), .bool ys2, .fv (.num yx2), .bool ys3, .fv (.num yx3)]⟩] => bif Nat.beq t 28 && Nat.beq t' 28 then some (bA (ofB (lo4 ⟨xs0, xx0⟩ ⟨xs1, xx1⟩ ⟨xs2, xx2⟩ ⟨xs3, xx3⟩ ⟨ys0, yx0⟩ ⟨ys1, yx1⟩ ⟨ys2, yx2⟩ ⟨ys3, yx3⟩) (hi4 ⟨xs0, xx0⟩ ⟨xs1, xx1⟩ ⟨xs2, xx2⟩ ⟨xs3, xx3⟩ ⟨ys0, yx0⟩ ⟨ys1, yx1⟩ ⟨ys2, yx2⟩ ⟨ys3, yx3⟩)), [((okZ ⟨xs0, xx0⟩ ⟨ys0, yx0⟩ && okZ ⟨xs1, xx1⟩ ⟨ys1, yx1⟩ && okZ ⟨xs2, xx2⟩ ⟨ys2, yx2⟩ && okZ ⟨xs3, xx3⟩ ⟨ys3, yx3⟩), true)]) else none
  | [.w (.one (.slc 0 0 2 2)), .w (.one (.slc 1 0 2 2))], [⟨t, [.bool xs0, .fv (.num xx0), .bool xs1, .fv (.num xx1)]⟩, ⟨t', [.bool ys0, .fv (.num yx0), .bool ys1, .fv (.num yx1)]⟩] => bif Nat.beq t 28 && Nat.beq t' 28 then some (bA (ofB (lo2 ⟨xs0, xx0⟩ ⟨xs1, xx1⟩ ⟨ys0, yx0⟩ ⟨ys1, yx1⟩) (hi2 ⟨xs0, xx0⟩ ⟨xs1, xx1⟩ ⟨ys0, yx0⟩ ⟨ys1, yx1⟩)), [((okZ ⟨xs0, xx0⟩ ⟨ys0, yx0⟩ && okZ ⟨xs1, xx1⟩ ⟨ys1, yx1⟩), true)]) else none
  | _, _ => none
noncomputable abbrev libP2 : List (Nat × FnSp Nm) := [(6, factSp gBd)]
noncomputable abbrev lpsP : Lps Nm := [((57, [false, true, false, true, true]), (r4D.sp nmSafe).or (r2D.sp nmSafe))]
noncomputable abbrev cxP : Ctx Nm := ctxOf Try.prog numI (fun _ => false) []
theorem libP2_ok : LibOk Try.prog numI (lib1 libP2) := (lib1_cons bdt_ok Try.call6 (lib1_nil _ _))
theorem lpsP_ok : LpsOk Try.prog numI lpsP Try.f18.ntmps (bodyOf Try.f18) := lps_cons (fun _ x hx => lpOr_ok (r4D_ok x hx) (r2D_ok x hx) rfl (fun _ _ => rfl) (fun _ _ => rfl)) lps_nil
set_option maxRecDepth 100000 in
theorem ra4_ (x0 : Zn) (x1 : Zn) (x2 : Zn) (x3 : Zn) (y0 : Zn) (y1 : Zn) (y2 : Zn) (y3 : Zn) : evLoc (ctxLp Try.prog numI (fun _ => false) libP2 [] lpsP) Try.f18 [.w (.one (.slc 0 0 4 4)), .w (.one (.slc 1 0 4 4))] [⟨28, [.bool x0.s, .fv (.num x0.x), .bool x1.s, .fv (.num x1.x), .bool x2.s, .fv (.num x2.x), .bool x3.s, .fv (.num x3.x)]⟩, ⟨28, [.bool y0.s, .fv (.num y0.x), .bool y1.s, .fv (.num y1.x), .bool y2.s, .fv (.num y2.x), .bool y3.s, .fv (.num y3.x)]⟩] [] = some (AV.tup [AW.agg [AC.int IntKind.i64 (ofB (lo4 x0 x1 x2 x3 y0 y1 y2 y3) (hi4 x0 x1 x2 x3 y0 y1 y2 y3)).lo, AC.int IntKind.i64 (ofB (lo4 x0 x1 x2 x3 y0 y1 y2 y3) (hi4 x0 x1 x2 x3 y0 y1 y2 y3)).hi, AC.bool (ofB (lo4 x0 x1 x2 x3 y0 y1 y2 y3) (hi4 x0 x1 x2 x3 y0 y1 y2 y3)).u], AW.agg [AC.bool x0.s, AC.fv (Nm.num x0.x), AC.bool x1.s, AC.fv (Nm.num x1.x), AC.bool x2.s, AC.fv (Nm.num x2.x), AC.bool x3.s, AC.fv (Nm.num x3.x)], AW.agg [AC.bool y0.s, AC.fv (Nm.num y0.x), AC.bool y1.s, AC.fv (Nm.num y1.x), AC.bool y2.s, AC.fv (Nm.num y2.x), AC.bool y3.s, AC.fv (Nm.num y3.x)]], (pickL [(decide ((0 : Int) = 0) && decide ((none : Option Int) = none) && decide ((none : Option Int) = none), true), (okZ x0 y0 && okZ x1 y1 && okZ x2 y2 && okZ x3 y3, true), (decide (lo4 x0 x1 x2 x3 y0 y1 y2 y3 < 0) == decide (lo4 x0 x1 x2 x3 y0 y1 y2 y3 < 0), true), (decide (hi4 x0 x1 x2 x3 y0 y1 y2 y3 < 0) == decide (hi4 x0 x1 x2 x3 y0 y1 y2 y3 < 0), true), (szB (lo4 x0 x1 x2 x3 y0 y1 y2 y3), true), (szB (hi4 x0 x1 x2 x3 y0 y1 y2 y3), true)] [0, 1, 2, 3, 4, 5])) := by kernel_rfl
set_option maxRecDepth 100000 in
theorem ra2_ (x0 : Zn) (x1 : Zn) (y0 : Zn) (y1 : Zn) : evLoc (ctxLp Try.prog numI (fun _ => false) libP2 [] lpsP) Try.f18 [.w (.one (.slc 0 0 2 2)), .w (.one (.slc 1 0 2 2))] [⟨28, [.bool x0.s, .fv (.num x0.x), .bool x1.s, .fv (.num x1.x)]⟩, ⟨28, [.bool y0.s, .fv (.num y0.x), .bool y1.s, .fv (.num y1.x)]⟩] [] = some (AV.tup [AW.agg [AC.int IntKind.i64 (ofB (lo2 x0 x1 y0 y1) (hi2 x0 x1 y0 y1)).lo, AC.int IntKind.i64 (ofB (lo2 x0 x1 y0 y1) (hi2 x0 x1 y0 y1)).hi, AC.bool (ofB (lo2 x0 x1 y0 y1) (hi2 x0 x1 y0 y1)).u], AW.agg [AC.bool x0.s, AC.fv (Nm.num x0.x), AC.bool x1.s, AC.fv (Nm.num x1.x)], AW.agg [AC.bool y0.s, AC.fv (Nm.num y0.x), AC.bool y1.s, AC.fv (Nm.num y1.x)]], (pickL [(decide ((0 : Int) = 0) && decide ((none : Option Int) = none) && decide ((none : Option Int) = none), true), (okZ x0 y0 && okZ x1 y1, true), (decide (lo2 x0 x1 y0 y1 < 0) == decide (lo2 x0 x1 y0 y1 < 0), true), (decide (hi2 x0 x1 y0 y1 < 0) == decide (hi2 x0 x1 y0 y1 < 0), true), (szB (lo2 x0 x1 y0 y1), true), (szB (hi2 x0 x1 y0 y1), true)] [0, 1, 2, 3, 4, 5])) := by kernel_rfl
theorem lo4_dm {x0 x1 x2 x3 y0 y1 y2 y3 : Zn} (h : (okZ x0 y0 && okZ x1 y1 && okZ x2 y2 && okZ x3 y3) = true) : Dl 30 (lo4 x0 x1 x2 x3 y0 y1 y2 y3) ∧ Dl 30 (hi4 x0 x1 x2 x3 y0 y1 y2 y3) := by
  simp only [Bool.and_eq_true] at h
  obtain ⟨⟨⟨z0, z1⟩, z2⟩, z3⟩ := h
  obtain ⟨u0, v0⟩ := fl_dm z0
  obtain ⟨u1, v1⟩ := fl_dm z1
  obtain ⟨u2, v2⟩ := fl_dm z2
  obtain ⟨u3, v3⟩ := fl_dm z3
  exact ⟨(mn_dm u3 (mn_dm u2 (mn_dm u1 u0))), (mx_dm v3 (mx_dm v2 (mx_dm v1 v0)))⟩
theorem lo2_dm {x0 x1 y0 y1 : Zn} (h : (okZ x0 y0 && okZ x1 y1) = true) : Dl 30 (lo2 x0 x1 y0 y1) ∧ Dl 30 (hi2 x0 x1 y0 y1) := by
  simp only [Bool.and_eq_true] at h
  obtain ⟨z0, z1⟩ := h
  obtain ⟨u0, v0⟩ := fl_dm z0
  obtain ⟨u1, v1⟩ := fl_dm z1
  exact ⟨(mn_dm u1 u0), (mx_dm v1 v0)⟩
theorem c1z {b : Bool} (h : ∀ p ∈ [(b, true)], p.1 = p.2) : b = true := h (b, true) (by simp)
theorem gRa_ok : (locSp cxP gRa).ok Try.prog numI 18 := by
  refine locSp_ok (ctxLp_ok libP2_ok (eq_none _) (fns_nil _) (fun _ _ h => by cases h)) (by kernel_rfl) Try.func18 rfl lpsP_ok rfl fun args bs x cd hg hc => ?_
  unfold gRa at hg
  split at hg
  · rename_i t xs0 xx0 xs1 xx1 xs2 xx2 xs3 xx3 t' ys0 yx0 ys1 yx1 ys2 yx2 ys3 yx3
    cases hq : Nat.beq t 28 && Nat.beq t' 28 with
    | false => rw [hq] at hg; cases hg
    | true =>
      rw [hq] at hg; simp only [cond_true] at hg
      cases hg
      simp only [Bool.and_eq_true] at hq
      have e1 := Nat.eq_of_beq_eq_true hq.1
      have e2 := Nat.eq_of_beq_eq_true hq.2
      subst e1 e2
      have h1 := c1z hc
      obtain ⟨d1, d2⟩ := lo4_dm h1
      have d3 := d1.sz (by omega)
      have d4 := d2.sz (by omega)
      refine ⟨rfl, rfl, [], _, _, ra4_ (⟨xs0, xx0⟩ : Zn) (⟨xs1, xx1⟩ : Zn) (⟨xs2, xx2⟩ : Zn) (⟨xs3, xx3⟩ : Zn) (⟨ys0, yx0⟩ : Zn) (⟨ys1, yx1⟩ : Zn) (⟨ys2, yx2⟩ : Zn) (⟨ys3, yx3⟩ : Zn), fun E u hu => hu, pickL_ok ?_ _⟩
      repeat' (first | exact cd_nil | refine cd_cons ?_ ?_)
      all_goals first | rfl | with_reducible assumption | exact eqB _
  · rename_i t xs0 xx0 xs1 xx1 t' ys0 yx0 ys1 yx1
    cases hq : Nat.beq t 28 && Nat.beq t' 28 with
    | false => rw [hq] at hg; cases hg
    | true =>
      rw [hq] at hg; simp only [cond_true] at hg
      cases hg
      simp only [Bool.and_eq_true] at hq
      have e1 := Nat.eq_of_beq_eq_true hq.1
      have e2 := Nat.eq_of_beq_eq_true hq.2
      subst e1 e2
      have h1 := c1z hc
      obtain ⟨d1, d2⟩ := lo2_dm h1
      have d3 := d1.sz (by omega)
      have d4 := d2.sz (by omega)
      refine ⟨rfl, rfl, [], _, _, ra2_ (⟨xs0, xx0⟩ : Zn) (⟨xs1, xx1⟩ : Zn) (⟨ys0, yx0⟩ : Zn) (⟨ys1, yx1⟩ : Zn), fun E u hu => hu, pickL_ok ?_ _⟩
      repeat' (first | exact cd_nil | refine cd_cons ?_ ?_)
      all_goals first | rfl | with_reducible assumption | exact eqB _
  · cases hg
/-! ### Products and quotients by floors and ceilings -/
theorem divV_eq {n d : Int} (hd : 1 ≤ d) (h1 : -9223372036854775808 ≤ n / d) (h2 : n / d ≤ 9223372036854775807) : divV n d = n / d := by
  unfold divV; rw [if_neg (by omega), if_neg (by omega)]
theorem kn_mk {x y : Int} (h1 : -1152921504606846976 ≤ x) (h2 : x ≤ y) (h3 : y ≤ 1152921504606846976) : knB (⟨x, y, false⟩ : Bd) = true := knB_iff.2 ⟨rfl, h1, h2, h3⟩
theorem kn_no : knB noneB = false := by decide
theorem ce_eq {m d : Int} (hd : 1 ≤ d) : (m + (d - 1)) / d = -(-m / d) := by
  have e1 := Int.emod_add_mul_ediv (-m) d
  have e2 := Int.emod_lt_of_pos (-m) (show 0 < d by omega)
  have e3 := Int.emod_nonneg (-m) (show d ≠ 0 by omega)
  generalize -m / d = q at *
  apply Int.le_antisymm
  · have : (m + (d - 1)) / d < -q + 1 := Int.ediv_lt_of_lt_mul (by omega) (by rw [Int.add_mul, Int.neg_mul, Int.mul_comm q d]; omega)
    omega
  · exact Int.le_ediv_of_mul_le (by omega) (by rw [Int.neg_mul, Int.mul_comm q d]; omega)
theorem ce_fl {m d : Int} (hd : 1 ≤ d) : m / d ≤ -(-m / d) ∧ -(-m / d) ≤ m / d + 1 := by
  have e1 := Int.emod_add_mul_ediv (-m) d
  have e2 := Int.emod_lt_of_pos (-m) (show 0 < d by omega)
  have e3 := Int.emod_nonneg (-m) (show d ≠ 0 by omega)
  generalize -m / d = q at *
  constructor
  · have : m / d < -q + 1 := Int.ediv_lt_of_lt_mul (by omega) (by rw [Int.add_mul, Int.neg_mul, Int.mul_comm q d]; omega)
    omega
  · have : -q - 1 ≤ m / d := Int.le_ediv_of_mul_le (by omega) (by rw [Int.sub_mul, Int.neg_mul, Int.mul_comm q d]; omega)
    omega
theorem divE_sp {m d : Int} (hd : 1 ≤ d) : divE m d = if m / d < -9223372036854775808 ∨ 9223372036854775807 < m / d then 2 else 0 := by
  unfold divE; rw [if_neg (by omega)]
theorem quot_val {x n d : Int} (hd : 1 ≤ d) (h1 : -9223372036854775808 ≤ x * n / d) (h2 : -(-(x * n) / d) ≤ 9223372036854775807) : divV (x * n) d = x * n / d ∧ divV (x * n + (d - 1)) d = -(-(x * n) / d) := by
  have c := ce_fl (m := x * n) hd
  rw [← ce_eq hd] at h2 c ⊢
  exact ⟨divV_eq hd (by omega) (by omega), divV_eq hd (by omega) (by omega)⟩
theorem quot_sp {x n d : Int} (hd : 1 ≤ d) : quotB x n d = ofB (x * n / d) (-(-(x * n) / d)) := by
  have c := ce_fl (m := x * n) hd
  have v := quot_val (x := x) (n := n) hd
  unfold quotB
  rw [divE_sp hd, divE_sp hd, ce_eq hd]
  generalize x * n / d = f at *
  generalize -(-(x * n) / d) = e at *
  by_cases h1 : f < -9223372036854775808 ∨ 9223372036854775807 < f
  · rw [if_pos h1, ofB_out (x := f) (y := e) (by omega)]; rfl
  · rw [if_neg h1]
    by_cases h2 : e < -9223372036854775808 ∨ 9223372036854775807 < e
    · rw [if_pos h2, ofB_out (x := f) (y := e) (by omega)]; rfl
    · obtain ⟨v1, v2⟩ := v (by omega) (by omega)
      rw [if_neg h2, v1, v2]; rfl
theorem minI_eq (a b : Int) : minI a b = min a b := by unfold minI; split <;> omega
theorem maxI_eq (a b : Int) : maxI a b = max a b := by unfold maxI; split <;> omega
theorem mnZ_eq (a b : Int) : mnZ a b = min a b := by unfold mnZ; split <;> omega
theorem mxZ_eq (a b : Int) : mxZ a b = max a b := by unfold mxZ; split <;> omega
theorem hull_gen {f1 c1 f2 c2 : Int} (h1 : f1 ≤ c1) (h2 : f2 ≤ c2) : hullB (ofB f1 c1) (ofB f2 c2) = ofB (min f1 f2) (max c1 c2) := by
  by_cases g1 : -1152921504606846976 ≤ f1 ∧ c1 ≤ 1152921504606846976
  · by_cases g2 : -1152921504606846976 ≤ f2 ∧ c2 ≤ 1152921504606846976
    · rw [ofB_in (x := f1) (y := c1) g1.1 h1 g1.2, ofB_in (x := f2) (y := c2) g2.1 h2 g2.2]
      unfold hullB
      rw [kn_mk g1.1 h1 g1.2, kn_mk g2.1 h2 g2.2]
      simp only [Bool.and_self, cond_true, minI_eq, maxI_eq]
    · rw [ofB_out (x := f2) (y := c2) (by omega), ofB_out (x := min f1 f2) (y := max c1 c2) (by omega)]
      unfold hullB
      rw [kn_no, Bool.and_false]; rfl
  · rw [ofB_out (x := f1) (y := c1) (by omega), ofB_out (x := min f1 f2) (y := max c1 c2) (by omega)]
    unfold hullB
    rw [kn_no, Bool.false_and]; rfl
theorem hull4_gen {f0 c0 f1 c1 f2 c2 f3 c3 : Int} (h0 : f0 ≤ c0) (h1 : f1 ≤ c1) (h2 : f2 ≤ c2) (h3 : f3 ≤ c3) : hull4 (ofB f0 c0) (ofB f1 c1) (ofB f2 c2) (ofB f3 c3) = ofB (min (min f0 f1) (min f2 f3)) (max (max c0 c1) (max c2 c3)) := by
  unfold hull4
  rw [hull_gen h0 h1, hull_gen h2 h3, hull_gen (by omega) (by omega)]
/-- A number with its sign. -/
def zm (x : Int) : Zn := ⟨decide (x < 0), x⟩
theorem zm_ok {x y : Int} (hy : y ≠ 0) (h1 : Dl 20 x) (h2 : Dl 20 y) : okZ (zm x) (zm y) = true := okZ_iff.2 ⟨beq_self_eq_true _, beq_self_eq_true _, hy, h1, h2⟩
theorem zm_p {x y : Int} (hy : 1 ≤ y) : flZ (zm x) (zm y) = x / y ∧ ceZ (zm x) (zm y) = -(-x / y) := fl_f (x := zm x) (y := zm y) (decide_eq_false (by show ¬ y < 0; omega))
theorem zm_n {x y : Int} (hy : y < 0) : flZ (zm x) (zm y) = -x / -y ∧ ceZ (zm x) (zm y) = -(- -x / -y) := fl_t (x := zm x) (y := zm y) (decide_eq_true hy)
theorem quot_no {x n d : Int} (hd : d < 1) : quotB x n d = noneB := by
  unfold quotB divE
  rw [if_pos hd]; rfl
theorem hull_no (b : Bd) : hullB noneB b = noneB := by unfold hullB; rw [kn_no]; rfl
theorem mul_no {a b : Bd} {q : Int} (h : knB a = false ∨ knB b = false ∨ q < 1) : mulB a b q = noneB := by
  unfold mulB
  rcases h with h | h | h
  · rw [h]; rfl
  · rw [h, Bool.and_false]; rfl
  · cases (knB a && knB b)
    · rfl
    · simp only [cond_true]
      unfold hull4
      rw [quot_no h, hull_no, hull_no]
theorem mul_ra {a b : Bd} {q : Int} (ha : knB a = true) (hb : knB b = true) (hq : 1 ≤ q) : mulB a b q = ofB (lo4 (zm (a.lo * b.lo)) (zm (a.lo * b.hi)) (zm (a.hi * b.lo)) (zm (a.hi * b.hi)) (zm q) (zm q) (zm q) (zm q)) (hi4 (zm (a.lo * b.lo)) (zm (a.lo * b.hi)) (zm (a.hi * b.lo)) (zm (a.hi * b.hi)) (zm q) (zm q) (zm q) (zm q)) := by
  unfold mulB lo4 hi4
  rw [ha, hb]
  simp only [Bool.and_self, cond_true]
  rw [quot_sp hq, quot_sp hq, quot_sp hq, quot_sp hq, hull4_gen (ce_fl hq).1 (ce_fl hq).1 (ce_fl hq).1 (ce_fl hq).1]
  simp only [(zm_p hq).1, (zm_p hq).2, mnZ_eq, mxZ_eq]
  congr 1 <;> omega
theorem sca_no' {a : Bd} {n d : Int} (h : knB a = false ∨ inB n = false ∨ d < 1) : scaB a n d = noneB := by
  unfold scaB
  rcases h with h | h | h
  · rw [h]; rfl
  · rw [h, Bool.and_false]; rfl
  · cases (knB a && inB n)
    · rfl
    · simp only [cond_true]
      rw [quot_no h, hull_no]
theorem sca_ra {a : Bd} {n d : Int} (ha : knB a = true) (hn : inB n = true) (hd : 1 ≤ d) : scaB a n d = ofB (lo2 (zm (a.lo * n)) (zm (a.hi * n)) (zm d) (zm d)) (hi2 (zm (a.lo * n)) (zm (a.hi * n)) (zm d) (zm d)) := by
  unfold scaB lo2 hi2
  rw [ha, hn]
  simp only [Bool.and_self, cond_true]
  rw [quot_sp hd, quot_sp hd, hull_gen (ce_fl hd).1 (ce_fl hd).1]
  simp only [(zm_p hd).1, (zm_p hd).2, mnZ_eq, mxZ_eq]
  congr 1 <;> omega
theorem div_no {a b : Bd} {q : Int} (h : knB a = false ∨ q < 1 ∨ hasB b 0 = true) : divB a b q = noneB := by
  unfold divB
  rcases h with h | h | h
  · rw [h]; rfl
  · rw [decide_eq_true h]; simp
  · rw [h]; simp
theorem has_kn {b : Bd} (h : knB b = false) : hasB b 0 = true := by unfold hasB; rw [h]; rfl
theorem has_sg {b : Bd} (hb : knB b = true) (h : (cmpI b.lo 0 == cmpI b.hi 0) = false ∨ (cmpI b.lo 0 != 0) = false) : hasB b 0 = true := by
  obtain ⟨_, _, h2, _⟩ := knB_iff.1 hb
  have g : b.lo ≤ 0 ∧ 0 ≤ b.hi := by
    rcases h with h | h
    · have h : cmpI b.lo 0 ≠ cmpI b.hi 0 := by simpa using h
      unfold cmpI at h
      repeat' split at h
      all_goals omega
    · have h : cmpI b.lo 0 = 0 := by simpa using h
      unfold cmpI at h
      repeat' split at h
      all_goals omega
  unfold hasB
  rw [decide_eq_true g.1, decide_eq_true g.2]; simp
theorem sg_nz {b : Bd} (hb : knB b = true) (h1 : (cmpI b.lo 0 == cmpI b.hi 0) = true) (h2 : (cmpI b.lo 0 != 0) = true) : 1 ≤ b.lo ∨ b.hi < 0 := by
  obtain ⟨_, _, h3, _⟩ := knB_iff.1 hb
  have h1 : cmpI b.lo 0 = cmpI b.hi 0 := by simpa using h1
  have h2 : cmpI b.lo 0 ≠ 0 := by simpa using h2
  unfold cmpI at h1 h2
  repeat' split at h1
  all_goals (repeat' split at h2) <;> omega
theorem div_ra {a b : Bd} {q : Int} (ha : knB a = true) (hb : knB b = true) (hq : 1 ≤ q) (h : 1 ≤ b.lo ∨ b.hi < 0) : divB a b q = ofB (lo4 (zm (a.lo * q)) (zm (a.lo * q)) (zm (a.hi * q)) (zm (a.hi * q)) (zm b.lo) (zm b.hi) (zm b.lo) (zm b.hi)) (hi4 (zm (a.lo * q)) (zm (a.lo * q)) (zm (a.hi * q)) (zm (a.hi * q)) (zm b.lo) (zm b.hi) (zm b.lo) (zm b.hi)) := by
  obtain ⟨_, a1, a2, a3⟩ := knB_iff.1 ha
  obtain ⟨bu, b1, b2, b3⟩ := knB_iff.1 hb
  have hh : hasB b 0 = false := by
    unfold hasB
    rw [hb]
    rcases h with h | h
    · rw [decide_eq_false (show ¬ b.lo ≤ 0 by omega)]; rfl
    · rw [decide_eq_false (show ¬ 0 ≤ b.hi by omega), Bool.and_false]; rfl
  unfold divB lo4 hi4
  rw [ha, hh, decide_eq_false (show ¬ q < 1 by omega)]
  simp only [Bool.not_true, Bool.or_self, cond_false]
  rcases h with h | h
  · have h' : 1 ≤ b.hi := by omega
    rw [decide_eq_false (show ¬ b.hi < 0 by omega)]
    simp only [cond_false]
    unfold div4
    rw [quot_sp h, quot_sp h', quot_sp h, quot_sp h', hull4_gen (ce_fl h).1 (ce_fl h').1 (ce_fl h).1 (ce_fl h').1]
    simp only [(zm_p h).1, (zm_p h).2, (zm_p h').1, (zm_p h').2, mnZ_eq, mxZ_eq]
    congr 1 <;> omega
  · have h' : b.lo < 0 := by omega
    rw [decide_eq_true h]
    simp only [cond_true]
    have na : negB a = ⟨-a.hi, -a.lo, false⟩ := by unfold negB; rw [ha]; exact ofB_in (by omega) (by omega) (by omega)
    have nb : negB b = ⟨-b.hi, -b.lo, false⟩ := by unfold negB; rw [hb]; exact ofB_in (by omega) (by omega) (by omega)
    have p1 : 1 ≤ -b.hi := by omega
    have p2 : 1 ≤ -b.lo := by omega
    unfold div4
    rw [na, nb]
    simp only
    rw [quot_sp p1, quot_sp p2, quot_sp p1, quot_sp p2, hull4_gen (ce_fl p1).1 (ce_fl p2).1 (ce_fl p1).1 (ce_fl p2).1]
    simp only [(zm_n h).1, (zm_n h).2, (zm_n h').1, (zm_n h').2, mnZ_eq, mxZ_eq, Int.neg_mul]
    congr 1 <;> omega
abbrev rM (a b : Bd) (q : Int) : Bd := (ofB (lo4 (zm (a.lo * b.lo)) (zm (a.lo * b.hi)) (zm (a.hi * b.lo)) (zm (a.hi * b.hi)) (zm (q)) (zm (q)) (zm (q)) (zm (q))) (hi4 (zm (a.lo * b.lo)) (zm (a.lo * b.hi)) (zm (a.hi * b.lo)) (zm (a.hi * b.hi)) (zm (q)) (zm (q)) (zm (q)) (zm (q))))
abbrev rD (a b : Bd) (q : Int) : Bd := (ofB (lo4 (zm (a.lo * q)) (zm (a.lo * q)) (zm (a.hi * q)) (zm (a.hi * q)) (zm (b.lo)) (zm (b.hi)) (zm (b.lo)) (zm (b.hi))) (hi4 (zm (a.lo * q)) (zm (a.lo * q)) (zm (a.hi * q)) (zm (a.hi * q)) (zm (b.lo)) (zm (b.hi)) (zm (b.lo)) (zm (b.hi))))
abbrev rS (a : Bd) (n d : Int) : Bd := (ofB (lo2 (zm (a.lo * n)) (zm (a.hi * n)) (zm (d)) (zm (d))) (hi2 (zm (a.lo * n)) (zm (a.hi * n)) (zm (d)) (zm (d))))
abbrev okM (a b : Bd) (q : Int) : Bool := okZ (zm (a.lo * b.lo)) (zm (q)) && okZ (zm (a.lo * b.hi)) (zm (q)) && okZ (zm (a.hi * b.lo)) (zm (q)) && okZ (zm (a.hi * b.hi)) (zm (q))
end
end Go.Proofs.Ytfhidjldmopbgaa.AtBr

