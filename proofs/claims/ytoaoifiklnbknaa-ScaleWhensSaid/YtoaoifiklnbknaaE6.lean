/-
  The reference's Reached as a function of plain values, and the walk of the law ScaleWhens.
  Conditions: those of each theorem.
-/
import Derived.Test.YtoaoifiklnbknaaE5
import Derived.Test.YtoaoifiklnbknaaD5R
set_option linter.unusedVariables false
set_option linter.unusedSimpArgs false
namespace Go.Proofs.Ytoaoifiklnbknaa.AtRt
open Ev Go.RowKit Go.Shelf Zd Wd
open Go.Proofs.Ytoaoifiklnbknaa
noncomputable section

noncomputable abbrev libGL : List (Nat × FnSp Nm) := [(79, sp3 dRt (dInt .i64) (dInt .i64) (fun r f a => .tup [.one (.int .i64 (whV r f a)), .one (.int .i64 (whE r f a))]) (fun r _ _ => [(i64B r.n, true), (i64B r.d, true)])), (70, sp1 dRt (fun r => aInt .i64 (rtE r)) (fun r => [(i64B r.n, true), (i64B r.d, true)])), (61, sp0 (aBool true)), (80, sp3 dRt (dInt .i64) (dInt .i64) (fun r f a => .tup [.one (.int .i64 (whV r f a)), .one (.int .i64 (whE r f a))]) (fun r f a => [(rtE r == 0, true), (tmQ f, true), (trB a, true)]))]
set_option maxRecDepth 100000 in
theorem rd_1 (r : Rt) (f : Int) (a : Int) : evR (ctxLp Try.prog numI (fun _ => false) libG5 [] lpsRl) Try.f80 [(rtA r), (.w (.one (.int .i64 f))), (.w (.one (.int .i64 a)))] [true] = some (AV.tup [AW.one (AC.int IntKind.i64 0), AW.one (AC.int IntKind.i64 2)], (pickL [(okR r, true), (i64B f, true), (i64B a, true), (decide (a < 0) == decide (a < 0), true), (decide (wA r f < 0) == decide (wA r f < 0), true), (szB a, true), (szB (wA r f), true), (32 == 32, true), (decide (a - wA r f < 0) == decide (a - wA r f < 0), true), (decide (4294967296 < 0) == decide (4294967296 < 0), true), (szB (a - wA r f), true), (szB 4294967296, true), (decide (4294967296 = 0), false), (decide ((a - wA r f) % 4294967296 < 0) == decide ((a - wA r f) % 4294967296 < 0), true), (szB ((a - wA r f) % 4294967296), true), (i64B (IntKind.i64.wrap (17592186044417 - 1)), true), (decide (wA r (IntKind.i64.wrap (17592186044417 - 1)) < 0) == decide (wA r (IntKind.i64.wrap (17592186044417 - 1)) < 0), true), (decide (wA r f + (a - wA r f) % 4294967296 < 0) == decide (wA r f + (a - wA r f) % 4294967296 < 0), true), (szB (wA r (IntKind.i64.wrap (17592186044417 - 1))), true), (szB (wA r f + (a - wA r f) % 4294967296), true), (decide (cmpI (wA r (IntKind.i64.wrap (17592186044417 - 1))) (wA r f + (a - wA r f) % 4294967296) < 0), true)] [0, 1, 2, 3, 4, 5, 6, 7, 8, 9, 10, 11, 12, 4, 13, 6, 14, 0, 15, 16, 17, 18, 19, 20])) := by kernel_rfl
set_option maxRecDepth 100000 in
theorem rd_0 (r : Rt) (f : Int) (a : Int) : evR (ctxLp Try.prog numI (fun _ => false) libG5 [] lpsRl) Try.f80 [(rtA r), (.w (.one (.int .i64 f))), (.w (.one (.int .i64 a)))] [false] = some (AV.tup [AW.one (AC.int IntKind.i64 (fsV (IntKind.i64.wrap (f - 1)) (gW r (wA r f + (a - wA r f) % 4294967296)))), AW.one (AC.int IntKind.i64 0)], (pickL [(okR r, true), (i64B f, true), (i64B a, true), (decide (a < 0) == decide (a < 0), true), (decide (wA r f < 0) == decide (wA r f < 0), true), (szB a, true), (szB (wA r f), true), (32 == 32, true), (decide (a - wA r f < 0) == decide (a - wA r f < 0), true), (decide (4294967296 < 0) == decide (4294967296 < 0), true), (szB (a - wA r f), true), (szB 4294967296, true), (decide (4294967296 = 0), false), (decide ((a - wA r f) % 4294967296 < 0) == decide ((a - wA r f) % 4294967296 < 0), true), (szB ((a - wA r f) % 4294967296), true), (i64B (IntKind.i64.wrap (17592186044417 - 1)), true), (decide (wA r (IntKind.i64.wrap (17592186044417 - 1)) < 0) == decide (wA r (IntKind.i64.wrap (17592186044417 - 1)) < 0), true), (decide (wA r f + (a - wA r f) % 4294967296 < 0) == decide (wA r f + (a - wA r f) % 4294967296 < 0), true), (szB (wA r (IntKind.i64.wrap (17592186044417 - 1))), true), (szB (wA r f + (a - wA r f) % 4294967296), true), (decide (cmpI (wA r (IntKind.i64.wrap (17592186044417 - 1))) (wA r f + (a - wA r f) % 4294967296) < 0), false), (decide (rlP (IntKind.i64.wrap (f - 1)) 17592186044417 r.t r.a r.n r.d (decide (wA r f + (a - wA r f) % 4294967296 < 0)) (wA r f + (a - wA r f) % 4294967296)) && decide (gW r (wA r f + (a - wA r f) % 4294967296) ≤ 17592186044417), true)] [0, 1, 2, 3, 4, 5, 6, 7, 8, 9, 10, 11, 12, 4, 13, 6, 14, 0, 15, 16, 17, 18, 19, 20, 21])) := by kernel_rfl
theorem okR_in {r : Rt} (h : rtE r = 0) : okR r = true := by
  obtain ⟨h1, h2, h3, h4, h5, h6, h7, h8, h9⟩ := rt_in h
  exact okR_iff.2 ⟨i64B_iff.2 (by omega), i64B_iff.2 (by omega), h8, by omega, h9⟩
theorem gW_go (r : Rt) (f a : Int) : gW r (goV r f a) = r.t + ceW r f a := rfl
theorem maxW : IntKind.i64.wrap (17592186044417 - 1) = 17592186044416 := by decide
theorem cmp_lt (a b : Int) : decide (cmpI a b < 0) = decide (a < b) := by
  unfold cmpI
  by_cases h : a < b
  · rw [if_pos h, decide_eq_true h]; rfl
  · rw [if_neg h, decide_eq_false h]
    split <;> rfl
/-- The reference finds what When returns. -/
theorem reached_pl (r : Rt) (f a : Int) (h : rtE r = 0) (hf : tmQ f = true) (ha : trB a = true) : Pl Try.prog 80 [rtV r, .int .i64 f, .int .i64 a] (.tuple #[.int .i64 (whV r f a), .int .i64 (whE r f a)]) := fun W => by
  have ok := okR_in h
  obtain ⟨h1, h2, h3, h4, h5, h6, h7, h8, h9⟩ := rt_in h
  have hf' := tmQ_iff.1 hf
  have ha' := trB_iff.1 ha
  obtain ⟨_, _, _, _, _, b1, b2⟩ := go_in h hf ha
  have b3 := wA_in h hf
  have i1 : i64B f = true := i64B_iff.2 (by omega)
  have i2 : i64B a = true := i64B_iff.2 (by omega)
  have e : wA r f + (a - wA r f) % 4294967296 = goV r f a := rfl
  have iv : i64B (goV r f a) = true := i64B_iff.2 (by omega)
  have im : i64B 17592186044416 = true := by decide
  have s1 : szB a = true := (Dl.i64 i2).sz (by omega)
  have s2 := wA_sz ok i1
  have s3 : szB (a - wA r f) = true := ((Dl.i64 i2).sub' (wA_dl ok i1)).sz (by omega)
  have s4 : szB 4294967296 = true := (Dl.lit (by omega) (by omega)).sz (k := 4) (by omega)
  have s5 : szB ((a - wA r f) % 4294967296) = true := (Dl.lit (by omega) (by omega)).sz (k := 4) (by omega)
  have s6 := wA_sz ok im
  have s7 : szB (goV r f a) = true := (Dl.i64 iv).sz (by omega)
  have low := ce_low h hf ha
  have fw : IntKind.i64.wrap (f - 1) = f - 1 := v64 (by omega) (by omega)
  by_cases hk : wA r 17592186044416 < goV r f a
  · have c1 : decide (cmpI (wA r 17592186044416) (goV r f a) < 0) = true := by rw [cmp_lt]; exact decide_eq_true hk
    have hc : ¬ r.t + ceW r f a ≤ 17592186044416 := fun g => by have := (ce_iff (f := f) (a := a) (t := 17592186044416) h).2 g; omega
    have eE : whE r f a = 2 := by
      unfold whE
      rw [if_neg (by omega), if_neg (by rw [hf, ha]; simp), if_pos]
      rcases wa_cases h hf ha with ⟨g1, g2⟩ | ⟨g1, g2⟩
      · exact Or.inr (by omega)
      · exact Or.inl (by omega)
    have eV : whV r f a = 0 := by unfold whV; rw [if_neg (by omega)]
    have L := rd_1 r f a
    rw [maxW, e] at L
    rw [eE, eV]
    refine evR_calls (I := numI) (v := _) (ctxLp_ok libG5_ok (eq_none _) (fns_nil _) (fun f fn h => by cases h)) (by kernel_rfl) Try.func80 rfl lps_Rl L rfl (all2_R (.cons rfl (.cons rfl (.cons rfl .nil)))) rfl W (Nat.zero_le _) (pickL_ok ?_ _)
    repeat' (first | exact cd_nil | refine cd_cons ?_ ?_)
    all_goals first | rfl | with_reducible assumption | exact eqB _
  · have c1 : decide (cmpI (wA r 17592186044416) (goV r f a) < 0) = false := by rw [cmp_lt]; exact decide_eq_false hk
    have hc : r.t + ceW r f a ≤ 17592186044416 := (ce_iff (f := f) (a := a) (t := 17592186044416) h).1 (by omega)
    have eW : waE r f a = 0 ∧ waV r f a = ceW r f a := by
      rcases wa_cases h hf ha with g | ⟨_, g2⟩
      · exact g
      · omega
    have eE : whE r f a = 0 := by
      unfold whE
      rw [if_neg (by omega), if_neg (by rw [hf, ha]; simp), if_neg]
      rintro (g | g)
      · exact g eW.1
      · rw [eW.2] at g; omega
    have eV : whV r f a = fsV (f - 1) (r.t + ceW r f a) := by
      unfold whV
      rw [if_pos eE, eW.2]
      unfold maxI fsV
      split <;> split <;> omega
    have c2 : (decide (rlP (f - 1) 17592186044417 r.t r.a r.n r.d (decide (goV r f a < 0)) (goV r f a)) && decide (r.t + ceW r f a ≤ 17592186044417)) = true := by
      rw [decide_eq_true (show rlP (f - 1) 17592186044417 r.t r.a r.n r.d (decide (goV r f a < 0)) (goV r f a) from ⟨ok, h3, iv, rfl, by omega, by omega, by omega⟩), decide_eq_true (by omega)]
      rfl
    have L := rd_0 r f a
    rw [maxW, e, fw, gW_go] at L
    rw [eE, eV]
    refine evR_calls (I := numI) (v := _) (ctxLp_ok libG5_ok (eq_none _) (fns_nil _) (fun f fn h => by cases h)) (by kernel_rfl) Try.func80 rfl lps_Rl L rfl (all2_R (.cons rfl (.cons rfl (.cons rfl .nil)))) rfl W (Nat.zero_le _) (pickL_ok ?_ _)
    repeat' (first | exact cd_nil | refine cd_cons ?_ ?_)
    all_goals first | rfl | with_reducible assumption | exact eqB _
theorem libGL_ok : LibOk Try.prog numI (lib1 libGL) := lib1_cons (sp3_ok fun r f a hc => ⟨_, rfl, whf_pl r f a (c2' hc).1 (c2' hc).2⟩) Try.call79 (lib1_cons (sp1_ok fun r hc => ⟨_, rfl, rer_pl r (c2' hc).1 (c2' hc).2⟩) Try.call70 (lib1_cons (sp0_ok rfl sfact_pl) Try.call61 (lib1_cons (sp3_ok fun r f a hc => ⟨_, rfl, reached_pl r f a (by have := (c3' hc).1; simpa using this) (c3' hc).2.1 (c3' hc).2.2⟩) Try.call80 (lib1_nil _ _))))
set_option maxRecDepth 100000 in
theorem lw_110111 (r : Rt) (f : Int) (a : Int) : evR (ctxOf Try.prog numI (fun _ => false) libGL) Try.f13 [(rtA r), (.w (.one (.int .i64 f))), (.w (.one (.int .i64 a)))] [true, true, false, true, true, true] = some (AV.w (AW.one (AC.bool (whV r f a == 0))), (pickL [(i64B r.n, true), (i64B r.d, true), (rtE r == 0, true), (decide (f < -17592186044416), true), (true, true), (!true, false), (4 != 0, true), (whE r f a == 4, true)] [0, 1, 0, 1, 2, 2, 2, 3, 3, 2, 3, 2, 4, 4, 2, 4, 2, 4, 4, 2, 4, 2, 4, 5, 5, 5, 6, 4, 4, 4, 4, 7, 7, 7])) := by kernel_rfl
set_option maxRecDepth 100000 in
theorem lw_1010111 (r : Rt) (f : Int) (a : Int) : evR (ctxOf Try.prog numI (fun _ => false) libGL) Try.f13 [(rtA r), (.w (.one (.int .i64 f))), (.w (.one (.int .i64 a)))] [true, false, true, false, true, true, true] = some (AV.w (AW.one (AC.bool (whV r f a == 0))), (pickL [(i64B r.n, true), (i64B r.d, true), (rtE r == 0, true), (decide (f < -17592186044416), false), (decide (f > 17592186044416), true), (true, true), (!true, false), (4 != 0, true), (whE r f a == 4, true)] [0, 1, 0, 1, 2, 2, 2, 3, 3, 2, 3, 2, 4, 4, 2, 4, 2, 5, 5, 2, 5, 2, 5, 6, 6, 6, 7, 5, 5, 5, 5, 8, 8, 8])) := by kernel_rfl
set_option maxRecDepth 100000 in
theorem lw_10010111 (r : Rt) (f : Int) (a : Int) : evR (ctxOf Try.prog numI (fun _ => false) libGL) Try.f13 [(rtA r), (.w (.one (.int .i64 f))), (.w (.one (.int .i64 a)))] [true, false, false, true, false, true, true, true] = some (AV.w (AW.one (AC.bool (whV r f a == 0))), (pickL [(i64B r.n, true), (i64B r.d, true), (rtE r == 0, true), (decide (f < -17592186044416), false), (decide (f > 17592186044416), false), (decide (a < 0), true), (true, true), (!true, false), (4 != 0, true), (whE r f a == 4, true)] [0, 1, 0, 1, 2, 2, 2, 3, 3, 2, 3, 2, 4, 4, 2, 4, 2, 5, 5, 2, 5, 2, 6, 7, 7, 7, 8, 6, 6, 6, 6, 9, 9, 9])) := by kernel_rfl
set_option maxRecDepth 100000 in
theorem lw_100010111 (r : Rt) (f : Int) (a : Int) : evR (ctxOf Try.prog numI (fun _ => false) libGL) Try.f13 [(rtA r), (.w (.one (.int .i64 f))), (.w (.one (.int .i64 a)))] [true, false, false, false, true, false, true, true, true] = some (AV.w (AW.one (AC.bool (whV r f a == 0))), (pickL [(i64B r.n, true), (i64B r.d, true), (rtE r == 0, true), (decide (f < -17592186044416), false), (decide (f > 17592186044416), false), (decide (a < 0), false), (decide (a ≥ 4294967296), true), (!true, false), (4 != 0, true), (true, true), (whE r f a == 4, true)] [0, 1, 0, 1, 2, 2, 2, 3, 3, 2, 3, 2, 4, 4, 2, 4, 2, 5, 5, 2, 5, 2, 6, 7, 7, 7, 8, 9, 9, 9, 9, 10, 10, 10])) := by kernel_rfl
set_option maxRecDepth 100000 in
theorem lw_10000001 (r : Rt) (f : Int) (a : Int) : evR (ctxOf Try.prog numI (fun _ => false) libGL) Try.f13 [(rtA r), (.w (.one (.int .i64 f))), (.w (.one (.int .i64 a)))] [true, false, false, false, false, false, false, true] = some (AV.w (AW.one (AC.bool (whE r f a == whE r f a))), (pickL [(i64B r.n, true), (i64B r.d, true), (rtE r == 0, true), (decide (f < -17592186044416), false), (decide (f > 17592186044416), false), (decide (a < 0), false), (decide (a ≥ 4294967296), false), (!true, false), (rtE r != 0, false), (tmQ f, true), (trB a, true), (whV r f a == whV r f a, true)] [0, 1, 0, 1, 2, 2, 2, 3, 3, 2, 3, 2, 4, 4, 2, 4, 2, 5, 5, 2, 5, 2, 6, 7, 7, 7, 8, 2, 9, 10, 11, 11, 11, 11])) := by kernel_rfl
set_option maxRecDepth 100000 in
theorem lw_00111 (r : Rt) (f : Int) (a : Int) : evR (ctxOf Try.prog numI (fun _ => false) libGL) Try.f13 [(rtA r), (.w (.one (.int .i64 f))), (.w (.one (.int .i64 a)))] [false, false, true, true, true] = some (AV.w (AW.one (AC.bool (whV r f a == 0))), (pickL [(i64B r.n, true), (i64B r.d, true), (rtE r == 0, false), (false, false), (!true, false), (rtE r != 0, true), (true, true), (whE r f a == rtE r, true)] [0, 1, 0, 1, 2, 2, 2, 2, 2, 2, 2, 2, 2, 3, 4, 4, 4, 5, 6, 6, 6, 6, 7, 7, 7])) := by kernel_rfl
theorem scaleWhens_law (r : Rt) (hn : i64B r.n = true) (hd : i64B r.d = true) (f a : Int) (W : World) : Calls Try.prog 13 #[rtV r, .int .i64 f, .int .i64 a] W fun e w' => e = .returned (.bool true) ∧ Below W.heap.size W w' := by
  by_cases h : rtE r = 0
  · have k0 : (rtE r == 0) = true := by rw [h]; rfl
    have k1 : (rtE r != 0) = false := by rw [h]; rfl
    have hV : whE r f a ≠ 0 → whV r f a = 0 := fun g => if_neg g
    have bad : (tmQ f && trB a) = false → (whE r f a == 4) = true ∧ (whV r f a == 0) = true := fun g => by
      have e2 : whE r f a = 4 := by unfold whE; rw [if_neg (by omega), if_pos (by rw [g]; decide)]
      exact ⟨by rw [e2]; rfl, by rw [hV (by omega)]; rfl⟩
    have no : ∀ {x : Bool}, (x = true → False) → x = false := fun {x} g => by cases x with | false => rfl | true => exact (g rfl).elim
    by_cases g1 : f < -17592186044416
    · have c1 : decide (f < -17592186044416) = true := decide_eq_true g1
      obtain ⟨q1, q2⟩ := bad (no fun g => by rw [Bool.and_eq_true, tmQ_iff, trB_iff] at g; omega)
      have L := lw_110111 r f a
      have V : (whV r f a == 0) = true := q2
      refine evR_calls (I := numI) (v := .bool true) (ctxOf_ok libGL_ok (eq_none _)) (by kernel_rfl) Try.func13 rfl lps_nil L rfl (all2_R (.cons rfl (.cons rfl (.cons rfl .nil)))) (congrArg (fun b => some (Value.bool b)) V) W (Nat.zero_le _) (pickL_ok ?_ _)
      repeat' (first | exact cd_nil | refine cd_cons ?_ ?_)
      all_goals first | rfl | with_reducible assumption | exact eqB _
    have c1 : decide (f < -17592186044416) = false := decide_eq_false g1
    by_cases g2 : f > 17592186044416
    · have c2 : decide (f > 17592186044416) = true := decide_eq_true g2
      obtain ⟨q1, q2⟩ := bad (no fun g => by rw [Bool.and_eq_true, tmQ_iff, trB_iff] at g; omega)
      have L := lw_1010111 r f a
      have V : (whV r f a == 0) = true := q2
      refine evR_calls (I := numI) (v := .bool true) (ctxOf_ok libGL_ok (eq_none _)) (by kernel_rfl) Try.func13 rfl lps_nil L rfl (all2_R (.cons rfl (.cons rfl (.cons rfl .nil)))) (congrArg (fun b => some (Value.bool b)) V) W (Nat.zero_le _) (pickL_ok ?_ _)
      repeat' (first | exact cd_nil | refine cd_cons ?_ ?_)
      all_goals first | rfl | with_reducible assumption | exact eqB _
    have c2 : decide (f > 17592186044416) = false := decide_eq_false g2
    by_cases g3 : a < 0
    · have c3 : decide (a < 0) = true := decide_eq_true g3
      obtain ⟨q1, q2⟩ := bad (no fun g => by rw [Bool.and_eq_true, tmQ_iff, trB_iff] at g; omega)
      have L := lw_10010111 r f a
      have V : (whV r f a == 0) = true := q2
      refine evR_calls (I := numI) (v := .bool true) (ctxOf_ok libGL_ok (eq_none _)) (by kernel_rfl) Try.func13 rfl lps_nil L rfl (all2_R (.cons rfl (.cons rfl (.cons rfl .nil)))) (congrArg (fun b => some (Value.bool b)) V) W (Nat.zero_le _) (pickL_ok ?_ _)
      repeat' (first | exact cd_nil | refine cd_cons ?_ ?_)
      all_goals first | rfl | with_reducible assumption | exact eqB _
    have c3 : decide (a < 0) = false := decide_eq_false g3
    by_cases g4 : a ≥ 4294967296
    · have c4 : decide (a ≥ 4294967296) = true := decide_eq_true g4
      obtain ⟨q1, q2⟩ := bad (no fun g => by rw [Bool.and_eq_true, tmQ_iff, trB_iff] at g; omega)
      have L := lw_100010111 r f a
      have V : (whV r f a == 0) = true := q2
      refine evR_calls (I := numI) (v := .bool true) (ctxOf_ok libGL_ok (eq_none _)) (by kernel_rfl) Try.func13 rfl lps_nil L rfl (all2_R (.cons rfl (.cons rfl (.cons rfl .nil)))) (congrArg (fun b => some (Value.bool b)) V) W (Nat.zero_le _) (pickL_ok ?_ _)
      repeat' (first | exact cd_nil | refine cd_cons ?_ ?_)
      all_goals first | rfl | with_reducible assumption | exact eqB _
    have c4 : decide (a ≥ 4294967296) = false := decide_eq_false g4
    have q1 : tmQ f = true := tmQ_iff.2 (by omega)
    have q2 : trB a = true := trB_iff.2 (by omega)
    have q3 : (whV r f a == whV r f a) = true := beq_self_eq_true _
    have L := lw_10000001 r f a
    have V : (whE r f a == whE r f a) = true := beq_self_eq_true _
    refine evR_calls (I := numI) (v := .bool true) (ctxOf_ok libGL_ok (eq_none _)) (by kernel_rfl) Try.func13 rfl lps_nil L rfl (all2_R (.cons rfl (.cons rfl (.cons rfl .nil)))) (congrArg (fun b => some (Value.bool b)) V) W (Nat.zero_le _) (pickL_ok ?_ _)
    repeat' (first | exact cd_nil | refine cd_cons ?_ ?_)
    all_goals first | rfl | with_reducible assumption | exact eqB _
  · have k0 : (rtE r == 0) = false := by simpa using h
    have k1 : (rtE r != 0) = true := by simpa using h
    have e2 : whE r f a = rtE r := by unfold whE; rw [if_pos h]
    have q1 : (whE r f a == rtE r) = true := by rw [e2]; exact beq_self_eq_true _
    have q2 : (whV r f a == 0) = true := by
      have : whV r f a = 0 := by unfold whV; rw [if_neg (by omega)]
      rw [this]; rfl
    have L := lw_00111 r f a
    have V : (whV r f a == 0) = true := q2
    refine evR_calls (I := numI) (v := .bool true) (ctxOf_ok libGL_ok (eq_none _)) (by kernel_rfl) Try.func13 rfl lps_nil L rfl (all2_R (.cons rfl (.cons rfl (.cons rfl .nil)))) (congrArg (fun b => some (Value.bool b)) V) W (Nat.zero_le _) (pickL_ok ?_ _)
    repeat' (first | exact cd_nil | refine cd_cons ?_ ?_)
    all_goals first | rfl | with_reducible assumption | exact eqB _
end
end Go.Proofs.Ytoaoifiklnbknaa.AtRt

