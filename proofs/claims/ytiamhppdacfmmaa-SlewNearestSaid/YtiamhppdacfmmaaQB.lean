/-
  The loops of package slew and of the reference's axes.
  Conditions: those of each theorem.
-/
import Derived.Test.YtiamhppdacfmmaaQA
set_option linter.unusedVariables false
set_option linter.unusedSimpArgs false
namespace Go.Proofs.Ytiamhppdacfmmaa.AtSl
open Go.RowKit Ev Wd
open Go.Proofs.Ytiamhppdacfmmaa
variable {F : Type}
noncomputable section

abbrev bgS : FnSp F := sp2 (dInt .i64) (dInt .i64) (fun A v => aInt .i64 (brV A v)) (fun A v => [(decide (1 ≤ A) && decide (A ≤ 2147483648), true), (decide (v ≤ 2147483648), true)])
abbrev bhS : FnSp F := sp2 dAx (dInt .i64) (fun a v => aInt .i64 (brV a.ac v)) (fun a v => [(decide (1 ≤ a.ac) && decide (a.ac ≤ 2147483648), true), (decide (v ≤ 2147483648), true)])
noncomputable abbrev libB0 : List (Nat × FnSp Empty) := []
theorem libB0_ok : LibOk Try.prog noFacts (lib1 libB0) := (lib1_nil _ _)
set_option maxRecDepth 100000 in
theorem fl_1 (a : Ax) (d : Int) (c : Int) (rest : List (Nat × AV Empty)) : evView (ctxOf Try.prog noFacts (fun _ => false) libB0) 42 (false :: [false, false, true, true, true]) (loopAt (bodyOf Try.f50) [false, false, true, true, true]) ([(1, (.w (.one (.int .i64 d)))), (5, (.w (.one (.int .i64 c))))] ++ (ptrN 0 [2] ++ rest)) [⟨23, [.int .i64 a.mn, .int .i64 a.mx, .int .i64 a.sp, .int .i64 a.ac]⟩] 1 [1, 5, 2] [true] = some ((Ex.normal, [AV.w (AW.one (AC.int IntKind.i64 d)), AV.w (AW.one (AC.int IntKind.i64 (IntKind.i64.wrap (c + 1)))), AV.w (AW.one (AC.ptr 0 0))], [{ ty := 23, cs := [AC.int IntKind.i64 a.mn, AC.int IntKind.i64 a.mx, AC.int IntKind.i64 a.sp, AC.int IntKind.i64 a.ac] }]), (pickL [(decide ((2 : Int) = 0), false), (decide (d > IntKind.i64.wrap ((IntKind.i64.wrap (IntKind.i64.wrap (a.ac * c) * IntKind.i64.wrap (c + 1))).tdiv 2)), true)] [0, 1])) := by kernel_rfl
set_option maxRecDepth 100000 in
theorem flr_0 (a : Ax) (d : Int) (c : Int) (rest : List (Nat × AV Empty)) : evView (ctxOf Try.prog noFacts (fun _ => false) libB0) 42 (false :: [false, false, true, true, true]) (loopAt (bodyOf Try.f50) [false, false, true, true, true]) ([(1, (.w (.one (.int .i64 d)))), (5, (.w (.one (.int .i64 c))))] ++ (ptrN 0 [2] ++ rest)) [⟨23, [.int .i64 a.mn, .int .i64 a.mx, .int .i64 a.sp, .int .i64 a.ac]⟩] 1 [5, 1, 2] [false] = some ((Ex.exit 0, [AV.w (AW.one (AC.int IntKind.i64 c)), AV.w (AW.one (AC.int IntKind.i64 d)), AV.w (AW.one (AC.ptr 0 0))], [{ ty := 23, cs := [AC.int IntKind.i64 a.mn, AC.int IntKind.i64 a.mx, AC.int IntKind.i64 a.sp, AC.int IntKind.i64 a.ac] }]), (pickL [(decide ((2 : Int) = 0), false), (decide (d > IntKind.i64.wrap ((IntKind.i64.wrap (IntKind.i64.wrap (a.ac * c) * IntKind.i64.wrap (c + 1))).tdiv 2)), false)] [0, 1])) := by kernel_rfl
structure flT where
  a : Ax
  d : Int
  c : Int
def flP (a : Ax) (d : Int) (c : Int) : Prop := axE a = 0 ∧ 0 ≤ d ∧ d < 64 * a.sp ∧ 1 ≤ c ∧ c ≤ 4097
instance (a : Ax) (d : Int) (c : Int) : Decidable (flP a d c) := by unfold flP; infer_instance
def flTm (a : Ax) (d : Int) (c : Int) : List (Nat × AV Empty) := [(1, (.w (.one (.int .i64 d)))), (5, (.w (.one (.int .i64 c))))]
def flS : LpSt flT Empty where
  ps := [2]
  tm := fun t => flTm t.a t.d t.c
  hp := fun t => [⟨23, [.int .i64 t.a.mn, .int .i64 t.a.mx, .int .i64 t.a.sp, .int .i64 t.a.ac]⟩]
def flNx (a : Ax) (d : Int) (c : Int) : Nxt flT Empty := if d > a.ac * c * (c + 1) / 2 then .go ⟨a, d, c + 1⟩ else .out (.exit 0) [(5, .w (.one (.int .i64 c))), (1, .w (.one (.int .i64 d)))] [⟨23, [.int .i64 a.mn, .int .i64 a.mx, .int .i64 a.sp, .int .i64 a.ac]⟩]
def flStep (t : flT) : Nxt flT Empty := if flP t.a t.d t.c then flNx t.a t.d t.c else .bad
theorem fl_go {a : Ax} {d : Int} {c : Int} (h : flP a d c) : flStep ⟨a, d, c⟩ = flNx a d c := if_pos h
set_option maxRecDepth 100000 in
set_option maxHeartbeats 4000000 in
theorem fl_round (t : flT) (hb : (flStep t).isBad = false) (rest : List (Nat × AV Empty)) : ∃ fuel path r, evC (ctxOf Try.prog noFacts (fun _ => false) libB0) fuel 42 (false :: [false, false, true, true, true]) (loopAt (bodyOf Try.f50) [false, false, true, true, true]) (flS.tm t ++ (ptrN 0 flS.ps ++ rest)) (numb 0 (flS.hp t)) 1 path = some r ∧ (∀ p ∈ r.cd, p.1 = p.2) ∧ Gives flS 1 r (flStep t) := by
  obtain ⟨a, d, c⟩ := t
  by_cases ok : flP a d c
  · rw [fl_go ok]
    clear hb
    unfold flNx
    obtain ⟨h1, h2, h3, h4, h5⟩ := ok
    have ha := axE_ok.1 h1
    unfold okA at ha
    have e0 : IntKind.i64.wrap (c + 1) = c + 1 := v64 (by omega) (by omega)
    have p0 : 0 ≤ a.ac * c := Int.mul_nonneg (by omega) (by omega)
    have p1 : a.ac * c ≤ 1073741824 * 4097 := Int.le_trans (Int.mul_le_mul_of_nonneg_left h5 (show 0 ≤ a.ac by omega)) (by omega)
    have e1 : IntKind.i64.wrap (a.ac * c) = a.ac * c := v64 (by omega) (by omega)
    have p2 : 0 ≤ a.ac * c * (c + 1) := Int.mul_nonneg p0 (by omega)
    have p3 : a.ac * c * (c + 1) ≤ 18027594796498944 := Int.le_trans (Int.mul_le_mul_of_nonneg_left (show c + 1 ≤ 4098 by omega) p0) (by omega)
    have e2 : IntKind.i64.wrap (a.ac * c * (c + 1)) = a.ac * c * (c + 1) := v64 (by omega) (by omega)
    have e3 : (a.ac * c * (c + 1)).tdiv 2 = a.ac * c * (c + 1) / 2 := Int.tdiv_eq_ediv_of_nonneg p2
    have e4 : IntKind.i64.wrap (a.ac * c * (c + 1) / 2) = a.ac * c * (c + 1) / 2 := v64 (by omega) (by omega)
    by_cases hk : d > a.ac * c * (c + 1) / 2
    · have c1 : decide (d > a.ac * c * (c + 1) / 2) = true := decide_eq_true hk
      rw [if_pos hk]
      have L := fl_1 a d c rest
      rw [e1, e0, e2, e3, e4] at L
      refine round_go L (pickL_ok ?_ _) rfl rfl rfl rfl
      repeat' (first | exact cd_nil | refine cd_cons ?_ ?_)
      all_goals first | with_reducible rfl | with_reducible assumption | rfl | (simp; omega)
    · have c1 : decide (d > a.ac * c * (c + 1) / 2) = false := decide_eq_false hk
      rw [if_neg hk]
      have L := flr_0 a d c rest
      rw [e1, e0, e2, e3, e4] at L
      refine round_out L rfl (pickL_ok ?_ _) rfl rfl rfl
      repeat' (first | exact cd_nil | refine cd_cons ?_ ?_)
      all_goals first | with_reducible rfl | with_reducible assumption | rfl | (simp; omega)
  · exfalso
    have : flStep ⟨a, d, c⟩ = .bad := if_neg ok
    rw [this] at hb; cases hb
theorem fl_runs {a : Ax} {d : Int} (h1 : axE a = 0) (h2 : 0 ≤ d) (h3 : d < 64 * a.sp) : ∀ (n c : Nat), n + c = 4097 → 1 ≤ c → ∃ k, runs flStep k ⟨a, d, c⟩ = some (.exit 0, [(5, .w (.one (.int .i64 (cntV a.ac d n c)))), (1, .w (.one (.int .i64 d)))], [⟨23, [.int .i64 a.mn, .int .i64 a.mx, .int .i64 a.sp, .int .i64 a.ac]⟩])
  | 0, c, h, hc => by
    have ha := axE_ok.1 h1
    unfold okA at ha
    refine ⟨1, ?_⟩
    rw [runs, fl_go ⟨h1, h2, h3, by omega, by omega⟩]
    unfold flNx
    have h4 : 4096 * a.ac ≤ a.ac * tr (c + 1) := by
      have h := tr_ge c (by omega)
      rw [Int.mul_comm]
      exact Int.mul_le_mul_of_nonneg_left (by omega) (by omega)
    rw [dv2', if_neg (by omega)]
    rfl
  | n + 1, c, h, hc => by
    by_cases g : d > a.ac * (c : Int) * ((c : Int) + 1) / 2
    · obtain ⟨k, hk⟩ := fl_runs h1 h2 h3 n (c + 1) (by omega) (by omega)
      refine ⟨k + 1, ?_⟩
      rw [runs, fl_go ⟨h1, h2, h3, by omega, by omega⟩]
      unfold flNx cntV
      rw [if_pos g, if_pos g]
      exact hk
    · refine ⟨1, ?_⟩
      rw [runs, fl_go ⟨h1, h2, h3, by omega, by omega⟩]
      unfold flNx cntV
      rw [if_neg g, if_neg g]
def flD : LpDef flT Empty where
  ts := [1, 5]
  ps := [2]
  W := [1, 2, 5, 14, 15, 16, 17, 18, 19, 20, 21, 22, 23, 24, 25]
  dec := fun vs ks => match vs, ks with
    | [.w (.one (.int .i64 d)), .w (.one (.int .i64 c))], [⟨23, [.int .i64 x0, .int .i64 x1, .int .i64 x2, .int .i64 x3]⟩] => some ⟨⟨x0, x1, x2, x3⟩, d, c⟩
    | _, _ => none
  spec := fun t => some ((.exit 0), [(5, .w (.one (.int .i64 (cntV t.a.ac t.d 4096 1)))), (1, .w (.one (.int .i64 t.d)))], [⟨23, [.int .i64 t.a.mn, .int .i64 t.a.mx, .int .i64 t.a.sp, .int .i64 t.a.ac]⟩], [(decide (axE t.a = 0) && (decide (0 ≤ t.d) && (decide (t.d < 64 * t.a.sp) && decide (t.c = 1))), true)])
theorem flD_ok (x : Code) (hx : codeAt (bodyOf Try.f50) [false, false, true, true, true] = some (.loop x)) : LpOk Try.prog noFacts 42 x (flD.sp (fun _ => true)) := by
  obtain rfl := loopAt_eq hx
  refine lp_ok (c := ctxOf Try.prog noFacts (fun _ => false) libB0) (ctxOf_ok libB0_ok (eq_none _)) (by kernel_rfl) hx lps_nil (S := flS) (step := flStep) (fun _ _ => rfl) (by kernel_rfl) (by kernel_rfl) ?_ rfl (fun t e he => ?_) (fun t hb rest => fl_round t hb rest) ?_
  · intro vs ks s hv1 h hv2
    simp only [flD] at h
    split at h
    · cases h
      exact ⟨rfl, fun e he => he⟩
    · cases h
  · simp only [flS, flTm, List.mem_cons, List.not_mem_nil, or_false] at he
    rcases he with rfl | rfl <;> rfl
  · intro s ex outs wb cd h hc
    obtain ⟨a, d, c⟩ := s
    simp only [flD] at h
    cases h
    have := ca1 hc
    simp only [Bool.and_eq_true, decide_eq_true_eq] at this
    obtain ⟨h1, h2, h3, rfl⟩ := this
    exact fl_runs h1 h2 h3 4096 1 (by omega) (by omega)
set_option maxRecDepth 100000 in
theorem bk_1 (b : Int) (v : Int) (s : Int) (rest : List (Nat × AV Empty)) : evView (ctxOf Try.prog noFacts (fun _ => false) libB0) 15 (false :: [false, false, true, true]) (loopAt (bodyOf Try.f51) [false, false, true, true]) ([(0, (.w (.one (.int .i64 b)))), (1, (.w (.one (.int .i64 v)))), (5, (.w (.one (.int .i64 s))))] ++ (ptrN 0 [] ++ rest)) [] 0 [0, 1, 5] [true] = some ((Ex.normal, [AV.w (AW.one (AC.int IntKind.i64 b)), AV.w (AW.one (AC.int IntKind.i64 (IntKind.i64.wrap (v - b)))), AV.w (AW.one (AC.int IntKind.i64 (IntKind.i64.wrap (s + v))))], []), (pickL [(decide (v > 0), true)] [0])) := by kernel_rfl
set_option maxRecDepth 100000 in
theorem bkr_0 (b : Int) (v : Int) (s : Int) (rest : List (Nat × AV Empty)) : evView (ctxOf Try.prog noFacts (fun _ => false) libB0) 15 (false :: [false, false, true, true]) (loopAt (bodyOf Try.f51) [false, false, true, true]) ([(0, (.w (.one (.int .i64 b)))), (1, (.w (.one (.int .i64 v)))), (5, (.w (.one (.int .i64 s))))] ++ (ptrN 0 [] ++ rest)) [] 0 [5] [false] = some ((Ex.exit 0, [AV.w (AW.one (AC.int IntKind.i64 s))], []), (pickL [(decide (v > 0), false)] [0])) := by kernel_rfl
theorem brV_sq {A v : Int} (hA : 1 ≤ A) (hv : v ≤ 2147483648) : brV A v ≤ 4611686018427387904 := by
  by_cases h : 0 < v
  · have h1 := brV_le hA v.toNat v (by
      have : 1 * ((v.toNat : Nat) : Int) ≤ A * ((v.toNat : Nat) : Int) := Int.mul_le_mul_of_nonneg_right hA (by omega)
      omega) (by omega)
    have h2 : ((v.toNat : Nat) : Int) * v ≤ 2147483648 * v := Int.mul_le_mul_of_nonneg_right (by omega) (by omega)
    omega
  · rw [brV_neg (by omega)]; omega
structure bkT where
  b : Int
  v : Int
  s : Int
def bkP (b : Int) (v : Int) (s : Int) : Prop := (1 ≤ b ∧ b ≤ 2147483648) ∧ v ≤ 2147483648 ∧ 0 ≤ s ∧ s + brV b v ≤ 4611686018427387904
instance (b : Int) (v : Int) (s : Int) : Decidable (bkP b v s) := by unfold bkP; infer_instance
def bkTm (b : Int) (v : Int) (s : Int) : List (Nat × AV Empty) := [(0, (.w (.one (.int .i64 b)))), (1, (.w (.one (.int .i64 v)))), (5, (.w (.one (.int .i64 s))))]
def bkS : LpSt bkT Empty where
  ps := []
  tm := fun t => bkTm t.b t.v t.s
  hp := fun t => []
def bkNx (b : Int) (v : Int) (s : Int) : Nxt bkT Empty := if v > 0 then .go ⟨b, v - b, s + v⟩ else .out (.exit 0) [(5, .w (.one (.int .i64 s)))] []
def bkStep (t : bkT) : Nxt bkT Empty := if bkP t.b t.v t.s then bkNx t.b t.v t.s else .bad
theorem bk_go {b v s : Int} (h : bkP b v s) : bkStep ⟨b, v, s⟩ = bkNx b v s := if_pos h
set_option maxRecDepth 100000 in
set_option maxHeartbeats 4000000 in
theorem bk_round (t : bkT) (hb : (bkStep t).isBad = false) (rest : List (Nat × AV Empty)) : ∃ fuel path r, evC (ctxOf Try.prog noFacts (fun _ => false) libB0) fuel 15 (false :: [false, false, true, true]) (loopAt (bodyOf Try.f51) [false, false, true, true]) (bkS.tm t ++ (ptrN 0 bkS.ps ++ rest)) (numb 0 (bkS.hp t)) 0 path = some r ∧ (∀ p ∈ r.cd, p.1 = p.2) ∧ Gives bkS 0 r (bkStep t) := by
  obtain ⟨b, v, s⟩ := t
  by_cases ok : bkP b v s
  · rw [bk_go ok]
    clear hb
    unfold bkNx
    obtain ⟨h1, h2, h3, h4⟩ := ok
    have hb := brV_self (v := v) h1.1
    by_cases hk : v > 0
    · have c1 : decide (v > 0) = true := decide_eq_true hk
      have e0 : IntKind.i64.wrap (v - b) = v - b := v64 (by omega) (by omega)
      have e1 : IntKind.i64.wrap (s + v) = s + v := v64 (by omega) (by omega)
      rw [if_pos hk]
      have L := bk_1 b v s rest
      rw [e0, e1] at L
      refine round_go L (pickL_ok ?_ _) rfl rfl rfl rfl
      repeat' (first | exact cd_nil | refine cd_cons ?_ ?_)
      all_goals first | with_reducible rfl | with_reducible assumption | rfl | (simp; omega)
    · have c1 : decide (v > 0) = false := decide_eq_false hk
      rw [if_neg hk]
      have L := bkr_0 b v s rest
      refine round_out L rfl (pickL_ok ?_ _) rfl rfl rfl
      repeat' (first | exact cd_nil | refine cd_cons ?_ ?_)
      all_goals first | with_reducible rfl | with_reducible assumption | rfl | (simp; omega)
  · exfalso
    have : bkStep ⟨b, v, s⟩ = .bad := if_neg ok
    rw [this] at hb; cases hb
theorem bk_runs {b : Int} (h1 : 1 ≤ b ∧ b ≤ 2147483648) : ∀ (n : Nat) (v s : Int), v.toNat ≤ n → v ≤ 2147483648 → 0 ≤ s → s + brV b v ≤ 4611686018427387904 → ∃ k, runs bkStep k ⟨b, v, s⟩ = some (.exit 0, [(5, .w (.one (.int .i64 (s + brV b v))))], [])
  | n, v, s, hn, h2, h3, h4 => by
    by_cases hk : v > 0
    · have e := brV_pos h1.1 hk
      obtain ⟨n, rfl⟩ : ∃ k, n = k + 1 := ⟨n - 1, by omega⟩
      obtain ⟨k, hr⟩ := bk_runs h1 n (v - b) (s + v) (by omega) (by omega) (by omega) (by omega)
      refine ⟨k + 1, ?_⟩
      rw [runs, bk_go ⟨h1, h2, h3, h4⟩]
      unfold bkNx
      rw [if_pos hk, e, ← Int.add_assoc]
      exact hr
    · refine ⟨1, ?_⟩
      rw [runs, bk_go ⟨h1, h2, h3, h4⟩]
      unfold bkNx
      rw [if_neg hk, brV_neg (by omega), Int.add_zero]
termination_by n => n
def bkD : LpDef bkT Empty where
  ts := [0, 1, 5]
  ps := []
  W := [0, 1, 5, 6, 7, 8, 9, 10, 11, 12, 13]
  dec := fun vs ks => match vs, ks with
    | [.w (.one (.int .i64 b)), .w (.one (.int .i64 v)), .w (.one (.int .i64 s))], [] => some ⟨b, v, s⟩
    | _, _ => none
  spec := fun t => some ((.exit 0), [(5, .w (.one (.int .i64 (t.s + brV t.b t.v))))], [], [(decide (1 ≤ t.b) && decide (t.b ≤ 2147483648), true), (decide (t.v ≤ 2147483648), true), (decide (t.s = 0), true)])
theorem bkD_ok (x : Code) (hx : codeAt (bodyOf Try.f51) [false, false, true, true] = some (.loop x)) : LpOk Try.prog noFacts 15 x (bkD.sp (fun _ => false)) := by
  obtain rfl := loopAt_eq hx
  refine lp_ok (c := ctxOf Try.prog noFacts (fun _ => false) libB0) (ctxOf_ok libB0_ok (eq_none _)) (by kernel_rfl) hx lps_nil (S := bkS) (step := bkStep) (fun _ h => by cases h) (by kernel_rfl) (by kernel_rfl) ?_ rfl (fun t e he => ?_) (fun t hb rest => bk_round t hb rest) ?_
  · intro vs ks s hv1 h hv2
    simp only [bkD] at h
    split at h
    · cases h
      exact ⟨rfl, fun e he => he⟩
    · cases h
  · simp only [bkS, bkTm, List.mem_cons, List.not_mem_nil, or_false] at he
    rcases he with rfl | rfl | rfl <;> rfl
  · intro s ex outs wb cd h hc
    obtain ⟨b, v, s⟩ := s
    simp only [bkD] at h
    cases h
    obtain ⟨g1, g2, g3⟩ := ca3 hc
    simp only [Bool.and_eq_true, decide_eq_true_eq] at g1 g2 g3
    obtain rfl := g3
    refine bk_runs g1 _ v 0 (Nat.le_refl _) g2 (by omega) ?_
    have := brV_sq g1.1 g2
    omega
set_option maxRecDepth 100000 in
theorem bs_1 (a : Ax) (v : Int) (s : Int) (rest : List (Nat × AV Empty)) : evView (ctxOf Try.prog noFacts (fun _ => false) libB0) 16 (false :: [false, false, true, true]) (loopAt (bodyOf Try.f45) [false, false, true, true]) ([(1, (.w (.one (.int .i64 v)))), (5, (.w (.one (.int .i64 s))))] ++ (ptrN 0 [2] ++ rest)) [⟨23, [.int .i64 a.mn, .int .i64 a.mx, .int .i64 a.sp, .int .i64 a.ac]⟩] 1 [1, 5, 2] [true] = some ((Ex.normal, [AV.w (AW.one (AC.int IntKind.i64 (IntKind.i64.wrap (v - a.ac)))), AV.w (AW.one (AC.int IntKind.i64 (IntKind.i64.wrap (s + v)))), AV.w (AW.one (AC.ptr 0 0))], [{ ty := 23, cs := [AC.int IntKind.i64 a.mn, AC.int IntKind.i64 a.mx, AC.int IntKind.i64 a.sp, AC.int IntKind.i64 a.ac] }]), (pickL [(decide (v > 0), true)] [0])) := by kernel_rfl
set_option maxRecDepth 100000 in
theorem bsr_0 (a : Ax) (v : Int) (s : Int) (rest : List (Nat × AV Empty)) : evView (ctxOf Try.prog noFacts (fun _ => false) libB0) 16 (false :: [false, false, true, true]) (loopAt (bodyOf Try.f45) [false, false, true, true]) ([(1, (.w (.one (.int .i64 v)))), (5, (.w (.one (.int .i64 s))))] ++ (ptrN 0 [2] ++ rest)) [⟨23, [.int .i64 a.mn, .int .i64 a.mx, .int .i64 a.sp, .int .i64 a.ac]⟩] 1 [5, 2] [false] = some ((Ex.exit 0, [AV.w (AW.one (AC.int IntKind.i64 s)), AV.w (AW.one (AC.ptr 0 0))], [{ ty := 23, cs := [AC.int IntKind.i64 a.mn, AC.int IntKind.i64 a.mx, AC.int IntKind.i64 a.sp, AC.int IntKind.i64 a.ac] }]), (pickL [(decide (v > 0), false)] [0])) := by kernel_rfl
structure bsT where
  a : Ax
  v : Int
  s : Int
def bsP (a : Ax) (v : Int) (s : Int) : Prop := (1 ≤ a.ac ∧ a.ac ≤ 2147483648) ∧ v ≤ 2147483648 ∧ 0 ≤ s ∧ s + brV a.ac v ≤ 4611686018427387904
instance (a : Ax) (v : Int) (s : Int) : Decidable (bsP a v s) := by unfold bsP; infer_instance
def bsTm (a : Ax) (v : Int) (s : Int) : List (Nat × AV Empty) := [(1, (.w (.one (.int .i64 v)))), (5, (.w (.one (.int .i64 s))))]
def bsS : LpSt bsT Empty where
  ps := [2]
  tm := fun t => bsTm t.a t.v t.s
  hp := fun t => [⟨23, [.int .i64 t.a.mn, .int .i64 t.a.mx, .int .i64 t.a.sp, .int .i64 t.a.ac]⟩]
def bsNx (a : Ax) (v : Int) (s : Int) : Nxt bsT Empty := if v > 0 then .go ⟨a, v - a.ac, s + v⟩ else .out (.exit 0) [(5, .w (.one (.int .i64 s)))] [⟨23, [.int .i64 a.mn, .int .i64 a.mx, .int .i64 a.sp, .int .i64 a.ac]⟩]
def bsStep (t : bsT) : Nxt bsT Empty := if bsP t.a t.v t.s then bsNx t.a t.v t.s else .bad
theorem bs_go {a : Ax} {v : Int} {s : Int} (h : bsP a v s) : bsStep ⟨a, v, s⟩ = bsNx a v s := if_pos h
set_option maxRecDepth 100000 in
set_option maxHeartbeats 4000000 in
theorem bs_round (t : bsT) (hb : (bsStep t).isBad = false) (rest : List (Nat × AV Empty)) : ∃ fuel path r, evC (ctxOf Try.prog noFacts (fun _ => false) libB0) fuel 16 (false :: [false, false, true, true]) (loopAt (bodyOf Try.f45) [false, false, true, true]) (bsS.tm t ++ (ptrN 0 bsS.ps ++ rest)) (numb 0 (bsS.hp t)) 1 path = some r ∧ (∀ p ∈ r.cd, p.1 = p.2) ∧ Gives bsS 1 r (bsStep t) := by
  obtain ⟨a, v, s⟩ := t
  by_cases ok : bsP a v s
  · rw [bs_go ok]
    clear hb
    unfold bsNx
    obtain ⟨h1, h2, h3, h4⟩ := ok
    have hb := brV_self (v := v) h1.1
    by_cases hk : v > 0
    · have c1 : decide (v > 0) = true := decide_eq_true hk
      have e0 : IntKind.i64.wrap (v - a.ac) = v - a.ac := v64 (by omega) (by omega)
      have e1 : IntKind.i64.wrap (s + v) = s + v := v64 (by omega) (by omega)
      rw [if_pos hk]
      have L := bs_1 a v s rest
      rw [e0, e1] at L
      refine round_go L (pickL_ok ?_ _) rfl rfl rfl rfl
      repeat' (first | exact cd_nil | refine cd_cons ?_ ?_)
      all_goals first | with_reducible rfl | with_reducible assumption | rfl | (simp; omega)
    · have c1 : decide (v > 0) = false := decide_eq_false hk
      rw [if_neg hk]
      have L := bsr_0 a v s rest
      refine round_out L rfl (pickL_ok ?_ _) rfl rfl rfl
      repeat' (first | exact cd_nil | refine cd_cons ?_ ?_)
      all_goals first | with_reducible rfl | with_reducible assumption | rfl | (simp; omega)
  · exfalso
    have : bsStep ⟨a, v, s⟩ = .bad := if_neg ok
    rw [this] at hb; cases hb
theorem bs_runs {a : Ax} (h1 : 1 ≤ a.ac ∧ a.ac ≤ 2147483648) : ∀ (n : Nat) (v s : Int), v.toNat ≤ n → v ≤ 2147483648 → 0 ≤ s → s + brV a.ac v ≤ 4611686018427387904 → ∃ k, runs bsStep k ⟨a, v, s⟩ = some (.exit 0, [(5, .w (.one (.int .i64 (s + brV a.ac v))))], [⟨23, [.int .i64 a.mn, .int .i64 a.mx, .int .i64 a.sp, .int .i64 a.ac]⟩])
  | n, v, s, hn, h2, h3, h4 => by
    by_cases hk : v > 0
    · have e := brV_pos h1.1 hk
      obtain ⟨n, rfl⟩ : ∃ k, n = k + 1 := ⟨n - 1, by omega⟩
      obtain ⟨k, hr⟩ := bs_runs h1 n (v - a.ac) (s + v) (by omega) (by omega) (by omega) (by omega)
      refine ⟨k + 1, ?_⟩
      rw [runs, bs_go ⟨h1, h2, h3, h4⟩]
      unfold bsNx
      rw [if_pos hk, e, ← Int.add_assoc]
      exact hr
    · refine ⟨1, ?_⟩
      rw [runs, bs_go ⟨h1, h2, h3, h4⟩]
      unfold bsNx
      rw [if_neg hk, brV_neg (by omega), Int.add_zero]
termination_by n => n
def bsD : LpDef bsT Empty where
  ts := [1, 5]
  ps := [2]
  W := [1, 2, 5, 6, 7, 8, 9, 10, 11, 12, 13, 14]
  dec := fun vs ks => match vs, ks with
    | [.w (.one (.int .i64 v)), .w (.one (.int .i64 s))], [⟨23, [.int .i64 x0, .int .i64 x1, .int .i64 x2, .int .i64 x3]⟩] => some ⟨⟨x0, x1, x2, x3⟩, v, s⟩
    | _, _ => none
  spec := fun t => some ((.exit 0), [(5, .w (.one (.int .i64 (t.s + brV t.a.ac t.v))))], [⟨23, [.int .i64 t.a.mn, .int .i64 t.a.mx, .int .i64 t.a.sp, .int .i64 t.a.ac]⟩], [(decide (1 ≤ t.a.ac) && decide (t.a.ac ≤ 2147483648), true), (decide (t.v ≤ 2147483648), true), (decide (t.s = 0), true)])
theorem bsD_ok (x : Code) (hx : codeAt (bodyOf Try.f45) [false, false, true, true] = some (.loop x)) : LpOk Try.prog noFacts 16 x (bsD.sp (fun _ => true)) := by
  obtain rfl := loopAt_eq hx
  refine lp_ok (c := ctxOf Try.prog noFacts (fun _ => false) libB0) (ctxOf_ok libB0_ok (eq_none _)) (by kernel_rfl) hx lps_nil (S := bsS) (step := bsStep) (fun _ _ => rfl) (by kernel_rfl) (by kernel_rfl) ?_ rfl (fun t e he => ?_) (fun t hb rest => bs_round t hb rest) ?_
  · intro vs ks s hv1 h hv2
    simp only [bsD] at h
    split at h
    · cases h
      exact ⟨rfl, fun e he => he⟩
    · cases h
  · simp only [bsS, bsTm, List.mem_cons, List.not_mem_nil, or_false] at he
    rcases he with rfl | rfl <;> rfl
  · intro s ex outs wb cd h hc
    obtain ⟨a, v, s⟩ := s
    simp only [bsD] at h
    cases h
    obtain ⟨g1, g2, g3⟩ := ca3 hc
    simp only [Bool.and_eq_true, decide_eq_true_eq] at g1 g2 g3
    obtain rfl := g3
    refine bs_runs g1 _ v 0 (Nat.le_refl _) g2 (by omega) ?_
    have := brV_sq g1.1 g2
    omega
set_option maxRecDepth 100000 in
theorem so_1 (g : Int) (c : Int) (l : Int) (rest : List (Nat × AV Empty)) : evView (ctxOf Try.prog noFacts (fun _ => false) libB0) 24 (false :: [false, true, false, true, true, true, true]) (loopAt (bodyOf Try.f31) [false, true, false, true, true, true, true]) ([(5, (.w (.one (.int .i64 g)))), (6, (.w (.one (.int .i64 c)))), (7, (.w (.one (.int .i64 l))))] ++ (ptrN 0 [] ++ rest)) [] 0 [5, 6, 7] [true] = some ((Ex.normal, [AV.w (AW.one (AC.int IntKind.i64 g)), AV.w (AW.one (AC.int IntKind.i64 (IntKind.i64.wrap (c + 1)))), AV.w (AW.one (AC.int IntKind.i64 (IntKind.i64.wrap (l - g))))], []), (pickL [(decide (l > 0), true)] [0])) := by kernel_rfl
set_option maxRecDepth 100000 in
theorem sor_0 (g : Int) (c : Int) (l : Int) (rest : List (Nat × AV Empty)) : evView (ctxOf Try.prog noFacts (fun _ => false) libB0) 24 (false :: [false, true, false, true, true, true, true]) (loopAt (bodyOf Try.f31) [false, true, false, true, true, true, true]) ([(5, (.w (.one (.int .i64 g)))), (6, (.w (.one (.int .i64 c)))), (7, (.w (.one (.int .i64 l))))] ++ (ptrN 0 [] ++ rest)) [] 0 [6] [false] = some ((Ex.exit 0, [AV.w (AW.one (AC.int IntKind.i64 c))], []), (pickL [(decide (l > 0), false)] [0])) := by kernel_rfl
def clv (g l : Int) : Int := if 0 < l then -(-l / g) else 0
theorem clv_go {g l : Int} (hg : 1 ≤ g) (h : 0 < l) : clv g l = 1 + clv g (l - g) := by
  unfold clv
  rw [if_pos h]
  have e : -(l - g) / g = -l / g + 1 := by
    rw [show -(l - g) = -l + 1 * g by omega, Int.add_mul_ediv_right _ _ (by omega)]
  split
  · rw [e]; omega
  · have : -(l - g) / g = 0 ∨ 0 ≤ -(l - g) / g := .inr (Int.ediv_nonneg (by omega) (by omega))
    have h2 : -l / g < 0 := Int.ediv_neg_of_neg_of_pos (by omega) (by omega)
    omega
structure soT where
  g : Int
  c : Int
  l : Int
def soP (g : Int) (c : Int) (l : Int) : Prop := (60000 ≤ g ∧ g ≤ 1800000) ∧ -1800000 ≤ l ∧ l ≤ 4294967296 ∧ 0 ≤ c ∧ c + l ≤ 8589934592 ∧ c ≤ 8589934592
instance (g : Int) (c : Int) (l : Int) : Decidable (soP g c l) := by unfold soP; infer_instance
def soTm (g : Int) (c : Int) (l : Int) : List (Nat × AV Empty) := [(5, (.w (.one (.int .i64 g)))), (6, (.w (.one (.int .i64 c)))), (7, (.w (.one (.int .i64 l))))]
def soS : LpSt soT Empty where
  ps := []
  tm := fun t => soTm t.g t.c t.l
  hp := fun t => []
def soNx (g : Int) (c : Int) (l : Int) : Nxt soT Empty := if 0 < l then .go ⟨g, c + 1, l - g⟩ else .out (.exit 0) [(6, .w (.one (.int .i64 c)))] []
def soStep (t : soT) : Nxt soT Empty := if soP t.g t.c t.l then soNx t.g t.c t.l else .bad
theorem so_go {g c l : Int} (h : soP g c l) : soStep ⟨g, c, l⟩ = soNx g c l := if_pos h
set_option maxRecDepth 100000 in
set_option maxHeartbeats 4000000 in
theorem so_round (t : soT) (hb : (soStep t).isBad = false) (rest : List (Nat × AV Empty)) : ∃ fuel path r, evC (ctxOf Try.prog noFacts (fun _ => false) libB0) fuel 24 (false :: [false, true, false, true, true, true, true]) (loopAt (bodyOf Try.f31) [false, true, false, true, true, true, true]) (soS.tm t ++ (ptrN 0 soS.ps ++ rest)) (numb 0 (soS.hp t)) 0 path = some r ∧ (∀ p ∈ r.cd, p.1 = p.2) ∧ Gives soS 0 r (soStep t) := by
  obtain ⟨g, c, l⟩ := t
  by_cases ok : soP g c l
  · rw [so_go ok]
    clear hb
    unfold soNx
    obtain ⟨h1, h2, h3, h4, h5, h6⟩ := ok
    have e0 : IntKind.i64.wrap (c + 1) = c + 1 := v64 (by omega) (by omega)
    have e1 : IntKind.i64.wrap (l - g) = l - g := v64 (by omega) (by omega)
    by_cases hk : 0 < l
    · have c1 : decide (l > 0) = true := decide_eq_true hk
      rw [if_pos hk]
      have L := so_1 g c l rest
      rw [e0, e1] at L
      refine round_go L (pickL_ok ?_ _) rfl rfl rfl rfl
      repeat' (first | exact cd_nil | refine cd_cons ?_ ?_)
      all_goals first | with_reducible rfl | with_reducible assumption | rfl | (simp; omega)
    · have c1 : decide (l > 0) = false := decide_eq_false hk
      rw [if_neg hk]
      have L := sor_0 g c l rest
      refine round_out L rfl (pickL_ok ?_ _) rfl rfl rfl
      repeat' (first | exact cd_nil | refine cd_cons ?_ ?_)
      all_goals first | with_reducible rfl | with_reducible assumption | rfl | (simp; omega)
  · exfalso
    have : soStep ⟨g, c, l⟩ = .bad := if_neg ok
    rw [this] at hb; cases hb
theorem so_runs {g : Int} (h1 : 60000 ≤ g ∧ g ≤ 1800000) : ∀ (n : Nat) (c l : Int), l.toNat ≤ n → -1800000 ≤ l → l ≤ 4294967296 → 0 ≤ c → c + l ≤ 8589934592 → c ≤ 8589934592 → ∃ k, runs soStep k ⟨g, c, l⟩ = some (.exit 0, [(6, .w (.one (.int .i64 (c + clv g l))))], [])
  | n, c, l, hn, h2, h3, h4, h5, h6 => by
    by_cases hk : 0 < l
    · obtain ⟨n, rfl⟩ : ∃ k, n = k + 1 := ⟨n - 1, by omega⟩
      obtain ⟨k, hr⟩ := so_runs h1 n (c + 1) (l - g) (by omega) (by omega) (by omega) (by omega) (by omega) (by omega)
      refine ⟨k + 1, ?_⟩
      rw [runs, so_go ⟨h1, h2, h3, h4, h5, h6⟩]
      unfold soNx
      rw [if_pos hk, clv_go (by omega) hk, ← Int.add_assoc]
      exact hr
    · refine ⟨1, ?_⟩
      rw [runs, so_go ⟨h1, h2, h3, h4, h5, h6⟩]
      unfold soNx
      rw [if_neg hk, show clv g l = 0 from if_neg hk, Int.add_zero]
termination_by n => n
def soD : LpDef soT Empty where
  ts := [5, 6, 7]
  ps := []
  W := [5, 6, 7, 16, 17, 18, 19, 20, 21, 22]
  dec := fun vs ks => match vs, ks with
    | [.w (.one (.int .i64 g)), .w (.one (.int .i64 c)), .w (.one (.int .i64 l))], [] => some ⟨g, c, l⟩
    | _, _ => none
  spec := fun t => some ((.exit 0), [(6, .w (.one (.int .i64 (clv t.g t.l))))], [], [(decide (60000 ≤ t.g) && (decide (t.g ≤ 1800000) && (decide (0 ≤ t.l) && (decide (t.l ≤ 4294967296) && decide (t.c = 0)))), true)])
theorem soD_ok (x : Code) (hx : codeAt (bodyOf Try.f31) [false, true, false, true, true, true, true] = some (.loop x)) : LpOk Try.prog noFacts 24 x (soD.sp (fun _ => false)) := by
  obtain rfl := loopAt_eq hx
  refine lp_ok (c := ctxOf Try.prog noFacts (fun _ => false) libB0) (ctxOf_ok libB0_ok (eq_none _)) (by kernel_rfl) hx lps_nil (S := soS) (step := soStep) (fun _ h => by cases h) (by kernel_rfl) (by kernel_rfl) ?_ rfl (fun t e he => ?_) (fun t hb rest => so_round t hb rest) ?_
  · intro vs ks s hv1 h hv2
    simp only [soD] at h
    split at h
    · cases h
      exact ⟨rfl, fun e he => he⟩
    · cases h
  · simp only [soS, soTm, List.mem_cons, List.not_mem_nil, or_false] at he
    rcases he with rfl | rfl | rfl <;> rfl
  · intro s ex outs wb cd h hc
    obtain ⟨g, c, l⟩ := s
    simp only [soD] at h
    cases h
    have := ca1 hc
    simp only [Bool.and_eq_true, decide_eq_true_eq] at this
    obtain ⟨h1, h2, h3, h4, rfl⟩ := this
    have := so_runs ⟨h1, h2⟩ _ 0 l (Nat.le_refl _) (by omega) h4 (by omega) (by omega) (by omega)
    rw [Int.zero_add] at this
    exact this
noncomputable abbrev libB4 : List (Nat × FnSp Empty) := [(21, inS), (49, dsS)]
theorem libB4_ok : LibOk Try.prog noFacts (lib1 libB4) := (lib1_cons (sp2_ok fun a p _ => ⟨_, rfl, wit_pl a p⟩) Try.call21 (lib1_cons (sp2_ok fun p q hc => ⟨_, rfl, dis_pl p q (ca2 hc).1 (ca2 hc).2⟩) Try.call49 (lib1_nil _ _)))
set_option maxRecDepth 100000 in
theorem tlt_111 (a : Ax) (x : Int) (r : Int) (be : Int) (k : Int) (rest : List (Nat × AV Empty)) : evView (ctxOf Try.prog noFacts (fun _ => false) libB4) 53 (false :: [false, true, false, true, true, true, true, true, true]) (loopAt (bodyOf Try.f23) [false, true, false, true, true, true, true, true, true]) ([(1, (.w (.one (.int .i64 x)))), (9, (.w (.one (.int .i64 r)))), (11, (.w (.one (.int .i64 be)))), (12, (.w (.one (.int .i64 k)))), (10, (.w (.one (.yes true))))] ++ (ptrN 0 [3] ++ rest)) [⟨23, [.int .i64 a.mn, .int .i64 a.mx, .int .i64 a.sp, .int .i64 a.ac]⟩] 1 [1, 9, 11, 12, 10, 3] [true, true, true] = some ((Ex.normal, [AV.w (AW.one (AC.int IntKind.i64 x)), AV.w (AW.one (AC.int IntKind.i64 r)), AV.w (AW.one (AC.int IntKind.i64 (IntKind.i64.wrap (r + IntKind.i64.wrap (k * 4294967296))))), AV.w (AW.one (AC.int IntKind.i64 (IntKind.i64.wrap (k + 1)))), AV.w (AW.one (AC.yes true)), AV.w (AW.one (AC.ptr 0 0))], [{ ty := 23, cs := [AC.int IntKind.i64 a.mn, AC.int IntKind.i64 a.mx, AC.int IntKind.i64 a.sp, AC.int IntKind.i64 a.ac] }]), (pickL [(decide (k ≤ 6), true), (inA a (IntKind.i64.wrap (r + IntKind.i64.wrap (k * 4294967296))), true), (!true, false), (rgB (IntKind.i64.wrap (r + IntKind.i64.wrap (k * 4294967296))), true), (rgB x, true), (rgB be, true), (decide (dst (IntKind.i64.wrap (r + IntKind.i64.wrap (k * 4294967296))) x < dst be x), true)] [0, 1, 1, 1, 2, 2, 2, 3, 4, 2, 2, 2, 5, 4, 2, 1, 2, 1, 6])) := by kernel_rfl
set_option maxRecDepth 100000 in
theorem tlt_110 (a : Ax) (x : Int) (r : Int) (be : Int) (k : Int) (rest : List (Nat × AV Empty)) : evView (ctxOf Try.prog noFacts (fun _ => false) libB4) 53 (false :: [false, true, false, true, true, true, true, true, true]) (loopAt (bodyOf Try.f23) [false, true, false, true, true, true, true, true, true]) ([(1, (.w (.one (.int .i64 x)))), (9, (.w (.one (.int .i64 r)))), (11, (.w (.one (.int .i64 be)))), (12, (.w (.one (.int .i64 k)))), (10, (.w (.one (.yes true))))] ++ (ptrN 0 [3] ++ rest)) [⟨23, [.int .i64 a.mn, .int .i64 a.mx, .int .i64 a.sp, .int .i64 a.ac]⟩] 1 [1, 9, 11, 12, 10, 3] [true, true, false] = some ((Ex.normal, [AV.w (AW.one (AC.int IntKind.i64 x)), AV.w (AW.one (AC.int IntKind.i64 r)), AV.w (AW.one (AC.int IntKind.i64 be)), AV.w (AW.one (AC.int IntKind.i64 (IntKind.i64.wrap (k + 1)))), AV.w (AW.one (AC.yes true)), AV.w (AW.one (AC.ptr 0 0))], [{ ty := 23, cs := [AC.int IntKind.i64 a.mn, AC.int IntKind.i64 a.mx, AC.int IntKind.i64 a.sp, AC.int IntKind.i64 a.ac] }]), (pickL [(decide (k ≤ 6), true), (inA a (IntKind.i64.wrap (r + IntKind.i64.wrap (k * 4294967296))), true), (!true, false), (rgB (IntKind.i64.wrap (r + IntKind.i64.wrap (k * 4294967296))), true), (rgB x, true), (rgB be, true), (decide (dst (IntKind.i64.wrap (r + IntKind.i64.wrap (k * 4294967296))) x < dst be x), false)] [0, 1, 1, 1, 2, 2, 2, 3, 4, 2, 2, 2, 5, 4, 2, 1, 2, 1, 6])) := by kernel_rfl
set_option maxRecDepth 100000 in
theorem tlt_10 (a : Ax) (x : Int) (r : Int) (be : Int) (k : Int) (rest : List (Nat × AV Empty)) : evView (ctxOf Try.prog noFacts (fun _ => false) libB4) 53 (false :: [false, true, false, true, true, true, true, true, true]) (loopAt (bodyOf Try.f23) [false, true, false, true, true, true, true, true, true]) ([(1, (.w (.one (.int .i64 x)))), (9, (.w (.one (.int .i64 r)))), (11, (.w (.one (.int .i64 be)))), (12, (.w (.one (.int .i64 k)))), (10, (.w (.one (.yes true))))] ++ (ptrN 0 [3] ++ rest)) [⟨23, [.int .i64 a.mn, .int .i64 a.mx, .int .i64 a.sp, .int .i64 a.ac]⟩] 1 [1, 9, 11, 12, 10, 3] [true, false] = some ((Ex.normal, [AV.w (AW.one (AC.int IntKind.i64 x)), AV.w (AW.one (AC.int IntKind.i64 r)), AV.w (AW.one (AC.int IntKind.i64 be)), AV.w (AW.one (AC.int IntKind.i64 (IntKind.i64.wrap (k + 1)))), AV.w (AW.one (AC.yes true)), AV.w (AW.one (AC.ptr 0 0))], [{ ty := 23, cs := [AC.int IntKind.i64 a.mn, AC.int IntKind.i64 a.mx, AC.int IntKind.i64 a.sp, AC.int IntKind.i64 a.ac] }]), (pickL [(decide (k ≤ 6), true), (inA a (IntKind.i64.wrap (r + IntKind.i64.wrap (k * 4294967296))), false), (false, false)] [0, 1, 1, 1, 1, 1, 2])) := by kernel_rfl
set_option maxRecDepth 100000 in
theorem tltr_0 (a : Ax) (x : Int) (r : Int) (be : Int) (k : Int) (rest : List (Nat × AV Empty)) : evView (ctxOf Try.prog noFacts (fun _ => false) libB4) 53 (false :: [false, true, false, true, true, true, true, true, true]) (loopAt (bodyOf Try.f23) [false, true, false, true, true, true, true, true, true]) ([(1, (.w (.one (.int .i64 x)))), (9, (.w (.one (.int .i64 r)))), (11, (.w (.one (.int .i64 be)))), (12, (.w (.one (.int .i64 k)))), (10, (.w (.one (.yes true))))] ++ (ptrN 0 [3] ++ rest)) [⟨23, [.int .i64 a.mn, .int .i64 a.mx, .int .i64 a.sp, .int .i64 a.ac]⟩] 1 [11, 10, 3] [false] = some ((Ex.exit 0, [AV.w (AW.one (AC.int IntKind.i64 be)), AV.w (AW.one (AC.yes true)), AV.w (AW.one (AC.ptr 0 0))], [{ ty := 23, cs := [AC.int IntKind.i64 a.mn, AC.int IntKind.i64 a.mx, AC.int IntKind.i64 a.sp, AC.int IntKind.i64 a.ac] }]), (pickL [(decide (k ≤ 6), false)] [0])) := by kernel_rfl
set_option maxRecDepth 100000 in
theorem tlf_11 (a : Ax) (x : Int) (r : Int) (be : Int) (k : Int) (rest : List (Nat × AV Empty)) : evView (ctxOf Try.prog noFacts (fun _ => false) libB4) 53 (false :: [false, true, false, true, true, true, true, true, true]) (loopAt (bodyOf Try.f23) [false, true, false, true, true, true, true, true, true]) ([(1, (.w (.one (.int .i64 x)))), (9, (.w (.one (.int .i64 r)))), (11, (.w (.one (.int .i64 be)))), (12, (.w (.one (.int .i64 k)))), (10, (.w (.one (.yes false))))] ++ (ptrN 0 [3] ++ rest)) [⟨23, [.int .i64 a.mn, .int .i64 a.mx, .int .i64 a.sp, .int .i64 a.ac]⟩] 1 [1, 9, 11, 12, 10, 3] [true, true] = some ((Ex.normal, [AV.w (AW.one (AC.int IntKind.i64 x)), AV.w (AW.one (AC.int IntKind.i64 r)), AV.w (AW.one (AC.int IntKind.i64 (IntKind.i64.wrap (r + IntKind.i64.wrap (k * 4294967296))))), AV.w (AW.one (AC.int IntKind.i64 (IntKind.i64.wrap (k + 1)))), AV.w (AW.one (AC.yes true)), AV.w (AW.one (AC.ptr 0 0))], [{ ty := 23, cs := [AC.int IntKind.i64 a.mn, AC.int IntKind.i64 a.mx, AC.int IntKind.i64 a.sp, AC.int IntKind.i64 a.ac] }]), (pickL [(decide (k ≤ 6), true), (inA a (IntKind.i64.wrap (r + IntKind.i64.wrap (k * 4294967296))), true), (!false, true), (true, true)] [0, 1, 1, 1, 2, 2, 2, 2, 2, 2, 2, 1, 2, 1, 3])) := by kernel_rfl
set_option maxRecDepth 100000 in
theorem tlf_10 (a : Ax) (x : Int) (r : Int) (be : Int) (k : Int) (rest : List (Nat × AV Empty)) : evView (ctxOf Try.prog noFacts (fun _ => false) libB4) 53 (false :: [false, true, false, true, true, true, true, true, true]) (loopAt (bodyOf Try.f23) [false, true, false, true, true, true, true, true, true]) ([(1, (.w (.one (.int .i64 x)))), (9, (.w (.one (.int .i64 r)))), (11, (.w (.one (.int .i64 be)))), (12, (.w (.one (.int .i64 k)))), (10, (.w (.one (.yes false))))] ++ (ptrN 0 [3] ++ rest)) [⟨23, [.int .i64 a.mn, .int .i64 a.mx, .int .i64 a.sp, .int .i64 a.ac]⟩] 1 [1, 9, 11, 12, 10, 3] [true, false] = some ((Ex.normal, [AV.w (AW.one (AC.int IntKind.i64 x)), AV.w (AW.one (AC.int IntKind.i64 r)), AV.w (AW.one (AC.int IntKind.i64 be)), AV.w (AW.one (AC.int IntKind.i64 (IntKind.i64.wrap (k + 1)))), AV.w (AW.one (AC.yes false)), AV.w (AW.one (AC.ptr 0 0))], [{ ty := 23, cs := [AC.int IntKind.i64 a.mn, AC.int IntKind.i64 a.mx, AC.int IntKind.i64 a.sp, AC.int IntKind.i64 a.ac] }]), (pickL [(decide (k ≤ 6), true), (inA a (IntKind.i64.wrap (r + IntKind.i64.wrap (k * 4294967296))), false), (false, false)] [0, 1, 1, 1, 1, 1, 2])) := by kernel_rfl
set_option maxRecDepth 100000 in
theorem tlfr_0 (a : Ax) (x : Int) (r : Int) (be : Int) (k : Int) (rest : List (Nat × AV Empty)) : evView (ctxOf Try.prog noFacts (fun _ => false) libB4) 53 (false :: [false, true, false, true, true, true, true, true, true]) (loopAt (bodyOf Try.f23) [false, true, false, true, true, true, true, true, true]) ([(1, (.w (.one (.int .i64 x)))), (9, (.w (.one (.int .i64 r)))), (11, (.w (.one (.int .i64 be)))), (12, (.w (.one (.int .i64 k)))), (10, (.w (.one (.yes false))))] ++ (ptrN 0 [3] ++ rest)) [⟨23, [.int .i64 a.mn, .int .i64 a.mx, .int .i64 a.sp, .int .i64 a.ac]⟩] 1 [11, 10, 3] [false] = some ((Ex.exit 0, [AV.w (AW.one (AC.int IntKind.i64 be)), AV.w (AW.one (AC.yes false)), AV.w (AW.one (AC.ptr 0 0))], [{ ty := 23, cs := [AC.int IntKind.i64 a.mn, AC.int IntKind.i64 a.mx, AC.int IntKind.i64 a.sp, AC.int IntKind.i64 a.ac] }]), (pickL [(decide (k ≤ 6), false)] [0])) := by kernel_rfl
structure tlT where
  a : Ax
  x : Int
  r : Int
  be : Int
  k : Int
  fo : Bool
def tlP (a : Ax) (x : Int) (r : Int) (be : Int) (k : Int) (fo : Bool) : Prop := rgB x = true ∧ (-4294967296 < r ∧ r < 4294967296) ∧ -6 ≤ k ∧ k ≤ 7 ∧ (fo = true → rgB be = true)
instance (a : Ax) (x : Int) (r : Int) (be : Int) (k : Int) (fo : Bool) : Decidable (tlP a x r be k fo) := by unfold tlP; infer_instance
def tlTm (a : Ax) (x : Int) (r : Int) (be : Int) (k : Int) (fo : Bool) : List (Nat × AV Empty) := [(1, (.w (.one (.int .i64 x)))), (9, (.w (.one (.int .i64 r)))), (11, (.w (.one (.int .i64 be)))), (12, (.w (.one (.int .i64 k)))), (10, (.w (.one (.yes fo))))]
def tlS : LpSt tlT Empty where
  ps := [3]
  tm := fun t => tlTm t.a t.x t.r t.be t.k t.fo
  hp := fun t => [⟨23, [.int .i64 t.a.mn, .int .i64 t.a.mx, .int .i64 t.a.sp, .int .i64 t.a.ac]⟩]
def tlNx (a : Ax) (x : Int) (r : Int) (be : Int) (k : Int) (fo : Bool) : Nxt tlT Empty := if k ≤ 6 then (if (inA a (r + k * 4294967296) && (!fo || decide (dst (r + k * 4294967296) x < dst be x))) = true then .go ⟨a, x, r, (r + k * 4294967296), k + 1, true⟩ else .go ⟨a, x, r, be, k + 1, fo⟩) else .out (.exit 0) [(11, .w (.one (.int .i64 be))), (10, .w (.one (.yes fo)))] [⟨23, [.int .i64 a.mn, .int .i64 a.mx, .int .i64 a.sp, .int .i64 a.ac]⟩]
def tlStep (t : tlT) : Nxt tlT Empty := if tlP t.a t.x t.r t.be t.k t.fo then tlNx t.a t.x t.r t.be t.k t.fo else .bad
theorem tl_go {a : Ax} {x : Int} {r : Int} {be : Int} {k : Int} {fo : Bool} (h : tlP a x r be k fo) : tlStep ⟨a, x, r, be, k, fo⟩ = tlNx a x r be k fo := if_pos h
set_option maxRecDepth 100000 in
set_option maxHeartbeats 4000000 in
theorem tl_round (t : tlT) (hb : (tlStep t).isBad = false) (rest : List (Nat × AV Empty)) : ∃ fuel path r, evC (ctxOf Try.prog noFacts (fun _ => false) libB4) fuel 53 (false :: [false, true, false, true, true, true, true, true, true]) (loopAt (bodyOf Try.f23) [false, true, false, true, true, true, true, true, true]) (tlS.tm t ++ (ptrN 0 tlS.ps ++ rest)) (numb 0 (tlS.hp t)) 1 path = some r ∧ (∀ p ∈ r.cd, p.1 = p.2) ∧ Gives tlS 1 r (tlStep t) := by
  obtain ⟨a, x, r, be, k, fo⟩ := t
  by_cases ok : tlP a x r be k fo
  · rw [tl_go ok]
    clear hb
    unfold tlNx
    obtain ⟨h1, h2, h3, h4, h5⟩ := ok
    have e0 : IntKind.i64.wrap (k * 4294967296) = k * 4294967296 := v64 (by omega) (by omega)
    have e1 : IntKind.i64.wrap (r + k * 4294967296) = (r + k * 4294967296) := v64 (by omega) (by omega)
    have e2 : IntKind.i64.wrap (k + 1) = k + 1 := v64 (by omega) (by omega)
    have i1 : rgB (r + k * 4294967296) = true := rgB_iff.2 (by omega)
    by_cases hk : k ≤ 6
    · have c1 : decide (k ≤ 6) = true := decide_eq_true hk
      rw [if_pos hk]
      cases c2 : inA a (r + k * 4294967296) with
      | false =>
        rw [if_neg (by simp)]
        cases fo with
        | true =>
          have L := tlt_10 a x r be k rest
          rw [e0, e1, e2] at L
          refine round_go L (pickL_ok ?_ _) rfl rfl rfl rfl
          repeat' (first | exact cd_nil | refine cd_cons ?_ ?_)
          all_goals first | with_reducible rfl | with_reducible assumption | rfl | (simp; omega)
        | false =>
          have L := tlf_10 a x r be k rest
          rw [e0, e1, e2] at L
          refine round_go L (pickL_ok ?_ _) rfl rfl rfl rfl
          repeat' (first | exact cd_nil | refine cd_cons ?_ ?_)
          all_goals first | with_reducible rfl | with_reducible assumption | rfl | (simp; omega)
      | true =>
        cases fo with
        | false =>
          rw [if_pos (by simp)]
          have L := tlf_11 a x r be k rest
          rw [e0, e1, e2] at L
          refine round_go L (pickL_ok ?_ _) rfl rfl rfl rfl
          repeat' (first | exact cd_nil | refine cd_cons ?_ ?_)
          all_goals first | with_reducible rfl | with_reducible assumption | rfl | (simp; omega)
        | true =>
          have i2 := h5 rfl
          by_cases hd : dst (r + k * 4294967296) x < dst be x
          · have c3 : decide (dst (r + k * 4294967296) x < dst be x) = true := decide_eq_true hd
            rw [if_pos (by simp [hd])]
            have L := tlt_111 a x r be k rest
            rw [e0, e1, e2] at L
            refine round_go L (pickL_ok ?_ _) rfl rfl rfl rfl
            repeat' (first | exact cd_nil | refine cd_cons ?_ ?_)
            all_goals first | with_reducible rfl | with_reducible assumption | rfl | (simp; omega)
          · have c3 : decide (dst (r + k * 4294967296) x < dst be x) = false := decide_eq_false hd
            rw [if_neg (by simp [hd])]
            have L := tlt_110 a x r be k rest
            rw [e0, e1, e2] at L
            refine round_go L (pickL_ok ?_ _) rfl rfl rfl rfl
            repeat' (first | exact cd_nil | refine cd_cons ?_ ?_)
            all_goals first | with_reducible rfl | with_reducible assumption | rfl | (simp; omega)
    · have c1 : decide (k ≤ 6) = false := decide_eq_false hk
      rw [if_neg hk]
      cases fo with
      | true =>
        have L := tltr_0 a x r be k rest
        refine round_out L rfl (pickL_ok ?_ _) rfl rfl rfl
        repeat' (first | exact cd_nil | refine cd_cons ?_ ?_)
        all_goals first | with_reducible rfl | with_reducible assumption | rfl | (simp; omega)
      | false =>
        have L := tlfr_0 a x r be k rest
        refine round_out L rfl (pickL_ok ?_ _) rfl rfl rfl
        repeat' (first | exact cd_nil | refine cd_cons ?_ ?_)
        all_goals first | with_reducible rfl | with_reducible assumption | rfl | (simp; omega)
  · exfalso
    have : tlStep ⟨a, x, r, be, k, fo⟩ = .bad := if_neg ok
    rw [this] at hb; cases hb
theorem tl_runs {a : Ax} {x r : Int} (h1 : rgB x = true) (h2 : -4294967296 < r ∧ r < 4294967296) : ∀ (n : Nat) (k be : Int) (fo : Bool), k + n = 7 → -6 ≤ k → (fo = true → rgB be = true) → ∃ c, runs tlStep c ⟨a, x, r, be, k, fo⟩ = some (.exit 0, [(11, .w (.one (.int .i64 (rfL a x r n k fo be).2))), (10, .w (.one (.yes (rfL a x r n k fo be).1)))], [⟨23, [.int .i64 a.mn, .int .i64 a.mx, .int .i64 a.sp, .int .i64 a.ac]⟩])
  | 0, k, be, fo, hk, h3, h5 => by
    refine ⟨1, ?_⟩
    rw [runs, tl_go ⟨h1, h2, by omega, by omega, h5⟩]
    unfold tlNx
    rw [if_neg (by omega)]
    rfl
  | n + 1, k, be, fo, hk, h3, h5 => by
    by_cases g : (inA a (r + k * 4294967296) && (!fo || decide (dst (r + k * 4294967296) x < dst be x))) = true
    · obtain ⟨c, hc⟩ := tl_runs h1 h2 n (k + 1) (r + k * 4294967296) true (by omega) (by omega) (fun _ => rgB_iff.2 (by omega))
      refine ⟨c + 1, ?_⟩
      rw [runs, tl_go ⟨h1, h2, by omega, by omega, h5⟩]
      unfold tlNx rfL
      rw [if_pos (show k ≤ 6 by omega), if_pos g, if_pos g]
      exact hc
    · obtain ⟨c, hc⟩ := tl_runs h1 h2 n (k + 1) be fo (by omega) (by omega) h5
      refine ⟨c + 1, ?_⟩
      rw [runs, tl_go ⟨h1, h2, by omega, by omega, h5⟩]
      unfold tlNx rfL
      rw [if_pos (show k ≤ 6 by omega), if_neg g, if_neg g]
      exact hc
def tlD : LpDefR tlT Empty where
  ts := [1, 9, 11, 12, 10]
  ps := [3]
  rs := []
  W := [1, 3, 9, 10, 11, 12, 13, 25, 26, 27, 28, 29, 30, 31, 32, 33, 34, 35, 36, 37, 38, 39, 40, 41, 42, 43, 44, 45, 46, 47, 48, 49]
  dec := fun vs tr ks => match vs, tr, ks with
    | [.w (.one (.int .i64 x)), .w (.one (.int .i64 r)), .w (.one (.int .i64 be)), .w (.one (.int .i64 k)), .w (.one (.yes fo))], [], [⟨23, [.int .i64 x0, .int .i64 x1, .int .i64 x2, .int .i64 x3]⟩] => some ⟨⟨x0, x1, x2, x3⟩, x, r, be, k, fo⟩
    | _, _, _ => none
  fk := fun t => some ((rfL t.a t.x t.r 13 (-6) false 0).1)
  spec := fun t β => match β with
    | true => some (.exit 0, [(11, .w (.one (.int .i64 (rfL t.a t.x t.r 13 (-6) false 0).2))), (10, .w (.one (.yes true)))], [], [⟨23, [.int .i64 t.a.mn, .int .i64 t.a.mx, .int .i64 t.a.sp, .int .i64 t.a.ac]⟩], [(rgB t.x && (decide (-4294967296 < t.r) && (decide (t.r < 4294967296) && (decide (t.k = -6) && (!t.fo && decide (t.be = 0))))), true)])
    | false => some (.exit 0, [(11, .w (.one (.int .i64 (rfL t.a t.x t.r 13 (-6) false 0).2))), (10, .w (.one (.yes false)))], [], [⟨23, [.int .i64 t.a.mn, .int .i64 t.a.mx, .int .i64 t.a.sp, .int .i64 t.a.ac]⟩], [(rgB t.x && (decide (-4294967296 < t.r) && (decide (t.r < 4294967296) && (decide (t.k = -6) && (!t.fo && decide (t.be = 0))))), true)])
theorem tlD_ok (x : Code) (hx : codeAt (bodyOf Try.f23) [false, true, false, true, true, true, true, true, true] = some (.loop x)) : LpOk Try.prog noFacts 53 x (tlD.sp (fun _ => true)) := by
  obtain rfl := loopAt_eq hx
  refine lpR_ok (c := ctxOf Try.prog noFacts (fun _ => false) libB4) (ctxOf_ok libB4_ok (eq_none _)) (by kernel_rfl) (fun f _ _ _ => nomatch f) hx lps_nil (S := tlS) (step := tlStep) (fun _ _ => rfl) (by kernel_rfl) (by kernel_rfl) ?_ rfl (fun t e he => ?_) (fun t hb rest => tl_round t hb rest) ?_
  · intro vs tr ks s hv1 hv2 h hv3
    simp only [tlD] at h
    split at h
    · cases h
      exact ⟨rfl, fun e he => .inl he⟩
    · cases h
  · simp only [tlS, tlTm, List.mem_cons, List.not_mem_nil, or_false] at he
    rcases he with rfl | rfl | rfl | rfl | rfl <;> rfl
  · intro s β ex outs rts wb cd h hfk hc
    obtain ⟨a, x, r, be, k, fo⟩ := s
    have hβ := hfk _ rfl
    cases β with
    | true =>
      simp only [tlD] at h hβ
      cases h
      have := ca1 hc
      simp only [Bool.and_eq_true, decide_eq_true_eq, Bool.not_eq_true'] at this
      obtain ⟨h1, h2, h3, rfl, rfl, rfl⟩ := this
      obtain ⟨c, hr⟩ := tl_runs (a := a) h1 ⟨h2, h3⟩ 13 (-6) 0 false (by omega) (by omega) (fun h => by cases h)
      refine ⟨c, ?_⟩
      rw [hβ] at hr
      exact hr
    | false =>
      simp only [tlD] at h hβ
      cases h
      have := ca1 hc
      simp only [Bool.and_eq_true, decide_eq_true_eq, Bool.not_eq_true'] at this
      obtain ⟨h1, h2, h3, rfl, rfl, rfl⟩ := this
      obtain ⟨c, hr⟩ := tl_runs (a := a) h1 ⟨h2, h3⟩ 13 (-6) 0 false (by omega) (by omega) (fun h => by cases h)
      refine ⟨c, ?_⟩
      rw [hβ] at hr
      exact hr
end
end Go.Proofs.Ytiamhppdacfmmaa.AtSl

