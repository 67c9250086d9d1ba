/-
 The loops of package slew and of the reference's axes.
 Conditions: those of each theorem.
-/
import Derived.Test.YtmhhdedekblbnaaGreatQQA
set_option maxRecDepth 100000
set_option linter.unusedVariables false
set_option linter.unusedSimpArgs false
namespace Go.Proofs.YtmhhdedekblbnaaGreat.AtSl
open Go.RowKit Ev Wd
open Go.Proofs.YtmhhdedekblbnaaGreat
variable {F : Type}
noncomputable section

noncomputable abbrev libB0 : List (Nat × FnSp Empty) := []
theorem libB0_ok : LibOk Tryz.prog noFacts (lib1 libB0) := (lib1_nil _ _)
theorem fl_1 (a : Ax) (d : Int) (c : Int) (rest : List (Nat × AV Empty)) : evView (ctxOf Tryz.prog noFacts (fun _ => false) libB0) 42 (false :: [false, false, true, true, true]) (loopAt (bodyOf Tryz.f142) [false, false, true, true, true]) ([(1, (.w (.one (.int .i64 d)))), (5, (.w (.one (.int .i64 c))))] ++ (ptrN 0 [2] ++ rest)) [⟨85, [.int .i64 a.mn, .int .i64 a.mx, .int .i64 a.sp, .int .i64 a.ac]⟩] 1 [1, 5, 2] [true] = some ((Ex.normal, [AV.w (AW.one (AC.int IntKind.i64 d)), AV.w (AW.one (AC.int IntKind.i64 (IntKind.i64.wrap (c + 1)))), AV.w (AW.one (AC.ptr 0 0))], [{ ty := 85, cs := [AC.int IntKind.i64 a.mn, AC.int IntKind.i64 a.mx, AC.int IntKind.i64 a.sp, AC.int IntKind.i64 a.ac] }]), (pickL [(decide ((2 : Int) = 0), false), (decide (d > IntKind.i64.wrap ((IntKind.i64.wrap (IntKind.i64.wrap (a.ac * c) * IntKind.i64.wrap (c + 1))).tdiv 2)), true)] [0, 1])) := by kernel_rfl
theorem flr_0 (a : Ax) (d : Int) (c : Int) (rest : List (Nat × AV Empty)) : evView (ctxOf Tryz.prog noFacts (fun _ => false) libB0) 42 (false :: [false, false, true, true, true]) (loopAt (bodyOf Tryz.f142) [false, false, true, true, true]) ([(1, (.w (.one (.int .i64 d)))), (5, (.w (.one (.int .i64 c))))] ++ (ptrN 0 [2] ++ rest)) [⟨85, [.int .i64 a.mn, .int .i64 a.mx, .int .i64 a.sp, .int .i64 a.ac]⟩] 1 [5, 1, 2] [false] = some ((Ex.exit 0, [AV.w (AW.one (AC.int IntKind.i64 c)), AV.w (AW.one (AC.int IntKind.i64 d)), AV.w (AW.one (AC.ptr 0 0))], [{ ty := 85, cs := [AC.int IntKind.i64 a.mn, AC.int IntKind.i64 a.mx, AC.int IntKind.i64 a.sp, AC.int IntKind.i64 a.ac] }]), (pickL [(decide ((2 : Int) = 0), false), (decide (d > IntKind.i64.wrap ((IntKind.i64.wrap (IntKind.i64.wrap (a.ac * c) * IntKind.i64.wrap (c + 1))).tdiv 2)), false)] [0, 1])) := by kernel_rfl
structure flT where
 a : Ax
 d : Int
 c : Int
def flP (a : Ax) (d : Int) (c : Int) : Prop := axE a = 0 /\ 0 <= d /\ d < 64 * a.sp /\ 1 <= c /\ c <= 4097
instance (a : Ax) (d : Int) (c : Int) : Decidable (flP a d c) := by unfold flP; infer_instance
def flTm (a : Ax) (d : Int) (c : Int) : List (Nat × AV Empty) := [(1, (.w (.one (.int .i64 d)))), (5, (.w (.one (.int .i64 c))))]
def flS : LpSt flT Empty where
 ps := [2]
 tm := fun t => flTm t.a t.d t.c
 hp := fun t => [⟨85, [.int .i64 t.a.mn, .int .i64 t.a.mx, .int .i64 t.a.sp, .int .i64 t.a.ac]⟩]
def flNx (a : Ax) (d : Int) (c : Int) : Nxt flT Empty := if d > a.ac * c * (c + 1) / 2 then .go ⟨a, d, c + 1⟩ else .out (.exit 0) [(5, .w (.one (.int .i64 c))), (1, .w (.one (.int .i64 d)))] [⟨85, [.int .i64 a.mn, .int .i64 a.mx, .int .i64 a.sp, .int .i64 a.ac]⟩]
def flStep (t : flT) : Nxt flT Empty := if flP t.a t.d t.c then flNx t.a t.d t.c else .bad
theorem fl_go {a : Ax} {d : Int} {c : Int} (h : flP a d c) : flStep ⟨a, d, c⟩ = flNx a d c := if_pos h
set_option maxHeartbeats 4000000 in
theorem fl_round (t : flT) (hb : (flStep t).isBad = false) (rest : List (Nat × AV Empty)) : ∃ fuel path r, evC (ctxOf Tryz.prog noFacts (fun _ => false) libB0) fuel 42 (false :: [false, false, true, true, true]) (loopAt (bodyOf Tryz.f142) [false, false, true, true, true]) (flS.tm t ++ (ptrN 0 flS.ps ++ rest)) (numb 0 (flS.hp t)) 1 path = some r /\ (∀ p ∈ r.cd, p.1 = p.2) /\ Gives flS 1 r (flStep t) := by
 obtain ⟨a, d, c⟩ := t
 by_cases ok : flP a d c
 · rw [fl_go ok]
   clear hb
   unfold flNx
   obtain ⟨h1, h2, h3, h4, h5⟩ := ok
   have ha := axE_ok.1 h1
   unfold okA at ha
   have e0 : IntKind.i64.wrap (c + 1) = c + 1 := v64 (by omega) (by omega)
   have p0 : 0 <= a.ac * c := Int.mul_nonneg (by omega) (by omega)
   have p1 : a.ac * c <= 1073741824 * 4097 := Int.le_trans (Int.mul_le_mul_of_nonneg_left h5 (show 0 <= a.ac by omega)) (by omega)
   have e1 : IntKind.i64.wrap (a.ac * c) = a.ac * c := v64 (by omega) (by omega)
   have p2 : 0 <= a.ac * c * (c + 1) := Int.mul_nonneg p0 (by omega)
   have p3 : a.ac * c * (c + 1) <= 18027594796498944 := Int.le_trans (Int.mul_le_mul_of_nonneg_left (show c + 1 <= 4098 by omega) p0) (by omega)
   have e2 : IntKind.i64.wrap (a.ac * c * (c + 1)) = a.ac * c * (c + 1) := v64 (by omega) (by omega)
   have e3 : (a.ac * c * (c + 1)).tdiv 2 = a.ac * c * (c + 1) / 2 := Int.tdiv_eq_ediv_of_nonneg p2
   have e4 : IntKind.i64.wrap (a.ac * c * (c + 1) / 2) = a.ac * c * (c + 1) / 2 := v64 (by omega) (by omega)
   by_cases hk : d > a.ac * c * (c + 1) / 2
   · have c1 : decide (d > a.ac * c * (c + 1) / 2) = true := decide_eq_true hk
     rw [if_pos hk]
     have L := fl_1 a d c rest
     rw [e1, e0, e2, e3, e4] at L
     refine round_go L (pickL_ok ?_ _) rfl rfl rfl rfl
     repeat' (first | exact cd_nil | refine cd_cons ?_ ?_)
     all_goals first | with_reducible rfl | with_reducible assumption | rfl | (simp; omega)
   · have c1 : decide (d > a.ac * c * (c + 1) / 2) = false := decide_eq_false hk
     rw [if_neg hk]
     have L := flr_0 a d c rest
     rw [e1, e0, e2, e3, e4] at L
     refine round_out L rfl (pickL_ok ?_ _) rfl rfl rfl
     repeat' (first | exact cd_nil | refine cd_cons ?_ ?_)
     all_goals first | with_reducible rfl | with_reducible assumption | rfl | (simp; omega)
 · exfalso
   have : flStep ⟨a, d, c⟩ = .bad := if_neg ok
   rw [this] at hb; cases hb
theorem fl_runs {a : Ax} {d : Int} (h1 : axE a = 0) (h2 : 0 <= d) (h3 : d < 64 * a.sp) : ∀ (n c : Nat), n + c = 4097 -> 1 <= c -> ∃ k, runs flStep k ⟨a, d, c⟩ = some (.exit 0, [(5, .w (.one (.int .i64 (cntV a.ac d n c)))), (1, .w (.one (.int .i64 d)))], [⟨85, [.int .i64 a.mn, .int .i64 a.mx, .int .i64 a.sp, .int .i64 a.ac]⟩])
 | 0, c, h, hc => by
   have ha := axE_ok.1 h1
   unfold okA at ha
   refine ⟨1, ?_⟩
   rw [runs, fl_go ⟨h1, h2, h3, by omega, by omega⟩]
   unfold flNx
   have h4 : 4096 * a.ac <= a.ac * tr (c + 1) := by
     have h := tr_ge c (by omega)
     rw [Int.mul_comm]
     exact Int.mul_le_mul_of_nonneg_left (by omega) (by omega)
   rw [dv2', if_neg (by omega)]
   rfl
 | n + 1, c, h, hc => by
   by_cases g : d > a.ac * (c : Int) * ((c : Int) + 1) / 2
   · obtain ⟨k, hk⟩ := fl_runs h1 h2 h3 n (c + 1) (by omega) (by omega)
     refine ⟨k + 1, ?_⟩
     rw [runs, fl_go ⟨h1, h2, h3, by omega, by omega⟩]
     unfold flNx cntV
     rw [if_pos g, if_pos g]
     exact hk
   · refine ⟨1, ?_⟩
     rw [runs, fl_go ⟨h1, h2, h3, by omega, by omega⟩]
     unfold flNx cntV
     rw [if_neg g, if_neg g]
def flD : LpDef flT Empty where
 ts := [1, 5]
 ps := [2]
 W := [1, 2, 5, 14, 15, 16, 17, 18, 19, 20, 21, 22, 23, 24, 25]
 dec := fun vs ks => match vs, ks with
   | [.w (.one (.int .i64 d)), .w (.one (.int .i64 c))], [⟨85, [.int .i64 x0, .int .i64 x1, .int .i64 x2, .int .i64 x3]⟩] => some ⟨⟨x0, x1, x2, x3⟩, d, c⟩
   | _, _ => none
 spec := fun t => some ((.exit 0), [(5, .w (.one (.int .i64 (cntV t.a.ac t.d 4096 1)))), (1, .w (.one (.int .i64 t.d)))], [⟨85, [.int .i64 t.a.mn, .int .i64 t.a.mx, .int .i64 t.a.sp, .int .i64 t.a.ac]⟩], [(decide (axE t.a = 0) && (decide (0 <= t.d) && (decide (t.d < 64 * t.a.sp) && decide (t.c = 1))), true)])
theorem flD_ok (x : Code) (hx : codeAt (bodyOf Tryz.f142) [false, false, true, true, true] = some (.loop x)) : LpOk Tryz.prog noFacts 42 x (flD.sp (fun _ => true)) := by
 obtain rfl := loopAt_eq hx
 refine lp_ok (c := ctxOf Tryz.prog noFacts (fun _ => false) libB0) (ctxOf_ok libB0_ok (eq_none _)) (by kernel_rfl) hx lps_nil (S := flS) (step := flStep) (fun _ _ => rfl) (by kernel_rfl) (by kernel_rfl) ?_ rfl (fun t e he => ?_) (fun t hb rest => fl_round t hb rest) ?_
 · intro vs ks s hv1 h hv2
   simp only [flD] at h
   split at h
   · cases h
     exact ⟨rfl, fun e he => he⟩
   · cases h
 · simp only [flS, flTm, List.mem_cons, List.not_mem_nil, or_false] at he
   rcases he with rfl | rfl <;> rfl
 · intro s ex outs wb cd h hc
   obtain ⟨a, d, c⟩ := s
   simp only [flD] at h
   cases h
   have := ca1 hc
   simp only [Bool.and_eq_true, decide_eq_true_eq] at this
   obtain ⟨h1, h2, h3, rfl⟩ := this
   exact fl_runs h1 h2 h3 4096 1 (by omega) (by omega)
def bkP (b : Int) (v : Int) (s : Int) : Prop := (1 <= b /\ b <= 2147483648) /\ v <= 2147483648 /\ 0 <= s /\ s + brV b v <= 4611686018427387904
instance (b : Int) (v : Int) (s : Int) : Decidable (bkP b v s) := by unfold bkP; infer_instance
def bsP (a : Ax) (v : Int) (s : Int) : Prop := (1 <= a.ac /\ a.ac <= 2147483648) /\ v <= 2147483648 /\ 0 <= s /\ s + brV a.ac v <= 4611686018427387904
instance (a : Ax) (v : Int) (s : Int) : Decidable (bsP a v s) := by unfold bsP; infer_instance
def clv (g l : Int) : Int := if 0 < l then -(-l / g) else 0
def soP (g : Int) (c : Int) (l : Int) : Prop := (60000 <= g /\ g <= 1800000) /\ -1800000 <= l /\ l <= 4294967296 /\ 0 <= c /\ c + l <= 8589934592 /\ c <= 8589934592
instance (g : Int) (c : Int) (l : Int) : Decidable (soP g c l) := by unfold soP; infer_instance
def tlP (a : Ax) (x : Int) (r : Int) (be : Int) (k : Int) (fo : Bool) : Prop := rgB x = true /\ (-4294967296 < r /\ r < 4294967296) /\ -6 <= k /\ k <= 7 /\ (fo = true -> rgB be = true)
instance (a : Ax) (x : Int) (r : Int) (be : Int) (k : Int) (fo : Bool) : Decidable (tlP a x r be k fo) := by unfold tlP; infer_instance
end
end Go.Proofs.YtmhhdedekblbnaaGreat.AtSl
