/-
 The reference's Fastest as a function; the loops that count the steps of a motion.
 Conditions: those of each theorem.
-/
import Derived.Test.YtmhhdedekblbnaaGreatQQC
set_option maxRecDepth 100000
set_option linter.unusedVariables false
set_option linter.unusedSimpArgs false
namespace Go.Proofs.YtmhhdedekblbnaaGreat.AtSl
open Go.RowKit Ev Wd
open Go.Proofs.YtmhhdedekblbnaaGreat
variable {F : Type}
noncomputable section

noncomputable abbrev libB2 : List (Nat × FnSp Empty) := [(142, fsS)]
theorem libB2_ok : LibOk Tryz.prog noFacts (lib1 libB2) := (lib1_cons (sp2_ok fun a d hc => ⟨_, rfl, fas_pl a d (ca2 hc).1 (ca2 hc).2⟩) Tryz.call142 (lib1_nil _ _))
theorem sl_1 (a : Ax) (d : Int) (c : Int) (v : Int) (rest : List (Nat × AV Empty)) : evView (ctxOf Tryz.prog noFacts (fun _ => false) libB2) 37 (false :: [false, false, true, true, true]) (loopAt (bodyOf Tryz.f85) [false, false, true, true, true]) ([(7, (.w (.one (.int .i64 d)))), (8, (.w (.one (.int .i64 c)))), (9, (.w (.one (.int .i64 v))))] ++ (ptrN 0 [3] ++ rest)) [⟨85, [.int .i64 a.mn, .int .i64 a.mx, .int .i64 a.sp, .int .i64 a.ac]⟩] 1 [7, 8, 9, 3] [true] = some ((Ex.normal, [AV.w (AW.one (AC.int IntKind.i64 (IntKind.i64.wrap (d - mi (IntKind.i64.wrap (v + a.ac)) (fstV a.sp a.ac d))))), AV.w (AW.one (AC.int IntKind.i64 (IntKind.i64.wrap (c + 1)))), AV.w (AW.one (AC.int IntKind.i64 (mi (IntKind.i64.wrap (v + a.ac)) (fstV a.sp a.ac d)))), AV.w (AW.one (AC.ptr 0 0))], [{ ty := 85, cs := [AC.int IntKind.i64 a.mn, AC.int IntKind.i64 a.mx, AC.int IntKind.i64 a.sp, AC.int IntKind.i64 a.ac] }]), (pickL [(decide (d > 0), true), (true, true), (decide (axE a = 0), true), (decide ((0 : Int) <= d), true)] [0, 0, 0, 1, 2, 3])) := by kernel_rfl
theorem sl_01 (a : Ax) (d : Int) (c : Int) (v : Int) (rest : List (Nat × AV Empty)) : evView (ctxOf Tryz.prog noFacts (fun _ => false) libB2) 37 (false :: [false, false, true, true, true]) (loopAt (bodyOf Tryz.f85) [false, false, true, true, true]) ([(7, (.w (.one (.int .i64 d)))), (8, (.w (.one (.int .i64 c)))), (9, (.w (.one (.int .i64 v))))] ++ (ptrN 0 [3] ++ rest)) [⟨85, [.int .i64 a.mn, .int .i64 a.mx, .int .i64 a.sp, .int .i64 a.ac]⟩] 1 [7, 8, 9, 3] [false, true] = some ((Ex.normal, [AV.w (AW.one (AC.int IntKind.i64 (IntKind.i64.wrap (d - mi (IntKind.i64.wrap (v + a.ac)) (fstV a.sp a.ac d))))), AV.w (AW.one (AC.int IntKind.i64 (IntKind.i64.wrap (c + 1)))), AV.w (AW.one (AC.int IntKind.i64 (mi (IntKind.i64.wrap (v + a.ac)) (fstV a.sp a.ac d)))), AV.w (AW.one (AC.ptr 0 0))], [{ ty := 85, cs := [AC.int IntKind.i64 a.mn, AC.int IntKind.i64 a.mx, AC.int IntKind.i64 a.sp, AC.int IntKind.i64 a.ac] }]), (pickL [(decide (d > 0), false), (decide (v > 0), true), (decide (axE a = 0), true), (decide ((0 : Int) <= d), true)] [0, 0, 0, 1, 2, 3])) := by kernel_rfl
theorem slr_00 (a : Ax) (d : Int) (c : Int) (v : Int) (rest : List (Nat × AV Empty)) : evView (ctxOf Tryz.prog noFacts (fun _ => false) libB2) 37 (false :: [false, false, true, true, true]) (loopAt (bodyOf Tryz.f85) [false, false, true, true, true]) ([(7, (.w (.one (.int .i64 d)))), (8, (.w (.one (.int .i64 c)))), (9, (.w (.one (.int .i64 v))))] ++ (ptrN 0 [3] ++ rest)) [⟨85, [.int .i64 a.mn, .int .i64 a.mx, .int .i64 a.sp, .int .i64 a.ac]⟩] 1 [8, 3] [false, false] = some ((Ex.exit 0, [AV.w (AW.one (AC.int IntKind.i64 c)), AV.w (AW.one (AC.ptr 0 0))], [{ ty := 85, cs := [AC.int IntKind.i64 a.mn, AC.int IntKind.i64 a.mx, AC.int IntKind.i64 a.sp, AC.int IntKind.i64 a.ac] }]), (pickL [(decide (d > 0), false), (decide (v > 0), false)] [0, 0, 0, 1])) := by kernel_rfl
structure slT where
 a : Ax
 d : Int
 c : Int
 v : Int
def slP (a : Ax) (d : Int) (c : Int) (v : Int) : Prop := axE a = 0 /\ 0 <= d /\ d <= 1099511627776 /\ 0 <= v /\ v <= a.sp /\ 0 <= c /\ c <= 4398046511104
instance (a : Ax) (d : Int) (c : Int) (v : Int) : Decidable (slP a d c v) := by unfold slP; infer_instance
def slTm (a : Ax) (d : Int) (c : Int) (v : Int) : List (Nat × AV Empty) := [(7, (.w (.one (.int .i64 d)))), (8, (.w (.one (.int .i64 c)))), (9, (.w (.one (.int .i64 v))))]
def slS : LpSt slT Empty where
 ps := [3]
 tm := fun t => slTm t.a t.d t.c t.v
 hp := fun t => [⟨85, [.int .i64 t.a.mn, .int .i64 t.a.mx, .int .i64 t.a.sp, .int .i64 t.a.ac]⟩]
def slNx (a : Ax) (d : Int) (c : Int) (v : Int) : Nxt slT Empty := if 0 < d \/ 0 < v then .go ⟨a, d - nxv a.sp a.ac d v, c + 1, nxv a.sp a.ac d v⟩ else .out (.exit 0) [(8, .w (.one (.int .i64 c)))] [⟨85, [.int .i64 a.mn, .int .i64 a.mx, .int .i64 a.sp, .int .i64 a.ac]⟩]
def slStep (t : slT) : Nxt slT Empty := if slP t.a t.d t.c t.v then slNx t.a t.d t.c t.v else .bad
theorem sl_go {a : Ax} {d : Int} {c : Int} {v : Int} (h : slP a d c v) : slStep ⟨a, d, c, v⟩ = slNx a d c v := if_pos h
set_option maxHeartbeats 4000000 in
theorem sl_round (t : slT) (hb : (slStep t).isBad = false) (rest : List (Nat × AV Empty)) : ∃ fuel path r, evC (ctxOf Tryz.prog noFacts (fun _ => false) libB2) fuel 37 (false :: [false, false, true, true, true]) (loopAt (bodyOf Tryz.f85) [false, false, true, true, true]) (slS.tm t ++ (ptrN 0 slS.ps ++ rest)) (numb 0 (slS.hp t)) 1 path = some r /\ (∀ p ∈ r.cd, p.1 = p.2) /\ Gives slS 1 r (slStep t) := by
 obtain ⟨a, d, c, v⟩ := t
 by_cases ok : slP a d c v
 · rw [sl_go ok]
   clear hb
   unfold slNx
   obtain ⟨h1, h2, h3, h4, h5, h6, h7⟩ := ok
   have ha := axE_ok.1 h1
   unfold okA at ha
   obtain ⟨n1, n2, n3, n4⟩ := nxv_in (S := a.sp) (A := a.ac) (by omega) (by omega) (by omega) h2 h4
   obtain ⟨f1, f2, f3⟩ := fst_le (S := a.sp) (A := a.ac) (by omega) (by omega) (by omega) h2
   have e0 : IntKind.i64.wrap (v + a.ac) = v + a.ac := v64 (by omega) (by omega)
   have e2 : IntKind.i64.wrap (d - nxv a.sp a.ac d v) = d - nxv a.sp a.ac d v := v64 (by omega) (by omega)
   have e3 : IntKind.i64.wrap (c + 1) = c + 1 := v64 (by omega) (by omega)
   have i1 : decide (axE a = 0) = true := decide_eq_true h1
   have i2 : decide ((0 : Int) <= d) = true := decide_eq_true h2
   have e1 : mi (v + a.ac) (fstV a.sp a.ac d) = nxv a.sp a.ac d v := rfl
   by_cases hd : d > 0
   · have c1 : decide (d > 0) = true := decide_eq_true hd
     rw [if_pos (.inl hd)]
     have L := sl_1 a d c v rest
     rw [e0, e1, e2, e3] at L
     refine round_go L (pickL_ok ?_ _) rfl rfl rfl rfl
     repeat' (first | exact cd_nil | refine cd_cons ?_ ?_)
     all_goals first | with_reducible rfl | with_reducible assumption | rfl | (simp; omega)
   · have c1 : decide (d > 0) = false := decide_eq_false hd
     by_cases hv : v > 0
     · have c2 : decide (v > 0) = true := decide_eq_true hv
       rw [if_pos (.inr hv)]
       have L := sl_01 a d c v rest
       rw [e0, e1, e2, e3] at L
       refine round_go L (pickL_ok ?_ _) rfl rfl rfl rfl
       repeat' (first | exact cd_nil | refine cd_cons ?_ ?_)
       all_goals first | with_reducible rfl | with_reducible assumption | rfl | (simp; omega)
     · have c2 : decide (v > 0) = false := decide_eq_false hv
       rw [if_neg (by omega)]
       have L := slr_00 a d c v rest
       refine round_out L rfl (pickL_ok ?_ _) rfl rfl rfl
       repeat' (first | exact cd_nil | refine cd_cons ?_ ?_)
       all_goals first | with_reducible rfl | with_reducible assumption | rfl | (simp; omega)
 · exfalso
   have : slStep ⟨a, d, c, v⟩ = .bad := if_neg ok
   rw [this] at hb; cases hb
theorem sl_runs {a : Ax} (h1 : axE a = 0) : ∀ (n : Nat) (d v c : Int), stN d v <= n -> 0 <= d -> d <= 1099511627776 -> 0 <= v -> v <= a.sp -> 0 <= c -> c + stN d v <= 4398046511104 -> ∃ k, runs slStep k ⟨a, d, c, v⟩ = some (.exit 0, [(8, .w (.one (.int .i64 (c + stR a.sp a.ac d v))))], [⟨85, [.int .i64 a.mn, .int .i64 a.mx, .int .i64 a.sp, .int .i64 a.ac]⟩])
 | n, d, v, c, hn, h2, h3, h4, h5, h6, h7 => by
   have ha := axE_ok.1 h1
   unfold okA at ha
   by_cases hk : 0 < d \/ 0 < v
   · have lt := stN_lt (S := a.sp) (A := a.ac) (by omega) (by omega) (by omega) h2 h4 hk
     obtain ⟨n1, n2, n3, n4⟩ := nxv_in (S := a.sp) (A := a.ac) (by omega) (by omega) (by omega) h2 h4
     have e := stR_go (S := a.sp) (A := a.ac) (by omega) (by omega) (by omega) h2 h4 hk
     obtain ⟨n, rfl⟩ : ∃ k, n = k + 1 := ⟨n - 1, by omega⟩
     obtain ⟨k, hr⟩ := sl_runs h1 n (d - nxv a.sp a.ac d v) (nxv a.sp a.ac d v) (c + 1) (by omega) (by omega) (by omega) n1 n2 (by omega) (by omega)
     refine ⟨k + 1, ?_⟩
     rw [runs, sl_go ⟨h1, h2, h3, h4, h5, h6, by omega⟩]
     unfold slNx
     rw [if_pos hk, e, <- Int.add_assoc]
     exact hr
   · refine ⟨1, ?_⟩
     rw [runs, sl_go ⟨h1, h2, h3, h4, h5, h6, by omega⟩]
     unfold slNx
     rw [if_neg hk, stR_end hk, Int.add_zero]
termination_by n => n
def slD : LpDef slT Empty where
 ts := [7, 8, 9]
 ps := [3]
 W := [3, 7, 8, 9, 17, 18, 19, 20, 21, 22, 23, 24, 25, 26, 27, 28, 29, 30, 31, 32, 33, 34, 35]
 dec := fun vs ks => match vs, ks with
   | [.w (.one (.int .i64 d)), .w (.one (.int .i64 c)), .w (.one (.int .i64 v))], [⟨85, [.int .i64 x0, .int .i64 x1, .int .i64 x2, .int .i64 x3]⟩] => some ⟨⟨x0, x1, x2, x3⟩, d, c, v⟩
   | _, _ => none
 spec := fun t => some ((.exit 0), [(8, .w (.one (.int .i64 (stV t.a.sp t.a.ac t.d))))], [⟨85, [.int .i64 t.a.mn, .int .i64 t.a.mx, .int .i64 t.a.sp, .int .i64 t.a.ac]⟩], [(decide (axE t.a = 0) && (decide (0 <= t.d) && (decide (t.d <= 1099511627776) && (decide (t.v = 0) && decide (t.c = 0)))), true)])
theorem slD_ok (x : Code) (hx : codeAt (bodyOf Tryz.f85) [false, false, true, true, true] = some (.loop x)) : LpOk Tryz.prog noFacts 37 x (slD.sp (fun _ => true)) := by
 obtain rfl := loopAt_eq hx
 refine lp_ok (c := ctxOf Tryz.prog noFacts (fun _ => false) libB2) (ctxOf_ok libB2_ok (eq_none _)) (by kernel_rfl) hx lps_nil (S := slS) (step := slStep) (fun _ _ => rfl) (by kernel_rfl) (by kernel_rfl) ?_ rfl (fun t e he => ?_) (fun t hb rest => sl_round t hb rest) ?_
 · intro vs ks s hv1 h hv2
   simp only [slD] at h
   split at h
   · cases h
     exact ⟨rfl, fun e he => he⟩
   · cases h
 · simp only [slS, slTm, List.mem_cons, List.not_mem_nil, or_false] at he
   rcases he with rfl | rfl | rfl <;> rfl
 · intro s ex outs wb cd h hc
   obtain ⟨a, d, c, v⟩ := s
   simp only [slD] at h
   cases h
   have := ca1 hc
   simp only [Bool.and_eq_true, decide_eq_true_eq] at this
   obtain ⟨h1, h2, h3, rfl, rfl⟩ := this
   have ha := axE_ok.1 h1
   unfold okA at ha
   have := sl_runs h1 _ d 0 0 (Nat.le_refl _) h2 h3 (by omega) (by omega) (by omega) (by unfold stN; split <;> omega)
   rw [Int.zero_add] at this
   exact this
noncomputable abbrev slLps : Lps Empty := [((37, [false, false, true, true, true]), slD.sp (fun _ => true))]
theorem slLps_ok : LpsOk Tryz.prog noFacts slLps Tryz.f85.ntmps (bodyOf Tryz.f85) := lps_cons (fun _ x hx => slD_ok x hx) lps_nil
def srP (a : Ax) (d : Int) (v : Int) (c : Int) : Prop := axE a = 0 /\ 0 <= d /\ d <= 1099511627776 /\ 0 <= v /\ v <= a.sp /\ 0 <= c /\ c <= 4398046511104
instance (a : Ax) (d : Int) (v : Int) (c : Int) : Decidable (srP a d v c) := by unfold srP; infer_instance
end
end Go.Proofs.YtmhhdedekblbnaaGreat.AtSl
