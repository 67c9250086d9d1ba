/-
 Package trig: what Atan2 and its parts return.
 Conditions: those of each theorem.
-/
import Derived.Test.YtmhhdedekblbnaaGreatQT1
set_option maxRecDepth 100000
set_option linter.unusedVariables false
set_option linter.unusedSimpArgs false
namespace Go.Proofs.YtmhhdedekblbnaaGreat
open Go.RowKit Ev Wd Tg

abbrev libT4 : List (Nat × FnSp Empty) := (119, sp1 (dInt .i64) (fun a => aInt .i64 (cosV a)) (fun _ => [])) :: libT3
theorem libT4_ok : LibOk Tryz.prog noFacts (lib1 libT4) := lib1_cons (sp1_ok fun a _ => ⟨_, rfl, cosf_pl a⟩) Tryz.call119 (libT3_ok _)
theorem fl_11 (v : Int) (u : Int) (lo : Int) (hi : Int) (rest : List (Nat × AV Empty)) : evView (ctxOf Tryz.prog noFacts (fun _ => false) libT4) 30 (false :: [false, false, true, true]) (loopAt (bodyOf Tryz.f224) [false, false, true, true]) ([(0, (.w (.one (.int .i64 v)))), (1, (.w (.one (.int .i64 u)))), (5, (.w (.one (.int .i64 lo)))), (6, (.w (.one (.int .i64 hi))))] ++ (ptrN 0 [] ++ rest)) [] 0 [0, 1, 5, 6] [true, true] = some ((Ex.normal, [AV.w (AW.one (AC.int IntKind.i64 v)), AV.w (AW.one (AC.int IntKind.i64 u)), AV.w (AW.one (AC.int IntKind.i64 (IntKind.i64.wrap (hi - IntKind.i64.wrap ((IntKind.i64.wrap (hi - lo)).tdiv 2))))), AV.w (AW.one (AC.int IntKind.i64 hi))], []), (pickL [(decide (lo < hi), true), (decide (2 = 0), false), (i64B (IntKind.i64.wrap (hi - IntKind.i64.wrap ((IntKind.i64.wrap (hi - lo)).tdiv 2))), true), (decide (IntKind.i64.wrap (sinV (IntKind.i64.wrap (hi - IntKind.i64.wrap ((IntKind.i64.wrap (hi - lo)).tdiv 2))) * u) <= IntKind.i64.wrap (cosV (IntKind.i64.wrap (hi - IntKind.i64.wrap ((IntKind.i64.wrap (hi - lo)).tdiv 2))) * v)), true)] [0, 1, 2, 3])) := by kernel_rfl
theorem fl_10 (v : Int) (u : Int) (lo : Int) (hi : Int) (rest : List (Nat × AV Empty)) : evView (ctxOf Tryz.prog noFacts (fun _ => false) libT4) 30 (false :: [false, false, true, true]) (loopAt (bodyOf Tryz.f224) [false, false, true, true]) ([(0, (.w (.one (.int .i64 v)))), (1, (.w (.one (.int .i64 u)))), (5, (.w (.one (.int .i64 lo)))), (6, (.w (.one (.int .i64 hi))))] ++ (ptrN 0 [] ++ rest)) [] 0 [0, 1, 5, 6] [true, false] = some ((Ex.normal, [AV.w (AW.one (AC.int IntKind.i64 v)), AV.w (AW.one (AC.int IntKind.i64 u)), AV.w (AW.one (AC.int IntKind.i64 lo)), AV.w (AW.one (AC.int IntKind.i64 (IntKind.i64.wrap (IntKind.i64.wrap (hi - IntKind.i64.wrap ((IntKind.i64.wrap (hi - lo)).tdiv 2)) - 1))))], []), (pickL [(decide (lo < hi), true), (decide (2 = 0), false), (i64B (IntKind.i64.wrap (hi - IntKind.i64.wrap ((IntKind.i64.wrap (hi - lo)).tdiv 2))), true), (decide (IntKind.i64.wrap (sinV (IntKind.i64.wrap (hi - IntKind.i64.wrap ((IntKind.i64.wrap (hi - lo)).tdiv 2))) * u) <= IntKind.i64.wrap (cosV (IntKind.i64.wrap (hi - IntKind.i64.wrap ((IntKind.i64.wrap (hi - lo)).tdiv 2))) * v)), false)] [0, 1, 2, 3])) := by kernel_rfl
theorem fl_0 (v : Int) (u : Int) (lo : Int) (hi : Int) (rest : List (Nat × AV Empty)) : evView (ctxOf Tryz.prog noFacts (fun _ => false) libT4) 30 (false :: [false, false, true, true]) (loopAt (bodyOf Tryz.f224) [false, false, true, true]) ([(0, (.w (.one (.int .i64 v)))), (1, (.w (.one (.int .i64 u)))), (5, (.w (.one (.int .i64 lo)))), (6, (.w (.one (.int .i64 hi))))] ++ (ptrN 0 [] ++ rest)) [] 0 [0, 1, 5, 6] [false] = some ((Ex.exit 0, [AV.w (AW.one (AC.int IntKind.i64 v)), AV.w (AW.one (AC.int IntKind.i64 u)), AV.w (AW.one (AC.int IntKind.i64 lo)), AV.w (AW.one (AC.int IntKind.i64 hi))], []), (pickL [(decide (lo < hi), false)] [0])) := by kernel_rfl
structure FLs where
 v : Int
 u : Int
 lo : Int
 hi : Int
def flS : LpSt FLs Empty where
 ps := []
 tm := fun t => [(0, (.w (.one (.int .i64 t.v)))), (1, (.w (.one (.int .i64 t.u)))), (5, (.w (.one (.int .i64 t.lo)))), (6, (.w (.one (.int .i64 t.hi))))]
 hp := fun _ => []
def FLs.ok (t : FLs) : Bool := decide (0 <= t.v) && decide (t.v <= 4294967296) && decide (0 <= t.u) && decide (t.u <= 4294967296) && decide (0 <= t.lo) && decide (t.lo <= t.hi) && decide (t.hi <= 536870912)
def flStep (t : FLs) : Nxt FLs Empty := if t.ok = true then (if t.lo < t.hi then (if flP t.v t.u (t.hi - (t.hi - t.lo) / 2) then .go ⟨t.v, t.u, t.hi - (t.hi - t.lo) / 2, t.hi⟩ else .go ⟨t.v, t.u, t.lo, t.hi - (t.hi - t.lo) / 2 - 1⟩) else .out (.exit 0) [(0, (.w (.one (.int .i64 t.v)))), (1, (.w (.one (.int .i64 t.u)))), (5, (.w (.one (.int .i64 t.lo)))), (6, (.w (.one (.int .i64 t.hi))))] []) else .bad
theorem fl_mid {lo hi : Int} (h0 : 0 <= lo) (h1 : lo < hi) (h2 : hi <= 536870912) : IntKind.i64.wrap (hi - IntKind.i64.wrap ((IntKind.i64.wrap (hi - lo)).tdiv 2)) = hi - (hi - lo) / 2 := by
 rw [i64w (x := hi - lo) (by omega) (by omega), Int.tdiv_eq_ediv_of_nonneg (by omega), i64w (x := (hi - lo) / 2) (by omega) (by omega), i64w (by omega) (by omega)]
theorem prod_in {a b : Int} (ha : -1073741824 <= a /\ a <= 1073741824) (h0 : 0 <= b) (h1 : b <= 4294967296) : IntKind.i64.wrap (a * b) = a * b := by
 have := mul_bd (x := a) (X := 1073741824) (y := b) (Y := 4294967296) (by omega) (by omega)
 exact i64w (by omega) (by omega)
theorem fl_round (t : FLs) (hb : (flStep t).isBad = false) (rest : List (Nat × AV Empty)) : ∃ fuel path r, evC (ctxOf Tryz.prog noFacts (fun _ => false) libT4) fuel 30 (false :: [false, false, true, true]) (loopAt (bodyOf Tryz.f224) [false, false, true, true]) (flS.tm t ++ (ptrN 0 flS.ps ++ rest)) (numb 0 (flS.hp t)) 0 path = some r /\ (∀ p ∈ r.cd, p.1 = p.2) /\ Gives flS 0 r (flStep t) := by
 obtain ⟨v, u, lo, hi⟩ := t
 unfold flStep at hb ⊢
 cases hok : FLs.ok ⟨v, u, lo, hi⟩ with
 | false => rw [hok] at hb; cases hb
 | true =>
 clear hb
 simp only [if_true]
 simp only [FLs.ok, Bool.and_eq_true, decide_eq_true_eq] at hok
 obtain ⟨⟨⟨⟨⟨⟨h1, h2⟩, h3⟩, h4⟩, h5⟩, h6⟩, h7⟩ := hok
 by_cases hl : lo < hi
 · have c0 : decide (lo < hi) = true := decide_eq_true hl
   simp only [if_pos hl]
   have em := fl_mid h5 hl h7
   have i_m : i64B (hi - (hi - lo) / 2) = true := i64B_iff.2 (by omega)
   have p1 := prod_in (sin_range (hi - (hi - lo) / 2)) h3 h4
   have p2 := prod_in (cos_range (hi - (hi - lo) / 2)) h1 h2
   by_cases hP : flP v u (hi - (hi - lo) / 2)
   · have L := fl_11 v u lo hi rest
     simp only [if_pos hP]
     unfold flP at hP
     rw [em] at L
     have c1 : decide (IntKind.i64.wrap (sinV (hi - (hi - lo) / 2) * u) <= IntKind.i64.wrap (cosV (hi - (hi - lo) / 2) * v)) = true := by rw [p1, p2]; exact decide_eq_true hP
     refine round_go L (pickL_ok ?_ _) rfl rfl rfl rfl
     repeat' (first | exact cd_nil | refine cd_cons ?_ ?_)
     all_goals first | rfl | with_reducible assumption
   · have L := fl_10 v u lo hi rest
     simp only [if_neg hP]
     unfold flP at hP
     rw [em, i64w (x := hi - (hi - lo) / 2 - 1) (by omega) (by omega)] at L
     have c1 : decide (IntKind.i64.wrap (sinV (hi - (hi - lo) / 2) * u) <= IntKind.i64.wrap (cosV (hi - (hi - lo) / 2) * v)) = false := by rw [p1, p2]; exact decide_eq_false hP
     refine round_go L (pickL_ok ?_ _) rfl rfl rfl rfl
     repeat' (first | exact cd_nil | refine cd_cons ?_ ?_)
     all_goals first | rfl | with_reducible assumption
 · have c0 : decide (lo < hi) = false := decide_eq_false hl
   simp only [if_neg hl]
   refine round_out (fl_0 v u lo hi rest) rfl (pickL_ok ?_ _) rfl rfl rfl
   repeat' (first | exact cd_nil | refine cd_cons ?_ ?_)
   all_goals first | rfl | with_reducible assumption
theorem fl_runs {v u : Int} (h1 : 0 <= v) (h2 : v <= 4294967296) (h3 : 0 <= u) (h4 : u <= 4294967296) : ∀ (n : Nat) (lo hi : Int), 0 <= lo -> lo <= hi -> hi <= 536870912 -> hi - lo < 2 ^ n -> ∃ k, runs flStep k ⟨v, u, lo, hi⟩ = some (.exit 0, [(0, (.w (.one (.int .i64 v)))), (1, (.w (.one (.int .i64 u)))), (5, (.w (.one (.int .i64 (flB v u n lo hi))))), (6, (.w (.one (.int .i64 (flB v u n lo hi)))))], [])
 | n, lo, hi, g1, g2, g3, g4 => by
   have ok : FLs.ok ⟨v, u, lo, hi⟩ = true := by
     simp only [FLs.ok, Bool.and_eq_true, decide_eq_true_eq]
     exact ⟨⟨⟨⟨⟨⟨h1, h2⟩, h3⟩, h4⟩, g1⟩, g2⟩, g3⟩
   by_cases hl : lo < hi
   · cases n with
     | zero => simp at g4; omega
     | succ n =>
       have e2 : (2 : Int) ^ (n + 1) = 2 * 2 ^ n := by rw [Int.pow_succ]; omega
       rw [e2] at g4
       by_cases hP : flP v u (hi - (hi - lo) / 2)
       · obtain ⟨k, hk⟩ := fl_runs h1 h2 h3 h4 n (hi - (hi - lo) / 2) hi (by omega) (by omega) g3 (by omega)
         refine ⟨k + 1, ?_⟩
         have e : flB v u (n + 1) lo hi = flB v u n (hi - (hi - lo) / 2) hi := by rw [flB, if_pos hl, if_pos hP]
         rw [e, <- hk, runs]
         simp only [flStep, if_pos ok, if_pos hl, if_pos hP]
       · obtain ⟨k, hk⟩ := fl_runs h1 h2 h3 h4 n lo (hi - (hi - lo) / 2 - 1) g1 (by omega) (by omega) (by omega)
         refine ⟨k + 1, ?_⟩
         have e : flB v u (n + 1) lo hi = flB v u n lo (hi - (hi - lo) / 2 - 1) := by rw [flB, if_pos hl, if_neg hP]
         rw [e, <- hk, runs]
         simp only [flStep, if_pos ok, if_pos hl, if_neg hP]
   · have e : hi = lo := by omega
     subst e
     refine ⟨1, ?_⟩
     have e3 : flB v u n hi hi = hi := by cases n <;> simp [flB]
     rw [e3, runs]
     simp only [flStep, if_pos ok, if_neg hl]
def flD : LpDef FLs Empty where
 ts := [0, 1, 5, 6]
 ps := []
 W := [0, 1, 5, 6, 7, 8, 9, 10, 11, 12, 13, 14, 15, 16, 17, 18, 19, 20, 21, 22, 23, 24, 25, 26, 27, 28]
 dec := fun vs ks => match vs, ks with
   | [.w (.one (.int .i64 v)), .w (.one (.int .i64 u)), .w (.one (.int .i64 lo)), .w (.one (.int .i64 hi))], [] => some ⟨v, u, lo, hi⟩
   | _, _ => none
 spec := fun t => some (.exit 0, [(0, (.w (.one (.int .i64 t.v)))), (1, (.w (.one (.int .i64 t.u)))), (5, (.w (.one (.int .i64 (flatV t.v t.u))))), (6, (.w (.one (.int .i64 (flatV t.v t.u)))))], [], [(t.ok && decide (t.lo = 0) && decide (t.hi = 536870912), true)])
theorem flD_ok (x : Code) (hx : codeAt (bodyOf Tryz.f224) [false, false, true, true] = some (.loop x)) : LpOk Tryz.prog noFacts 30 x (flD.sp (fun _ => false)) := by
 obtain rfl := loopAt_eq hx
 refine lp_ok (c := ctxOf Tryz.prog noFacts (fun _ => false) libT4) (ctxOf_ok libT4_ok (eq_none _)) (by kernel_rfl) hx lps_nil (S := flS) (step := flStep) (fun _ h => by cases h) (by kernel_rfl) (by kernel_rfl) ?_ rfl (fun t e he => ?_) (fun t hb rest => fl_round t hb rest) ?_
 · intro vs ks s hv1 h hv2
   simp only [flD] at h
   split at h
   · cases h
     exact ⟨rfl, fun e he => he⟩
   · cases h
 · simp only [flS, List.mem_cons, List.not_mem_nil, or_false] at he
   rcases he with rfl | rfl | rfl | rfl <;> rfl
 · intro s ex outs wb cd h hc
   obtain ⟨v, u, lo, hi⟩ := s
   simp only [flD] at h
   cases h
   have := hc _ (List.mem_cons_self)
   simp only [FLs.ok, Bool.and_eq_true, decide_eq_true_eq] at this
   obtain ⟨⟨⟨⟨⟨⟨⟨⟨h1, h2⟩, h3⟩, h4⟩, h5⟩, h6⟩, h7⟩, rfl⟩, rfl⟩ := this
   exact fl_runs h1 h2 h3 h4 30 0 536870912 (by omega) (by omega) (by omega) (by decide)
theorem lps_fl : LpsOk Tryz.prog noFacts [((30, [false, false, true, true]), flD.sp (fun _ => false))] Tryz.f224.ntmps (bodyOf Tryz.f224) := lps_cons (fun _ x hx => flD_ok x hx) lps_nil
def u32B (v : Int) : Bool := decide (0 <= v) && decide (v <= 4294967296)
theorem u32B_iff {v : Int} : u32B v = true ↔ 0 <= v /\ v <= 4294967296 := by unfold u32B; simp
abbrev libT5 : List (Nat × FnSp Empty) := [(224, sp2 (dInt .i64) (dInt .i64) (fun v u => aInt .i64 (flatV v u)) (fun v u => [(u32B v, true), (u32B u, true)]))]
abbrev libT6 : List (Nat × FnSp Empty) := [(203, sp1 (dInt .i64) (fun v => aBool (inA v)) (fun _ => [])), (204, sp2 (dInt .i64) (dInt .i64) (fun v u => aInt .i64 (steepV v u)) (fun v u => [(u32B v, true), (u32B u, true)])), (165, modT)]
theorem fl_start {v u : Int} (hv : u32B v = true) (hu : u32B u = true) : ((⟨v, u, 0, 536870912⟩ : FLs).ok && decide ((0 : Int) = 0) && decide ((536870912 : Int) = 536870912)) = true := by
 rw [u32B_iff] at hv hu
 simp only [FLs.ok, Bool.and_eq_true, decide_eq_true_eq]
 exact ⟨⟨⟨⟨⟨⟨⟨⟨hv.1, hv.2⟩, hu.1⟩, hu.2⟩, by first | trivial | decide⟩, by first | trivial | decide⟩, by first | trivial | decide⟩, by first | trivial | decide⟩, by first | trivial | decide⟩
theorem flf_ (v : Int) (u : Int) : evR (ctxLp Tryz.prog noFacts (fun _ => false) libT4 [] [((30, [false, false, true, true]), flD.sp (fun _ => false))]) Tryz.f224 [(.w (.one (.int .i64 v))), (.w (.one (.int .i64 u)))] [] = some (AV.w (AW.one (AC.int IntKind.i64 (flatV v u))), (pickL [((⟨v, u, 0, 536870912⟩ : FLs).ok && decide (0 = 0) && decide (536870912 = 536870912), true)] [0])) := by kernel_rfl
theorem flat_pl (v u : Int) (hv : u32B v = true) (hu : u32B u = true) : Pl Tryz.prog 224 [.int .i64 v, .int .i64 u] (.int .i64 (flatV v u)) := fun w => by
 have L := flf_ v u
 refine evR_calls (I := noFacts) (ctxLp_ok libT4_ok (eq_none _) (fns_nil _) (fun f fn h => by cases h)) (by kernel_rfl) Tryz.func224 rfl lps_fl L rfl (all2_R (.cons rfl (.cons rfl .nil))) rfl w (Nat.zero_le _) (pickL_ok ?_ _)
 repeat' (first | exact cd_nil | refine cd_cons ?_ ?_)
 all_goals first | exact fl_start hv hu | rfl
theorem libT5_ok : LibOk Tryz.prog noFacts (lib1 libT5) := lib1_cons (sp2_ok fun v u hc => ⟨_, rfl, flat_pl v u (cd2 hc).1 (cd2 hc).2⟩) Tryz.call224 (lib1_nil _ _)
theorem inr_l0 (v : Int) : evR (ctxOf Tryz.prog noFacts (fun _ => false) libT4) Tryz.f203 [(.w (.one (.int .i64 v)))] [true] = some (AV.w (AW.one (AC.bool (decide (v <= 4294967296)))), [(decide (-4294967296 <= v), true), (decide (-4294967296 <= v), true), (decide (-4294967296 <= v), true)]) := by kernel_rfl
theorem inr_l1 (v : Int) : evR (ctxOf Tryz.prog noFacts (fun _ => false) libT4) Tryz.f203 [(.w (.one (.int .i64 v)))] [false] = some (AV.w (AW.one (AC.yes false)), [(decide (-4294967296 <= v), false), (decide (-4294967296 <= v), false), (decide (-4294967296 <= v), false)]) := by kernel_rfl
theorem inr_t (v : Int) : Pl Tryz.prog 203 [.int .i64 v] (AV.get ((bif decide (-4294967296 <= v) then (AV.w (AW.one (AC.bool (decide (v <= 4294967296))))) else (AV.w (AW.one (AC.yes false)))) : AV Empty)) :=
 (pl_node (fun h0 => (pl_leaf rfl (ctxOf_ok libT4_ok (eq_none _)) (by kernel_rfl) Tryz.func203 rfl (inr_l0 v) rfl (all2_R (.cons rfl .nil)) rfl (cd_cons h0 (cd_cons h0 (cd_cons h0 cd_nil))))) (fun h0 => (pl_leaf rfl (ctxOf_ok libT4_ok (eq_none _)) (by kernel_rfl) Tryz.func203 rfl (inr_l1 v) rfl (all2_R (.cons rfl .nil)) rfl (cd_cons h0 (cd_cons h0 (cd_cons h0 cd_nil))))))
theorem inr_pl (v : Int)  : Pl Tryz.prog 203 [.int .i64 v] (.bool (inA v)) := by
 refine Eq.mp (congrArg (Pl _ _ _) ?_) (inr_t v)
 unfold inA; cases decide (-4294967296 <= v) <;> rfl
theorem steep_l0 (v : Int) (u : Int) : evR (ctxOf Tryz.prog noFacts (fun _ => false) libT5) Tryz.f204 [(.w (.one (.int .i64 v))), (.w (.one (.int .i64 u)))] [true] = some (AV.w (AW.one (AC.int IntKind.i64 (IntKind.i64.wrap (1073741824 - flatV u v)))), [(decide (v > u), true), (u32B u, true), (u32B v, true)]) := by kernel_rfl
theorem steep_l1 (v : Int) (u : Int) : evR (ctxOf Tryz.prog noFacts (fun _ => false) libT5) Tryz.f204 [(.w (.one (.int .i64 v))), (.w (.one (.int .i64 u)))] [false] = some (AV.w (AW.one (AC.int IntKind.i64 (flatV v u))), [(decide (v > u), false), (u32B v, true), (u32B u, true)]) := by kernel_rfl
theorem steep_t (v : Int) (u : Int) (s0 : (decide (v > u)) = true -> u32B v = true) (s1 : (decide (v > u)) = true -> u32B u = true) (s2 : (decide (v > u)) = false -> u32B u = true) (s3 : (decide (v > u)) = false -> u32B v = true) : Pl Tryz.prog 204 [.int .i64 v, .int .i64 u] (AV.get ((bif decide (v > u) then (AV.w (AW.one (AC.int IntKind.i64 (IntKind.i64.wrap (1073741824 - flatV u v))))) else (AV.w (AW.one (AC.int IntKind.i64 (flatV v u))))) : AV Empty)) :=
 (pl_node (fun h0 => (pl_leaf rfl (ctxOf_ok libT5_ok (eq_none _)) (by kernel_rfl) Tryz.func204 rfl (steep_l0 v u) rfl (all2_R (.cons rfl (.cons rfl .nil))) rfl (cd_cons h0 (cd_cons (s1 h0) (cd_cons (s0 h0) cd_nil))))) (fun h0 => (pl_leaf rfl (ctxOf_ok libT5_ok (eq_none _)) (by kernel_rfl) Tryz.func204 rfl (steep_l1 v u) rfl (all2_R (.cons rfl (.cons rfl .nil))) rfl (cd_cons h0 (cd_cons (s3 h0) (cd_cons (s2 h0) cd_nil))))))
theorem steep_pl (v : Int) (u : Int) (hv : u32B v = true) (hu : u32B u = true) : Pl Tryz.prog 204 [.int .i64 v, .int .i64 u] (.int .i64 (steepV v u)) := by
 refine Eq.mp (congrArg (Pl _ _ _) ?_) (steep_t v u (fun h0 => by assumption) (fun h0 => by assumption) (fun h0 => by assumption) (fun h0 => by assumption))
 unfold steepV
 rw [u32B_iff] at hv hu
 have := flatV_range hu.1 hv.1
 by_cases h : v > u
 · rw [decide_eq_true h, cond_true, if_pos h, i64w (by omega) (by omega)]; rfl
 · rw [decide_eq_false h, cond_false, if_neg h]; rfl
theorem libT6_ok : LibOk Tryz.prog noFacts (lib1 libT6) := lib1_cons (sp1_ok fun v _ => ⟨_, rfl, inr_pl v⟩) Tryz.call203 (lib1_cons (sp2_ok fun v u hc => ⟨_, rfl, steep_pl v u (cd2 hc).1 (cd2 hc).2⟩) Tryz.call204 (lib1_cons (modT_ok _) Tryz.call165 (lib1_nil _ _)))
def absW (x : Int) : Int := (bif true then if IntKind.i64.wrap (0 - x) > x then IntKind.i64.wrap (0 - x) else x else if IntKind.i64.wrap (0 - x) < x then IntKind.i64.wrap (0 - x) else x)
theorem inA_iff {x : Int} : inA x = true ↔ -4294967296 <= x /\ x <= 4294967296 := by unfold inA; simp
theorem absW_eq {x : Int} (h : inA x = true) : absW x = absV x := by
 rw [inA_iff] at h
 unfold absW absV
 rw [cond_true, Int.zero_sub, i64w (by omega) (by omega)]
theorem abs_u {x : Int} (h : inA x = true) : u32B (absV x) = true := by
 rw [inA_iff] at h; rw [u32B_iff]; unfold absV; split <;> omega
theorem at_1 (y : Int) (x : Int) : evR (ctxOf Tryz.prog noFacts (fun _ => false) libT6) Tryz.f177 [(.w (.one (.int .i64 y))), (.w (.one (.int .i64 x)))] [true] = some (AV.tup [AW.one (AC.int IntKind.i64 0), AW.one (AC.int IntKind.i64 4)], (pickL [(!inA x, true), (true, true)] [0, 0, 0, 0, 1])) := by kernel_rfl
theorem at_01 (y : Int) (x : Int) : evR (ctxOf Tryz.prog noFacts (fun _ => false) libT6) Tryz.f177 [(.w (.one (.int .i64 y))), (.w (.one (.int .i64 x)))] [false, true] = some (AV.tup [AW.one (AC.int IntKind.i64 0), AW.one (AC.int IntKind.i64 4)], (pickL [(!inA x, false), (!inA y, true)] [0, 0, 0, 0, 1])) := by kernel_rfl
theorem at_0011 (y : Int) (x : Int) : evR (ctxOf Tryz.prog noFacts (fun _ => false) libT6) Tryz.f177 [(.w (.one (.int .i64 y))), (.w (.one (.int .i64 x)))] [false, false, true, true] = some (AV.tup [AW.one (AC.int IntKind.i64 0), AW.one (AC.int IntKind.i64 8)], (pickL [(!inA x, false), (!inA y, false), (x == 0, true), (y == 0, true)] [0, 0, 0, 0, 1, 2, 2, 2, 3])) := by kernel_rfl
theorem at_001001 (y : Int) (x : Int) : evR (ctxOf Tryz.prog noFacts (fun _ => false) libT6) Tryz.f177 [(.w (.one (.int .i64 y))), (.w (.one (.int .i64 x)))] [false, false, true, false, false, true] = some (AV.tup [AW.one (AC.int IntKind.i64 (mdV (IntKind.i64.wrap (4294967296 - steepV (absW y) (absW x))) 4294967296)), AW.one (AC.int IntKind.i64 0)], (pickL [(!inA x, false), (!inA y, false), (x == 0, true), (y == 0, false), (u32B (absW y), true), (u32B (absW x), true), (decide (x < 0), false), (decide (y < 0), true), (i64B (IntKind.i64.wrap (4294967296 - steepV (absW y) (absW x))), true), (i64B 4294967296, true)] [0, 0, 0, 0, 1, 2, 2, 2, 3, 4, 5, 6, 7, 8, 9])) := by kernel_rfl
theorem at_001000 (y : Int) (x : Int) : evR (ctxOf Tryz.prog noFacts (fun _ => false) libT6) Tryz.f177 [(.w (.one (.int .i64 y))), (.w (.one (.int .i64 x)))] [false, false, true, false, false, false] = some (AV.tup [AW.one (AC.int IntKind.i64 (mdV (steepV (absW y) (absW x)) 4294967296)), AW.one (AC.int IntKind.i64 0)], (pickL [(!inA x, false), (!inA y, false), (x == 0, true), (y == 0, false), (u32B (absW y), true), (u32B (absW x), true), (decide (x < 0), false), (decide (y < 0), false), (i64B (steepV (absW y) (absW x)), true), (i64B 4294967296, true)] [0, 0, 0, 0, 1, 2, 2, 2, 3, 4, 5, 6, 7, 8, 9])) := by kernel_rfl
theorem at_00011 (y : Int) (x : Int) : evR (ctxOf Tryz.prog noFacts (fun _ => false) libT6) Tryz.f177 [(.w (.one (.int .i64 y))), (.w (.one (.int .i64 x)))] [false, false, false, true, true] = some (AV.tup [AW.one (AC.int IntKind.i64 (mdV (IntKind.i64.wrap (4294967296 - IntKind.i64.wrap (2147483648 - steepV (absW y) (absW x)))) 4294967296)), AW.one (AC.int IntKind.i64 0)], (pickL [(!inA x, false), (!inA y, false), (x == 0, false), (false, false), (u32B (absW y), true), (u32B (absW x), true), (decide (x < 0), true), (decide (y < 0), true), (i64B (IntKind.i64.wrap (4294967296 - IntKind.i64.wrap (2147483648 - steepV (absW y) (absW x)))), true), (i64B 4294967296, true)] [0, 0, 0, 0, 1, 2, 2, 2, 3, 4, 5, 6, 7, 8, 9])) := by kernel_rfl
theorem at_00010 (y : Int) (x : Int) : evR (ctxOf Tryz.prog noFacts (fun _ => false) libT6) Tryz.f177 [(.w (.one (.int .i64 y))), (.w (.one (.int .i64 x)))] [false, false, false, true, false] = some (AV.tup [AW.one (AC.int IntKind.i64 (mdV (IntKind.i64.wrap (2147483648 - steepV (absW y) (absW x))) 4294967296)), AW.one (AC.int IntKind.i64 0)], (pickL [(!inA x, false), (!inA y, false), (x == 0, false), (false, false), (u32B (absW y), true), (u32B (absW x), true), (decide (x < 0), true), (decide (y < 0), false), (i64B (IntKind.i64.wrap (2147483648 - steepV (absW y) (absW x))), true), (i64B 4294967296, true)] [0, 0, 0, 0, 1, 2, 2, 2, 3, 4, 5, 6, 7, 8, 9])) := by kernel_rfl
theorem at_00001 (y : Int) (x : Int) : evR (ctxOf Tryz.prog noFacts (fun _ => false) libT6) Tryz.f177 [(.w (.one (.int .i64 y))), (.w (.one (.int .i64 x)))] [false, false, false, false, true] = some (AV.tup [AW.one (AC.int IntKind.i64 (mdV (IntKind.i64.wrap (4294967296 - steepV (absW y) (absW x))) 4294967296)), AW.one (AC.int IntKind.i64 0)], (pickL [(!inA x, false), (!inA y, false), (x == 0, false), (false, false), (u32B (absW y), true), (u32B (absW x), true), (decide (x < 0), false), (decide (y < 0), true), (i64B (IntKind.i64.wrap (4294967296 - steepV (absW y) (absW x))), true), (i64B 4294967296, true)] [0, 0, 0, 0, 1, 2, 2, 2, 3, 4, 5, 6, 7, 8, 9])) := by kernel_rfl
theorem at_00000 (y : Int) (x : Int) : evR (ctxOf Tryz.prog noFacts (fun _ => false) libT6) Tryz.f177 [(.w (.one (.int .i64 y))), (.w (.one (.int .i64 x)))] [false, false, false, false, false] = some (AV.tup [AW.one (AC.int IntKind.i64 (mdV (steepV (absW y) (absW x)) 4294967296)), AW.one (AC.int IntKind.i64 0)], (pickL [(!inA x, false), (!inA y, false), (x == 0, false), (false, false), (u32B (absW y), true), (u32B (absW x), true), (decide (x < 0), false), (decide (y < 0), false), (i64B (steepV (absW y) (absW x)), true), (i64B 4294967296, true)] [0, 0, 0, 0, 1, 2, 2, 2, 3, 4, 5, 6, 7, 8, 9])) := by kernel_rfl
theorem atan_pl (y x : Int) : Pl Tryz.prog 177 [.int .i64 y, .int .i64 x] (.tuple #[.int .i64 (atanV y x), .int .i64 (atanE y x)]) := fun w => by
 unfold atanV atanE
 cases hx : inA x with
 | false =>
   have c1 : (!inA x) = true := by rw [hx]; rfl
   refine evR_calls (I := noFacts) (ctxOf_ok libT6_ok (eq_none _)) (by kernel_rfl) Tryz.func177 rfl lps_nil (at_1 y x) rfl (all2_R (.cons rfl (.cons rfl .nil))) rfl w (Nat.zero_le _) (pickL_ok ?_ _)
   repeat' (first | exact cd_nil | refine cd_cons ?_ ?_)
   all_goals first | rfl | with_reducible assumption
 | true =>
 have c1 : (!inA x) = false := by rw [hx]; rfl
 cases hy : inA y with
 | false =>
   have c2 : (!inA y) = true := by rw [hy]; rfl
   refine evR_calls (I := noFacts) (ctxOf_ok libT6_ok (eq_none _)) (by kernel_rfl) Tryz.func177 rfl lps_nil (at_01 y x) rfl (all2_R (.cons rfl (.cons rfl .nil))) rfl w (Nat.zero_le _) (pickL_ok ?_ _)
   repeat' (first | exact cd_nil | refine cd_cons ?_ ?_)
   all_goals first | rfl | with_reducible assumption
 | true =>
 have c2 : (!inA y) = false := by rw [hy]; rfl
 have ux := abs_u hx
 have uy := abs_u hy
 have ux' := u32B_iff.1 ux
 have uy' := u32B_iff.1 uy
 have s := steepV_range uy'.1 ux'.1
 have ex := absW_eq hx
 have ey := absW_eq hy
 simp only [Bool.and_self, if_true]
 by_cases h0 : x = 0 /\ y = 0
 · obtain ⟨rfl, rfl⟩ := h0
   simp only [and_self, if_true]
   refine evR_calls (I := noFacts) (ctxOf_ok libT6_ok (eq_none _)) (by kernel_rfl) Tryz.func177 rfl lps_nil (at_0011 0 0) rfl (all2_R (.cons rfl (.cons rfl .nil))) rfl w (Nat.zero_le _) (pickL_ok ?_ _)
   repeat' (first | exact cd_nil | refine cd_cons ?_ ?_)
   all_goals first | rfl | with_reducible assumption
 · simp only [if_neg h0]
   unfold angV turnX turnY
   by_cases z0 : x = 0
   · have b1 : (x == 0) = true := by simpa using z0
     have b2 : (y == 0) = false := by simp; omega
     have hx0 : ¬ x < 0 := by omega
     by_cases hy0 : y < 0
     · have L := at_001001 y x
       rw [ex, ey] at L
       rw [i64w (x := 4294967296 - steepV (absV y) (absV x)) (by omega) (by omega)] at L
       rw [md32] at L
       have i1 : i64B (4294967296 - steepV (absV y) (absV x)) = true := i64B_iff.2 (by omega)
       have d1 : decide (x < 0) = false := decide_eq_false hx0
       have d2 : decide (y < 0) = true := decide_eq_true hy0
       rw [if_neg hx0, if_pos hy0]
       refine evR_calls (I := noFacts) (ctxOf_ok libT6_ok (eq_none _)) (by kernel_rfl) Tryz.func177 rfl lps_nil L rfl (all2_R (.cons rfl (.cons rfl .nil))) rfl w (Nat.zero_le _) (pickL_ok ?_ _)
       repeat' (first | exact cd_nil | refine cd_cons ?_ ?_)
       all_goals first | rfl | with_reducible assumption
     · have L := at_001000 y x
       rw [ex, ey] at L
       rw [md32] at L
       have i1 : i64B (steepV (absV y) (absV x)) = true := i64B_iff.2 (by omega)
       have d1 : decide (x < 0) = false := decide_eq_false hx0
       have d2 : decide (y < 0) = false := decide_eq_false hy0
       rw [if_neg hx0, if_neg hy0]
       refine evR_calls (I := noFacts) (ctxOf_ok libT6_ok (eq_none _)) (by kernel_rfl) Tryz.func177 rfl lps_nil L rfl (all2_R (.cons rfl (.cons rfl .nil))) rfl w (Nat.zero_le _) (pickL_ok ?_ _)
       repeat' (first | exact cd_nil | refine cd_cons ?_ ?_)
       all_goals first | rfl | with_reducible assumption
   · have b1 : (x == 0) = false := by simpa using z0
     by_cases hx0 : x < 0
     · by_cases hy0 : y < 0
       · have L := at_00011 y x
         rw [ex, ey] at L
         rw [i64w (x := 2147483648 - steepV (absV y) (absV x)) (by omega) (by omega)] at L
         rw [i64w (x := 4294967296 - (2147483648 - steepV (absV y) (absV x))) (by omega) (by omega)] at L
         rw [md32] at L
         have i1 : i64B (4294967296 - (2147483648 - steepV (absV y) (absV x))) = true := i64B_iff.2 (by omega)
         have d1 : decide (x < 0) = true := decide_eq_true hx0
         have d2 : decide (y < 0) = true := decide_eq_true hy0
         rw [if_pos hx0, if_pos hy0]
         refine evR_calls (I := noFacts) (ctxOf_ok libT6_ok (eq_none _)) (by kernel_rfl) Tryz.func177 rfl lps_nil L rfl (all2_R (.cons rfl (.cons rfl .nil))) rfl w (Nat.zero_le _) (pickL_ok ?_ _)
         repeat' (first | exact cd_nil | refine cd_cons ?_ ?_)
         all_goals first | rfl | with_reducible assumption
       · have L := at_00010 y x
         rw [ex, ey] at L
         rw [i64w (x := 2147483648 - steepV (absV y) (absV x)) (by omega) (by omega)] at L
         rw [md32] at L
         have i1 : i64B (2147483648 - steepV (absV y) (absV x)) = true := i64B_iff.2 (by omega)
         have d1 : decide (x < 0) = true := decide_eq_true hx0
         have d2 : decide (y < 0) = false := decide_eq_false hy0
         rw [if_pos hx0, if_neg hy0]
         refine evR_calls (I := noFacts) (ctxOf_ok libT6_ok (eq_none _)) (by kernel_rfl) Tryz.func177 rfl lps_nil L rfl (all2_R (.cons rfl (.cons rfl .nil))) rfl w (Nat.zero_le _) (pickL_ok ?_ _)
         repeat' (first | exact cd_nil | refine cd_cons ?_ ?_)
         all_goals first | rfl | with_reducible assumption
     · by_cases hy0 : y < 0
       · have L := at_00001 y x
         rw [ex, ey] at L
         rw [i64w (x := 4294967296 - steepV (absV y) (absV x)) (by omega) (by omega)] at L
         rw [md32] at L
         have i1 : i64B (4294967296 - steepV (absV y) (absV x)) = true := i64B_iff.2 (by omega)
         have d1 : decide (x < 0) = false := decide_eq_false hx0
         have d2 : decide (y < 0) = true := decide_eq_true hy0
         rw [if_neg hx0, if_pos hy0]
         refine evR_calls (I := noFacts) (ctxOf_ok libT6_ok (eq_none _)) (by kernel_rfl) Tryz.func177 rfl lps_nil L rfl (all2_R (.cons rfl (.cons rfl .nil))) rfl w (Nat.zero_le _) (pickL_ok ?_ _)
         repeat' (first | exact cd_nil | refine cd_cons ?_ ?_)
         all_goals first | rfl | with_reducible assumption
       · have L := at_00000 y x
         rw [ex, ey] at L
         rw [md32] at L
         have i1 : i64B (steepV (absV y) (absV x)) = true := i64B_iff.2 (by omega)
         have d1 : decide (x < 0) = false := decide_eq_false hx0
         have d2 : decide (y < 0) = false := decide_eq_false hy0
         rw [if_neg hx0, if_neg hy0]
         refine evR_calls (I := noFacts) (ctxOf_ok libT6_ok (eq_none _)) (by kernel_rfl) Tryz.func177 rfl lps_nil L rfl (all2_R (.cons rfl (.cons rfl .nil))) rfl w (Nat.zero_le _) (pickL_ok ?_ _)
         repeat' (first | exact cd_nil | refine cd_cons ?_ ?_)
         all_goals first | rfl | with_reducible assumption
end Go.Proofs.YtmhhdedekblbnaaGreat
