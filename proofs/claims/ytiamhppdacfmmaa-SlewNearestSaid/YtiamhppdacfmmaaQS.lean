/-
  The loops of the law SlewNearest.
  Conditions: those of each theorem.
-/
import Derived.Test.YtiamhppdacfmmaaQI
import Derived.Test.YtiamhppdacfmmaaLX
set_option linter.unusedVariables false
set_option linter.unusedSimpArgs false
namespace Go.Proofs.Ytiamhppdacfmmaa.AtSl
open Go.RowKit Ev Wd
open Go.Proofs.Ytiamhppdacfmmaa
variable {F : Type}
noncomputable section

/-- No position of the angle is within the limits. -/
def nfB (a : Ax) (r : Int) : Bool := (List.range 13).all fun i => !inA a (r + ((i : Int) - 6) * 4294967296)
theorem nfB_at {a : Ax} {r k : Int} (h : nfB a r = true) (h1 : -6 ≤ k) (h2 : k ≤ 6) : inA a (r + k * 4294967296) = false := by
  unfold nfB at h
  have := List.all_eq_true.1 h (k + 6).toNat (List.mem_range.2 (by omega))
  rw [show (((k + 6).toNat : Nat) : Int) - 6 = k by omega] at this
  simpa using this
theorem nfB_of {a : Ax} {r : Int} (h : ∀ k, -6 ≤ k → k ≤ 6 → inA a (r + k * 4294967296) = false) : nfB a r = true := by
  unfold nfB
  refine List.all_eq_true.2 fun i hi => ?_
  have := List.mem_range.1 hi
  rw [h ((i : Int) - 6) (by omega) (by omega)]; rfl
/-- No position within the limits is nearer. -/
def nrB (a : Ax) (z f : Int) : Bool := (List.range 17).all fun i => !inA a (z + ((i : Int) - 8) * 4294967296) || decide (dst z f ≤ dst (z + ((i : Int) - 8) * 4294967296) f)
theorem nrB_at {a : Ax} {z f k : Int} (h : nrB a z f = true) (h1 : -8 ≤ k) (h2 : k ≤ 8) (h3 : inA a (z + k * 4294967296) = true) : dst z f ≤ dst (z + k * 4294967296) f := by
  unfold nrB at h
  have := List.all_eq_true.1 h (k + 8).toNat (List.mem_range.2 (by omega))
  rw [show (((k + 8).toNat : Nat) : Int) - 8 = k by omega, h3] at this
  simpa using this
theorem nrB_of {a : Ax} {z f : Int} (h : ∀ k, inA a (z + k * 4294967296) = true → dst z f ≤ dst (z + k * 4294967296) f) : nrB a z f = true := by
  unfold nrB
  refine List.all_eq_true.2 fun i hi => ?_
  cases hc : inA a (z + ((i : Int) - 8) * 4294967296) with
  | false => rfl
  | true => rw [decide_eq_true (h _ hc)]; rfl
noncomputable abbrev fnsN : List (Nat × Func) := [(42, Try.f42)]
theorem fnsN_ok : FnsOk Try.prog fnsN := fns_cons Try.func42 rfl Try.call42 (fns_nil _)
noncomputable abbrev libV1 : List (Nat × FnSp Fct) := [(20, inS)]
theorem libV1_ok (B : Nat) : LibOk Try.prog (fctI B) (lib1 libV1) := (lib1_cons (sp2_ok fun a p _ => ⟨_, rfl, inn_pl a p⟩) Try.call20 (lib1_nil _ _))
set_option maxRecDepth 100000 in
theorem pa_10 (B : Nat) (a : Ax) (r : Int) (k : Int) (rest : List (Nat × AV Fct)) : evView (ctxIn Try.prog (fctI B) (fun _ => false) libV1 fnsN) 83 (false :: [false, true, false, true, false, true, false, true, true, true, true, true, true, true]) (loopAt (bodyOf Try.f11) [false, true, false, true, false, true, false, true, true, true, true, true, true, true]) ([(11, (.w (.one (.int .i64 r)))), (12, (.w (.one (.int .i64 k))))] ++ (ptrN 0 [6] ++ rest)) [⟨23, [.int .i64 a.mn, .int .i64 a.mx, .int .i64 a.sp, .int .i64 a.ac]⟩] 1 [11, 12, 6] [true, false] = some ((Ex.normal, [AV.w (AW.one (AC.int IntKind.i64 r)), AV.w (AW.one (AC.int IntKind.i64 (IntKind.i64.wrap (k + 1)))), AV.w (AW.one (AC.ptr 0 0))], [{ ty := 23, cs := [AC.int IntKind.i64 a.mn, AC.int IntKind.i64 a.mx, AC.int IntKind.i64 a.sp, AC.int IntKind.i64 a.ac] }]), (pickL [(decide (k ≤ 6), true), (inA a (IntKind.i64.wrap (r + IntKind.i64.wrap (k * 4294967296))), false)] [0, 1])) := by kernel_rfl
set_option maxRecDepth 100000 in
theorem pax_0 (B : Nat) (a : Ax) (r : Int) (k : Int) (rest : List (Nat × AV Fct)) : evView (ctxIn Try.prog (fctI B) (fun _ => false) libV1 fnsN) 83 (false :: [false, true, false, true, false, true, false, true, true, true, true, true, true, true]) (loopAt (bodyOf Try.f11) [false, true, false, true, false, true, false, true, true, true, true, true, true, true]) ([(11, (.w (.one (.int .i64 r)))), (12, (.w (.one (.int .i64 k))))] ++ (ptrN 0 [6] ++ rest)) [⟨23, [.int .i64 a.mn, .int .i64 a.mx, .int .i64 a.sp, .int .i64 a.ac]⟩] 1 [6] [false] = some ((Ex.exit 0, [AV.w (AW.one (AC.ptr 0 0))], [{ ty := 23, cs := [AC.int IntKind.i64 a.mn, AC.int IntKind.i64 a.mx, AC.int IntKind.i64 a.sp, AC.int IntKind.i64 a.ac] }]), (pickL [(decide (k ≤ 6), false)] [0])) := by kernel_rfl
structure paT where
  a : Ax
  r : Int
  k : Int
def paP (a : Ax) (r : Int) (k : Int) : Prop := nfB a r = true ∧ (-4294967296 < r ∧ r < 4294967296) ∧ -6 ≤ k ∧ k ≤ 7
instance (a : Ax) (r : Int) (k : Int) : Decidable (paP a r k) := by unfold paP; infer_instance
def paTm (a : Ax) (r : Int) (k : Int) : List (Nat × AV Fct) := [(11, (.w (.one (.int .i64 r)))), (12, (.w (.one (.int .i64 k))))]
def paS : LpSt paT Fct where
  ps := [6]
  tm := fun t => paTm t.a t.r t.k
  hp := fun t => [⟨23, [.int .i64 t.a.mn, .int .i64 t.a.mx, .int .i64 t.a.sp, .int .i64 t.a.ac]⟩]
def paNx (a : Ax) (r : Int) (k : Int) : Nxt paT Fct := if k ≤ 6 then .go ⟨a, r, k + 1⟩ else .out (.exit 0) [] [⟨23, [.int .i64 a.mn, .int .i64 a.mx, .int .i64 a.sp, .int .i64 a.ac]⟩]
def paStep (t : paT) : Nxt paT Fct := if paP t.a t.r t.k then paNx t.a t.r t.k else .bad
theorem pa_go {a : Ax} {r : Int} {k : Int} (h : paP a r k) : paStep ⟨a, r, k⟩ = paNx a r k := if_pos h
set_option maxRecDepth 100000 in
set_option maxHeartbeats 4000000 in
theorem pa_round (B : Nat) (t : paT) (hb : (paStep t).isBad = false) (rest : List (Nat × AV Fct)) : ∃ fuel path r, evC (ctxIn Try.prog (fctI B) (fun _ => false) libV1 fnsN) fuel 83 (false :: [false, true, false, true, false, true, false, true, true, true, true, true, true, true]) (loopAt (bodyOf Try.f11) [false, true, false, true, false, true, false, true, true, true, true, true, true, true]) (paS.tm t ++ (ptrN 0 paS.ps ++ rest)) (numb 0 (paS.hp t)) 1 path = some r ∧ (∀ p ∈ r.cd, p.1 = p.2) ∧ Gives paS 1 r (paStep t) := by
  obtain ⟨a, r, k⟩ := t
  by_cases ok : paP a r k
  · rw [pa_go ok]
    clear hb
    unfold paNx
    obtain ⟨h1, h2, h3, h4⟩ := ok
    have e0 : IntKind.i64.wrap (k * 4294967296) = k * 4294967296 := v64 (by omega) (by omega)
    have e1 : IntKind.i64.wrap (r + k * 4294967296) = r + k * 4294967296 := v64 (by omega) (by omega)
    have e2 : IntKind.i64.wrap (k + 1) = k + 1 := v64 (by omega) (by omega)
    by_cases hk : k ≤ 6
    · have c1 : decide (k ≤ 6) = true := decide_eq_true hk
      have c2 : inA a (r + k * 4294967296) = false := nfB_at h1 h3 hk
      rw [if_pos hk]
      have L := pa_10 B a r k rest
      rw [e0, e1, e2] at L
      refine round_go L (pickL_ok ?_ _) rfl rfl rfl rfl
      repeat' (first | exact cd_nil | refine cd_cons ?_ ?_)
      all_goals first | with_reducible rfl | with_reducible assumption | rfl
    · have c1 : decide (k ≤ 6) = false := decide_eq_false hk
      rw [if_neg hk]
      have L := pax_0 B a r k rest
      refine round_out L rfl (pickL_ok ?_ _) rfl rfl rfl
      repeat' (first | exact cd_nil | refine cd_cons ?_ ?_)
      all_goals first | with_reducible rfl | with_reducible assumption | rfl
  · exfalso
    have : paStep ⟨a, r, k⟩ = .bad := if_neg ok
    rw [this] at hb; cases hb
theorem pa_runs {a : Ax} {r : Int} (h1 : nfB a r = true) (h2 : -4294967296 < r ∧ r < 4294967296) : ∀ (n : Nat) (k : Int), k + n = 7 → -6 ≤ k → ∃ c, runs paStep c ⟨a, r, k⟩ = some (.exit 0, [], [⟨23, [.int .i64 a.mn, .int .i64 a.mx, .int .i64 a.sp, .int .i64 a.ac]⟩])
  | 0, k, hn, h3 => by
    refine ⟨1, ?_⟩
    rw [runs, pa_go ⟨h1, h2, h3, by omega⟩]
    unfold paNx
    rw [if_neg (by omega)]
  | n + 1, k, hn, h3 => by
    obtain ⟨c, hr⟩ := pa_runs h1 h2 n (k + 1) (by omega) (by omega)
    refine ⟨c + 1, ?_⟩
    rw [runs, pa_go ⟨h1, h2, h3, by omega⟩]
    unfold paNx
    rw [if_pos (by omega)]
    exact hr
def paD : LpDef paT Fct where
  ts := [11, 12]
  ps := [6]
  W := [4, 6, 11, 12, 37, 38, 39, 40, 41, 42, 43, 44, 45, 46]
  dec := fun vs ks => match vs, ks with
    | [.w (.one (.int .i64 r)), .w (.one (.int .i64 k))], [⟨23, [.int .i64 x0, .int .i64 x1, .int .i64 x2, .int .i64 x3]⟩] => some ⟨⟨x0, x1, x2, x3⟩, r, k⟩
    | _, _ => none
  spec := fun t => some ((.exit 0), [], [⟨23, [.int .i64 t.a.mn, .int .i64 t.a.mx, .int .i64 t.a.sp, .int .i64 t.a.ac]⟩], [(nfB t.a t.r && (decide (-4294967296 < t.r) && (decide (t.r < 4294967296) && decide (t.k = -6))), true)])
theorem paD_ok (B : Nat) (x : Code) (hx : codeAt (bodyOf Try.f11) [false, true, false, true, false, true, false, true, true, true, true, true, true, true] = some (.loop x)) : LpOk Try.prog (fctI B) 83 x (paD.sp (fun _ => true)) := by
  obtain rfl := loopAt_eq hx
  refine lp_ok (c := ctxIn Try.prog (fctI B) (fun _ => false) libV1 fnsN) (ctxIn_ok (libV1_ok B) (eq_none _) fnsN_ok) (by kernel_rfl) hx lps_nil (S := paS) (step := paStep) (fun _ _ => rfl) (by kernel_rfl) (by kernel_rfl) ?_ rfl (fun t e he => ?_) (fun t hb rest => pa_round B t hb rest) ?_
  · intro vs ks s hv1 h hv2
    simp only [paD] at h
    split at h
    · cases h
      exact ⟨rfl, fun e he => he⟩
    · cases h
  · simp only [paS, paTm, List.mem_cons, List.not_mem_nil, or_false] at he
    rcases he with rfl | rfl <;> rfl
  · intro s ex outs wb cd h hc
    obtain ⟨a, r, k⟩ := s
    simp only [paD] at h
    cases h
    have := ca1 hc
    simp only [Bool.and_eq_true, decide_eq_true_eq] at this
    obtain ⟨h1, h2, h3, rfl⟩ := this
    exact pa_runs h1 ⟨h2, h3⟩ 13 (-6) (by omega) (by omega)
set_option maxRecDepth 100000 in
theorem pb_110 (B : Nat) (a : Ax) (z : Int) (f : Int) (k : Int) (rest : List (Nat × AV Fct)) : evView (ctxIn Try.prog (fctI B) (fun _ => false) libV1 fnsN) 83 (false :: [false, true, false, true, true, true, true, true, true, true, true, true]) (loopAt (bodyOf Try.f11) [false, true, false, true, true, true, true, true, true, true, true, true]) ([(13, (.w (.one (.int .i64 k)))), (10, (.w (.one (.fnc 42 [(0, 0), (1, 0)])))), (8, (.w (.one (.ptr 0 0)))), (6, (.w (.one (.ptr 2 0))))] ++ (ptrN 0 [] ++ rest)) [⟨2, [.int .i64 z]⟩, ⟨2, [.int .i64 f]⟩, ⟨23, [.int .i64 a.mn, .int .i64 a.mx, .int .i64 a.sp, .int .i64 a.ac]⟩] 3 [13, 10, 8, 6] [true, true, false] = some ((Ex.normal, [AV.w (AW.one (AC.int IntKind.i64 (IntKind.i64.wrap (k + 1)))), AV.w (AW.one (AC.fnc 42 [(0, 0), (1, 0)])), AV.w (AW.one (AC.ptr 0 0)), AV.w (AW.one (AC.ptr 2 0))], [{ ty := 2, cs := [AC.int IntKind.i64 z] }, { ty := 2, cs := [AC.int IntKind.i64 f] }, { ty := 23, cs := [AC.int IntKind.i64 a.mn, AC.int IntKind.i64 a.mx, AC.int IntKind.i64 a.sp, AC.int IntKind.i64 a.ac] }]), (pickL [(decide (k ≤ 8), true), (inA a (IntKind.i64.wrap (z + IntKind.i64.wrap (k * 4294967296))), true), (!decide ((ma (IntKind.i64.wrap (z - f)) (IntKind.i64.wrap (f - z))) ≤ ma (IntKind.i64.wrap (IntKind.i64.wrap (z + IntKind.i64.wrap (k * 4294967296)) - f)) (IntKind.i64.wrap (f - IntKind.i64.wrap (z + IntKind.i64.wrap (k * 4294967296))))), false)] [0, 1, 1, 1, 1, 1, 2])) := by kernel_rfl
set_option maxRecDepth 100000 in
theorem pb_10 (B : Nat) (a : Ax) (z : Int) (f : Int) (k : Int) (rest : List (Nat × AV Fct)) : evView (ctxIn Try.prog (fctI B) (fun _ => false) libV1 fnsN) 83 (false :: [false, true, false, true, true, true, true, true, true, true, true, true]) (loopAt (bodyOf Try.f11) [false, true, false, true, true, true, true, true, true, true, true, true]) ([(13, (.w (.one (.int .i64 k)))), (10, (.w (.one (.fnc 42 [(0, 0), (1, 0)])))), (8, (.w (.one (.ptr 0 0)))), (6, (.w (.one (.ptr 2 0))))] ++ (ptrN 0 [] ++ rest)) [⟨2, [.int .i64 z]⟩, ⟨2, [.int .i64 f]⟩, ⟨23, [.int .i64 a.mn, .int .i64 a.mx, .int .i64 a.sp, .int .i64 a.ac]⟩] 3 [13, 10, 8, 6] [true, false] = some ((Ex.normal, [AV.w (AW.one (AC.int IntKind.i64 (IntKind.i64.wrap (k + 1)))), AV.w (AW.one (AC.fnc 42 [(0, 0), (1, 0)])), AV.w (AW.one (AC.ptr 0 0)), AV.w (AW.one (AC.ptr 2 0))], [{ ty := 2, cs := [AC.int IntKind.i64 z] }, { ty := 2, cs := [AC.int IntKind.i64 f] }, { ty := 23, cs := [AC.int IntKind.i64 a.mn, AC.int IntKind.i64 a.mx, AC.int IntKind.i64 a.sp, AC.int IntKind.i64 a.ac] }]), (pickL [(decide (k ≤ 8), true), (inA a (IntKind.i64.wrap (z + IntKind.i64.wrap (k * 4294967296))), false), (false, false)] [0, 1, 1, 1, 1, 1, 2])) := by kernel_rfl
set_option maxRecDepth 100000 in
theorem pbx_0 (B : Nat) (a : Ax) (z : Int) (f : Int) (k : Int) (rest : List (Nat × AV Fct)) : evView (ctxIn Try.prog (fctI B) (fun _ => false) libV1 fnsN) 83 (false :: [false, true, false, true, true, true, true, true, true, true, true, true]) (loopAt (bodyOf Try.f11) [false, true, false, true, true, true, true, true, true, true, true, true]) ([(13, (.w (.one (.int .i64 k)))), (10, (.w (.one (.fnc 42 [(0, 0), (1, 0)])))), (8, (.w (.one (.ptr 0 0)))), (6, (.w (.one (.ptr 2 0))))] ++ (ptrN 0 [] ++ rest)) [⟨2, [.int .i64 z]⟩, ⟨2, [.int .i64 f]⟩, ⟨23, [.int .i64 a.mn, .int .i64 a.mx, .int .i64 a.sp, .int .i64 a.ac]⟩] 3 [] [false] = some ((Ex.exit 2, [], [{ ty := 2, cs := [AC.int IntKind.i64 z] }, { ty := 2, cs := [AC.int IntKind.i64 f] }, { ty := 23, cs := [AC.int IntKind.i64 a.mn, AC.int IntKind.i64 a.mx, AC.int IntKind.i64 a.sp, AC.int IntKind.i64 a.ac] }]), (pickL [(decide (k ≤ 8), false)] [0])) := by kernel_rfl
structure pbT where
  a : Ax
  z : Int
  f : Int
  k : Int
def pbP (a : Ax) (z : Int) (f : Int) (k : Int) : Prop := nrB a z f = true ∧ (rgB z = true ∧ rgB f = true) ∧ -8 ≤ k ∧ k ≤ 9
instance (a : Ax) (z : Int) (f : Int) (k : Int) : Decidable (pbP a z f k) := by unfold pbP; infer_instance
def pbTm (a : Ax) (z : Int) (f : Int) (k : Int) : List (Nat × AV Fct) := [(13, (.w (.one (.int .i64 k)))), (10, (.w (.one (.fnc 42 [(0, 0), (1, 0)])))), (8, (.w (.one (.ptr 0 0)))), (6, (.w (.one (.ptr 2 0))))]
def pbS : LpSt pbT Fct where
  ps := []
  tm := fun t => pbTm t.a t.z t.f t.k
  hp := fun t => [⟨2, [.int .i64 t.z]⟩, ⟨2, [.int .i64 t.f]⟩, ⟨23, [.int .i64 t.a.mn, .int .i64 t.a.mx, .int .i64 t.a.sp, .int .i64 t.a.ac]⟩]
def pbNx (a : Ax) (z : Int) (f : Int) (k : Int) : Nxt pbT Fct := if k ≤ 8 then .go ⟨a, z, f, k + 1⟩ else .out (.exit 2) [] [⟨2, [.int .i64 z]⟩, ⟨2, [.int .i64 f]⟩, ⟨23, [.int .i64 a.mn, .int .i64 a.mx, .int .i64 a.sp, .int .i64 a.ac]⟩]
def pbStep (t : pbT) : Nxt pbT Fct := if pbP t.a t.z t.f t.k then pbNx t.a t.z t.f t.k else .bad
theorem pb_go {a : Ax} {z : Int} {f : Int} {k : Int} (h : pbP a z f k) : pbStep ⟨a, z, f, k⟩ = pbNx a z f k := if_pos h
set_option maxRecDepth 100000 in
set_option maxHeartbeats 4000000 in
theorem pb_round (B : Nat) (t : pbT) (hb : (pbStep t).isBad = false) (rest : List (Nat × AV Fct)) : ∃ fuel path r, evC (ctxIn Try.prog (fctI B) (fun _ => false) libV1 fnsN) fuel 83 (false :: [false, true, false, true, true, true, true, true, true, true, true, true]) (loopAt (bodyOf Try.f11) [false, true, false, true, true, true, true, true, true, true, true, true]) (pbS.tm t ++ (ptrN 0 pbS.ps ++ rest)) (numb 0 (pbS.hp t)) 3 path = some r ∧ (∀ p ∈ r.cd, p.1 = p.2) ∧ Gives pbS 3 r (pbStep t) := by
  obtain ⟨a, z, f, k⟩ := t
  by_cases ok : pbP a z f k
  · rw [pb_go ok]
    clear hb
    unfold pbNx
    obtain ⟨h1, ⟨h2, h2'⟩, h3, h4⟩ := ok
    have hz := rgB_iff.1 h2
    have hf := rgB_iff.1 h2'
    have e0 : IntKind.i64.wrap (k * 4294967296) = k * 4294967296 := v64 (by omega) (by omega)
    have e1 : IntKind.i64.wrap (z + k * 4294967296) = z + k * 4294967296 := v64 (by omega) (by omega)
    have e2 : IntKind.i64.wrap (k + 1) = k + 1 := v64 (by omega) (by omega)
    have m1 : ma (IntKind.i64.wrap (z - f)) (IntKind.i64.wrap (f - z)) = dst z f := by rw [v64 (by omega) (by omega), v64 (by omega) (by omega), ma_eq, dst_eq]
    have m2 : ma (IntKind.i64.wrap (z + k * 4294967296 - f)) (IntKind.i64.wrap (f - (z + k * 4294967296))) = dst (z + k * 4294967296) f := by rw [v64 (by omega) (by omega), v64 (by omega) (by omega), ma_eq, dst_eq]
    by_cases hk : k ≤ 8
    · have c1 : decide (k ≤ 8) = true := decide_eq_true hk
      rw [if_pos hk]
      cases c2 : inA a (z + k * 4294967296) with
      | true =>
        have c3 : (!decide (dst z f ≤ dst (z + k * 4294967296) f)) = false := by rw [decide_eq_true (nrB_at h1 h3 hk c2)]; rfl
        have L := pb_110 B a z f k rest
        rw [e0, e1, e2, m1, m2] at L
        refine round_go L (pickL_ok ?_ _) rfl rfl rfl rfl
        repeat' (first | exact cd_nil | refine cd_cons ?_ ?_)
        all_goals first | with_reducible rfl | with_reducible assumption | rfl
      | false =>
        have L := pb_10 B a z f k rest
        rw [e0, e1, e2] at L
        refine round_go L (pickL_ok ?_ _) rfl rfl rfl rfl
        repeat' (first | exact cd_nil | refine cd_cons ?_ ?_)
        all_goals first | with_reducible rfl | with_reducible assumption | rfl
    · have c1 : decide (k ≤ 8) = false := decide_eq_false hk
      rw [if_neg hk]
      have L := pbx_0 B a z f k rest
      refine round_out L rfl (pickL_ok ?_ _) rfl rfl rfl
      repeat' (first | exact cd_nil | refine cd_cons ?_ ?_)
      all_goals first | with_reducible rfl | with_reducible assumption | rfl
  · exfalso
    have : pbStep ⟨a, z, f, k⟩ = .bad := if_neg ok
    rw [this] at hb; cases hb
theorem pb_runs {a : Ax} {z f : Int} (h1 : nrB a z f = true) (h2 : rgB z = true ∧ rgB f = true) : ∀ (n : Nat) (k : Int), k + n = 9 → -8 ≤ k → ∃ c, runs pbStep c ⟨a, z, f, k⟩ = some (.exit 2, [], [⟨2, [.int .i64 z]⟩, ⟨2, [.int .i64 f]⟩, ⟨23, [.int .i64 a.mn, .int .i64 a.mx, .int .i64 a.sp, .int .i64 a.ac]⟩])
  | 0, k, hn, h3 => by
    refine ⟨1, ?_⟩
    rw [runs, pb_go ⟨h1, h2, h3, by omega⟩]
    unfold pbNx
    rw [if_neg (by omega)]
  | n + 1, k, hn, h3 => by
    obtain ⟨c, hr⟩ := pb_runs h1 h2 n (k + 1) (by omega) (by omega)
    refine ⟨c + 1, ?_⟩
    rw [runs, pb_go ⟨h1, h2, h3, by omega⟩]
    unfold pbNx
    rw [if_pos (by omega)]
    exact hr
def pbD : LpDefC pbT Fct where
  ts := [13]
  cl := 10
  fn := 42
  m := 2
  ex := [6]
  sm := [(8, 0)]
  W := [4, 6, 8, 10, 13, 14, 66, 67, 68, 69, 70, 71, 72, 73, 74, 75, 76, 77, 78, 79, 80, 81, 82]
  dec := fun vs ks => match vs, ks with
    | [.w (.one (.int .i64 k))], [⟨2, [.int .i64 z]⟩, ⟨2, [.int .i64 f]⟩, ⟨23, [.int .i64 x0, .int .i64 x1, .int .i64 x2, .int .i64 x3]⟩] => some ⟨⟨x0, x1, x2, x3⟩, z, f, k⟩
    | _, _ => none
  spec := fun t => some ((.exit 2), [], [⟨2, [.int .i64 t.z]⟩, ⟨2, [.int .i64 t.f]⟩, ⟨23, [.int .i64 t.a.mn, .int .i64 t.a.mx, .int .i64 t.a.sp, .int .i64 t.a.ac]⟩], [(nrB t.a t.z t.f && (rgB t.z && (rgB t.f && decide (t.k = -8))), true)])
theorem pbD_ok (B : Nat) (x : Code) (hx : codeAt (bodyOf Try.f11) [false, true, false, true, true, true, true, true, true, true, true, true] = some (.loop x)) : LpOk Try.prog (fctI B) 83 x (pbD.sp (fun _ => true)) := by
  obtain rfl := loopAt_eq hx
  refine lpC_ok (c := ctxIn Try.prog (fctI B) (fun _ => false) libV1 fnsN) (ctxIn_ok (libV1_ok B) (eq_none _) fnsN_ok) (by kernel_rfl) hx lps_nil (S := pbS) (step := pbStep) (fun _ _ => rfl) (by kernel_rfl) ?_ rfl (fun t e he => ?_) (fun t hb rest => pb_round B t hb rest) ?_
  · intro vs ks s hv1 h hv2
    simp only [pbD] at h
    split at h
    · cases h
      refine ⟨rfl, fun e he => ?_⟩
      simp only [pbS, pbTm, List.mem_cons, List.not_mem_nil, or_false] at he
      rcases he with rfl | rfl | rfl | rfl
      · exact .inl (List.mem_of_getElem? (i := 0) rfl)
      · exact .inr (.inl rfl)
      · exact .inr (.inr (.inr ⟨(8, 0), List.mem_singleton.2 rfl, rfl⟩))
      · exact .inr (.inr (.inl ⟨0, 6, rfl, rfl⟩))
    · cases h
  · simp only [pbS, pbTm, List.mem_cons, List.not_mem_nil, or_false] at he
    rcases he with rfl | rfl | rfl | rfl <;> rfl
  · intro s ex outs wb cd h hc
    obtain ⟨a, z, f, k⟩ := s
    simp only [pbD] at h
    cases h
    have := ca1 hc
    simp only [Bool.and_eq_true, decide_eq_true_eq] at this
    obtain ⟨h1, h2, h3, rfl⟩ := this
    exact pb_runs h1 ⟨h2, h3⟩ 17 (-8) (by omega) (by omega)
noncomputable abbrev snLps : Lps Fct := [((83, [false, true, false, true, false, true, false, true, true, true, true, true, true, true]), paD.sp (fun _ => true)), ((83, [false, true, false, true, true, true, true, true, true, true, true, true]), pbD.sp (fun _ => true))]
theorem snLps_ok (B : Nat) : LpsOk Try.prog (fctI B) snLps Try.f11.ntmps (bodyOf Try.f11) := lps_cons (fun _ x hx => paD_ok B x hx) (lps_cons (fun _ x hx => pbD_ok B x hx) lps_nil)
end
end Go.Proofs.Ytiamhppdacfmmaa.AtSl

