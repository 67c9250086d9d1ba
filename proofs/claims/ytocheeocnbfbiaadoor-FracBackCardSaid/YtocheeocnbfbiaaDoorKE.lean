/-
  frac.Terms: the terms of a continued fraction, appended one by one.
  Conditions: those of each theorem.
-/
import Derived.Test.YtocheeocnbfbiaaDoorNK
set_option linter.unusedVariables false
set_option linter.unusedSimpArgs false
namespace Go.Proofs.YtocheeocnbfbiaaDoor
open Go.RowKit Go.Shelf Ev Wd

abbrev modS : FnSp Nm := sp2 (dInt .i64) (dInt .i64) (fun a b => aInt .i64 (mdV a b)) (fun a b => [(i64B a, true), (i64B b, true)])
theorem modS_ok : modS.ok Tryd.prog numI 28 := sp2_ok fun a b hc => by
  obtain ⟨h1, h2⟩ := cd2 hc
  rw [i64B_iff] at h1 h2
  exact ⟨_, rfl, Pl.same fun w => mod_any a b h2.1 h2.2 w⟩
abbrev libE : List (Nat × FnSp Nm) := [(29, floordivS), (28, modS)]
theorem libE_ok : LibOk Tryd.prog numI (lib1 libE) := (lib1_cons (floordivS_ok numI) Tryd.call29 (lib1_cons (modS_ok) Tryd.call28 (lib1_nil _ _)))
set_option maxRecDepth 100000 in
theorem te_1 (n : Int) (d : Int) (l : List Int) (k : Nat) (rest : List (Nat × AV Nm)) : evView (ctxOf Tryd.prog numI eqsF libE) 30 (false :: [false, true, false, true, true, true]) (loopAt (bodyOf Tryd.f9) [false, true, false, true, true, true]) ([(6, .w (.one (.int .i64 n))), (7, .w (.one (.int .i64 d))), (5, .w (.one (.tip 0 k (.row l))))] ++ (ptrN 0 [] ++ rest)) [⟨2, [.tok k 1]⟩] 1 [6, 7, 5] [true] = some ((Ex.normal, [AV.w (AW.one (AC.int IntKind.i64 d)), AV.w (AW.one (AC.int IntKind.i64 (mdV n d))), AV.w (AW.one (AC.tip 0 k.succ (Nm.row (l ++ [fdV n d]))))], [{ ty := 2, cs := [AC.tok k.succ 1] }]), (pickL [(d != 0, true), (i64B n, true), (i64B d, true), (decide (k = k), true), (decide (k + 1 ≤ 34359738368), true)] [0, 1, 2, 3, 4, 1, 2])) := by kernel_rfl
set_option maxRecDepth 100000 in
theorem te_0 (n : Int) (d : Int) (l : List Int) (k : Nat) (rest : List (Nat × AV Nm)) : evView (ctxOf Tryd.prog numI eqsF libE) 30 (false :: [false, true, false, true, true, true]) (loopAt (bodyOf Tryd.f9) [false, true, false, true, true, true]) ([(6, .w (.one (.int .i64 n))), (7, .w (.one (.int .i64 d))), (5, .w (.one (.tip 0 k (.row l))))] ++ (ptrN 0 [] ++ rest)) [⟨2, [.tok k 1]⟩] 1 [6, 7, 5] [false] = some ((Ex.exit 0, [AV.w (AW.one (AC.int IntKind.i64 n)), AV.w (AW.one (AC.int IntKind.i64 d)), AV.w (AW.one (AC.tip 0 k (Nm.row l)))], [{ ty := 2, cs := [AC.tok k 1] }]), (pickL [(d != 0, false)] [0])) := by kernel_rfl
structure TE where
  n : Int
  d : Int
  l : List Int
  k : Nat
  k2 : Nat
def teB (k : Nat) : List (Blk Nm) := [⟨2, [.tok k 1]⟩]
def teS : LpSt TE Nm where
  ps := []
  tm := fun t => [(6, .w (.one (.int .i64 t.n))), (7, .w (.one (.int .i64 t.d))), (5, .w (.one (.tip 0 t.k (.row t.l))))]
  hp := fun t => teB t.k2
/-- A state in which all goes well. -/
def okE (n d : Int) (k k2 : Nat) : Bool := decide (-1152921504606846976 ≤ n) && decide (n ≤ 1152921504606846976) && decide (0 ≤ d) && decide (d ≤ 1152921504606846976) && decide (k ≤ 1000) && decide (k = k2)
def TE.ok (t : TE) : Bool := okE t.n t.d t.k t.k2
def teStep (t : TE) : Nxt TE Nm := if t.ok = true then (if 0 < t.d then .go ⟨t.d, t.n % t.d, t.l ++ [t.n / t.d], t.k + 1, t.k + 1⟩ else .out (.exit 0) [(6, .w (.one (.int .i64 t.n))), (7, .w (.one (.int .i64 t.d))), (5, .w (.one (.tip 0 t.k (.row t.l))))] (teB t.k)) else .bad
set_option maxRecDepth 100000 in
set_option maxHeartbeats 4000000 in
theorem te_round (t : TE) (hb : (teStep t).isBad = false) (rest : List (Nat × AV Nm)) : ∃ fuel path r, evC (ctxOf Tryd.prog numI eqsF libE) fuel 30 (false :: [false, true, false, true, true, true]) (loopAt (bodyOf Tryd.f9) [false, true, false, true, true, true]) (teS.tm t ++ (ptrN 0 teS.ps ++ rest)) (numb 0 (teS.hp t)) 1 path = some r ∧ (∀ p ∈ r.cd, p.1 = p.2) ∧ Gives teS 1 r (teStep t) := by
  obtain ⟨n, d, l, k, k2⟩ := t
  unfold teStep at hb ⊢
  cases hok : TE.ok ⟨n, d, l, k, k2⟩ with
  | false => rw [hok] at hb; cases hb
  | true =>
  clear hb
  simp only [if_true]
  have hok : okE n d k k2 = true := hok
  simp only [okE, Bool.and_eq_true, decide_eq_true_eq, beq_iff_eq] at hok
  obtain ⟨⟨⟨⟨⟨h1, h2⟩, h3⟩, h4⟩, h5⟩, rfl⟩ := hok
  have i_n : i64B n = true := i64B_iff.2 (by omega)
  have i_d : i64B d = true := i64B_iff.2 (by omega)
  by_cases hd : 0 < d
  · simp only [if_pos hd]
    have hs : fdV n d = n / d := if_neg (by omega)
    have hm : mdV n d = n % d := if_neg (by omega)
    have c1 : (d != 0) = true := by simp; omega
    have L := te_1 n d l k rest
    rw [hs, hm] at L
    refine round_go L (pickL_ok ?_ _) rfl rfl rfl rfl
    repeat' (first | exact cd_nil | refine cd_cons ?_ ?_)
    all_goals first | rfl | with_reducible assumption | exact eq_self_b _ | exact decide_eq_true rfl | exact decide_eq_true (by omega)
  · simp only [if_neg hd]
    have c1 : (d != 0) = false := by simp; omega
    refine round_outR (te_0 n d l k rest) rfl (pickL_ok ?_ _) rfl rfl
    repeat' (first | exact cd_nil | refine cd_cons ?_ ?_)
    all_goals first | rfl | with_reducible assumption | exact eq_self_b _
theorem te_runs : ∀ (B m : Nat), m < B → ∀ (n : Int) (l : List Int) (k : Nat), -1152921504606846976 ≤ n → n ≤ 1152921504606846976 → (m : Int) ≤ 1152921504606846976 → k + (cf n m).length ≤ 1000 →
    runs teStep ((cf n m).length + 1) ⟨n, m, l, k, k⟩ =
      some (.exit 0, [(6, .w (.one (.int .i64 (gT n m)))), (7, .w (.one (.int .i64 0))), (5, .w (.one (.tip 0 (k + (cf n m).length) (.row (l ++ cf n m)))))], teB (k + (cf n m).length))
  | 0, m, hB, _, _, _, _, _, _, _ => by omega
  | B + 1, m, hB, n, l, k, h1, h2, h3, h4 => by
    have hok : TE.ok ⟨n, m, l, k, k⟩ = true := by
      show okE n m k k = true
      simp only [okE, Bool.and_eq_true, decide_eq_true_eq, and_true]
      omega
    rcases Nat.eq_zero_or_pos m with rfl | hm
    · rw [cf_zero, gT_zero]
      have hst : teStep ⟨n, ((0 : Nat) : Int), l, k, k⟩ = .out (.exit 0) [(6, .w (.one (.int .i64 n))), (7, .w (.one (.int .i64 ((0 : Nat) : Int)))), (5, .w (.one (.tip 0 k (.row l))))] (teB k) := by
        unfold teStep; rw [if_pos hok, if_neg (by simp)]
      simp only [List.length_nil, Nat.zero_add, runs, hst]
      simp
    · have e1 := Int.emod_nonneg n (b := (m : Int)) (by omega)
      have e2 := Int.emod_lt_of_pos n (b := (m : Int)) (by omega)
      have hx : (((n % (m : Int)).toNat : Nat) : Int) = n % (m : Int) := Int.toNat_of_nonneg e1
      rw [cf_pos n hm, gT_pos n hm] at *
      simp only [List.length_cons] at h4 ⊢
      have ih := te_runs B (n % (m : Int)).toNat (by omega) m (l ++ [n / (m : Int)]) (k + 1) (by omega) h3 (by omega) (by omega)
      have hst : teStep ⟨n, m, l, k, k⟩ = .go ⟨m, n % m, l ++ [n / m], k + 1, k + 1⟩ := by
        unfold teStep; rw [if_pos hok, if_pos (by show (0 : Int) < m; omega)]
      rw [runs]
      simp only [hst]
      rw [hx] at ih
      rw [ih]
      have e3 : k + 1 + (cf (m : Int) (n % (m : Int)).toNat).length = k + ((cf (m : Int) (n % (m : Int)).toNat).length + 1) := by omega
      rw [e3, List.append_assoc]
      rfl
def teD : LpDefR TE Nm where
  ts := [6, 7]
  ps := []
  rs := [5]
  W := [5, 6, 7, 17, 18, 19, 20, 21, 22, 23, 24, 25, 26, 27, 28]
  dec := fun vs tr ks => match vs, tr, ks with
    | [.w (.one (.int .i64 n)), .w (.one (.int .i64 d))], [(k, .row l)], [⟨t2, [.tok k2 sz]⟩] => bif Nat.beq t2 2 && Nat.beq sz 1 then some ⟨n, d, l, k, k2⟩ else none
    | _, _, _ => none
  fk := fun _ => none
  spec := fun t _ => some (.exit 0, [(6, .w (.one (.int .i64 (gT t.n t.d.toNat)))), (7, .w (.one (.int .i64 0)))], [(5, 0, t.k + (cf t.n t.d.toNat).length, .row (t.l ++ cf t.n t.d.toNat))], teB (t.k + (cf t.n t.d.toNat).length), [(t.ok && decide (t.k + (cf t.n t.d.toNat).length ≤ 1000), true)])
theorem teD_ok (x : Code) (hx : codeAt (bodyOf Tryd.f9) [false, true, false, true, true, true] = some (.loop x)) : LpOk Tryd.prog numI 30 x (teD.sp nmSafe) := by
  obtain rfl := loopAt_eq hx
  refine lpR_ok (c := ctxOf Tryd.prog numI eqsF libE) (ctxOf_ok libE_ok eqsF_ok) (by kernel_rfl) (fun _ _ _ h => h) hx lps_nil (S := teS) (step := teStep) (fun _ h => h) (by kernel_rfl) (by kernel_rfl) ?_ rfl (fun t e he => ?_) (fun t hb rest => te_round t hb rest) ?_
  · intro vs tr ks s hv1 hv2 h hv3
    simp only [teD] at h
    split at h
    · rename_i n d k l t2 k2 sz
      cases hb : Nat.beq t2 2 && Nat.beq sz 1 with
      | false => rw [hb] at h; cases h
      | true =>
        rw [hb] at h
        cases h
        simp only [Bool.and_eq_true] at hb
        obtain rfl := Nat.eq_of_beq_eq_true hb.1
        obtain rfl := Nat.eq_of_beq_eq_true hb.2
        refine ⟨rfl, fun e he => ?_⟩
        rcases List.mem_cons.1 he with rfl | he
        · exact .inl List.mem_cons_self
        rcases List.mem_cons.1 he with rfl | he
        · exact .inl (List.mem_cons_of_mem _ List.mem_cons_self)
        obtain rfl := List.mem_singleton.1 he
        exact .inr ⟨0, 5, k, .row l, rfl, rfl, rfl⟩
    · cases h
  · rcases List.mem_cons.1 he with rfl | he
    · rfl
    rcases List.mem_cons.1 he with rfl | he
    · rfl
    obtain rfl := List.mem_singleton.1 he
    rfl
  · intro s β ex outs rts wb cd h _ hc
    simp only [teD] at h
    cases h
    have := hc _ (List.mem_cons_self)
    simp only [Bool.and_eq_true, decide_eq_true_eq] at this
    obtain ⟨hok, h5⟩ := this
    obtain ⟨n, d, l, k, k2⟩ := s
    have hok : okE n d k k2 = true := hok
    simp only [okE, Bool.and_eq_true, decide_eq_true_eq, beq_iff_eq] at hok
    obtain ⟨⟨⟨⟨⟨h1, h2⟩, h3⟩, h4⟩, _⟩, rfl⟩ := hok
    have hx : ((d.toNat : Nat) : Int) = d := Int.toNat_of_nonneg h3
    have := te_runs (d.toNat + 1) d.toNat (by omega) n l k h1 h2 (by omega) h5
    rw [hx] at this
    exact ⟨_, this⟩
end Go.Proofs.YtocheeocnbfbiaaDoor

