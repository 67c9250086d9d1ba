/-
  The first loop of the law FracTerms: the terms of a continued fraction, appended one by one.
  Conditions: those of each theorem.
-/
import Derived.Test.YtdhodjbomepfbaaLFS
import Derived.Test.YtdhodjbomepfbaaF7
set_option linter.unusedVariables false
set_option linter.unusedSimpArgs false
namespace Go.Proofs.Ytdhodjbomepfbaa
open Go.RowKit Go.Shelf Ev Zd Wd

abbrev nFits := nTo (fun a => [.one (.int .i64 (smV a)), .one (.bool (smB a))]) sz1
theorem nFits_ok : (nfn nFits).ok Try.prog numI 60 := nTo_ok fun a hc => n_tup1 rfl rfl fun v w ha => fits_any v a (sm1 (sz1_le hc)) w ha
abbrev libT : List (Nat × FnSp Nm) := [(41, nfn nSign), (59, nfn nSplit), (60, nfn nFits)]
theorem libT_ok : LibOk Try.prog numI (lib1 libT) := (lib1_cons (nSign_ok) Try.call41 (lib1_cons (nSplit_ok) Try.call59 (lib1_cons (nFits_ok) Try.call60 (lib1_nil _ _))))
set_option maxRecDepth 100000 in
theorem ft_1 (n : Int) (d : Int) (l : List Int) (k : Nat) (rest : List (Nat × AV Nm)) : evView (ctxOf Try.prog numI eqsF libT) 189 (false :: [false, true, false, true, false, true, true]) (loopAt (bodyOf Try.f9) [false, true, false, true, false, true, true]) ([(5, .w (.one (.tip 2 k (.row l))))] ++ (ptrN 0 [6, 7] ++ rest)) [⟨27, [.bool (decide (n < 0)), .fv (.num n)]⟩, ⟨27, [.bool (decide (d < 0)), .fv (.num d)]⟩, ⟨2, [.tok k 1]⟩] 3 [5, 6, 7] [true] = some ((Ex.normal, [AV.w (AW.one (AC.tip 2 k.succ (Nm.row (l ++ [smV (n / d)])))), AV.w (AW.one (AC.ptr 0 0)), AV.w (AW.one (AC.ptr 1 0))], [{ ty := 27, cs := [AC.bool (decide (d < 0)), AC.fv (Nm.num d)] }, { ty := 27, cs := [AC.bool (decide (n % d < 0)), AC.fv (Nm.num (n % d))] }, { ty := 2, cs := [AC.tok k.succ 1] }]), (pickL [(decide (d < 0) == decide (d < 0), true), (decide (Wd.cmpI d 0 > 0), true), (decide (n < 0) == decide (n < 0), true), (szB n, true), (szB d, true), (decide (d = 0), false), (decide (n / d < 0) == decide (n / d < 0), true), (szB (n / d), true), (decide (k = k), true), (decide (k + 1 ≤ 34359738368), true)] [0, 1, 2, 0, 3, 4, 5, 6, 7, 8, 9])) := by kernel_rfl
set_option maxRecDepth 100000 in
theorem ft_0 (n : Int) (d : Int) (l : List Int) (k : Nat) (rest : List (Nat × AV Nm)) : evView (ctxOf Try.prog numI eqsF libT) 189 (false :: [false, true, false, true, false, true, true]) (loopAt (bodyOf Try.f9) [false, true, false, true, false, true, true]) ([(5, .w (.one (.tip 2 k (.row l))))] ++ (ptrN 0 [6, 7] ++ rest)) [⟨27, [.bool (decide (n < 0)), .fv (.num n)]⟩, ⟨27, [.bool (decide (d < 0)), .fv (.num d)]⟩, ⟨2, [.tok k 1]⟩] 3 [5, 6, 7] [false] = some ((Ex.exit 0, [AV.w (AW.one (AC.tip 2 k (Nm.row l))), AV.w (AW.one (AC.ptr 0 0)), AV.w (AW.one (AC.ptr 1 0))], [{ ty := 27, cs := [AC.bool (decide (n < 0)), AC.fv (Nm.num n)] }, { ty := 27, cs := [AC.bool (decide (d < 0)), AC.fv (Nm.num d)] }, { ty := 2, cs := [AC.tok k 1] }]), (pickL [(decide (d < 0) == decide (d < 0), true), (decide (Wd.cmpI d 0 > 0), false)] [0, 1])) := by kernel_rfl
structure TS where
  n : Int
  d : Int
  l : List Int
  k : Nat
  k2 : Nat
  bn : Bool
  bd : Bool
def tsB (n d : Int) (k : Nat) (bn bd : Bool) : List (Blk Nm) := [⟨27, [.bool bn, .fv (.num n)]⟩, ⟨27, [.bool bd, .fv (.num d)]⟩, ⟨2, [.tok k 1]⟩]
def ftS : LpSt TS Nm where
  ps := [6, 7]
  tm := fun t => [(5, .w (.one (.tip 2 t.k (.row t.l))))]
  hp := fun t => tsB t.n t.d t.k2 t.bn t.bd
/-- A state in which all goes well. -/
def okT (n d : Int) (k k2 : Nat) (bn bd : Bool) : Bool := decide (-1152921504606846976 ≤ n) && decide (n ≤ 1152921504606846976) && decide (0 ≤ d) && decide (d ≤ 1152921504606846976) && decide (k ≤ 1000) && decide (k = k2) && (bn == decide (n < 0)) && (bd == decide (d < 0))
def TS.ok (t : TS) : Bool := okT t.n t.d t.k t.k2 t.bn t.bd
def ftStep (t : TS) : Nxt TS Nm := if t.ok = true then (if 0 < t.d then .go ⟨t.d, t.n % t.d, t.l ++ [t.n / t.d], t.k + 1, t.k + 1, decide (t.d < 0), decide (t.n % t.d < 0)⟩ else .out (.exit 0) [(5, .w (.one (.tip 2 t.k (.row t.l))))] (tsB t.n t.d t.k (decide (t.n < 0)) (decide (t.d < 0)))) else .bad
theorem abs_div {n d : Int} (h1 : -1152921504606846976 ≤ n) (h2 : n ≤ 1152921504606846976) (h3 : 0 < d) : -1152921504606846976 ≤ n / d ∧ n / d ≤ 1152921504606846976 := by
  constructor
  · exact (Int.le_ediv_iff_mul_le h3).2 (by
      have : (-1152921504606846976 : Int) * d ≤ -1152921504606846976 * 1 := Int.mul_le_mul_of_nonpos_left (by omega) (by omega)
      omega)
  · exact Int.ediv_le_of_le_mul h3 (by
      have : (1152921504606846976 : Int) * 1 ≤ 1152921504606846976 * d := Int.mul_le_mul_of_nonneg_left (by omega) (by omega)
      omega)
set_option maxRecDepth 100000 in
set_option maxHeartbeats 4000000 in
theorem ft_round (t : TS) (hb : (ftStep t).isBad = false) (rest : List (Nat × AV Nm)) : ∃ fuel path r, evC (ctxOf Try.prog numI eqsF libT) fuel 189 (false :: [false, true, false, true, false, true, true]) (loopAt (bodyOf Try.f9) [false, true, false, true, false, true, true]) (ftS.tm t ++ (ptrN 0 ftS.ps ++ rest)) (numb 0 (ftS.hp t)) 3 path = some r ∧ (∀ p ∈ r.cd, p.1 = p.2) ∧ Gives ftS 3 r (ftStep t) := by
  obtain ⟨n, d, l, k, k2, bn, bd⟩ := t
  unfold ftStep at hb ⊢
  cases hok : TS.ok ⟨n, d, l, k, k2, bn, bd⟩ with
  | false => rw [hok] at hb; cases hb
  | true =>
  clear hb
  simp only [if_true]
  have hok : okT n d k k2 bn bd = true := hok
  simp only [okT, Bool.and_eq_true, decide_eq_true_eq, beq_iff_eq] at hok
  obtain ⟨⟨⟨⟨⟨⟨⟨h1, h2⟩, h3⟩, h4⟩, h5⟩, rfl⟩, rfl⟩, rfl⟩ := hok
  by_cases hd : 0 < d
  · simp only [if_pos hd]
    obtain ⟨q1, q2⟩ := abs_div h1 h2 hd
    have d_n : Dl 4 n := Dl.lit (by omega) (by omega)
    have d_d : Dl 4 d := Dl.lit (by omega) (by omega)
    have d_q : Dl 4 (n / d) := Dl.lit (by omega) (by omega)
    have hs : smV (n / d) = n / d := if_pos (by omega)
    have c1 : decide (cmpI d 0 > 0) = true := decide_eq_true (by unfold cmpI; rw [if_neg (by omega), if_pos (by omega)]; decide)
    have z_d : decide (d = 0) = false := decide_eq_false (by omega)
    have L := ft_1 n d l k rest
    rw [hs] at L
    refine round_go L (pickL_ok ?_ _) rfl rfl rfl rfl
    repeat' (first | exact cd_nil | refine cd_cons ?_ ?_)
    all_goals first | rfl | with_reducible assumption | exact eq_self_b _ | exact decide_eq_true rfl | exact decide_eq_true (by omega) | (apply Dl.sz; (repeat' (first | with_reducible assumption | apply Dl.mul | apply Dl.sub' | apply Dl.add' | apply Dl.div | apply Dl.abs)); omega)
  · simp only [if_neg hd]
    have c1 : decide (cmpI d 0 > 0) = false := decide_eq_false (by unfold cmpI; rw [if_neg (by omega), if_neg (by omega)]; decide)
    refine round_outR (ft_0 n d l k rest) rfl (pickL_ok ?_ _) rfl rfl
    repeat' (first | exact cd_nil | refine cd_cons ?_ ?_)
    all_goals first | rfl | with_reducible assumption | exact eq_self_b _
/-- The last number that is not zero. -/
def gT (n : Int) : Nat → Int
  | 0 => n
  | d + 1 => gT ((d + 1 : Nat) : Int) (n % ((d + 1 : Nat) : Int)).toNat
termination_by d => d
decreasing_by
  have h1 := Int.emod_nonneg n (b := ((d + 1 : Nat) : Int)) (by omega)
  have h2 := Int.emod_lt_of_pos n (b := ((d + 1 : Nat) : Int)) (by omega)
  omega
theorem gT_zero (n : Int) : gT n 0 = n := by rw [gT]
theorem gT_pos (n : Int) {d : Nat} (h : 0 < d) : gT n d = gT d (n % (d : Int)).toNat := by
  cases d with
  | zero => omega
  | succ d => rw [gT]
theorem ft_runs : ∀ (B m : Nat), m < B → ∀ (n : Int) (l : List Int) (k : Nat), -1152921504606846976 ≤ n → n ≤ 1152921504606846976 → (m : Int) ≤ 1152921504606846976 → k + (cf n m).length ≤ 1000 →
    runs ftStep ((cf n m).length + 1) ⟨n, m, l, k, k, decide (n < 0), decide ((m : Int) < 0)⟩ =
      some (.exit 0, [(5, .w (.one (.tip 2 (k + (cf n m).length) (.row (l ++ cf n m)))))], tsB (gT n m) 0 (k + (cf n m).length) (decide (gT n m < 0)) (decide ((0 : Int) < 0)))
  | 0, m, hB, _, _, _, _, _, _, _ => by omega
  | B + 1, m, hB, n, l, k, h1, h2, h3, h4 => by
    have hok : TS.ok ⟨n, m, l, k, k, decide (n < 0), decide ((m : Int) < 0)⟩ = true := by
      show okT n m k k (decide (n < 0)) (decide ((m : Int) < 0)) = true
      simp only [okT, Bool.and_eq_true, decide_eq_true_eq, beq_self_eq_true, and_true]
      omega
    rcases Nat.eq_zero_or_pos m with rfl | hm
    · rw [cf_zero, gT_zero]
      have hst : ftStep ⟨n, ((0 : Nat) : Int), l, k, k, decide (n < 0), decide (((0 : Nat) : Int) < 0)⟩ = .out (.exit 0) [(5, .w (.one (.tip 2 k (.row l))))] (tsB n ((0 : Nat) : Int) k (decide (n < 0)) (decide (((0 : Nat) : Int) < 0))) := by
        unfold ftStep; rw [if_pos hok, if_neg (by simp)]
      simp only [List.length_nil, Nat.zero_add, runs, hst]
      simp
    · have e1 := Int.emod_nonneg n (b := (m : Int)) (by omega)
      have e2 := Int.emod_lt_of_pos n (b := (m : Int)) (by omega)
      have hx : (((n % (m : Int)).toNat : Nat) : Int) = n % (m : Int) := Int.toNat_of_nonneg e1
      rw [cf_pos n hm, gT_pos n hm] at *
      simp only [List.length_cons] at h4 ⊢
      have ih := ft_runs B (n % (m : Int)).toNat (by omega) m (l ++ [n / (m : Int)]) (k + 1) (by omega) h3 (by omega) (by omega)
      have hst : ftStep ⟨n, m, l, k, k, decide (n < 0), decide ((m : Int) < 0)⟩ = .go ⟨m, n % m, l ++ [n / m], k + 1, k + 1, decide ((m : Int) < 0), decide (n % (m : Int) < 0)⟩ := by
        unfold ftStep; rw [if_pos hok, if_pos (by show (0 : Int) < m; omega)]
      rw [runs]
      simp only [hst]
      rw [hx] at ih
      rw [ih]
      have e3 : k + 1 + (cf (m : Int) (n % (m : Int)).toNat).length = k + ((cf (m : Int) (n % (m : Int)).toNat).length + 1) := by omega
      rw [e3, List.append_assoc]
      rfl
def ftD : LpDefR TS Nm where
  ts := []
  ps := [6, 7]
  rs := [5]
  W := [5, 6, 7, 8, 9, 10, 11, 35, 36, 37, 38, 39, 40, 41, 42, 43, 44, 45, 46, 47, 48, 49, 50, 51, 52, 53, 54]
  dec := fun vs tr ks => match vs, tr, ks with
    | [], [(k, .row l)], [⟨t0, [.bool bn, .fv (.num n)]⟩, ⟨t1, [.bool bd, .fv (.num d)]⟩, ⟨t2, [.tok k2 sz]⟩] => bif Nat.beq t0 27 && Nat.beq t1 27 && Nat.beq t2 2 && Nat.beq sz 1 then some ⟨n, d, l, k, k2, bn, bd⟩ else none
    | _, _, _ => none
  fk := fun _ => none
  spec := fun t _ => some (.exit 0, [], [(5, 2, t.k + (cf t.n t.d.toNat).length, .row (t.l ++ cf t.n t.d.toNat))], tsB (gT t.n t.d.toNat) 0 (t.k + (cf t.n t.d.toNat).length) (decide (gT t.n t.d.toNat < 0)) (decide ((0 : Int) < 0)), [(t.ok && decide (t.k + (cf t.n t.d.toNat).length ≤ 1000), true)])
theorem ftD_ok (x : Code) (hx : codeAt (bodyOf Try.f9) [false, true, false, true, false, true, true] = some (.loop x)) : LpOk Try.prog numI 189 x (ftD.sp nmSafe) := by
  obtain rfl := loopAt_eq hx
  refine lpR_ok (c := ctxOf Try.prog numI eqsF libT) (ctxOf_ok libT_ok eqsF_ok) (by kernel_rfl) (fun _ _ _ h => h) hx lps_nil (S := ftS) (step := ftStep) (fun _ h => h) (by kernel_rfl) (by kernel_rfl) ?_ rfl (fun t e he => ?_) (fun t hb rest => ft_round t hb rest) ?_
  · intro vs tr ks s hv1 hv2 h hv3
    simp only [ftD] at h
    split at h
    · rename_i k l t0 bn n t1 bd d t2 k2 sz
      cases hb : Nat.beq t0 27 && Nat.beq t1 27 && Nat.beq t2 2 && Nat.beq sz 1 with
      | false => rw [hb] at h; cases h
      | true =>
        rw [hb] at h
        cases h
        simp only [Bool.and_eq_true] at hb
        obtain ⟨⟨⟨b0, b1⟩, b2⟩, b3⟩ := hb
        obtain rfl := Nat.eq_of_beq_eq_true b0
        obtain rfl := Nat.eq_of_beq_eq_true b1
        obtain rfl := Nat.eq_of_beq_eq_true b2
        obtain rfl := Nat.eq_of_beq_eq_true b3
        refine ⟨rfl, fun e he => ?_⟩
        obtain rfl := List.mem_singleton.1 he
        exact .inr ⟨0, 5, k, .row l, rfl, rfl, rfl⟩
    · cases h
  · obtain rfl := List.mem_singleton.1 he
    rfl
  · intro s β ex outs rts wb cd h _ hc
    simp only [ftD] at h
    cases h
    have := hc _ (List.mem_cons_self)
    simp only [Bool.and_eq_true, decide_eq_true_eq] at this
    obtain ⟨hok, h5⟩ := this
    obtain ⟨n, d, l, k, k2, bn, bd⟩ := s
    have hok : okT n d k k2 bn bd = true := hok
    simp only [okT, Bool.and_eq_true, decide_eq_true_eq, beq_iff_eq] at hok
    obtain ⟨⟨⟨⟨⟨⟨⟨h1, h2⟩, h3⟩, h4⟩, _⟩, rfl⟩, rfl⟩, rfl⟩ := hok
    have hx : ((d.toNat : Nat) : Int) = d := Int.toNat_of_nonneg h3
    have := ft_runs (d.toNat + 1) d.toNat (by omega) n l k h1 h2 (by omega) h5
    rw [hx] at this
    exact ⟨_, this⟩
end Go.Proofs.Ytdhodjbomepfbaa

