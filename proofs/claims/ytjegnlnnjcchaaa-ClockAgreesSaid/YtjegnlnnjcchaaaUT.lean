/-
  The reference's Spread, and the two loops of the law BoundFuses.
  Conditions: those of each theorem.
-/
import Derived.Test.YtjegnlnnjcchaaaC4
import Derived.Test.YtjegnlnnjcchaaaGM
set_option linter.unusedVariables false
set_option linter.unusedSimpArgs false
namespace Go.Proofs.Ytjegnlnnjcchaaa.AtCk
open Ev Go.RowKit Go.Shelf Zd Wd
open Go.Proofs.Ytjegnlnnjcchaaa
noncomputable section

def spV (T : List (List Int)) (x : Int) : Int := AtTick.Fs.vt (AtTick.Fs.knsOf T) x
def gSp : List (AV Nm) → Option (AV Nm × List (Bool × Bool))
  | [.w (.one (.fv (.tab [some .i64, some .i64, none] T))), .w (.one (.int .i64 x))] => some (.w (.one (.int .i64 (spV T x))), [(decide (lenT T ≤ 34359738368), true), (i64B x, true)])
  | _ => none
def mnW (a x : Int) : Int := bif false then if x > a then x else a else if x < a then x else a
def mxW (a x : Int) : Int := bif true then if x > a then x else a else if x < a then x else a
def putW (U : List (List Int)) (d : Int) (w : Option (Int × Int)) (x : Int) : Option (Int × Int) := if spV U x < d then w else match w with
  | none => some (mnW x x, mxW x x)
  | some p => some (mnW p.1 x, mxW p.2 x)
def stW (U : List (List Int)) (f k : Int) (w : Option (Int × Int)) (r : List Int) : Option (Int × Int) := if knB (AtTick.Fs.toBd r) = true ∧ 0 ≤ f ∧ f < k then putW U (k - f) (putW U (k - f) w (r.getD 0 0)) (r.getD 1 0) else w
def inR (r : List Int) (x : Int) : Bool := knB (AtTick.Fs.toBd r) && (decide (r.getD 0 0 ≤ x) && decide (x ≤ r.getD 1 0))
abbrev phW : Option (Int × Int) → List (AC Nm)
  | none => [.int .i64 0, .int .i64 0, .yes true]
  | some p => [.int .i64 p.1, .int .i64 p.2, .yes false]
def cvT : Nm → Option (List (List Int)) := fun f => match f with
  | .tab [some .i64, some .i64, none] l => some l
  | _ => none
noncomputable abbrev libU1 : List (Nat × FnSp Nm) := [(15, nfn nI), (13, nfn nCmp), (117, sp1 dBd (fun b => aInt .i64 (chkB b)) (fun _ => []))]
noncomputable abbrev libU2 : List (Nat × FnSp Nm) := [(90, factSp gSp), (15, nfn nI), (117, sp1 dBd (fun b => aInt .i64 (chkB b)) (fun _ => []))]
noncomputable abbrev fnsU : List (Nat × Func) := [(122, Try.f122)]
theorem kn_bad {b : Bd} (h : (chkB b != 0) = true) : knB b = false := by
  cases k : knB b with
  | false => rfl
  | true =>
    obtain ⟨h1, h2, h3, h4⟩ := knB_iff.1 k
    have : chkB b = 0 := by
      unfold chkB inB
      rw [h1, decide_eq_true (show -1152921504606846976 ≤ b.lo by omega), decide_eq_true (show b.lo ≤ 1152921504606846976 by omega), decide_eq_true (show -1152921504606846976 ≤ b.hi by omega), decide_eq_true (show b.hi ≤ 1152921504606846976 by omega), decide_eq_false (show ¬ b.lo > b.hi by omega)]
      rfl
    rw [this] at h; simp at h
theorem kn_u {b : Bd} (h : b.u = true) : knB b = false := by unfold knB; rw [h]; rfl
theorem kn_ok {b : Bd} (h : (chkB b != 0) = false) (hu : b.u = false) : knB b = true := by
  have h : chkB b = 0 := by simpa using h
  unfold chkB at h
  unfold knB
  rw [hu] at h ⊢
  simp only [Bool.false_and, cond_false, Bool.not_false, Bool.true_and] at h ⊢
  cases h1 : (inB b.lo && inB b.hi) with
  | false => rw [h1] at h; cases h
  | true =>
    rw [h1] at h
    simp only [Bool.not_true, cond_false] at h
    by_cases h2 : b.lo > b.hi
    · rw [decide_eq_true h2] at h; cases h
    · rw [decide_eq_true (show b.lo ≤ b.hi by omega)]; rfl
theorem cmp_le0 (a b : Int) : decide (cmpI a b ≤ 0) = decide (a ≤ b) := by
  have := cmp_gt a b
  by_cases h : a ≤ b
  · rw [decide_eq_false (show ¬ b < a by omega)] at this
    have := of_decide_eq_false this
    rw [decide_eq_true h, decide_eq_true (by omega)]
  · rw [decide_eq_true (show b < a by omega)] at this
    have := of_decide_eq_true this
    rw [decide_eq_false h, decide_eq_false (by omega)]
theorem cmp_ge0 (a b : Int) : decide (cmpI a b ≥ 0) = decide (b ≤ a) := by
  have := cmp_lt' a b
  by_cases h : a < b
  · rw [decide_eq_true h] at this
    have := of_decide_eq_true this
    rw [decide_eq_false (show ¬ b ≤ a by omega), decide_eq_false (by omega)]
  · rw [decide_eq_false h] at this
    have := of_decide_eq_false this
    rw [decide_eq_true (show b ≤ a by omega), decide_eq_true (by omega)]
theorem i64_kn {b : Bd} (h : knB b = true) : i64B b.lo = true ∧ i64B b.hi = true := by
  obtain ⟨_, h1, h2, h3⟩ := knB_iff.1 h
  exact ⟨i64B_iff.2 ⟨by omega, by omega⟩, i64B_iff.2 ⟨by omega, by omega⟩⟩
theorem c1x {b : Bool} (h : ∀ p ∈ [(b, true)], p.1 = p.2) : b = true := h (b, true) (by simp)
def rowU (T : List (List Int)) (i : Int) : List Int := T.getD i.toNat []
theorem cel_row (T : List (List Int)) (i : Int) (o : Nat) : cel T i o = (rowU T i).getD o 0 := rfl
theorem dropU {T : List (List Int)} {i : Nat} (h : i < T.length) : T.drop i = rowU T i :: T.drop (i + 1) := by
  rw [List.drop_eq_getElem_cons h]
  have e : T.getD i [] = T[i] := by simp [List.getD_eq_getElem?_getD, h]
  unfold rowU
  rw [Int.toNat_natCast, e]
theorem kns_cons (r : List Int) (T : List (List Int)) : AtTick.Fs.knsOf (r :: T) = if knB (AtTick.Fs.toBd r) = true then AtTick.Fs.toBd r :: AtTick.Fs.knsOf T else AtTick.Fs.knsOf T := by
  unfold AtTick.Fs.knsOf AtTick.Fs.bdsOf
  rw [List.map_cons, List.filter_cons]
theorem sp_cons (r : List Int) (T : List (List Int)) (x : Int) : spV (r :: T) x = (if inR r x = true then 1 else 0) + spV T x := by
  unfold spV AtTick.Fs.vt inR
  rw [kns_cons]
  cases h : knB (AtTick.Fs.toBd r) with
  | false => simp
  | true =>
    simp only [if_true, Bool.true_and, List.countP_cons, show (AtTick.Fs.toBd r).lo = r.getD 0 0 from rfl, show (AtTick.Fs.toBd r).hi = r.getD 1 0 from rfl]
    split <;> omega
theorem sp_nil (x : Int) : spV [] x = 0 := rfl
theorem kl_cons (r : List Int) (T : List (List Int)) : ((AtTick.Fs.knsOf (r :: T)).length : Int) = (if knB (AtTick.Fs.toBd r) = true then 1 else 0) + ((AtTick.Fs.knsOf T).length : Int) := by
  rw [kns_cons]
  split
  · rw [List.length_cons]; omega
  · omega
theorem libU1_ok : LibOk Try.prog numI (lib1 libU1) := (lib1_cons nI_ok Try.call15 (lib1_cons nCmp_ok Try.call13 (lib1_cons (sp1_ok fun b _ => ⟨_, rfl, bte_pl b⟩) Try.call117 (lib1_nil _ _))))
theorem fnsU_ok : FnsOk Try.prog fnsU := (fns_cons Try.func122 rfl Try.call122 (fns_nil _))
set_option maxRecDepth 100000 in
theorem sq_11 (T : List (List Int)) (x : Int) (k : Int) (n : Int) (i : Int) (rest : List (Nat × AV Nm)) : evView (ctxLp Try.prog numI (fun _ => false) libU1 fnsU []) 42 (false :: [false, true, false, true, true]) (loopAt (bodyOf Try.f90) [false, true, false, true, true]) ([(11, (.w (.one (.fv (.tab [some .i64, some .i64, none] T))))), (1, (.w (.one (.int .i64 x)))), (5, (.w (.one (.int .i64 k)))), (12, (.w (.one (.int .i64 n)))), (13, (.w (.one (.int .i64 i))))] ++ (ptrN 0 [] ++ rest)) [] 0 [11, 1, 5, 12, 13] [true, true] = some ((Ex.normal, [AV.w (AW.one (AC.fv (Nm.tab [some IntKind.i64, some IntKind.i64, none] T))), AV.w (AW.one (AC.int IntKind.i64 x)), AV.w (AW.one (AC.int IntKind.i64 k)), AV.w (AW.one (AC.int IntKind.i64 n)), AV.w (AW.one (AC.int IntKind.i64 (IntKind.i64.wrap (i + 1))))], []), (pickL [(decide (i < n), true), (decide (0 ≤ i), true), (decide (i < lenT T), true), (chkB { lo := cel T i 0, hi := cel T i 1, u := decide (cel T i 2 = 1) } != 0, true), (true, true), (false, false)] [0, 1, 2, 1, 2, 3, 3, 3, 4, 5, 5, 5, 5, 5, 5, 5, 5, 5, 5, 5, 5, 5])) := by kernel_rfl
set_option maxRecDepth 100000 in
theorem sq_101 (T : List (List Int)) (x : Int) (k : Int) (n : Int) (i : Int) (rest : List (Nat × AV Nm)) : evView (ctxLp Try.prog numI (fun _ => false) libU1 fnsU []) 42 (false :: [false, true, false, true, true]) (loopAt (bodyOf Try.f90) [false, true, false, true, true]) ([(11, (.w (.one (.fv (.tab [some .i64, some .i64, none] T))))), (1, (.w (.one (.int .i64 x)))), (5, (.w (.one (.int .i64 k)))), (12, (.w (.one (.int .i64 n)))), (13, (.w (.one (.int .i64 i))))] ++ (ptrN 0 [] ++ rest)) [] 0 [11, 1, 5, 12, 13] [true, false, true] = some ((Ex.normal, [AV.w (AW.one (AC.fv (Nm.tab [some IntKind.i64, some IntKind.i64, none] T))), AV.w (AW.one (AC.int IntKind.i64 x)), AV.w (AW.one (AC.int IntKind.i64 k)), AV.w (AW.one (AC.int IntKind.i64 n)), AV.w (AW.one (AC.int IntKind.i64 (IntKind.i64.wrap (i + 1))))], []), (pickL [(decide (i < n), true), (decide (0 ≤ i), true), (decide (i < lenT T), true), (chkB { lo := cel T i 0, hi := cel T i 1, u := decide (cel T i 2 = 1) } != 0, false), (decide (cel T i 2 = 1), true), (false, false)] [0, 1, 2, 1, 2, 3, 3, 3, 4, 5, 5, 5, 5, 5, 5, 5, 5, 5, 5, 5, 5, 5])) := by kernel_rfl
set_option maxRecDepth 100000 in
theorem sq_10011 (T : List (List Int)) (x : Int) (k : Int) (n : Int) (i : Int) (rest : List (Nat × AV Nm)) : evView (ctxLp Try.prog numI (fun _ => false) libU1 fnsU []) 42 (false :: [false, true, false, true, true]) (loopAt (bodyOf Try.f90) [false, true, false, true, true]) ([(11, (.w (.one (.fv (.tab [some .i64, some .i64, none] T))))), (1, (.w (.one (.int .i64 x)))), (5, (.w (.one (.int .i64 k)))), (12, (.w (.one (.int .i64 n)))), (13, (.w (.one (.int .i64 i))))] ++ (ptrN 0 [] ++ rest)) [] 0 [11, 1, 5, 12, 13] [true, false, false, true, true] = some ((Ex.normal, [AV.w (AW.one (AC.fv (Nm.tab [some IntKind.i64, some IntKind.i64, none] T))), AV.w (AW.one (AC.int IntKind.i64 x)), AV.w (AW.one (AC.int IntKind.i64 (IntKind.i64.wrap (k + 1)))), AV.w (AW.one (AC.int IntKind.i64 n)), AV.w (AW.one (AC.int IntKind.i64 (IntKind.i64.wrap (i + 1))))], []), (pickL [(decide (i < n), true), (decide (0 ≤ i), true), (decide (i < lenT T), true), (chkB { lo := cel T i 0, hi := cel T i 1, u := decide (cel T i 2 = 1) } != 0, false), (decide (cel T i 2 = 1), false), (i64B (cel T i 0), true), (i64B (cel T i 1), true), (true, true), (i64B x, true), (decide (cel T i 0 < 0) == decide (cel T i 0 < 0), true), (decide (x < 0) == decide (x < 0), true), (szB (cel T i 0), true), (szB x, true), (decide (cmpI (cel T i 0) x ≤ 0), true), (decide (cel T i 1 < 0) == decide (cel T i 1 < 0), true), (szB (cel T i 1), true), (decide (cmpI (cel T i 1) x ≥ 0), true)] [0, 1, 2, 1, 2, 3, 3, 3, 4, 5, 6, 7, 7, 7, 8, 7, 9, 10, 11, 12, 7, 7, 13, 13, 13, 8, 13, 14, 10, 15, 12, 13, 13, 16])) := by kernel_rfl
set_option maxRecDepth 100000 in
theorem sq_10010 (T : List (List Int)) (x : Int) (k : Int) (n : Int) (i : Int) (rest : List (Nat × AV Nm)) : evView (ctxLp Try.prog numI (fun _ => false) libU1 fnsU []) 42 (false :: [false, true, false, true, true]) (loopAt (bodyOf Try.f90) [false, true, false, true, true]) ([(11, (.w (.one (.fv (.tab [some .i64, some .i64, none] T))))), (1, (.w (.one (.int .i64 x)))), (5, (.w (.one (.int .i64 k)))), (12, (.w (.one (.int .i64 n)))), (13, (.w (.one (.int .i64 i))))] ++ (ptrN 0 [] ++ rest)) [] 0 [11, 1, 5, 12, 13] [true, false, false, true, false] = some ((Ex.normal, [AV.w (AW.one (AC.fv (Nm.tab [some IntKind.i64, some IntKind.i64, none] T))), AV.w (AW.one (AC.int IntKind.i64 x)), AV.w (AW.one (AC.int IntKind.i64 k)), AV.w (AW.one (AC.int IntKind.i64 n)), AV.w (AW.one (AC.int IntKind.i64 (IntKind.i64.wrap (i + 1))))], []), (pickL [(decide (i < n), true), (decide (0 ≤ i), true), (decide (i < lenT T), true), (chkB { lo := cel T i 0, hi := cel T i 1, u := decide (cel T i 2 = 1) } != 0, false), (decide (cel T i 2 = 1), false), (i64B (cel T i 0), true), (i64B (cel T i 1), true), (true, true), (i64B x, true), (decide (cel T i 0 < 0) == decide (cel T i 0 < 0), true), (decide (x < 0) == decide (x < 0), true), (szB (cel T i 0), true), (szB x, true), (decide (cmpI (cel T i 0) x ≤ 0), true), (decide (cel T i 1 < 0) == decide (cel T i 1 < 0), true), (szB (cel T i 1), true), (decide (cmpI (cel T i 1) x ≥ 0), false)] [0, 1, 2, 1, 2, 3, 3, 3, 4, 5, 6, 7, 7, 7, 8, 7, 9, 10, 11, 12, 7, 7, 13, 13, 13, 8, 13, 14, 10, 15, 12, 13, 13, 16])) := by kernel_rfl
set_option maxRecDepth 100000 in
theorem sq_1000 (T : List (List Int)) (x : Int) (k : Int) (n : Int) (i : Int) (rest : List (Nat × AV Nm)) : evView (ctxLp Try.prog numI (fun _ => false) libU1 fnsU []) 42 (false :: [false, true, false, true, true]) (loopAt (bodyOf Try.f90) [false, true, false, true, true]) ([(11, (.w (.one (.fv (.tab [some .i64, some .i64, none] T))))), (1, (.w (.one (.int .i64 x)))), (5, (.w (.one (.int .i64 k)))), (12, (.w (.one (.int .i64 n)))), (13, (.w (.one (.int .i64 i))))] ++ (ptrN 0 [] ++ rest)) [] 0 [11, 1, 5, 12, 13] [true, false, false, false] = some ((Ex.normal, [AV.w (AW.one (AC.fv (Nm.tab [some IntKind.i64, some IntKind.i64, none] T))), AV.w (AW.one (AC.int IntKind.i64 x)), AV.w (AW.one (AC.int IntKind.i64 k)), AV.w (AW.one (AC.int IntKind.i64 n)), AV.w (AW.one (AC.int IntKind.i64 (IntKind.i64.wrap (i + 1))))], []), (pickL [(decide (i < n), true), (decide (0 ≤ i), true), (decide (i < lenT T), true), (chkB { lo := cel T i 0, hi := cel T i 1, u := decide (cel T i 2 = 1) } != 0, false), (decide (cel T i 2 = 1), false), (i64B (cel T i 0), true), (i64B (cel T i 1), true), (true, true), (i64B x, true), (decide (cel T i 0 < 0) == decide (cel T i 0 < 0), true), (decide (x < 0) == decide (x < 0), true), (szB (cel T i 0), true), (szB x, true), (decide (cmpI (cel T i 0) x ≤ 0), false), (false, false)] [0, 1, 2, 1, 2, 3, 3, 3, 4, 5, 6, 7, 7, 7, 8, 7, 9, 10, 11, 12, 7, 7, 13, 13, 13, 13, 13, 13, 14])) := by kernel_rfl
set_option maxRecDepth 100000 in
theorem sq_0 (T : List (List Int)) (x : Int) (k : Int) (n : Int) (i : Int) (rest : List (Nat × AV Nm)) : evView (ctxLp Try.prog numI (fun _ => false) libU1 fnsU []) 42 (false :: [false, true, false, true, true]) (loopAt (bodyOf Try.f90) [false, true, false, true, true]) ([(11, (.w (.one (.fv (.tab [some .i64, some .i64, none] T))))), (1, (.w (.one (.int .i64 x)))), (5, (.w (.one (.int .i64 k)))), (12, (.w (.one (.int .i64 n)))), (13, (.w (.one (.int .i64 i))))] ++ (ptrN 0 [] ++ rest)) [] 0 [11, 1, 5, 12, 13] [false] = some ((Ex.exit 0, [AV.w (AW.one (AC.fv (Nm.tab [some IntKind.i64, some IntKind.i64, none] T))), AV.w (AW.one (AC.int IntKind.i64 x)), AV.w (AW.one (AC.int IntKind.i64 k)), AV.w (AW.one (AC.int IntKind.i64 n)), AV.w (AW.one (AC.int IntKind.i64 i))], []), (pickL [(decide (i < n), false)] [0])) := by kernel_rfl
structure sqT where
  T : List (List Int)
  x : Int
  k : Int
  n : Int
  i : Int
def sqP (T : List (List Int)) (x : Int) (k : Int) (n : Int) (i : Int) : Prop := 0 ≤ i ∧ i ≤ n ∧ n = lenT T ∧ n ≤ 34359738368 ∧ 0 ≤ k ∧ k ≤ i ∧ i64B x = true
instance (T : List (List Int)) (x : Int) (k : Int) (n : Int) (i : Int) : Decidable (sqP T x k n i) := by unfold sqP; infer_instance
def sqTm (T : List (List Int)) (x : Int) (k : Int) (n : Int) (i : Int) : List (Nat × AV Nm) := [(11, (.w (.one (.fv (.tab [some .i64, some .i64, none] T))))), (1, (.w (.one (.int .i64 x)))), (5, (.w (.one (.int .i64 k)))), (12, (.w (.one (.int .i64 n)))), (13, (.w (.one (.int .i64 i))))]
def sqS : LpSt sqT Nm where
  ps := []
  tm := fun t => sqTm t.T t.x t.k t.n t.i
  hp := fun t => []
def sqNx (T : List (List Int)) (x : Int) (k : Int) (n : Int) (i : Int) : Nxt sqT Nm := if i < n then .go ⟨T, x, if inR (rowU T i) x = true then k + 1 else k, n, i + 1⟩ else .out (.exit 0) (sqTm T x k n i) []
def sqStep (t : sqT) : Nxt sqT Nm := if sqP t.T t.x t.k t.n t.i then sqNx t.T t.x t.k t.n t.i else .bad
theorem sq_go {T : List (List Int)} {x : Int} {k : Int} {n : Int} {i : Int} (h : sqP T x k n i) : sqStep ⟨T, x, k, n, i⟩ = sqNx T x k n i := if_pos h
set_option maxRecDepth 100000 in
set_option maxHeartbeats 4000000 in
theorem sq_round (t : sqT) (hb : (sqStep t).isBad = false) (rest : List (Nat × AV Nm)) : ∃ fuel path r, evC (ctxLp Try.prog numI (fun _ => false) libU1 fnsU []) fuel 42 (false :: [false, true, false, true, true]) (loopAt (bodyOf Try.f90) [false, true, false, true, true]) (sqS.tm t ++ (ptrN 0 sqS.ps ++ rest)) (numb 0 (sqS.hp t)) 0 path = some r ∧ (∀ p ∈ r.cd, p.1 = p.2) ∧ Gives sqS 0 r (sqStep t) := by
  obtain ⟨T, x, k, n, i⟩ := t
  by_cases ok : sqP T x k n i
  · rw [sq_go ok]
    clear hb
    unfold sqNx
    obtain ⟨h1, h2, rfl, h4, h5, h6, h7⟩ := ok
    have e0 : decide (0 ≤ i) = true := decide_eq_true h1
    have e1 : i < lenT T → IntKind.i64.wrap (i + 1) = i + 1 := fun _ => v64 (by omega) (by omega)
    cases k0 : (decide (i < lenT T)) with
    | true =>
      cases k1 : (chkB { lo := cel T i 0, hi := cel T i 1, u := decide (cel T i 2 = 1) } != 0) with
      | true =>
        have hk : knB (AtTick.Fs.toBd (rowU T i)) = false := kn_bad (b := AtTick.Fs.toBd (rowU T i)) k1
        have hE : ¬ inR (rowU T i) x = true := by unfold inR; rw [hk]; simp
        have d0 := Dl.i64 h7
        rw [if_pos (of_decide_eq_true k0), if_neg hE]
        have L := sq_11 T x k (lenT T) i rest
        rw [e1 (of_decide_eq_true k0)] at L
        refine round_go L (pickL_ok ?_ _) rfl rfl rfl rfl
        repeat' (first | exact cd_nil | refine cd_cons ?_ ?_)
        all_goals first | rfl | with_reducible assumption | exact eqB _ | (apply Dl.sz; (repeat' (first | with_reducible assumption)); omega)
      | false =>
        cases k2 : (decide (cel T i 2 = 1)) with
        | true =>
          have hk : knB (AtTick.Fs.toBd (rowU T i)) = false := kn_u (b := AtTick.Fs.toBd (rowU T i)) k2
          have hE : ¬ inR (rowU T i) x = true := by unfold inR; rw [hk]; simp
          have d0 := Dl.i64 h7
          rw [if_pos (of_decide_eq_true k0), if_neg hE]
          have L := sq_101 T x k (lenT T) i rest
          rw [e1 (of_decide_eq_true k0)] at L
          refine round_go L (pickL_ok ?_ _) rfl rfl rfl rfl
          repeat' (first | exact cd_nil | refine cd_cons ?_ ?_)
          all_goals first | rfl | with_reducible assumption | exact eqB _ | (apply Dl.sz; (repeat' (first | with_reducible assumption)); omega)
        | false =>
          cases k3 : (decide (cmpI (cel T i 0) x ≤ 0)) with
          | true =>
            cases k4 : (decide (cmpI (cel T i 1) x ≥ 0)) with
            | true =>
              have hk : knB (AtTick.Fs.toBd (rowU T i)) = true := kn_ok (b := AtTick.Fs.toBd (rowU T i)) k1 k2
              obtain ⟨q1, q2⟩ := i64_kn hk
              replace q1 : i64B (cel T i 0) = true := q1
              replace q2 : i64B (cel T i 1) = true := q2
              have d1 := Dl.i64 q1
              have d2 := Dl.i64 q2
              have gk3 := k3
              rw [cmp_le0] at gk3
              replace gk3 := of_decide_eq_true gk3
              rw [cel_row] at gk3
              have gk4 := k4
              rw [cmp_ge0] at gk4
              replace gk4 := of_decide_eq_true gk4
              rw [cel_row] at gk4
              have hE : inR (rowU T i) x = true := by unfold inR; rw [hk, decide_eq_true (show (rowU T i).getD 0 0 ≤ x by omega), decide_eq_true (show x ≤ (rowU T i).getD 1 0 by omega)]; rfl
              have ek : IntKind.i64.wrap (k + 1) = k + 1 := v64 (by omega) (by omega)
              have d0 := Dl.i64 h7
              rw [if_pos (of_decide_eq_true k0), if_pos hE]
              have L := sq_10011 T x k (lenT T) i rest
              rw [e1 (of_decide_eq_true k0), ek] at L
              refine round_go L (pickL_ok ?_ _) rfl rfl rfl rfl
              repeat' (first | exact cd_nil | refine cd_cons ?_ ?_)
              all_goals first | rfl | with_reducible assumption | exact eqB _ | (apply Dl.sz; (repeat' (first | with_reducible assumption)); omega)
            | false =>
              have hk : knB (AtTick.Fs.toBd (rowU T i)) = true := kn_ok (b := AtTick.Fs.toBd (rowU T i)) k1 k2
              obtain ⟨q1, q2⟩ := i64_kn hk
              replace q1 : i64B (cel T i 0) = true := q1
              replace q2 : i64B (cel T i 1) = true := q2
              have d1 := Dl.i64 q1
              have d2 := Dl.i64 q2
              have gk3 := k3
              rw [cmp_le0] at gk3
              replace gk3 := of_decide_eq_true gk3
              rw [cel_row] at gk3
              have gk4 := k4
              rw [cmp_ge0] at gk4
              replace gk4 := of_decide_eq_false gk4
              rw [cel_row] at gk4
              have hE : ¬ inR (rowU T i) x = true := by
                intro hc
                unfold inR at hc
                simp only [Bool.and_eq_true, decide_eq_true_eq] at hc
                omega
              have d0 := Dl.i64 h7
              rw [if_pos (of_decide_eq_true k0), if_neg hE]
              have L := sq_10010 T x k (lenT T) i rest
              rw [e1 (of_decide_eq_true k0)] at L
              refine round_go L (pickL_ok ?_ _) rfl rfl rfl rfl
              repeat' (first | exact cd_nil | refine cd_cons ?_ ?_)
              all_goals first | rfl | with_reducible assumption | exact eqB _ | (apply Dl.sz; (repeat' (first | with_reducible assumption)); omega)
          | false =>
            have hk : knB (AtTick.Fs.toBd (rowU T i)) = true := kn_ok (b := AtTick.Fs.toBd (rowU T i)) k1 k2
            obtain ⟨q1, q2⟩ := i64_kn hk
            replace q1 : i64B (cel T i 0) = true := q1
            replace q2 : i64B (cel T i 1) = true := q2
            have d1 := Dl.i64 q1
            have d2 := Dl.i64 q2
            have gk3 := k3
            rw [cmp_le0] at gk3
            replace gk3 := of_decide_eq_false gk3
            rw [cel_row] at gk3
            have hE : ¬ inR (rowU T i) x = true := by
              intro hc
              unfold inR at hc
              simp only [Bool.and_eq_true, decide_eq_true_eq] at hc
              omega
            have d0 := Dl.i64 h7
            rw [if_pos (of_decide_eq_true k0), if_neg hE]
            have L := sq_1000 T x k (lenT T) i rest
            rw [e1 (of_decide_eq_true k0)] at L
            refine round_go L (pickL_ok ?_ _) rfl rfl rfl rfl
            repeat' (first | exact cd_nil | refine cd_cons ?_ ?_)
            all_goals first | rfl | with_reducible assumption | exact eqB _ | (apply Dl.sz; (repeat' (first | with_reducible assumption)); omega)
    | false =>
      rw [if_neg (of_decide_eq_false k0)]
      have L := sq_0 T x k (lenT T) i rest
      refine round_out L rfl (pickL_ok ?_ _) rfl rfl rfl
      repeat' (first | exact cd_nil | refine cd_cons ?_ ?_)
      all_goals first | rfl | with_reducible assumption
  · exfalso
    have : sqStep ⟨T, x, k, n, i⟩ = .bad := if_neg ok
    rw [this] at hb; cases hb
theorem sq_runs {T : List (List Int)} {x : Int} (h : lenT T ≤ 34359738368) (hx : i64B x = true) : ∀ (j i : Nat) (k : Int), i + j = T.length → 0 ≤ k → k ≤ i → ∃ c, runs sqStep c ⟨T, x, k, lenT T, i⟩ = some (.exit 0, sqTm T x (k + spV (T.drop i) x) (lenT T) (lenT T), [])
  | 0, i, k, hi, h0, h1 => by
    have e : (i : Int) = lenT T := by unfold lenT; omega
    refine ⟨1, ?_⟩
    rw [runs, sq_go ⟨by omega, by omega, rfl, h, h0, h1, hx⟩]
    unfold sqNx
    rw [if_neg (by omega), List.drop_eq_nil_of_le (by omega), e, sp_nil, Int.add_zero]
  | j + 1, i, k, hi, h0, h1 => by
    have hl : (i : Int) < lenT T := by unfold lenT; omega
    have d := dropU (T := T) (i := i) (by omega)
    obtain ⟨c, hc⟩ := sq_runs h hx j (i + 1) (if inR (rowU T i) x = true then k + 1 else k) (by omega) (by split <;> omega) (by split <;> omega)
    refine ⟨c + 1, ?_⟩
    rw [runs, sq_go ⟨by omega, by omega, rfl, h, h0, h1, hx⟩]
    unfold sqNx
    rw [if_pos hl, d, sp_cons]
    have e : (if inR (rowU T i) x = true then k + 1 else k) + spV (T.drop (i + 1)) x = k + ((if inR (rowU T i) x = true then 1 else 0) + spV (T.drop (i + 1)) x) := by split <;> omega
    rw [← e]
    exact hc
def sqD : LpDef sqT Nm where
  ts := [11, 1, 5, 12, 13]
  ps := []
  W := [1, 5, 7, 8, 9, 10, 11, 12, 13, 14, 15, 16, 17, 18, 19, 20, 21, 22, 23, 24, 25, 26, 27, 28, 29, 30, 31, 32, 33, 34, 35, 36, 37, 38, 39, 40]
  dec := fun vs ks => match vs, ks with
    | [.w (.one (.fv (.tab [some .i64, some .i64, none] T))), .w (.one (.int .i64 x)), .w (.one (.int .i64 k)), .w (.one (.int .i64 n)), .w (.one (.int .i64 i))], [] => some ⟨T, x, k, n, i⟩
    | _, _ => none
  spec := fun t => some (.exit 0, sqTm t.T t.x (spV t.T t.x) t.n t.n, [], [(decide (t.i = 0) && decide (t.n = lenT t.T) && decide (t.n ≤ 34359738368) && decide (t.k = 0) && i64B t.x, true)])
theorem sqD_ok (x : Code) (hx : codeAt (bodyOf Try.f90) [false, true, false, true, true] = some (.loop x)) : LpOk Try.prog numI 42 x (sqD.sp nmSafe) := by
  obtain rfl := loopAt_eq hx
  refine lp_ok (c := ctxLp Try.prog numI (fun _ => false) libU1 fnsU []) (ctxLp_ok libU1_ok (eq_none _) fnsU_ok (fun _ _ _ => lps_nil)) (by kernel_rfl) hx lps_nil (S := sqS) (step := sqStep) (fun _ h => h) (by kernel_rfl) (by kernel_rfl) ?_ rfl (fun t e he => ?_) (fun t hb rest => sq_round t hb rest) ?_
  · intro vs ks s hv1 h hv2
    simp only [sqD] at h
    split at h
    · cases h
      exact ⟨rfl, fun e he => he⟩
    · cases h
  · simp only [sqS, sqTm, List.mem_cons, List.not_mem_nil, or_false] at he
    rcases he with rfl | rfl | rfl | rfl | rfl <;> rfl
  · intro s ex outs wb cd h hc
    obtain ⟨T, x, k, n, i⟩ := s
    simp only [sqD] at h
    cases h
    have := c1x hc
    simp only [Bool.and_eq_true, decide_eq_true_eq] at this
    obtain ⟨⟨⟨⟨rfl, rfl⟩, h3⟩, rfl⟩, h5⟩ := this
    obtain ⟨c, hc⟩ := sq_runs h3 h5 T.length 0 0 (by omega) (by omega) (by omega)
    refine ⟨c, ?_⟩
    rw [List.drop_zero, Int.zero_add] at hc
    exact hc
noncomputable abbrev sqLps : Lps Nm := [((42, [false, true, false, true, true]), sqD.sp nmSafe)]
theorem sqLps_ok : LpsOk Try.prog numI sqLps Try.f90.ntmps (bodyOf Try.f90) := lps_cons (fun _ x hx => sqD_ok x hx) lps_nil
set_option maxRecDepth 100000 in
theorem spf_l (T : List (List Int)) (x : Int) : evR (ctxLp Try.prog numI (fun _ => false) [] [] sqLps) Try.f90 [(.w (.one (.fv (.tab [some .i64, some .i64, none] T)))), (.w (.one (.int .i64 x)))] [] = some (AV.w (AW.one (AC.int IntKind.i64 (spV T x))), [(decide ((0 : Int) = 0) && decide (lenT T = lenT T) && decide (lenT T ≤ 34359738368) && decide ((0 : Int) = 0) && i64B x, true)]) := by kernel_rfl
set_option maxHeartbeats 4000000 in
theorem gSp_ok : (factSp gSp).ok Try.prog numI 90 :=
  factR_ok (ctxLp_ok (lib1_nil _ _) (eq_none _) (fns_nil _) (fun f fn h => by cases h)) (by kernel_rfl) Try.func90 rfl sqLps_ok fun args v cd hg hc => by
    unfold gSp at hg
    split at hg
    · rename_i T x
      cases hg
      have h1 : decide (lenT T ≤ 34359738368) = true := hc (decide (lenT T ≤ 34359738368), true) (by simp)
      have h2 : i64B x = true := hc (i64B x, true) (by simp)
      refine ⟨rfl, rfl, rfl, ?_⟩
      refine ⟨[], _, _, spf_l T x, fun E u hu => hu, ?_⟩
      refine cd_cons ?_ cd_nil
      rw [h1, h2, decide_eq_true (rfl : lenT T = lenT T)]; rfl
    · cases hg
end
end Go.Proofs.Ytjegnlnnjcchaaa.AtCk

