/-
  Package prop: the loops of checkProposals and checkRequests, which keep keys in maps, and the reference's inner loops.
  Conditions: those of each theorem.
-/
import Derived.Test.YtbnlpcmnkcaemaaDoorPD
import Derived.Test.YtbnlpcmnkcaemaaDoorAL
set_option linter.unusedVariables false
set_option linter.unusedSimpArgs false
namespace Go.Proofs.YtbnlpcmnkcaemaaDoor.AtPr
open Go.RowKit Ev Wd AtRt AtHz
open Go.Proofs.YtbnlpcmnkcaemaaDoor
variable {F : Type}
noncomputable section

/-- Is this key, at row i, that of an earlier row? -/
def seenB (kf : List Int → Value) (T : List (List Int)) (i : Nat) : Bool := (T.take i).any (fun q => keyB (kf q) (kf (rowT T i)))
/-- The first error of rows: by itself, because of its key, by itself again. -/
def chE (kf : List Int → Value) (ef pf : List Int → Int) (T : List (List Int)) : Nat → Nat → Int
  | 0, _ => 0
  | j + 1, i => if ef (rowT T i) = 0 then (if seenB kf T i = true then 7 else if pf (rowT T i) = 0 then chE kf ef pf T j (i + 1) else pf (rowT T i)) else ef (rowT T i)
/-- The map of the keys of rows. -/
def DF (kf : List Int → Value) : List (List Int) → List (Value × Value) → List (Value × Value)
  | [], D => D
  | r :: T, D => DF kf T (mput D (kf r) (.bool true))
def kfP (r : List Int) : Value := .string (decS (r.getD 0 0))
def kfR (r : List Int) : Value := .int .i64 (r.getD 0 0)
def efP (r : List Int) : Int := prE (decS (r.getD 0 0)) (r.getD 1 0)
def pf0 (_ : List Int) : Int := 0
def pfR (m : Int) (r : List Int) : Int := if inR (r.getD 1 0) 0 (m - 1) = true then 0 else 8
theorem keyB_congr {a b c : Value} (h : keyB a b = true) : keyB a c = keyB b c := by
  cases a <;> cases b <;> simp only [keyB] at h <;> try (cases h; done)
  case bool.bool x y => obtain rfl := beq_iff_eq.1 h; rfl
  case int.int k x k' y => obtain rfl := of_decide_eq_true h; cases c <;> rfl
  case string.string x y => obtain rfl := (sEq_iff x y).1 h; rfl
theorem mget_put (D : List (Value × Value)) (k v k' : Value) : mget (mput D k v) k' = if keyB k k' = true then some v else mget D k' := by
  induction D with
  | nil => simp only [mput, mget]; cases keyB k k' <;> rfl
  | cons e r ih =>
    simp only [mput]
    cases h : keyB e.1 k with
    | true =>
      simp only [cond_true, mget]
      rw [keyB_congr (c := k') h]
      cases keyB k k' <;> rfl
    | false =>
      simp only [cond_false, mget]
      cases h2 : keyB e.1 k' with
      | true =>
        simp only [cond_true]
        cases h3 : keyB k k' with
        | true =>
          exfalso
          have : keyB e.1 k = true := by
            have sym : ∀ {a b : Value}, keyB a b = true → keyB b a = true := fun {a b} h => by
              cases a <;> cases b <;> simp only [keyB] at h ⊢ <;> try (cases h; done)
              case bool.bool x y => obtain rfl := beq_iff_eq.1 h; exact beq_self_eq_true _
              case int.int k x k' y => obtain rfl := of_decide_eq_true h; exact decide_eq_true rfl
              case string.string x y => obtain rfl := (sEq_iff x y).1 h; exact (sEq_iff x x).2 rfl
            rw [keyB_congr (c := k) h2]; exact sym h3
          rw [h] at this; cases this
        | false => rfl
      | false =>
        simp only [cond_false]
        exact ih
theorem mB_put (D : List (Value × Value)) (k k' : Value) : mB (mput D k (.bool true)) k' = (keyB k k' || mB D k') := by
  unfold mB
  rw [mget_put]
  cases keyB k k' <;> rfl
theorem mB_DF (kf : List Int → Value) (k : Value) : ∀ (L : List (List Int)) (D : List (Value × Value)), mB (DF kf L D) k = (L.any (fun q => keyB (kf q) k) || mB D k)
  | [], D => by simp [DF]
  | r :: L, D => by
    rw [DF, mB_DF kf k L, mB_put, List.any_cons]
    cases keyB (kf r) k <;> cases L.any (fun q => keyB (kf q) k) <;> rfl
theorem DF_snoc (kf : List Int → Value) (r : List Int) : ∀ (L : List (List Int)) (D : List (Value × Value)), DF kf (L ++ [r]) D = mput (DF kf L D) (kf r) (.bool true)
  | [], D => rfl
  | q :: L, D => by rw [List.cons_append, DF, DF, DF_snoc kf r L]
theorem take_row {T : List (List Int)} {i : Int} (h0 : 0 ≤ i) (h1 : i < lenT T) : T.take (i + 1).toNat = T.take i.toNat ++ [rowT T i] := by
  unfold lenT at h1
  have hi : i.toNat < T.length := by omega
  rw [show (i + 1).toNat = i.toNat + 1 by omega, List.take_succ_eq_append_getElem hi]
  congr 2
  unfold rowT
  simp [List.getD_eq_getElem?_getD, hi]
theorem DF_step {kf : List Int → Value} {T : List (List Int)} {i : Int} (h0 : 0 ≤ i) (h1 : i < lenT T) : mput (DF kf (T.take i.toNat) []) (kf (rowT T i)) (.bool true) = DF kf (T.take (i + 1).toNat) [] := by
  rw [take_row h0 h1, DF_snoc]
theorem mB_seen {kf : List Int → Value} {T : List (List Int)} {i : Int} : mB (DF kf (T.take i.toNat) []) (kf (rowT T i)) = seenB kf T i.toNat := by
  rw [mB_DF]
  unfold seenB
  have : mB [] (kf (rowT T i)) = false := rfl
  rw [this, Bool.or_false]
  have e : rowT T (i.toNat : Int) = rowT T i := by unfold rowT; rw [Int.toNat_natCast]
  rw [e]
theorem any_all {kf : List Int → Value} {L : List (List Int)} {k : Value} : (L.any (fun q => keyB (kf q) k)) = !(L.all fun q => !keyB (kf q) k) := by
  induction L with
  | nil => rfl
  | cons q L ih => rw [List.any_cons, List.all_cons, ih]; cases keyB (kf q) k <;> simp
theorem crql_pl (l : List Int) : Pl Tryd.prog 13 [.agg #[.int .i64 (rq l 0), .int .i64 (rq l 1), .int .i64 (rq l 2), .int .i64 (rq l 3), .int .i64 (rq l 4), .int .i64 (rq l 5), .int .i64 (rq l 6), .int .i64 (rq l 7), .int .i64 (rq l 8), .int .i64 (rq l 9), .int .i64 (rq l 10), .int .i64 (rq l 11), .int .i64 (rq l 12)]] (.int .i64 (rqE l)) := crq_pl (rq l 0) (rq l 1) (rq l 2) (rq l 3) (rq l 4) (rq l 5) (rq l 6) (rq l 7) (rq l 8) (rq l 9) (rq l 10) (rq l 11) (rq l 12)
theorem rrfl_pl (l : List Int) : Pl Tryd.prog 14 [.agg #[.int .i64 (rq l 0), .int .i64 (rq l 1), .int .i64 (rq l 2), .int .i64 (rq l 3), .int .i64 (rq l 4), .int .i64 (rq l 5), .int .i64 (rq l 6), .int .i64 (rq l 7), .int .i64 (rq l 8), .int .i64 (rq l 9), .int .i64 (rq l 10), .int .i64 (rq l 11), .int .i64 (rq l 12)]] (.int .i64 (rqE l)) := rrf_pl (rq l 0) (rq l 1) (rq l 2) (rq l 3) (rq l 4) (rq l 5) (rq l 6) (rq l 7) (rq l 8) (rq l 9) (rq l 10) (rq l 11) (rq l 12)
/-- How many rows' keys are in the map in the end. -/
def chK (kf : List Int → Value) (ef pf : List Int → Int) (T : List (List Int)) : Nat → Nat → Nat
  | 0, i => i
  | j + 1, i => if ef (rowT T i) = 0 then (if seenB kf T i = true then i else if pf (rowT T i) = 0 then chK kf ef pf T j (i + 1) else i + 1) else i
noncomputable abbrev libE1 : List (Nat × FnSp Tb) := [(11, prS)]
theorem libE1_ok : LibOk Tryd.prog tbI (lib1 libE1) := (lib1_cons (sp1_ok fun p _ => ⟨_, rfl, cpr_pl p.1 p.2⟩) Tryd.call11 (lib1_nil _ _))
noncomputable abbrev libE2 : List (Nat × FnSp Tb) := [(13, rqS), (37, inRS)]
theorem libE2_ok : LibOk Tryd.prog tbI (lib1 libE2) := (lib1_cons (sp1_ok fun l _ => ⟨_, rfl, crql_pl l⟩) Tryd.call13 (lib1_cons (sp3_ok fun x lo hi _ => ⟨_, rfl, wi1_pl x lo hi⟩) Tryd.call37 (lib1_nil _ _)))
noncomputable abbrev libE3 : List (Nat × FnSp Tb) := [(12, prS), (14, rqS), (40, inRS)]
theorem libE3_ok : LibOk Tryd.prog tbI (lib1 libE3) := (lib1_cons (sp1_ok fun p _ => ⟨_, rfl, prf_pl p.1 p.2⟩) Tryd.call12 (lib1_cons (sp1_ok fun l _ => ⟨_, rfl, rrfl_pl l⟩) Tryd.call14 (lib1_cons (sp3_ok fun x lo hi _ => ⟨_, rfl, inr2_pl x lo hi⟩) Tryd.call40 (lib1_nil _ _))))
set_option maxRecDepth 100000 in
theorem ma_100 (T : List (List Int)) (n : Int) (i : Int) (D : List (Value × Value)) (rest : List (Nat × AV Tb)) : evView (ctxOf Tryd.prog tbI (fun _ => false) libE1) 27 (false :: [false, true, false, true, true]) (loopAt (bodyOf Tryd.f45) [false, true, false, true, true]) ([(8, (.w (.one (.fv (.tab [some .i8, some .i64] T))))), (9, (.w (.one (.int .i64 n)))), (10, (.w (.one (.int .i64 i)))), (3, (.w (.one (.mpv 0))))] ++ (ptrN 0 [] ++ rest)) [⟨113, [.mp none (some none) D]⟩] 1 [8, 9, 10, 3] [true, false, false] = some ((Ex.normal, [AV.w (AW.one (AC.fv (Tb.tab [some IntKind.i8, some IntKind.i64] T))), AV.w (AW.one (AC.int IntKind.i64 n)), AV.w (AW.one (AC.int IntKind.i64 (IntKind.i64.wrap (i + 1)))), AV.w (AW.one (AC.mpv 0))], [{ ty := 113, cs := [AC.mp none (some none) (mput D (Value.string (decS (cel T i 0))) (Value.bool true))] }]), (pickL [(decide (i < n), true), (decide ((0 : Int) ≤ i), true), (decide (i < lenT T), true), (efP (rowT T i) != 0, false), (mB D (Value.string (decS (cel T i 0))), false)] [0, 1, 2, 1, 2, 3, 4])) := by kernel_rfl
set_option maxRecDepth 100000 in
theorem ma_0 (T : List (List Int)) (n : Int) (i : Int) (D : List (Value × Value)) (rest : List (Nat × AV Tb)) : evView (ctxOf Tryd.prog tbI (fun _ => false) libE1) 27 (false :: [false, true, false, true, true]) (loopAt (bodyOf Tryd.f45) [false, true, false, true, true]) ([(8, (.w (.one (.fv (.tab [some .i8, some .i64] T))))), (9, (.w (.one (.int .i64 n)))), (10, (.w (.one (.int .i64 i)))), (3, (.w (.one (.mpv 0))))] ++ (ptrN 0 [] ++ rest)) [⟨113, [.mp none (some none) D]⟩] 1 [8, 9, 10, 3] [false] = some ((Ex.exit 0, [AV.w (AW.one (AC.fv (Tb.tab [some IntKind.i8, some IntKind.i64] T))), AV.w (AW.one (AC.int IntKind.i64 n)), AV.w (AW.one (AC.int IntKind.i64 i)), AV.w (AW.one (AC.mpv 0))], [{ ty := 113, cs := [AC.mp none (some none) D] }]), (pickL [(decide (i < n), false)] [0])) := by kernel_rfl
set_option maxRecDepth 100000 in
theorem mar_11 (T : List (List Int)) (n : Int) (i : Int) (D : List (Value × Value)) (rest : List (Nat × AV Tb)) : evView (ctxOf Tryd.prog tbI (fun _ => false) libE1) 27 (false :: [false, true, false, true, true]) (loopAt (bodyOf Tryd.f45) [false, true, false, true, true]) ([(8, (.w (.one (.fv (.tab [some .i8, some .i64] T))))), (9, (.w (.one (.int .i64 n)))), (10, (.w (.one (.int .i64 i)))), (3, (.w (.one (.mpv 0))))] ++ (ptrN 0 [] ++ rest)) [⟨113, [.mp none (some none) D]⟩] 1 [2] [true, true] = some ((Ex.ret, [AV.w (AW.one (AC.int IntKind.i64 (efP (rowT T i))))], [{ ty := 113, cs := [AC.mp none (some none) D] }]), (pickL [(decide (i < n), true), (decide ((0 : Int) ≤ i), true), (decide (i < lenT T), true), (efP (rowT T i) != 0, true)] [0, 1, 2, 1, 2, 3])) := by kernel_rfl
set_option maxRecDepth 100000 in
theorem mar_101 (T : List (List Int)) (n : Int) (i : Int) (D : List (Value × Value)) (rest : List (Nat × AV Tb)) : evView (ctxOf Tryd.prog tbI (fun _ => false) libE1) 27 (false :: [false, true, false, true, true]) (loopAt (bodyOf Tryd.f45) [false, true, false, true, true]) ([(8, (.w (.one (.fv (.tab [some .i8, some .i64] T))))), (9, (.w (.one (.int .i64 n)))), (10, (.w (.one (.int .i64 i)))), (3, (.w (.one (.mpv 0))))] ++ (ptrN 0 [] ++ rest)) [⟨113, [.mp none (some none) D]⟩] 1 [2] [true, false, true] = some ((Ex.ret, [AV.w (AW.one (AC.int IntKind.i64 7))], [{ ty := 113, cs := [AC.mp none (some none) D] }]), (pickL [(decide (i < n), true), (decide ((0 : Int) ≤ i), true), (decide (i < lenT T), true), (efP (rowT T i) != 0, false), (mB D (Value.string (decS (cel T i 0))), true)] [0, 1, 2, 1, 2, 3, 4])) := by kernel_rfl
structure maT where
  T : List (List Int)
  n : Int
  i : Int
def maP (T : List (List Int)) (n : Int) (i : Int) : Prop := 0 ≤ i ∧ i ≤ n ∧ n = lenT T ∧ n ≤ 9223372036854775807
instance (T : List (List Int)) (n : Int) (i : Int) : Decidable (maP T n i) := by unfold maP; infer_instance
def maTm (T : List (List Int)) (n : Int) (i : Int) : List (Nat × AV Tb) := [(8, (.w (.one (.fv (.tab [some .i8, some .i64] T))))), (9, (.w (.one (.int .i64 n)))), (10, (.w (.one (.int .i64 i)))), (3, (.w (.one (.mpv 0))))]
def maS : LpSt maT Tb where
  ps := []
  tm := fun t => maTm t.T t.n t.i
  hp := fun t => [⟨113, [.mp none (some none) (DF kfP (t.T.take t.i.toNat) [])]⟩]
def maNx (T : List (List Int)) (n : Int) (i : Int) : Nxt maT Tb := if i < n then (if efP (rowT T i) = 0 then (if seenB kfP T i.toNat = true then .out .ret [(2, .w (.one (.int .i64 7)))] [⟨113, [.mp none (some none) (DF kfP (T.take i.toNat) [])]⟩] else if pf0 (rowT T i) = 0 then .go ⟨T, n, i + 1⟩ else .out .ret [(2, .w (.one (.int .i64 (pf0 (rowT T i)))))] [⟨113, [.mp none (some none) (DF kfP (T.take (i + 1).toNat) [])]⟩]) else .out .ret [(2, .w (.one (.int .i64 (efP (rowT T i)))))] [⟨113, [.mp none (some none) (DF kfP (T.take i.toNat) [])]⟩]) else .out (.exit 0) (maTm T n i) [⟨113, [.mp none (some none) (DF kfP (T.take i.toNat) [])]⟩]
def maStep (t : maT) : Nxt maT Tb := if maP t.T t.n t.i then maNx t.T t.n t.i else .bad
theorem ma_go {T : List (List Int)} {n : Int} {i : Int} (h : maP T n i) : maStep ⟨T, n, i⟩ = maNx T n i := if_pos h
set_option maxRecDepth 100000 in
set_option maxHeartbeats 4000000 in
theorem ma_round (t : maT) (hb : (maStep t).isBad = false) (rest : List (Nat × AV Tb)) : ∃ fuel path r, evC (ctxOf Tryd.prog tbI (fun _ => false) libE1) fuel 27 (false :: [false, true, false, true, true]) (loopAt (bodyOf Tryd.f45) [false, true, false, true, true]) (maS.tm t ++ (ptrN 0 maS.ps ++ rest)) (numb 0 (maS.hp t)) 1 path = some r ∧ (∀ p ∈ r.cd, p.1 = p.2) ∧ Gives maS 1 r (maStep t) := by
  obtain ⟨T, n, i⟩ := t
  by_cases ok : maP T n i
  · rw [ma_go ok]
    clear hb
    unfold maNx
    obtain ⟨h1, h2, rfl, h4⟩ := ok
    have e0 : decide (0 ≤ i) = true := decide_eq_true h1
    have e1 : i < lenT T → IntKind.i64.wrap (i + 1) = i + 1 := fun _ => v64p (by omega) (by omega)
    cases k0 : (decide (i < lenT T)) with
    | true =>
      cases k1 : (efP (rowT T i) != 0) with
      | true =>
        rw [if_pos (of_decide_eq_true k0)]
        have hE : ¬ efP (rowT T i) = 0 := by simpa using k1
        rw [if_neg hE]
        have L := mar_11 T (lenT T) i (DF kfP (T.take i.toNat) []) rest
        refine round_outR L rfl (pickL_ok ?_ _) rfl rfl
        repeat' (first | exact cd_nil | refine cd_cons ?_ ?_)
        all_goals first | rfl | with_reducible assumption
      | false =>
        cases k2 : (mB (DF kfP (T.take i.toNat) []) (Value.string (decS (cel T i 0)))) with
        | true =>
          rw [if_pos (of_decide_eq_true k0)]
          have hE : efP (rowT T i) = 0 := by simpa using k1
          rw [if_pos hE]
          have hS : seenB kfP T i.toNat = true := mB_seen.symm.trans k2
          rw [hS]
          rw [if_pos rfl]
          have L := mar_101 T (lenT T) i (DF kfP (T.take i.toNat) []) rest
          refine round_outR L rfl (pickL_ok ?_ _) rfl rfl
          repeat' (first | exact cd_nil | refine cd_cons ?_ ?_)
          all_goals first | rfl | with_reducible assumption
        | false =>
          rw [if_pos (of_decide_eq_true k0)]
          have hE : efP (rowT T i) = 0 := by simpa using k1
          rw [if_pos hE]
          have hS : seenB kfP T i.toNat = false := mB_seen.symm.trans k2
          rw [hS]
          rw [if_neg (by simp)]
          have hD := DF_step (kf := kfP) h1 (of_decide_eq_true k0)
          rw [if_pos (show pf0 (rowT T i) = 0 from rfl)]
          have L := ma_100 T (lenT T) i (DF kfP (T.take i.toNat) []) rest
          rw [e1 (of_decide_eq_true k0)] at L
          replace L := L.trans (congrArg (fun D => some ((Ex.normal, _, [(⟨_, [.mp _ _ D]⟩ : Blk Tb)]), _)) hD)
          refine round_go L (pickL_ok ?_ _) rfl rfl rfl rfl
          repeat' (first | exact cd_nil | refine cd_cons ?_ ?_)
          all_goals first | rfl | with_reducible assumption
    | false =>
      rw [if_neg (of_decide_eq_false k0)]
      have L := ma_0 T (lenT T) i (DF kfP (T.take i.toNat) []) rest
      refine round_outR L rfl (pickL_ok ?_ _) rfl rfl
      repeat' (first | exact cd_nil | refine cd_cons ?_ ?_)
      all_goals first | rfl | with_reducible assumption
  · exfalso
    have : maStep ⟨T, n, i⟩ = .bad := if_neg ok
    rw [this] at hb; cases hb
theorem ma_runs {T : List (List Int)}  (h : lenT T ≤ 9223372036854775807)  : ∀ (j i : Nat), i + j = T.length → ∃ c, runs maStep c ⟨T, lenT T, i⟩ =
    (if chE kfP efP pf0 T j i = 0 then some (.exit 0, maTm T (lenT T) (lenT T), [⟨113, [.mp none (some none) (DF kfP (T.take (lenT T).toNat) [])]⟩]) else some (.ret, [(2, .w (.one (.int .i64 (chE kfP efP pf0 T j i))))], [⟨113, [.mp none (some none) (DF kfP (T.take (chK kfP efP pf0 T j i)) [])]⟩]))
  | 0, i, hi => by
    have e : (i : Int) = lenT T := by unfold lenT; omega
    refine ⟨1, ?_⟩
    rw [runs, ma_go ⟨by omega, by omega, rfl, h⟩]
    unfold maNx
    rw [if_neg (by omega), e]
    rfl
  | j + 1, i, hi => by
    have hl : (i : Int) < lenT T := by unfold lenT; omega
    have en : (i : Int).toNat = i := Int.toNat_natCast i
    have en1 : ((i : Int) + 1).toNat = i + 1 := by omega
    by_cases g : efP (rowT T i) = 0
    · by_cases g2 : seenB kfP T i = true
      · refine ⟨1, ?_⟩
        rw [runs, ma_go ⟨by omega, by omega, rfl, h⟩]
        unfold maNx
        have e : chE kfP efP pf0 T (j + 1) i = 7 := by rw [chE, if_pos g, if_pos g2]
        have ek : chK kfP efP pf0 T (j + 1) i = i := by rw [chK, if_pos g, if_pos g2]
        rw [if_pos hl, if_pos g, en, if_pos g2, e, ek]
        rfl
      · by_cases g3 : pf0 (rowT T i) = 0
        · obtain ⟨c, hc⟩ := ma_runs h  j (i + 1) (by omega)
          refine ⟨c + 1, ?_⟩
          rw [runs, ma_go ⟨by omega, by omega, rfl, h⟩]
          unfold maNx
          have e : chE kfP efP pf0 T (j + 1) i = chE kfP efP pf0 T j (i + 1) := by rw [chE, if_pos g, if_neg g2, if_pos g3]
          have ek : chK kfP efP pf0 T (j + 1) i = chK kfP efP pf0 T j (i + 1) := by rw [chK, if_pos g, if_neg g2, if_pos g3]
          rw [if_pos hl, if_pos g, en, if_neg g2, if_pos g3, e, ek]
          exact hc
        · refine ⟨1, ?_⟩
          rw [runs, ma_go ⟨by omega, by omega, rfl, h⟩]
          unfold maNx
          have e : chE kfP efP pf0 T (j + 1) i = pf0 (rowT T i) := by rw [chE, if_pos g, if_neg g2, if_neg g3]
          have ek : chK kfP efP pf0 T (j + 1) i = i + 1 := by rw [chK, if_pos g, if_neg g2, if_neg g3]
          rw [if_pos hl, if_pos g, en, if_neg g2, if_neg g3, e, ek, if_neg g3, en1]
    · refine ⟨1, ?_⟩
      rw [runs, ma_go ⟨by omega, by omega, rfl, h⟩]
      unfold maNx
      have e : chE kfP efP pf0 T (j + 1) i = efP (rowT T i) := by rw [chE, if_neg g]
      have ek : chK kfP efP pf0 T (j + 1) i = i := by rw [chK, if_neg g]
      rw [if_pos hl, if_neg g, e, ek, if_neg g, en]
def maD : LpDefA maT Tb where
  ts := [8, 9, 10]
  ps := []
  rs := [3]
  W := [2, 3, 5, 6, 8, 9, 10, 11, 12, 13, 14, 15, 16, 17, 18, 19, 20, 21, 22, 23, 24, 25, 26]
  dec := fun vs tr ks => match vs, tr, ks with
    | [.w (.one (.fv (.tab [some .i8, some .i64] T))), .w (.one (.int .i64 n)), .w (.one (.int .i64 i))], [.mpv _], [⟨113, [.mp none (some none) []]⟩] => bif decide (i = 0) then some ⟨T, n, 0⟩ else none
    | _, _, _ => none
  fk := fun t => some (decide (chE kfP efP pf0 t.T t.T.length 0 = 0))
  spec := fun t β => match β with
    | true => some (.exit 0, [(8, (.w (.one (.fv (.tab [some .i8, some .i64] t.T))))), (9, (.w (.one (.int .i64 t.n)))), (10, (.w (.one (.int .i64 t.n))))], [(3, 0, .mpv 0)], [⟨113, [.mp none (some none) (DF kfP (t.T.take t.n.toNat) [])]⟩], [(decide (t.i = 0) && decide (t.n = lenT t.T) && decide (t.n ≤ 9223372036854775807), true)])
    | false => some (.ret, [(2, .w (.one (.int .i64 (chE kfP efP pf0 t.T t.T.length 0))))], [], [⟨113, [.mp none (some none) (DF kfP (t.T.take (chK kfP efP pf0 t.T t.T.length 0)) [])]⟩], [(decide (t.i = 0) && decide (t.n = lenT t.T) && decide (t.n ≤ 9223372036854775807), true)])
theorem maD_ok (x : Code) (hx : codeAt (bodyOf Tryd.f45) [false, true, false, true, true] = some (.loop x)) : LpOk Tryd.prog tbI 27 x (maD.sp (fun _ => true)) := by
  obtain rfl := loopAt_eq hx
  refine lpA_ok (c := ctxOf Tryd.prog tbI (fun _ => false) libE1) (ctxOf_ok libE1_ok (eq_none _)) (by kernel_rfl) (fun _ _ _ h => h) hx lps_nil (S := maS) (step := maStep) (fun _ _ => rfl) (by kernel_rfl) (by kernel_rfl) ?_ rfl (fun t e he => ?_) (fun t hb rest => ma_round t hb rest) ?_
  · intro vs tr ks s hv1 hv2 h hv3
    simp only [maD] at h
    split at h
    · rename_i T n i  b
      have hb : decide (i = 0) = true := by
        cases hb : decide (i = 0) with
        | false => rw [hb] at h; cases h
        | true => rfl
      rw [hb] at h
      obtain rfl := of_decide_eq_true hb
      cases h
      refine ⟨rfl, fun e he => ?_⟩
      simp only [maS, maTm] at he
      rcases List.mem_cons.1 he with rfl | he
      · exact .inl (List.mem_of_getElem? (i := 0) rfl)
      rcases List.mem_cons.1 he with rfl | he
      · exact .inl (List.mem_of_getElem? (i := 1) rfl)
      rcases List.mem_cons.1 he with rfl | he
      · exact .inl (List.mem_of_getElem? (i := 2) rfl)
      obtain rfl := List.mem_singleton.1 he
      exact .inr ⟨0, _, _, rfl, rfl, rfl⟩
    · cases h
  · simp only [maS, maTm, List.mem_cons, List.not_mem_nil, or_false] at he
    rcases he with rfl | rfl | rfl | rfl <;> rfl
  · intro s β ex outs rts wb cd h hfk hc
    obtain ⟨T, n, i⟩ := s
    have hβ := hfk _ rfl
    cases β with
    | true =>
      simp only [maD] at h hβ
      cases h
      have := c1x hc
      simp only [Bool.and_eq_true, decide_eq_true_eq] at this
      obtain ⟨⟨rfl, rfl⟩, h3⟩ := this
      obtain ⟨c, hc⟩ := ma_runs h3 T.length 0 (by omega)
      refine ⟨c, ?_⟩
      rw [if_pos (of_decide_eq_true hβ)] at hc
      exact hc
    | false =>
      simp only [maD] at h hβ
      cases h
      have := c1x hc
      simp only [Bool.and_eq_true, decide_eq_true_eq] at this
      obtain ⟨⟨rfl, rfl⟩, h3⟩ := this
      obtain ⟨c, hc⟩ := ma_runs h3 T.length 0 (by omega)
      refine ⟨c, ?_⟩
      rw [if_neg (of_decide_eq_false hβ)] at hc
      exact hc
set_option maxRecDepth 100000 in
theorem mb_1000 (T : List (List Int)) (n : Int) (i : Int) (m : Int) (D : List (Value × Value)) (rest : List (Nat × AV Tb)) : evView (ctxOf Tryd.prog tbI (fun _ => false) libE2) 35 (false :: [false, true, false, true, true]) (loopAt (bodyOf Tryd.f46) [false, true, false, true, true]) ([(10, (.w (.one (.fv (.tab [some .i64, some .i64, some .i64, some .i64, some .i64, some .i64, some .i64, some .i64, some .i64, some .i64, some .i64, some .i64, some .i64] T))))), (11, (.w (.one (.int .i64 n)))), (12, (.w (.one (.int .i64 i)))), (1, (.w (.one (.int .i64 m)))), (5, (.w (.one (.mpv 0))))] ++ (ptrN 0 [] ++ rest)) [⟨114, [.mp (some (some .i64)) (some none) D]⟩] 1 [10, 11, 12, 1, 5] [true, false, false, false] = some ((Ex.normal, [AV.w (AW.one (AC.fv (Tb.tab [some IntKind.i64, some IntKind.i64, some IntKind.i64, some IntKind.i64, some IntKind.i64, some IntKind.i64, some IntKind.i64, some IntKind.i64, some IntKind.i64, some IntKind.i64, some IntKind.i64, some IntKind.i64, some IntKind.i64] T))), AV.w (AW.one (AC.int IntKind.i64 n)), AV.w (AW.one (AC.int IntKind.i64 (IntKind.i64.wrap (i + 1)))), AV.w (AW.one (AC.int IntKind.i64 m)), AV.w (AW.one (AC.mpv 0))], [{ ty := 114, cs := [AC.mp (some (some IntKind.i64)) (some none) (mput D (Value.int IntKind.i64 (cel T i 0)) (Value.bool true))] }]), (pickL [(decide (i < n), true), (decide ((0 : Int) ≤ i), true), (decide (i < lenT T), true), (rqE (rowT T i) != 0, false), (mB D (Value.int IntKind.i64 (cel T i 0)), false), (!inR (cel T i 1) 0 (IntKind.i64.wrap (m - 1)), false)] [0, 1, 2, 1, 2, 3, 4, 5])) := by kernel_rfl
set_option maxRecDepth 100000 in
theorem mb_0 (T : List (List Int)) (n : Int) (i : Int) (m : Int) (D : List (Value × Value)) (rest : List (Nat × AV Tb)) : evView (ctxOf Tryd.prog tbI (fun _ => false) libE2) 35 (false :: [false, true, false, true, true]) (loopAt (bodyOf Tryd.f46) [false, true, false, true, true]) ([(10, (.w (.one (.fv (.tab [some .i64, some .i64, some .i64, some .i64, some .i64, some .i64, some .i64, some .i64, some .i64, some .i64, some .i64, some .i64, some .i64] T))))), (11, (.w (.one (.int .i64 n)))), (12, (.w (.one (.int .i64 i)))), (1, (.w (.one (.int .i64 m)))), (5, (.w (.one (.mpv 0))))] ++ (ptrN 0 [] ++ rest)) [⟨114, [.mp (some (some .i64)) (some none) D]⟩] 1 [10, 11, 12, 1, 5] [false] = some ((Ex.exit 0, [AV.w (AW.one (AC.fv (Tb.tab [some IntKind.i64, some IntKind.i64, some IntKind.i64, some IntKind.i64, some IntKind.i64, some IntKind.i64, some IntKind.i64, some IntKind.i64, some IntKind.i64, some IntKind.i64, some IntKind.i64, some IntKind.i64, some IntKind.i64] T))), AV.w (AW.one (AC.int IntKind.i64 n)), AV.w (AW.one (AC.int IntKind.i64 i)), AV.w (AW.one (AC.int IntKind.i64 m)), AV.w (AW.one (AC.mpv 0))], [{ ty := 114, cs := [AC.mp (some (some IntKind.i64)) (some none) D] }]), (pickL [(decide (i < n), false)] [0])) := by kernel_rfl
set_option maxRecDepth 100000 in
theorem mbr_11 (T : List (List Int)) (n : Int) (i : Int) (m : Int) (D : List (Value × Value)) (rest : List (Nat × AV Tb)) : evView (ctxOf Tryd.prog tbI (fun _ => false) libE2) 35 (false :: [false, true, false, true, true]) (loopAt (bodyOf Tryd.f46) [false, true, false, true, true]) ([(10, (.w (.one (.fv (.tab [some .i64, some .i64, some .i64, some .i64, some .i64, some .i64, some .i64, some .i64, some .i64, some .i64, some .i64, some .i64, some .i64] T))))), (11, (.w (.one (.int .i64 n)))), (12, (.w (.one (.int .i64 i)))), (1, (.w (.one (.int .i64 m)))), (5, (.w (.one (.mpv 0))))] ++ (ptrN 0 [] ++ rest)) [⟨114, [.mp (some (some .i64)) (some none) D]⟩] 1 [4] [true, true] = some ((Ex.ret, [AV.w (AW.one (AC.int IntKind.i64 (rqE (rowT T i))))], [{ ty := 114, cs := [AC.mp (some (some IntKind.i64)) (some none) D] }]), (pickL [(decide (i < n), true), (decide ((0 : Int) ≤ i), true), (decide (i < lenT T), true), (rqE (rowT T i) != 0, true)] [0, 1, 2, 1, 2, 3])) := by kernel_rfl
set_option maxRecDepth 100000 in
theorem mbr_101 (T : List (List Int)) (n : Int) (i : Int) (m : Int) (D : List (Value × Value)) (rest : List (Nat × AV Tb)) : evView (ctxOf Tryd.prog tbI (fun _ => false) libE2) 35 (false :: [false, true, false, true, true]) (loopAt (bodyOf Tryd.f46) [false, true, false, true, true]) ([(10, (.w (.one (.fv (.tab [some .i64, some .i64, some .i64, some .i64, some .i64, some .i64, some .i64, some .i64, some .i64, some .i64, some .i64, some .i64, some .i64] T))))), (11, (.w (.one (.int .i64 n)))), (12, (.w (.one (.int .i64 i)))), (1, (.w (.one (.int .i64 m)))), (5, (.w (.one (.mpv 0))))] ++ (ptrN 0 [] ++ rest)) [⟨114, [.mp (some (some .i64)) (some none) D]⟩] 1 [4] [true, false, true] = some ((Ex.ret, [AV.w (AW.one (AC.int IntKind.i64 7))], [{ ty := 114, cs := [AC.mp (some (some IntKind.i64)) (some none) D] }]), (pickL [(decide (i < n), true), (decide ((0 : Int) ≤ i), true), (decide (i < lenT T), true), (rqE (rowT T i) != 0, false), (mB D (Value.int IntKind.i64 (cel T i 0)), true)] [0, 1, 2, 1, 2, 3, 4])) := by kernel_rfl
set_option maxRecDepth 100000 in
theorem mbr_1001 (T : List (List Int)) (n : Int) (i : Int) (m : Int) (D : List (Value × Value)) (rest : List (Nat × AV Tb)) : evView (ctxOf Tryd.prog tbI (fun _ => false) libE2) 35 (false :: [false, true, false, true, true]) (loopAt (bodyOf Tryd.f46) [false, true, false, true, true]) ([(10, (.w (.one (.fv (.tab [some .i64, some .i64, some .i64, some .i64, some .i64, some .i64, some .i64, some .i64, some .i64, some .i64, some .i64, some .i64, some .i64] T))))), (11, (.w (.one (.int .i64 n)))), (12, (.w (.one (.int .i64 i)))), (1, (.w (.one (.int .i64 m)))), (5, (.w (.one (.mpv 0))))] ++ (ptrN 0 [] ++ rest)) [⟨114, [.mp (some (some .i64)) (some none) D]⟩] 1 [4] [true, false, false, true] = some ((Ex.ret, [AV.w (AW.one (AC.int IntKind.i64 8))], [{ ty := 114, cs := [AC.mp (some (some IntKind.i64)) (some none) (mput D (Value.int IntKind.i64 (cel T i 0)) (Value.bool true))] }]), (pickL [(decide (i < n), true), (decide ((0 : Int) ≤ i), true), (decide (i < lenT T), true), (rqE (rowT T i) != 0, false), (mB D (Value.int IntKind.i64 (cel T i 0)), false), (!inR (cel T i 1) 0 (IntKind.i64.wrap (m - 1)), true)] [0, 1, 2, 1, 2, 3, 4, 5])) := by kernel_rfl
structure mbT where
  T : List (List Int)
  n : Int
  i : Int
  m : Int
def mbP (T : List (List Int)) (n : Int) (i : Int) (m : Int) : Prop := 0 ≤ i ∧ i ≤ n ∧ n = lenT T ∧ n ≤ 9223372036854775807 ∧ 0 ≤ m ∧ m ≤ 9223372036854775807
instance (T : List (List Int)) (n : Int) (i : Int) (m : Int) : Decidable (mbP T n i m) := by unfold mbP; infer_instance
def mbTm (T : List (List Int)) (n : Int) (i : Int) (m : Int) : List (Nat × AV Tb) := [(10, (.w (.one (.fv (.tab [some .i64, some .i64, some .i64, some .i64, some .i64, some .i64, some .i64, some .i64, some .i64, some .i64, some .i64, some .i64, some .i64] T))))), (11, (.w (.one (.int .i64 n)))), (12, (.w (.one (.int .i64 i)))), (1, (.w (.one (.int .i64 m)))), (5, (.w (.one (.mpv 0))))]
def mbS : LpSt mbT Tb where
  ps := []
  tm := fun t => mbTm t.T t.n t.i t.m
  hp := fun t => [⟨114, [.mp (some (some .i64)) (some none) (DF kfR (t.T.take t.i.toNat) [])]⟩]
def mbNx (T : List (List Int)) (n : Int) (i : Int) (m : Int) : Nxt mbT Tb := if i < n then (if rqE (rowT T i) = 0 then (if seenB kfR T i.toNat = true then .out .ret [(4, .w (.one (.int .i64 7)))] [⟨114, [.mp (some (some .i64)) (some none) (DF kfR (T.take i.toNat) [])]⟩] else if (pfR m) (rowT T i) = 0 then .go ⟨T, n, i + 1, m⟩ else .out .ret [(4, .w (.one (.int .i64 ((pfR m) (rowT T i)))))] [⟨114, [.mp (some (some .i64)) (some none) (DF kfR (T.take (i + 1).toNat) [])]⟩]) else .out .ret [(4, .w (.one (.int .i64 (rqE (rowT T i)))))] [⟨114, [.mp (some (some .i64)) (some none) (DF kfR (T.take i.toNat) [])]⟩]) else .out (.exit 0) (mbTm T n i m) [⟨114, [.mp (some (some .i64)) (some none) (DF kfR (T.take i.toNat) [])]⟩]
def mbStep (t : mbT) : Nxt mbT Tb := if mbP t.T t.n t.i t.m then mbNx t.T t.n t.i t.m else .bad
theorem mb_go {T : List (List Int)} {n : Int} {i : Int} {m : Int} (h : mbP T n i m) : mbStep ⟨T, n, i, m⟩ = mbNx T n i m := if_pos h
set_option maxRecDepth 100000 in
set_option maxHeartbeats 4000000 in
theorem mb_round (t : mbT) (hb : (mbStep t).isBad = false) (rest : List (Nat × AV Tb)) : ∃ fuel path r, evC (ctxOf Tryd.prog tbI (fun _ => false) libE2) fuel 35 (false :: [false, true, false, true, true]) (loopAt (bodyOf Tryd.f46) [false, true, false, true, true]) (mbS.tm t ++ (ptrN 0 mbS.ps ++ rest)) (numb 0 (mbS.hp t)) 1 path = some r ∧ (∀ p ∈ r.cd, p.1 = p.2) ∧ Gives mbS 1 r (mbStep t) := by
  obtain ⟨T, n, i, m⟩ := t
  by_cases ok : mbP T n i m
  · rw [mb_go ok]
    clear hb
    unfold mbNx
    obtain ⟨h1, h2, rfl, h4, hm0, hm1⟩ := ok
    have e0 : decide (0 ≤ i) = true := decide_eq_true h1
    have e1 : i < lenT T → IntKind.i64.wrap (i + 1) = i + 1 := fun _ => v64p (by omega) (by omega)
    cases k0 : (decide (i < lenT T)) with
    | true =>
      cases k1 : (rqE (rowT T i) != 0) with
      | true =>
        rw [if_pos (of_decide_eq_true k0)]
        have hE : ¬ rqE (rowT T i) = 0 := by simpa using k1
        rw [if_neg hE]
        have L := mbr_11 T (lenT T) i m (DF kfR (T.take i.toNat) []) rest
        refine round_outR L rfl (pickL_ok ?_ _) rfl rfl
        repeat' (first | exact cd_nil | refine cd_cons ?_ ?_)
        all_goals first | rfl | with_reducible assumption
      | false =>
        cases k2 : (mB (DF kfR (T.take i.toNat) []) (Value.int IntKind.i64 (cel T i 0))) with
        | true =>
          rw [if_pos (of_decide_eq_true k0)]
          have hE : rqE (rowT T i) = 0 := by simpa using k1
          rw [if_pos hE]
          have hS : seenB kfR T i.toNat = true := mB_seen.symm.trans k2
          rw [hS]
          rw [if_pos rfl]
          have L := mbr_101 T (lenT T) i m (DF kfR (T.take i.toNat) []) rest
          refine round_outR L rfl (pickL_ok ?_ _) rfl rfl
          repeat' (first | exact cd_nil | refine cd_cons ?_ ?_)
          all_goals first | rfl | with_reducible assumption
        | false =>
          cases k3 : (!inR (cel T i 1) 0 (IntKind.i64.wrap (m - 1))) with
          | true =>
            rw [if_pos (of_decide_eq_true k0)]
            have hE : rqE (rowT T i) = 0 := by simpa using k1
            rw [if_pos hE]
            have hS : seenB kfR T i.toNat = false := mB_seen.symm.trans k2
            rw [hS]
            rw [if_neg (by simp)]
            have hD := DF_step (kf := kfR) h1 (of_decide_eq_true k0)
            have hm : IntKind.i64.wrap (m - 1) = m - 1 := v64p (by omega) (by omega)
            have hI : inR (cel T i 1) 0 (m - 1) = false := by rw [← hm]; simpa using k3
            have hP : pfR m (rowT T i) = 8 := if_neg (by rw [show inR ((rowT T i).getD 1 0) 0 (m - 1) = false from hI]; simp)
            rw [if_neg (by omega), hP]
            have L := mbr_1001 T (lenT T) i m (DF kfR (T.take i.toNat) []) rest
            replace L := L.trans (congrArg (fun D => some ((Ex.ret, _, [(⟨_, [.mp _ _ D]⟩ : Blk Tb)]), _)) hD)
            refine round_outR L rfl (pickL_ok ?_ _) rfl rfl
            repeat' (first | exact cd_nil | refine cd_cons ?_ ?_)
            all_goals first | rfl | with_reducible assumption
          | false =>
            rw [if_pos (of_decide_eq_true k0)]
            have hE : rqE (rowT T i) = 0 := by simpa using k1
            rw [if_pos hE]
            have hS : seenB kfR T i.toNat = false := mB_seen.symm.trans k2
            rw [hS]
            rw [if_neg (by simp)]
            have hD := DF_step (kf := kfR) h1 (of_decide_eq_true k0)
            have hm : IntKind.i64.wrap (m - 1) = m - 1 := v64p (by omega) (by omega)
            have hI : inR (cel T i 1) 0 (m - 1) = true := by rw [← hm]; simpa using k3
            have hP : pfR m (rowT T i) = 0 := if_pos (show inR ((rowT T i).getD 1 0) 0 (m - 1) = true from hI)
            rw [if_pos hP]
            have L := mb_1000 T (lenT T) i m (DF kfR (T.take i.toNat) []) rest
            rw [e1 (of_decide_eq_true k0)] at L
            replace L := L.trans (congrArg (fun D => some ((Ex.normal, _, [(⟨_, [.mp _ _ D]⟩ : Blk Tb)]), _)) hD)
            refine round_go L (pickL_ok ?_ _) rfl rfl rfl rfl
            repeat' (first | exact cd_nil | refine cd_cons ?_ ?_)
            all_goals first | rfl | with_reducible assumption
    | false =>
      rw [if_neg (of_decide_eq_false k0)]
      have L := mb_0 T (lenT T) i m (DF kfR (T.take i.toNat) []) rest
      refine round_outR L rfl (pickL_ok ?_ _) rfl rfl
      repeat' (first | exact cd_nil | refine cd_cons ?_ ?_)
      all_goals first | rfl | with_reducible assumption
  · exfalso
    have : mbStep ⟨T, n, i, m⟩ = .bad := if_neg ok
    rw [this] at hb; cases hb
theorem mb_runs {T : List (List Int)} {m : Int} (h : lenT T ≤ 9223372036854775807) (hm0 : 0 ≤ m) (hm1 : m ≤ 9223372036854775807) : ∀ (j i : Nat), i + j = T.length → ∃ c, runs mbStep c ⟨T, lenT T, i, m⟩ =
    (if chE kfR rqE (pfR m) T j i = 0 then some (.exit 0, mbTm T (lenT T) (lenT T) m, [⟨114, [.mp (some (some .i64)) (some none) (DF kfR (T.take (lenT T).toNat) [])]⟩]) else some (.ret, [(4, .w (.one (.int .i64 (chE kfR rqE (pfR m) T j i))))], [⟨114, [.mp (some (some .i64)) (some none) (DF kfR (T.take (chK kfR rqE (pfR m) T j i)) [])]⟩]))
  | 0, i, hi => by
    have e : (i : Int) = lenT T := by unfold lenT; omega
    refine ⟨1, ?_⟩
    rw [runs, mb_go ⟨by omega, by omega, rfl, h, hm0, hm1⟩]
    unfold mbNx
    rw [if_neg (by omega), e]
    rfl
  | j + 1, i, hi => by
    have hl : (i : Int) < lenT T := by unfold lenT; omega
    have en : (i : Int).toNat = i := Int.toNat_natCast i
    have en1 : ((i : Int) + 1).toNat = i + 1 := by omega
    by_cases g : rqE (rowT T i) = 0
    · by_cases g2 : seenB kfR T i = true
      · refine ⟨1, ?_⟩
        rw [runs, mb_go ⟨by omega, by omega, rfl, h, hm0, hm1⟩]
        unfold mbNx
        have e : chE kfR rqE (pfR m) T (j + 1) i = 7 := by rw [chE, if_pos g, if_pos g2]
        have ek : chK kfR rqE (pfR m) T (j + 1) i = i := by rw [chK, if_pos g, if_pos g2]
        rw [if_pos hl, if_pos g, en, if_pos g2, e, ek]
        rfl
      · by_cases g3 : (pfR m) (rowT T i) = 0
        · obtain ⟨c, hc⟩ := mb_runs h hm0 hm1 j (i + 1) (by omega)
          refine ⟨c + 1, ?_⟩
          rw [runs, mb_go ⟨by omega, by omega, rfl, h, hm0, hm1⟩]
          unfold mbNx
          have e : chE kfR rqE (pfR m) T (j + 1) i = chE kfR rqE (pfR m) T j (i + 1) := by rw [chE, if_pos g, if_neg g2, if_pos g3]
          have ek : chK kfR rqE (pfR m) T (j + 1) i = chK kfR rqE (pfR m) T j (i + 1) := by rw [chK, if_pos g, if_neg g2, if_pos g3]
          rw [if_pos hl, if_pos g, en, if_neg g2, if_pos g3, e, ek]
          exact hc
        · refine ⟨1, ?_⟩
          rw [runs, mb_go ⟨by omega, by omega, rfl, h, hm0, hm1⟩]
          unfold mbNx
          have e : chE kfR rqE (pfR m) T (j + 1) i = (pfR m) (rowT T i) := by rw [chE, if_pos g, if_neg g2, if_neg g3]
          have ek : chK kfR rqE (pfR m) T (j + 1) i = i + 1 := by rw [chK, if_pos g, if_neg g2, if_neg g3]
          rw [if_pos hl, if_pos g, en, if_neg g2, if_neg g3, e, ek, if_neg g3, en1]
    · refine ⟨1, ?_⟩
      rw [runs, mb_go ⟨by omega, by omega, rfl, h, hm0, hm1⟩]
      unfold mbNx
      have e : chE kfR rqE (pfR m) T (j + 1) i = rqE (rowT T i) := by rw [chE, if_neg g]
      have ek : chK kfR rqE (pfR m) T (j + 1) i = i := by rw [chK, if_neg g]
      rw [if_pos hl, if_neg g, e, ek, if_neg g, en]
def mbD : LpDefA mbT Tb where
  ts := [10, 11, 12, 1]
  ps := []
  rs := [5]
  W := [1, 4, 5, 7, 8, 10, 11, 12, 13, 14, 15, 16, 17, 18, 19, 20, 21, 22, 23, 24, 25, 26, 27, 28, 29, 30, 31, 32, 33, 34]
  dec := fun vs tr ks => match vs, tr, ks with
    | [.w (.one (.fv (.tab [some .i64, some .i64, some .i64, some .i64, some .i64, some .i64, some .i64, some .i64, some .i64, some .i64, some .i64, some .i64, some .i64] T))), .w (.one (.int .i64 n)), .w (.one (.int .i64 i)), .w (.one (.int .i64 m))], [.mpv _], [⟨114, [.mp (some (some .i64)) (some none) []]⟩] => bif decide (i = 0) then some ⟨T, n, 0, m⟩ else none
    | _, _, _ => none
  fk := fun t => some (decide (chE kfR rqE (pfR t.m) t.T t.T.length 0 = 0))
  spec := fun t β => match β with
    | true => some (.exit 0, [(10, (.w (.one (.fv (.tab [some .i64, some .i64, some .i64, some .i64, some .i64, some .i64, some .i64, some .i64, some .i64, some .i64, some .i64, some .i64, some .i64] t.T))))), (11, (.w (.one (.int .i64 t.n)))), (12, (.w (.one (.int .i64 t.n)))), (1, (.w (.one (.int .i64 t.m))))], [(5, 0, .mpv 0)], [⟨114, [.mp (some (some .i64)) (some none) (DF kfR (t.T.take t.n.toNat) [])]⟩], [(decide (t.i = 0) && decide (t.n = lenT t.T) && decide (t.n ≤ 9223372036854775807) && decide (0 ≤ t.m) && decide (t.m ≤ 9223372036854775807), true)])
    | false => some (.ret, [(4, .w (.one (.int .i64 (chE kfR rqE (pfR t.m) t.T t.T.length 0))))], [], [⟨114, [.mp (some (some .i64)) (some none) (DF kfR (t.T.take (chK kfR rqE (pfR t.m) t.T t.T.length 0)) [])]⟩], [(decide (t.i = 0) && decide (t.n = lenT t.T) && decide (t.n ≤ 9223372036854775807) && decide (0 ≤ t.m) && decide (t.m ≤ 9223372036854775807), true)])
theorem mbD_ok (x : Code) (hx : codeAt (bodyOf Tryd.f46) [false, true, false, true, true] = some (.loop x)) : LpOk Tryd.prog tbI 35 x (mbD.sp (fun _ => true)) := by
  obtain rfl := loopAt_eq hx
  refine lpA_ok (c := ctxOf Tryd.prog tbI (fun _ => false) libE2) (ctxOf_ok libE2_ok (eq_none _)) (by kernel_rfl) (fun _ _ _ h => h) hx lps_nil (S := mbS) (step := mbStep) (fun _ _ => rfl) (by kernel_rfl) (by kernel_rfl) ?_ rfl (fun t e he => ?_) (fun t hb rest => mb_round t hb rest) ?_
  · intro vs tr ks s hv1 hv2 h hv3
    simp only [mbD] at h
    split at h
    · rename_i T n i m b
      have hb : decide (i = 0) = true := by
        cases hb : decide (i = 0) with
        | false => rw [hb] at h; cases h
        | true => rfl
      rw [hb] at h
      obtain rfl := of_decide_eq_true hb
      cases h
      refine ⟨rfl, fun e he => ?_⟩
      simp only [mbS, mbTm] at he
      rcases List.mem_cons.1 he with rfl | he
      · exact .inl (List.mem_of_getElem? (i := 0) rfl)
      rcases List.mem_cons.1 he with rfl | he
      · exact .inl (List.mem_of_getElem? (i := 1) rfl)
      rcases List.mem_cons.1 he with rfl | he
      · exact .inl (List.mem_of_getElem? (i := 2) rfl)
      rcases List.mem_cons.1 he with rfl | he
      · exact .inl (List.mem_of_getElem? (i := 3) rfl)
      obtain rfl := List.mem_singleton.1 he
      exact .inr ⟨0, _, _, rfl, rfl, rfl⟩
    · cases h
  · simp only [mbS, mbTm, List.mem_cons, List.not_mem_nil, or_false] at he
    rcases he with rfl | rfl | rfl | rfl | rfl <;> rfl
  · intro s β ex outs rts wb cd h hfk hc
    obtain ⟨T, n, i, m⟩ := s
    have hβ := hfk _ rfl
    cases β with
    | true =>
      simp only [mbD] at h hβ
      cases h
      have := c1x hc
      simp only [Bool.and_eq_true, decide_eq_true_eq] at this
      obtain ⟨⟨⟨⟨rfl, rfl⟩, h3⟩, hm0⟩, hm1⟩ := this
      obtain ⟨c, hc⟩ := mb_runs h3 hm0 hm1 T.length 0 (by omega)
      refine ⟨c, ?_⟩
      rw [if_pos (of_decide_eq_true hβ)] at hc
      exact hc
    | false =>
      simp only [mbD] at h hβ
      cases h
      have := c1x hc
      simp only [Bool.and_eq_true, decide_eq_true_eq] at this
      obtain ⟨⟨⟨⟨rfl, rfl⟩, h3⟩, hm0⟩, hm1⟩ := this
      obtain ⟨c, hc⟩ := mb_runs h3 hm0 hm1 T.length 0 (by omega)
      refine ⟨c, ?_⟩
      rw [if_neg (of_decide_eq_false hβ)] at hc
      exact hc
def npA (s : ByteArray) (r : List Int) : Bool := !sEq s (decS (r.getD 0 0))
def npB (q : Int) (r : List Int) : Bool := !(q == r.getD 0 0)
set_option maxRecDepth 100000 in
theorem ia_10 (T : List (List Int)) (n : Int) (i : Int) (s : ByteArray) (e : Int) (rest : List (Nat × AV Tb)) : evView (ctxOf Tryd.prog tbI (fun _ => false) []) 89 (false :: [false, true, true, true, false, false, true, true, false, false, true, false, true, true]) (loopAt (bodyOf Tryd.f16) [false, true, true, true, false, false, true, true, false, false, true, false, true, true]) ([(39, (.w (.one (.fv (.tab [some .i8, some .i64] T))))), (40, (.w (.one (.int .i64 n)))), (41, (.w (.one (.int .i64 i))))] ++ (ptrN 0 [4] ++ rest)) [⟨27, [.lit (.string s), .int .i64 e]⟩] 1 [39, 40, 41, 4] [true, false] = some ((Ex.normal, [AV.w (AW.one (AC.fv (Tb.tab [some IntKind.i8, some IntKind.i64] T))), AV.w (AW.one (AC.int IntKind.i64 n)), AV.w (AW.one (AC.int IntKind.i64 (IntKind.i64.wrap (i + 1)))), AV.w (AW.one (AC.ptr 0 0))], [{ ty := 27, cs := [AC.lit (Value.string s), AC.int IntKind.i64 e] }]), (pickL [(decide (i < n), true), (decide ((0 : Int) ≤ i), true), (decide (i < lenT T), true), (sEq s (decS (cel T i 0)), false)] [0, 1, 2, 1, 2, 3])) := by kernel_rfl
set_option maxRecDepth 100000 in
theorem ia_0 (T : List (List Int)) (n : Int) (i : Int) (s : ByteArray) (e : Int) (rest : List (Nat × AV Tb)) : evView (ctxOf Tryd.prog tbI (fun _ => false) []) 89 (false :: [false, true, true, true, false, false, true, true, false, false, true, false, true, true]) (loopAt (bodyOf Tryd.f16) [false, true, true, true, false, false, true, true, false, false, true, false, true, true]) ([(39, (.w (.one (.fv (.tab [some .i8, some .i64] T))))), (40, (.w (.one (.int .i64 n)))), (41, (.w (.one (.int .i64 i))))] ++ (ptrN 0 [4] ++ rest)) [⟨27, [.lit (.string s), .int .i64 e]⟩] 1 [39, 40, 41, 4] [false] = some ((Ex.exit 2, [AV.w (AW.one (AC.fv (Tb.tab [some IntKind.i8, some IntKind.i64] T))), AV.w (AW.one (AC.int IntKind.i64 n)), AV.w (AW.one (AC.int IntKind.i64 i)), AV.w (AW.one (AC.ptr 0 0))], [{ ty := 27, cs := [AC.lit (Value.string s), AC.int IntKind.i64 e] }]), (pickL [(decide (i < n), false)] [0])) := by kernel_rfl
set_option maxRecDepth 100000 in
theorem iar_11 (T : List (List Int)) (n : Int) (i : Int) (s : ByteArray) (e : Int) (rest : List (Nat × AV Tb)) : evView (ctxOf Tryd.prog tbI (fun _ => false) []) 89 (false :: [false, true, true, true, false, false, true, true, false, false, true, false, true, true]) (loopAt (bodyOf Tryd.f16) [false, true, true, true, false, false, true, true, false, false, true, false, true, true]) ([(39, (.w (.one (.fv (.tab [some .i8, some .i64] T))))), (40, (.w (.one (.int .i64 n)))), (41, (.w (.one (.int .i64 i))))] ++ (ptrN 0 [4] ++ rest)) [⟨27, [.lit (.string s), .int .i64 e]⟩] 1 [2, 4] [true, true] = some ((Ex.ret, [AV.w (AW.one (AC.int IntKind.i64 7)), AV.w (AW.one (AC.ptr 0 0))], [{ ty := 27, cs := [AC.lit (Value.string s), AC.int IntKind.i64 e] }]), (pickL [(decide (i < n), true), (decide ((0 : Int) ≤ i), true), (decide (i < lenT T), true), (sEq s (decS (cel T i 0)), true)] [0, 1, 2, 1, 2, 3])) := by kernel_rfl
structure iaT where
  T : List (List Int)
  n : Int
  i : Int
  s : ByteArray
  e : Int
def iaP (T : List (List Int)) (n : Int) (i : Int) (s : ByteArray) (e : Int) : Prop := 0 ≤ i ∧ i ≤ n ∧ n = lenT T ∧ n ≤ 9223372036854775807
instance (T : List (List Int)) (n : Int) (i : Int) (s : ByteArray) (e : Int) : Decidable (iaP T n i s e) := by unfold iaP; infer_instance
def iaTm (T : List (List Int)) (n : Int) (i : Int) (s : ByteArray) (e : Int) : List (Nat × AV Tb) := [(39, (.w (.one (.fv (.tab [some .i8, some .i64] T))))), (40, (.w (.one (.int .i64 n)))), (41, (.w (.one (.int .i64 i))))]
def iaS : LpSt iaT Tb where
  ps := [4]
  tm := fun t => iaTm t.T t.n t.i t.s t.e
  hp := fun t => [⟨27, [.lit (.string t.s), .int .i64 t.e]⟩]
def iaNx (T : List (List Int)) (n : Int) (i : Int) (s : ByteArray) (e : Int) : Nxt iaT Tb := if i < n then (if (npA s) (rowT T i) = true then .go ⟨T, n, i + 1, s, e⟩ else .out .ret [(2, .w (.one (.int .i64 7)))] [⟨27, [.lit (.string s), .int .i64 e]⟩]) else .out (.exit 2) (iaTm T n i s e) [⟨27, [.lit (.string s), .int .i64 e]⟩]
def iaStep (t : iaT) : Nxt iaT Tb := if iaP t.T t.n t.i t.s t.e then iaNx t.T t.n t.i t.s t.e else .bad
theorem ia_go {T : List (List Int)} {n : Int} {i : Int} {s : ByteArray} {e : Int} (h : iaP T n i s e) : iaStep ⟨T, n, i, s, e⟩ = iaNx T n i s e := if_pos h
set_option maxRecDepth 100000 in
set_option maxHeartbeats 4000000 in
theorem ia_round (t : iaT) (hb : (iaStep t).isBad = false) (rest : List (Nat × AV Tb)) : ∃ fuel path r, evC (ctxOf Tryd.prog tbI (fun _ => false) []) fuel 89 (false :: [false, true, true, true, false, false, true, true, false, false, true, false, true, true]) (loopAt (bodyOf Tryd.f16) [false, true, true, true, false, false, true, true, false, false, true, false, true, true]) (iaS.tm t ++ (ptrN 0 iaS.ps ++ rest)) (numb 0 (iaS.hp t)) 1 path = some r ∧ (∀ p ∈ r.cd, p.1 = p.2) ∧ Gives iaS 1 r (iaStep t) := by
  obtain ⟨T, n, i, s, e⟩ := t
  by_cases ok : iaP T n i s e
  · rw [ia_go ok]
    clear hb
    unfold iaNx
    obtain ⟨h1, h2, rfl, h4⟩ := ok
    have e0 : decide (0 ≤ i) = true := decide_eq_true h1
    have e1 : i < lenT T → IntKind.i64.wrap (i + 1) = i + 1 := fun _ => v64p (by omega) (by omega)
    cases k0 : (decide (i < lenT T)) with
    | true =>
      cases k1 : (sEq s (decS (cel T i 0))) with
      | true =>
        rw [if_pos (of_decide_eq_true k0), if_neg (by unfold npA; rw [show (sEq s (decS ((rowT T i).getD 0 0))) = true from k1]; simp)]
        have L := iar_11 T (lenT T) i s e rest
        refine round_out L rfl (pickL_ok ?_ _) rfl rfl rfl
        repeat' (first | exact cd_nil | refine cd_cons ?_ ?_)
        all_goals first | rfl | with_reducible assumption
      | false =>
        rw [if_pos (of_decide_eq_true k0), if_pos (by unfold npA; rw [show (sEq s (decS ((rowT T i).getD 0 0))) = false from k1]; simp)]
        have L := ia_10 T (lenT T) i s e rest
        rw [e1 (of_decide_eq_true k0)] at L
        refine round_go L (pickL_ok ?_ _) rfl rfl rfl rfl
        repeat' (first | exact cd_nil | refine cd_cons ?_ ?_)
        all_goals first | rfl | with_reducible assumption
    | false =>
      rw [if_neg (of_decide_eq_false k0)]
      have L := ia_0 T (lenT T) i s e rest
      refine round_out L rfl (pickL_ok ?_ _) rfl rfl rfl
      repeat' (first | exact cd_nil | refine cd_cons ?_ ?_)
      all_goals first | rfl | with_reducible assumption
  · exfalso
    have : iaStep ⟨T, n, i, s, e⟩ = .bad := if_neg ok
    rw [this] at hb; cases hb
theorem ia_runs {T : List (List Int)} {s : ByteArray} {e : Int} (h : lenT T ≤ 9223372036854775807) : ∀ (j i : Nat), i + j = T.length → ∃ c, runs iaStep c ⟨T, lenT T, i, s, e⟩ = (if (T.drop i).all (npA s) = true then some (.exit 2, iaTm T (lenT T) (lenT T) s e, [⟨27, [.lit (.string s), .int .i64 e]⟩]) else some (.ret, [(2, .w (.one (.int .i64 7)))], [⟨27, [.lit (.string s), .int .i64 e]⟩]))
  | 0, i, hi => by
    have ei : (i : Int) = lenT T := by unfold lenT; omega
    refine ⟨1, ?_⟩
    rw [runs, ia_go ⟨by omega, by omega, rfl, h⟩]
    unfold iaNx
    rw [if_neg (by omega), List.drop_eq_nil_of_le (by omega), ei]
    rfl
  | j + 1, i, hi => by
    have hl : (i : Int) < lenT T := by unfold lenT; omega
    have d := dropT (T := T) (i := i) (by omega)
    by_cases g : (npA s) (rowT T i) = true
    · obtain ⟨c, hc⟩ := ia_runs h j (i + 1) (by omega)
      refine ⟨c + 1, ?_⟩
      rw [runs, ia_go ⟨by omega, by omega, rfl, h⟩]
      unfold iaNx
      rw [if_pos hl, if_pos g, d, List.all_cons, g, Bool.true_and]
      exact hc
    · refine ⟨1, ?_⟩
      rw [runs, ia_go ⟨by omega, by omega, rfl, h⟩]
      unfold iaNx
      rw [if_pos hl, if_neg g, d, List.all_cons]
      simp only [g, Bool.false_and, Bool.false_eq_true, if_false]
def iaD : LpDefR iaT Tb where
  ts := [39, 40, 41]
  ps := [4]
  rs := []
  W := [2, 4, 7, 39, 40, 41, 42, 43, 44, 45, 46, 47, 48, 49, 50]
  dec := fun vs tr ks => match vs, tr, ks with
    | [.w (.one (.fv (.tab [some .i8, some .i64] T))), .w (.one (.int .i64 n)), .w (.one (.int .i64 i))], [], [⟨27, [.lit (.string s), .int .i64 e]⟩] => some ⟨T, n, i, s, e⟩
    | _, _, _ => none
  fk := fun t => some (t.T.all (npA t.s))
  spec := fun t β => match β with
    | true => some (.exit 2, iaTm t.T t.n t.n t.s t.e, [], [⟨27, [.lit (.string t.s), .int .i64 t.e]⟩], [(decide (t.i = 0) && decide (t.n = lenT t.T) && decide (t.n ≤ 9223372036854775807), true)])
    | false => some (.ret, [(2, .w (.one (.int .i64 7)))], [], [⟨27, [.lit (.string t.s), .int .i64 t.e]⟩], [(decide (t.i = 0) && decide (t.n = lenT t.T) && decide (t.n ≤ 9223372036854775807), true)])
theorem iaD_ok (x : Code) (hx : codeAt (bodyOf Tryd.f16) [false, true, true, true, false, false, true, true, false, false, true, false, true, true] = some (.loop x)) : LpOk Tryd.prog tbI 89 x (iaD.sp (fun _ => true)) := by
  obtain rfl := loopAt_eq hx
  refine lpR_ok (c := ctxOf Tryd.prog tbI (fun _ => false) []) (ctxOf_ok (lib1_nil _ _) (eq_none _)) (by kernel_rfl) (fun _ _ _ h => h) hx lps_nil (S := iaS) (step := iaStep) (fun _ _ => rfl) (by kernel_rfl) (by kernel_rfl) ?_ rfl (fun t e he => ?_) (fun t hb rest => ia_round t hb rest) ?_
  · intro vs tr ks s hv1 hv2 h hv3
    simp only [iaD] at h
    split at h
    · cases h
      exact ⟨rfl, fun e he => .inl he⟩
    · cases h
  · simp only [iaS, iaTm, List.mem_cons, List.not_mem_nil, or_false] at he
    rcases he with rfl | rfl | rfl <;> rfl
  · intro s β ex outs rts wb cd h hfk hc
    obtain ⟨T, n, i, s, e⟩ := s
    have hβ := hfk _ rfl
    cases β with
    | true =>
      simp only [iaD] at h hβ
      cases h
      have := c1x hc
      simp only [Bool.and_eq_true, decide_eq_true_eq] at this
      obtain ⟨⟨rfl, rfl⟩, h3⟩ := this
      obtain ⟨c, hc⟩ := ia_runs (s := s) (e := e) h3 T.length 0 (by omega)
      refine ⟨c, ?_⟩
      rw [List.drop_zero, if_pos hβ] at hc
      exact hc
    | false =>
      simp only [iaD] at h hβ
      cases h
      have := c1x hc
      simp only [Bool.and_eq_true, decide_eq_true_eq] at this
      obtain ⟨⟨rfl, rfl⟩, h3⟩ := this
      obtain ⟨c, hc⟩ := ia_runs (s := s) (e := e) h3 T.length 0 (by omega)
      refine ⟨c, ?_⟩
      rw [List.drop_zero, if_neg (by rw [hβ]; simp)] at hc
      exact hc
set_option maxRecDepth 100000 in
theorem ib_10 (T : List (List Int)) (n : Int) (i : Int) (q0 : Int) (q1 : Int) (q2 : Int) (q3 : Int) (q4 : Int) (q5 : Int) (q6 : Int) (q7 : Int) (q8 : Int) (q9 : Int) (q10 : Int) (q11 : Int) (q12 : Int) (rest : List (Nat × AV Tb)) : evView (ctxOf Tryd.prog tbI (fun _ => false) []) 89 (false :: [false, true, false, true, true, false, false, true, true, false, false, true, false, true, true, true]) (loopAt (bodyOf Tryd.f16) [false, true, false, true, true, false, false, true, true, false, false, true, false, true, true, true]) ([(68, (.w (.one (.fv (.tab [some .i64, some .i64, some .i64, some .i64, some .i64, some .i64, some .i64, some .i64, some .i64, some .i64, some .i64, some .i64, some .i64] T))))), (69, (.w (.one (.int .i64 n)))), (70, (.w (.one (.int .i64 i))))] ++ (ptrN 0 [9] ++ rest)) [⟨32, [.int .i64 q0, .int .i64 q1, .int .i64 q2, .int .i64 q3, .int .i64 q4, .int .i64 q5, .int .i64 q6, .int .i64 q7, .int .i64 q8, .int .i64 q9, .int .i64 q10, .int .i64 q11, .int .i64 q12]⟩] 1 [68, 69, 70, 9] [true, false] = some ((Ex.normal, [AV.w (AW.one (AC.fv (Tb.tab [some IntKind.i64, some IntKind.i64, some IntKind.i64, some IntKind.i64, some IntKind.i64, some IntKind.i64, some IntKind.i64, some IntKind.i64, some IntKind.i64, some IntKind.i64, some IntKind.i64, some IntKind.i64, some IntKind.i64] T))), AV.w (AW.one (AC.int IntKind.i64 n)), AV.w (AW.one (AC.int IntKind.i64 (IntKind.i64.wrap (i + 1)))), AV.w (AW.one (AC.ptr 0 0))], [{ ty := 32, cs := [AC.int IntKind.i64 q0, AC.int IntKind.i64 q1, AC.int IntKind.i64 q2, AC.int IntKind.i64 q3, AC.int IntKind.i64 q4, AC.int IntKind.i64 q5, AC.int IntKind.i64 q6, AC.int IntKind.i64 q7, AC.int IntKind.i64 q8, AC.int IntKind.i64 q9, AC.int IntKind.i64 q10, AC.int IntKind.i64 q11, AC.int IntKind.i64 q12] }]), (pickL [(decide (i < n), true), (decide ((0 : Int) ≤ i), true), (decide (i < lenT T), true), (q0 == cel T i 0, false)] [0, 1, 2, 1, 2, 3])) := by kernel_rfl
set_option maxRecDepth 100000 in
theorem ib_0 (T : List (List Int)) (n : Int) (i : Int) (q0 : Int) (q1 : Int) (q2 : Int) (q3 : Int) (q4 : Int) (q5 : Int) (q6 : Int) (q7 : Int) (q8 : Int) (q9 : Int) (q10 : Int) (q11 : Int) (q12 : Int) (rest : List (Nat × AV Tb)) : evView (ctxOf Tryd.prog tbI (fun _ => false) []) 89 (false :: [false, true, false, true, true, false, false, true, true, false, false, true, false, true, true, true]) (loopAt (bodyOf Tryd.f16) [false, true, false, true, true, false, false, true, true, false, false, true, false, true, true, true]) ([(68, (.w (.one (.fv (.tab [some .i64, some .i64, some .i64, some .i64, some .i64, some .i64, some .i64, some .i64, some .i64, some .i64, some .i64, some .i64, some .i64] T))))), (69, (.w (.one (.int .i64 n)))), (70, (.w (.one (.int .i64 i))))] ++ (ptrN 0 [9] ++ rest)) [⟨32, [.int .i64 q0, .int .i64 q1, .int .i64 q2, .int .i64 q3, .int .i64 q4, .int .i64 q5, .int .i64 q6, .int .i64 q7, .int .i64 q8, .int .i64 q9, .int .i64 q10, .int .i64 q11, .int .i64 q12]⟩] 1 [68, 69, 70, 9] [false] = some ((Ex.exit 6, [AV.w (AW.one (AC.fv (Tb.tab [some IntKind.i64, some IntKind.i64, some IntKind.i64, some IntKind.i64, some IntKind.i64, some IntKind.i64, some IntKind.i64, some IntKind.i64, some IntKind.i64, some IntKind.i64, some IntKind.i64, some IntKind.i64, some IntKind.i64] T))), AV.w (AW.one (AC.int IntKind.i64 n)), AV.w (AW.one (AC.int IntKind.i64 i)), AV.w (AW.one (AC.ptr 0 0))], [{ ty := 32, cs := [AC.int IntKind.i64 q0, AC.int IntKind.i64 q1, AC.int IntKind.i64 q2, AC.int IntKind.i64 q3, AC.int IntKind.i64 q4, AC.int IntKind.i64 q5, AC.int IntKind.i64 q6, AC.int IntKind.i64 q7, AC.int IntKind.i64 q8, AC.int IntKind.i64 q9, AC.int IntKind.i64 q10, AC.int IntKind.i64 q11, AC.int IntKind.i64 q12] }]), (pickL [(decide (i < n), false)] [0])) := by kernel_rfl
set_option maxRecDepth 100000 in
theorem ibr_11 (T : List (List Int)) (n : Int) (i : Int) (q0 : Int) (q1 : Int) (q2 : Int) (q3 : Int) (q4 : Int) (q5 : Int) (q6 : Int) (q7 : Int) (q8 : Int) (q9 : Int) (q10 : Int) (q11 : Int) (q12 : Int) (rest : List (Nat × AV Tb)) : evView (ctxOf Tryd.prog tbI (fun _ => false) []) 89 (false :: [false, true, false, true, true, false, false, true, true, false, false, true, false, true, true, true]) (loopAt (bodyOf Tryd.f16) [false, true, false, true, true, false, false, true, true, false, false, true, false, true, true, true]) ([(68, (.w (.one (.fv (.tab [some .i64, some .i64, some .i64, some .i64, some .i64, some .i64, some .i64, some .i64, some .i64, some .i64, some .i64, some .i64, some .i64] T))))), (69, (.w (.one (.int .i64 n)))), (70, (.w (.one (.int .i64 i))))] ++ (ptrN 0 [9] ++ rest)) [⟨32, [.int .i64 q0, .int .i64 q1, .int .i64 q2, .int .i64 q3, .int .i64 q4, .int .i64 q5, .int .i64 q6, .int .i64 q7, .int .i64 q8, .int .i64 q9, .int .i64 q10, .int .i64 q11, .int .i64 q12]⟩] 1 [2, 9] [true, true] = some ((Ex.ret, [AV.w (AW.one (AC.int IntKind.i64 7)), AV.w (AW.one (AC.ptr 0 0))], [{ ty := 32, cs := [AC.int IntKind.i64 q0, AC.int IntKind.i64 q1, AC.int IntKind.i64 q2, AC.int IntKind.i64 q3, AC.int IntKind.i64 q4, AC.int IntKind.i64 q5, AC.int IntKind.i64 q6, AC.int IntKind.i64 q7, AC.int IntKind.i64 q8, AC.int IntKind.i64 q9, AC.int IntKind.i64 q10, AC.int IntKind.i64 q11, AC.int IntKind.i64 q12] }]), (pickL [(decide (i < n), true), (decide ((0 : Int) ≤ i), true), (decide (i < lenT T), true), (q0 == cel T i 0, true)] [0, 1, 2, 1, 2, 3])) := by kernel_rfl
structure ibT where
  T : List (List Int)
  n : Int
  i : Int
  q0 : Int
  q1 : Int
  q2 : Int
  q3 : Int
  q4 : Int
  q5 : Int
  q6 : Int
  q7 : Int
  q8 : Int
  q9 : Int
  q10 : Int
  q11 : Int
  q12 : Int
def ibP (T : List (List Int)) (n : Int) (i : Int) (q0 : Int) (q1 : Int) (q2 : Int) (q3 : Int) (q4 : Int) (q5 : Int) (q6 : Int) (q7 : Int) (q8 : Int) (q9 : Int) (q10 : Int) (q11 : Int) (q12 : Int) : Prop := 0 ≤ i ∧ i ≤ n ∧ n = lenT T ∧ n ≤ 9223372036854775807
instance (T : List (List Int)) (n : Int) (i : Int) (q0 : Int) (q1 : Int) (q2 : Int) (q3 : Int) (q4 : Int) (q5 : Int) (q6 : Int) (q7 : Int) (q8 : Int) (q9 : Int) (q10 : Int) (q11 : Int) (q12 : Int) : Decidable (ibP T n i q0 q1 q2 q3 q4 q5 q6 q7 q8 q9 q10 q11 q12) := by unfold ibP; infer_instance
def ibTm (T : List (List Int)) (n : Int) (i : Int) (q0 : Int) (q1 : Int) (q2 : Int) (q3 : Int) (q4 : Int) (q5 : Int) (q6 : Int) (q7 : Int) (q8 : Int) (q9 : Int) (q10 : Int) (q11 : Int) (q12 : Int) : List (Nat × AV Tb) := [(68, (.w (.one (.fv (.tab [some .i64, some .i64, some .i64, some .i64, some .i64, some .i64, some .i64, some .i64, some .i64, some .i64, some .i64, some .i64, some .i64] T))))), (69, (.w (.one (.int .i64 n)))), (70, (.w (.one (.int .i64 i))))]
def ibS : LpSt ibT Tb where
  ps := [9]
  tm := fun t => ibTm t.T t.n t.i t.q0 t.q1 t.q2 t.q3 t.q4 t.q5 t.q6 t.q7 t.q8 t.q9 t.q10 t.q11 t.q12
  hp := fun t => [⟨32, [.int .i64 t.q0, .int .i64 t.q1, .int .i64 t.q2, .int .i64 t.q3, .int .i64 t.q4, .int .i64 t.q5, .int .i64 t.q6, .int .i64 t.q7, .int .i64 t.q8, .int .i64 t.q9, .int .i64 t.q10, .int .i64 t.q11, .int .i64 t.q12]⟩]
def ibNx (T : List (List Int)) (n : Int) (i : Int) (q0 : Int) (q1 : Int) (q2 : Int) (q3 : Int) (q4 : Int) (q5 : Int) (q6 : Int) (q7 : Int) (q8 : Int) (q9 : Int) (q10 : Int) (q11 : Int) (q12 : Int) : Nxt ibT Tb := if i < n then (if (npB q0) (rowT T i) = true then .go ⟨T, n, i + 1, q0, q1, q2, q3, q4, q5, q6, q7, q8, q9, q10, q11, q12⟩ else .out .ret [(2, .w (.one (.int .i64 7)))] [⟨32, [.int .i64 q0, .int .i64 q1, .int .i64 q2, .int .i64 q3, .int .i64 q4, .int .i64 q5, .int .i64 q6, .int .i64 q7, .int .i64 q8, .int .i64 q9, .int .i64 q10, .int .i64 q11, .int .i64 q12]⟩]) else .out (.exit 6) (ibTm T n i q0 q1 q2 q3 q4 q5 q6 q7 q8 q9 q10 q11 q12) [⟨32, [.int .i64 q0, .int .i64 q1, .int .i64 q2, .int .i64 q3, .int .i64 q4, .int .i64 q5, .int .i64 q6, .int .i64 q7, .int .i64 q8, .int .i64 q9, .int .i64 q10, .int .i64 q11, .int .i64 q12]⟩]
def ibStep (t : ibT) : Nxt ibT Tb := if ibP t.T t.n t.i t.q0 t.q1 t.q2 t.q3 t.q4 t.q5 t.q6 t.q7 t.q8 t.q9 t.q10 t.q11 t.q12 then ibNx t.T t.n t.i t.q0 t.q1 t.q2 t.q3 t.q4 t.q5 t.q6 t.q7 t.q8 t.q9 t.q10 t.q11 t.q12 else .bad
theorem ib_go {T : List (List Int)} {n : Int} {i : Int} {q0 : Int} {q1 : Int} {q2 : Int} {q3 : Int} {q4 : Int} {q5 : Int} {q6 : Int} {q7 : Int} {q8 : Int} {q9 : Int} {q10 : Int} {q11 : Int} {q12 : Int} (h : ibP T n i q0 q1 q2 q3 q4 q5 q6 q7 q8 q9 q10 q11 q12) : ibStep ⟨T, n, i, q0, q1, q2, q3, q4, q5, q6, q7, q8, q9, q10, q11, q12⟩ = ibNx T n i q0 q1 q2 q3 q4 q5 q6 q7 q8 q9 q10 q11 q12 := if_pos h
set_option maxRecDepth 100000 in
set_option maxHeartbeats 4000000 in
theorem ib_round (t : ibT) (hb : (ibStep t).isBad = false) (rest : List (Nat × AV Tb)) : ∃ fuel path r, evC (ctxOf Tryd.prog tbI (fun _ => false) []) fuel 89 (false :: [false, true, false, true, true, false, false, true, true, false, false, true, false, true, true, true]) (loopAt (bodyOf Tryd.f16) [false, true, false, true, true, false, false, true, true, false, false, true, false, true, true, true]) (ibS.tm t ++ (ptrN 0 ibS.ps ++ rest)) (numb 0 (ibS.hp t)) 1 path = some r ∧ (∀ p ∈ r.cd, p.1 = p.2) ∧ Gives ibS 1 r (ibStep t) := by
  obtain ⟨T, n, i, q0, q1, q2, q3, q4, q5, q6, q7, q8, q9, q10, q11, q12⟩ := t
  by_cases ok : ibP T n i q0 q1 q2 q3 q4 q5 q6 q7 q8 q9 q10 q11 q12
  · rw [ib_go ok]
    clear hb
    unfold ibNx
    obtain ⟨h1, h2, rfl, h4⟩ := ok
    have e0 : decide (0 ≤ i) = true := decide_eq_true h1
    have e1 : i < lenT T → IntKind.i64.wrap (i + 1) = i + 1 := fun _ => v64p (by omega) (by omega)
    cases k0 : (decide (i < lenT T)) with
    | true =>
      cases k1 : (q0 == cel T i 0) with
      | true =>
        rw [if_pos (of_decide_eq_true k0), if_neg (by unfold npB; rw [show (q0 == (rowT T i).getD 0 0) = true from k1]; simp)]
        have L := ibr_11 T (lenT T) i q0 q1 q2 q3 q4 q5 q6 q7 q8 q9 q10 q11 q12 rest
        refine round_out L rfl (pickL_ok ?_ _) rfl rfl rfl
        repeat' (first | exact cd_nil | refine cd_cons ?_ ?_)
        all_goals first | rfl | with_reducible assumption
      | false =>
        rw [if_pos (of_decide_eq_true k0), if_pos (by unfold npB; rw [show (q0 == (rowT T i).getD 0 0) = false from k1]; simp)]
        have L := ib_10 T (lenT T) i q0 q1 q2 q3 q4 q5 q6 q7 q8 q9 q10 q11 q12 rest
        rw [e1 (of_decide_eq_true k0)] at L
        refine round_go L (pickL_ok ?_ _) rfl rfl rfl rfl
        repeat' (first | exact cd_nil | refine cd_cons ?_ ?_)
        all_goals first | rfl | with_reducible assumption
    | false =>
      rw [if_neg (of_decide_eq_false k0)]
      have L := ib_0 T (lenT T) i q0 q1 q2 q3 q4 q5 q6 q7 q8 q9 q10 q11 q12 rest
      refine round_out L rfl (pickL_ok ?_ _) rfl rfl rfl
      repeat' (first | exact cd_nil | refine cd_cons ?_ ?_)
      all_goals first | rfl | with_reducible assumption
  · exfalso
    have : ibStep ⟨T, n, i, q0, q1, q2, q3, q4, q5, q6, q7, q8, q9, q10, q11, q12⟩ = .bad := if_neg ok
    rw [this] at hb; cases hb
theorem ib_runs {T : List (List Int)} {q0 : Int} {q1 : Int} {q2 : Int} {q3 : Int} {q4 : Int} {q5 : Int} {q6 : Int} {q7 : Int} {q8 : Int} {q9 : Int} {q10 : Int} {q11 : Int} {q12 : Int} (h : lenT T ≤ 9223372036854775807) : ∀ (j i : Nat), i + j = T.length → ∃ c, runs ibStep c ⟨T, lenT T, i, q0, q1, q2, q3, q4, q5, q6, q7, q8, q9, q10, q11, q12⟩ = (if (T.drop i).all (npB q0) = true then some (.exit 6, ibTm T (lenT T) (lenT T) q0 q1 q2 q3 q4 q5 q6 q7 q8 q9 q10 q11 q12, [⟨32, [.int .i64 q0, .int .i64 q1, .int .i64 q2, .int .i64 q3, .int .i64 q4, .int .i64 q5, .int .i64 q6, .int .i64 q7, .int .i64 q8, .int .i64 q9, .int .i64 q10, .int .i64 q11, .int .i64 q12]⟩]) else some (.ret, [(2, .w (.one (.int .i64 7)))], [⟨32, [.int .i64 q0, .int .i64 q1, .int .i64 q2, .int .i64 q3, .int .i64 q4, .int .i64 q5, .int .i64 q6, .int .i64 q7, .int .i64 q8, .int .i64 q9, .int .i64 q10, .int .i64 q11, .int .i64 q12]⟩]))
  | 0, i, hi => by
    have ei : (i : Int) = lenT T := by unfold lenT; omega
    refine ⟨1, ?_⟩
    rw [runs, ib_go ⟨by omega, by omega, rfl, h⟩]
    unfold ibNx
    rw [if_neg (by omega), List.drop_eq_nil_of_le (by omega), ei]
    rfl
  | j + 1, i, hi => by
    have hl : (i : Int) < lenT T := by unfold lenT; omega
    have d := dropT (T := T) (i := i) (by omega)
    by_cases g : (npB q0) (rowT T i) = true
    · obtain ⟨c, hc⟩ := ib_runs h j (i + 1) (by omega)
      refine ⟨c + 1, ?_⟩
      rw [runs, ib_go ⟨by omega, by omega, rfl, h⟩]
      unfold ibNx
      rw [if_pos hl, if_pos g, d, List.all_cons, g, Bool.true_and]
      exact hc
    · refine ⟨1, ?_⟩
      rw [runs, ib_go ⟨by omega, by omega, rfl, h⟩]
      unfold ibNx
      rw [if_pos hl, if_neg g, d, List.all_cons]
      simp only [g, Bool.false_and, Bool.false_eq_true, if_false]
def ibD : LpDefR ibT Tb where
  ts := [68, 69, 70]
  ps := [9]
  rs := []
  W := [2, 9, 12, 68, 69, 70, 71, 72, 73, 74, 75, 76, 77, 78, 79]
  dec := fun vs tr ks => match vs, tr, ks with
    | [.w (.one (.fv (.tab [some .i64, some .i64, some .i64, some .i64, some .i64, some .i64, some .i64, some .i64, some .i64, some .i64, some .i64, some .i64, some .i64] T))), .w (.one (.int .i64 n)), .w (.one (.int .i64 i))], [], [⟨32, [.int .i64 q0, .int .i64 q1, .int .i64 q2, .int .i64 q3, .int .i64 q4, .int .i64 q5, .int .i64 q6, .int .i64 q7, .int .i64 q8, .int .i64 q9, .int .i64 q10, .int .i64 q11, .int .i64 q12]⟩] => some ⟨T, n, i, q0, q1, q2, q3, q4, q5, q6, q7, q8, q9, q10, q11, q12⟩
    | _, _, _ => none
  fk := fun t => some (t.T.all (npB t.q0))
  spec := fun t β => match β with
    | true => some (.exit 6, ibTm t.T t.n t.n t.q0 t.q1 t.q2 t.q3 t.q4 t.q5 t.q6 t.q7 t.q8 t.q9 t.q10 t.q11 t.q12, [], [⟨32, [.int .i64 t.q0, .int .i64 t.q1, .int .i64 t.q2, .int .i64 t.q3, .int .i64 t.q4, .int .i64 t.q5, .int .i64 t.q6, .int .i64 t.q7, .int .i64 t.q8, .int .i64 t.q9, .int .i64 t.q10, .int .i64 t.q11, .int .i64 t.q12]⟩], [(decide (t.i = 0) && decide (t.n = lenT t.T) && decide (t.n ≤ 9223372036854775807), true)])
    | false => some (.ret, [(2, .w (.one (.int .i64 7)))], [], [⟨32, [.int .i64 t.q0, .int .i64 t.q1, .int .i64 t.q2, .int .i64 t.q3, .int .i64 t.q4, .int .i64 t.q5, .int .i64 t.q6, .int .i64 t.q7, .int .i64 t.q8, .int .i64 t.q9, .int .i64 t.q10, .int .i64 t.q11, .int .i64 t.q12]⟩], [(decide (t.i = 0) && decide (t.n = lenT t.T) && decide (t.n ≤ 9223372036854775807), true)])
theorem ibD_ok (x : Code) (hx : codeAt (bodyOf Tryd.f16) [false, true, false, true, true, false, false, true, true, false, false, true, false, true, true, true] = some (.loop x)) : LpOk Tryd.prog tbI 89 x (ibD.sp (fun _ => true)) := by
  obtain rfl := loopAt_eq hx
  refine lpR_ok (c := ctxOf Tryd.prog tbI (fun _ => false) []) (ctxOf_ok (lib1_nil _ _) (eq_none _)) (by kernel_rfl) (fun _ _ _ h => h) hx lps_nil (S := ibS) (step := ibStep) (fun _ _ => rfl) (by kernel_rfl) (by kernel_rfl) ?_ rfl (fun t e he => ?_) (fun t hb rest => ib_round t hb rest) ?_
  · intro vs tr ks s hv1 hv2 h hv3
    simp only [ibD] at h
    split at h
    · cases h
      exact ⟨rfl, fun e he => .inl he⟩
    · cases h
  · simp only [ibS, ibTm, List.mem_cons, List.not_mem_nil, or_false] at he
    rcases he with rfl | rfl | rfl <;> rfl
  · intro s β ex outs rts wb cd h hfk hc
    obtain ⟨T, n, i, q0, q1, q2, q3, q4, q5, q6, q7, q8, q9, q10, q11, q12⟩ := s
    have hβ := hfk _ rfl
    cases β with
    | true =>
      simp only [ibD] at h hβ
      cases h
      have := c1x hc
      simp only [Bool.and_eq_true, decide_eq_true_eq] at this
      obtain ⟨⟨rfl, rfl⟩, h3⟩ := this
      obtain ⟨c, hc⟩ := ib_runs (q0 := q0) (q1 := q1) (q2 := q2) (q3 := q3) (q4 := q4) (q5 := q5) (q6 := q6) (q7 := q7) (q8 := q8) (q9 := q9) (q10 := q10) (q11 := q11) (q12 := q12) h3 T.length 0 (by omega)
      refine ⟨c, ?_⟩
      rw [List.drop_zero, if_pos hβ] at hc
      exact hc
    | false =>
      simp only [ibD] at h hβ
      cases h
      have := c1x hc
      simp only [Bool.and_eq_true, decide_eq_true_eq] at this
      obtain ⟨⟨rfl, rfl⟩, h3⟩ := this
      obtain ⟨c, hc⟩ := ib_runs (q0 := q0) (q1 := q1) (q2 := q2) (q3 := q3) (q4 := q4) (q5 := q5) (q6 := q6) (q7 := q7) (q8 := q8) (q9 := q9) (q10 := q10) (q11 := q11) (q12 := q12) h3 T.length 0 (by omega)
      refine ⟨c, ?_⟩
      rw [List.drop_zero, if_neg (by rw [hβ]; simp)] at hc
      exact hc
end
end Go.Proofs.YtbnlpcmnkcaemaaDoor.AtPr

