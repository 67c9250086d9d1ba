/-
  The loop of the reference's SlotsOf, where nights are facts.
  Conditions: those of each theorem.
-/
import Derived.Test.YtiamhppdacfmmaaQG
import Derived.Test.YtiamhppdacfmmaaPO
import Derived.Test.YtiamhppdacfmmaaH2
set_option linter.unusedVariables false
set_option linter.unusedSimpArgs false
namespace Go.Proofs.Ytiamhppdacfmmaa.AtSl
open Go.RowKit Ev Wd AtRt AtHz AtPr
open Go.Proofs.Ytiamhppdacfmmaa
variable {F : Type}
noncomputable section

noncomputable abbrev libJ0 : List (Nat × FnSp Tb) := []
theorem libJ0_ok : LibOk Try.prog tbI (lib1 libJ0) := (lib1_nil _ _)
set_option maxRecDepth 100000 in
theorem sot_1 (g : Int) (c : Int) (l : Int) (rest : List (Nat × AV Tb)) : evView (ctxOf Try.prog tbI (fun _ => false) libJ0) 24 (false :: [false, true, false, true, true, true, true]) (loopAt (bodyOf Try.f31) [false, true, false, true, true, true, true]) ([(5, (.w (.one (.int .i64 g)))), (6, (.w (.one (.int .i64 c)))), (7, (.w (.one (.int .i64 l))))] ++ (ptrN 0 [] ++ rest)) [] 0 [5, 6, 7] [true] = some ((Ex.normal, [AV.w (AW.one (AC.int IntKind.i64 g)), AV.w (AW.one (AC.int IntKind.i64 (IntKind.i64.wrap (c + 1)))), AV.w (AW.one (AC.int IntKind.i64 (IntKind.i64.wrap (l - g))))], []), (pickL [(decide (l > 0), true)] [0])) := by kernel_rfl
set_option maxRecDepth 100000 in
theorem sotr_0 (g : Int) (c : Int) (l : Int) (rest : List (Nat × AV Tb)) : evView (ctxOf Try.prog tbI (fun _ => false) libJ0) 24 (false :: [false, true, false, true, true, true, true]) (loopAt (bodyOf Try.f31) [false, true, false, true, true, true, true]) ([(5, (.w (.one (.int .i64 g)))), (6, (.w (.one (.int .i64 c)))), (7, (.w (.one (.int .i64 l))))] ++ (ptrN 0 [] ++ rest)) [] 0 [6] [false] = some ((Ex.exit 0, [AV.w (AW.one (AC.int IntKind.i64 c))], []), (pickL [(decide (l > 0), false)] [0])) := by kernel_rfl
structure sotT where
  g : Int
  c : Int
  l : Int
def sotP (g : Int) (c : Int) (l : Int) : Prop := (60000 ≤ g ∧ g ≤ 1800000) ∧ -1800000 ≤ l ∧ l ≤ 4294967296 ∧ 0 ≤ c ∧ c + l ≤ 8589934592 ∧ c ≤ 8589934592
instance (g : Int) (c : Int) (l : Int) : Decidable (sotP g c l) := by unfold sotP; infer_instance
def sotTm (g : Int) (c : Int) (l : Int) : List (Nat × AV Tb) := [(5, (.w (.one (.int .i64 g)))), (6, (.w (.one (.int .i64 c)))), (7, (.w (.one (.int .i64 l))))]
def sotS : LpSt sotT Tb where
  ps := []
  tm := fun t => sotTm t.g t.c t.l
  hp := fun t => []
def sotNx (g : Int) (c : Int) (l : Int) : Nxt sotT Tb := if 0 < l then .go ⟨g, c + 1, l - g⟩ else .out (.exit 0) [(6, .w (.one (.int .i64 c)))] []
def sotStep (t : sotT) : Nxt sotT Tb := if sotP t.g t.c t.l then sotNx t.g t.c t.l else .bad
theorem sot_go {g c l : Int} (h : sotP g c l) : sotStep ⟨g, c, l⟩ = sotNx g c l := if_pos h
set_option maxRecDepth 100000 in
set_option maxHeartbeats 4000000 in
theorem sot_round (t : sotT) (hb : (sotStep t).isBad = false) (rest : List (Nat × AV Tb)) : ∃ fuel path r, evC (ctxOf Try.prog tbI (fun _ => false) libJ0) fuel 24 (false :: [false, true, false, true, true, true, true]) (loopAt (bodyOf Try.f31) [false, true, false, true, true, true, true]) (sotS.tm t ++ (ptrN 0 sotS.ps ++ rest)) (numb 0 (sotS.hp t)) 0 path = some r ∧ (∀ p ∈ r.cd, p.1 = p.2) ∧ Gives sotS 0 r (sotStep t) := by
  obtain ⟨g, c, l⟩ := t
  by_cases ok : sotP g c l
  · rw [sot_go ok]
    clear hb
    unfold sotNx
    obtain ⟨h1, h2, h3, h4, h5, h6⟩ := ok
    have e0 : IntKind.i64.wrap (c + 1) = c + 1 := v64 (by omega) (by omega)
    have e1 : IntKind.i64.wrap (l - g) = l - g := v64 (by omega) (by omega)
    by_cases hk : 0 < l
    · have c1 : decide (l > 0) = true := decide_eq_true hk
      rw [if_pos hk]
      have L := sot_1 g c l rest
      rw [e0, e1] at L
      refine round_go L (pickL_ok ?_ _) rfl rfl rfl rfl
      repeat' (first | exact cd_nil | refine cd_cons ?_ ?_)
      all_goals first | with_reducible rfl | with_reducible assumption | rfl | (simp; omega)
    · have c1 : decide (l > 0) = false := decide_eq_false hk
      rw [if_neg hk]
      have L := sotr_0 g c l rest
      refine round_out L rfl (pickL_ok ?_ _) rfl rfl rfl
      repeat' (first | exact cd_nil | refine cd_cons ?_ ?_)
      all_goals first | with_reducible rfl | with_reducible assumption | rfl | (simp; omega)
  · exfalso
    have : sotStep ⟨g, c, l⟩ = .bad := if_neg ok
    rw [this] at hb; cases hb
theorem sot_runs {g : Int} (h1 : 60000 ≤ g ∧ g ≤ 1800000) : ∀ (n : Nat) (c l : Int), l.toNat ≤ n → -1800000 ≤ l → l ≤ 4294967296 → 0 ≤ c → c + l ≤ 8589934592 → c ≤ 8589934592 → ∃ k, runs sotStep k ⟨g, c, l⟩ = some (.exit 0, [(6, .w (.one (.int .i64 (c + clv g l))))], [])
  | n, c, l, hn, h2, h3, h4, h5, h6 => by
    by_cases hk : 0 < l
    · obtain ⟨n, rfl⟩ : ∃ k, n = k + 1 := ⟨n - 1, by omega⟩
      obtain ⟨k, hr⟩ := sot_runs h1 n (c + 1) (l - g) (by omega) (by omega) (by omega) (by omega) (by omega) (by omega)
      refine ⟨k + 1, ?_⟩
      rw [runs, sot_go ⟨h1, h2, h3, h4, h5, h6⟩]
      unfold sotNx
      rw [if_pos hk, clv_go (by omega) hk, ← Int.add_assoc]
      exact hr
    · refine ⟨1, ?_⟩
      rw [runs, sot_go ⟨h1, h2, h3, h4, h5, h6⟩]
      unfold sotNx
      rw [if_neg hk, show clv g l = 0 from if_neg hk, Int.add_zero]
termination_by n => n
def sotD : LpDef sotT Tb where
  ts := [5, 6, 7]
  ps := []
  W := [5, 6, 7, 16, 17, 18, 19, 20, 21, 22]
  dec := fun vs ks => match vs, ks with
    | [.w (.one (.int .i64 g)), .w (.one (.int .i64 c)), .w (.one (.int .i64 l))], [] => some ⟨g, c, l⟩
    | _, _ => none
  spec := fun t => some ((.exit 0), [(6, .w (.one (.int .i64 (clv t.g t.l))))], [], [(decide (60000 ≤ t.g) && (decide (t.g ≤ 1800000) && (decide (0 ≤ t.l) && (decide (t.l ≤ 4294967296) && decide (t.c = 0)))), true)])
theorem sotD_ok (x : Code) (hx : codeAt (bodyOf Try.f31) [false, true, false, true, true, true, true] = some (.loop x)) : LpOk Try.prog tbI 24 x (sotD.sp (fun _ => false)) := by
  obtain rfl := loopAt_eq hx
  refine lp_ok (c := ctxOf Try.prog tbI (fun _ => false) libJ0) (ctxOf_ok libJ0_ok (eq_none _)) (by kernel_rfl) hx lps_nil (S := sotS) (step := sotStep) (fun _ h => by cases h) (by kernel_rfl) (by kernel_rfl) ?_ rfl (fun t e he => ?_) (fun t hb rest => sot_round t hb rest) ?_
  · intro vs ks s hv1 h hv2
    simp only [sotD] at h
    split at h
    · cases h
      exact ⟨rfl, fun e he => he⟩
    · cases h
  · simp only [sotS, sotTm, List.mem_cons, List.not_mem_nil, or_false] at he
    rcases he with rfl | rfl | rfl <;> rfl
  · intro s ex outs wb cd h hc
    obtain ⟨g, c, l⟩ := s
    simp only [sotD] at h
    cases h
    have := ca1 hc
    simp only [Bool.and_eq_true, decide_eq_true_eq] at this
    obtain ⟨h1, h2, h3, h4, rfl⟩ := this
    have := sot_runs ⟨h1, h2⟩ _ 0 l (Nat.le_refl _) (by omega) h4 (by omega) (by omega) (by omega)
    rw [Int.zero_add] at this
    exact this
noncomputable abbrev sotLps : Lps Tb := [((24, [false, true, false, true, true, true, true]), sotD.sp (fun _ => false))]
theorem sotLps_ok : LpsOk Try.prog tbI sotLps Try.f31.ntmps (bodyOf Try.f31) := lps_cons (fun _ x hx => sotD_ok x hx) lps_nil
def clvS (l st : Int) : Int := if st < 1 then 0 else -(-(min st 1048576 * 1000) / l)
/-- The time at which a slot begins. -/
def tmK (b l k : Int) : Int := IntKind.i64.wrap (b + IntKind.i64.wrap (k * l))
abbrev agTS : FnSp F := sp2 dRt (dInt .i64) (fun r t => aInt .i64 (agV r t)) (fun r t => [(i64B r.n, true), (i64B r.d, true)])
abbrev aiTS : FnSp F := sp3 AtHz.dSi (dInt .i64) dV3 (fun s t v => .tup [.agg [.int .i64 (aimAz s t v), .int .i64 (aimAl s t v)], .one (.int .i64 (aimE s t v))]) (fun _ t _ => [(i64B t, true)])
def aaz (s : Si) (r : Rt) (b l : Int) (v : V3) (k : Int) : Int := aimAz s (agV r (tmK b l k)) v
def aal (s : Si) (r : Rt) (b l : Int) (v : V3) (k : Int) : Int := aimAl s (agV r (tmK b l k)) v
def aae (s : Si) (v : V3) : Int := aimE s 0 v
def gSo : List (AV Tb) → Option (AV Tb × List (Bool × Bool))
  | [.w (.agg [.int .i64 x0, .int .i64 x1, .int .i64 x2, .int .i64 x3, .int .i64 x4, .int .i64 x5, .int .i64 b, .int .i64 l, .int .i64 k, .int .i64 x9, .int .i64 x10, .int .i64 x11, .int .i64 x12, .int .i64 x13, .int .i64 x14, .int .i64 d, .fv (.tab [some .i64] T)]), .w (.one (.int .i64 st))] => some (.w (.one (.int .i64 (clvS l st))), [(decide (60000 ≤ l) && decide (l ≤ 1800000), true)])
  | _ => none
def gSl : List (AV Tb) → Option (AV Tb × List (Bool × Bool))
  | [.w (.agg [.int .i64 x0, .int .i64 x1, .int .i64 x2, .int .i64 x3, .int .i64 x4, .int .i64 x5, .int .i64 b, .int .i64 l, .int .i64 k, .int .i64 x9, .int .i64 x10, .int .i64 x11, .int .i64 x12, .int .i64 x13, .int .i64 x14, .int .i64 d, .fv (.tab [some .i64] T)]), .w (.one (.int .i64 st))] => some (.w (.one (.int .i64 (if niE ⟨x0, x1⟩ ⟨x2, x3, x4, x5⟩ b l k ⟨x9, x10, x11⟩ ⟨x12, x13, x14⟩ d T = 0 then clvS l st else 0))), [(i64B x4, true), (i64B x5, true), (decide (lenT T ≤ 9223372036854775807), true)])
  | _ => none
def gAa : List (AV Tb) → Option (AV Tb × List (Bool × Bool))
  | [.w (.agg [.int .i64 x0, .int .i64 x1, .int .i64 x2, .int .i64 x3, .int .i64 x4, .int .i64 x5, .int .i64 b, .int .i64 l, .int .i64 k, .int .i64 x9, .int .i64 x10, .int .i64 x11, .int .i64 x12, .int .i64 x13, .int .i64 x14, .int .i64 d, .fv (.tab [some .i64] T)]), .w (.agg [.int .i64 v0, .int .i64 v1, .int .i64 v2]), .w (.one (.int .i64 j))] => some (.tup [.agg [.int .i64 (aaz ⟨x0, x1⟩ ⟨x2, x3, x4, x5⟩ b l ⟨v0, v1, v2⟩ j), .int .i64 (aal ⟨x0, x1⟩ ⟨x2, x3, x4, x5⟩ b l ⟨v0, v1, v2⟩ j)], .one (.int .i64 (aae ⟨x0, x1⟩ ⟨v0, v1, v2⟩))], [(i64B x4, true), (i64B x5, true)])
  | _ => none
def gAi : List (AV Tb) → Option (AV Tb × List (Bool × Bool))
  | [.w (.agg [.int .i64 x0, .int .i64 x1, .int .i64 x2, .int .i64 x3, .int .i64 x4, .int .i64 x5, .int .i64 b, .int .i64 l, .int .i64 k, .int .i64 x9, .int .i64 x10, .int .i64 x11, .int .i64 x12, .int .i64 x13, .int .i64 x14, .int .i64 d, .fv (.tab [some .i64] T)]), .w (.agg [.int .i64 v0, .int .i64 v1, .int .i64 v2]), .w (.one (.int .i64 j))] => some (.tup [.agg [.int .i64 (if niE ⟨x0, x1⟩ ⟨x2, x3, x4, x5⟩ b l k ⟨x9, x10, x11⟩ ⟨x12, x13, x14⟩ d T = 0 then (if 0 ≤ j ∧ j ≤ k then aaz ⟨x0, x1⟩ ⟨x2, x3, x4, x5⟩ b l ⟨v0, v1, v2⟩ j else 0) else 0), .int .i64 (if niE ⟨x0, x1⟩ ⟨x2, x3, x4, x5⟩ b l k ⟨x9, x10, x11⟩ ⟨x12, x13, x14⟩ d T = 0 then (if 0 ≤ j ∧ j ≤ k then aal ⟨x0, x1⟩ ⟨x2, x3, x4, x5⟩ b l ⟨v0, v1, v2⟩ j else 0) else 0)], .one (.int .i64 (if niE ⟨x0, x1⟩ ⟨x2, x3, x4, x5⟩ b l k ⟨x9, x10, x11⟩ ⟨x12, x13, x14⟩ d T = 0 then (if 0 ≤ j ∧ j ≤ k then aae ⟨x0, x1⟩ ⟨v0, v1, v2⟩ else 4) else niE ⟨x0, x1⟩ ⟨x2, x3, x4, x5⟩ b l k ⟨x9, x10, x11⟩ ⟨x12, x13, x14⟩ d T))], [(i64B x4, true), (i64B x5, true), (decide (lenT T ≤ 9223372036854775807), true)])
  | _ => none
def gRa : List (AV Tb) → Option (AV Tb × List (Bool × Bool))
  | [.w (.agg [.int .i64 x0, .int .i64 x1, .int .i64 x2, .int .i64 x3, .int .i64 x4, .int .i64 x5, .int .i64 b, .int .i64 l, .int .i64 k, .int .i64 x9, .int .i64 x10, .int .i64 x11, .int .i64 x12, .int .i64 x13, .int .i64 x14, .int .i64 d, .fv (.tab [some .i64] T)]), .w (.agg [.int .i64 v0, .int .i64 v1, .int .i64 v2]), .w (.one (.int .i64 j))] => some (.tup [.agg [.int .i64 (if 0 ≤ j ∧ j ≤ k then aaz ⟨x0, x1⟩ ⟨x2, x3, x4, x5⟩ b l ⟨v0, v1, v2⟩ j else 0), .int .i64 (if 0 ≤ j ∧ j ≤ k then aal ⟨x0, x1⟩ ⟨x2, x3, x4, x5⟩ b l ⟨v0, v1, v2⟩ j else 0)], .one (.int .i64 (if 0 ≤ j ∧ j ≤ k then aae ⟨x0, x1⟩ ⟨v0, v1, v2⟩ else 4))], [(i64B x4, true), (i64B x5, true)])
  | _ => none
end
end Go.Proofs.Ytiamhppdacfmmaa.AtSl

