/-
  The walk of the law ClockAgreeTruth: it returns true, for every list and numbers.
  Conditions: those of each theorem.
-/
import Derived.Test.YtjegnlnnjcchaaaA7
set_option linter.unusedVariables false
set_option linter.unusedSimpArgs false
namespace Go.Proofs.Ytjegnlnnjcchaaa.AtCk
open Go.RowKit Ev Wd
open Go.Proofs.Ytjegnlnnjcchaaa
noncomputable section

def nlC (t : TypeId) : Option Fct := bif Nat.beq t 75 then some (.tab [some .i64, some .i64, some .i64, none, some .i64] []) else bif Nat.beq t 76 then some (.tab [some .i64] []) else none
theorem nlC_ok (B : Nat) : ∀ t g D w, nlC t = some g → (fctI B).hv g D w (.slice none 0 0) := fun t g D w h => by
  unfold nlC at h
  cases h2 : Nat.beq t 75 with
  | true => rw [h2] at h; cases h; exact nil_tab _ D w
  | false =>
    rw [h2] at h
    cases h3 : Nat.beq t 76 with
    | true => rw [h3] at h; cases h; exact nil_tab _ D w
    | false => rw [h3] at h; cases h
def agI (B : Nat) : Interp Fct := (fctI B).rows nlC (nlC_ok B)
abbrev eqA : TypeId → Bool := fun t => Nat.beq t 79
noncomputable abbrev libA3 : List (Nat × FnSp Empty) := [(86, unS)]
noncomputable abbrev libV : List (Nat × FnSp Fct) := [(59, nextS), (58, belowS), (64, stream 85 runG), (65, factSp (liftG cvF inF [some .i64, some .i64] gRd)), (55, factSp (liftG cvF inF [some .i64] gAgT)), (67, sp2 dBd (dInt .i64) (fun b v => aBool (hasB b v)) (fun _ _ => [])), (66, sp0 (aBool true))]
theorem eqA_ok : EqOk Try.prog (tabOf Try.prog) eqA := eq_of fun t ht => by
  have ht : (Nat.beq t 79) = true := ht
  have := Nat.eq_of_beq_eq_true ht
  subst this
  exact ⟨by kernel_rfl, by kernel_rfl, by kernel_rfl⟩
theorem libA3_ok : LibOk Try.prog noFacts (lib1 libA3) := (lib1_cons (sp2_ok fun c x _ => ⟨_, rfl, unf_pl c x⟩) Try.call86 (lib1_nil _ _))
set_option maxRecDepth 100000 in
theorem cks_l  : evR (ctxOf Try.prog noFacts eqA libA3) Try.f66 [] [] = some (AV.w (AW.one (AC.bool ((uniC { s := 1000, b := { lo := 5000, hi := 5010, u := false }, d := 100000 } 1100).lo == 5090 && ((uniC { s := 1000, b := { lo := 5000, hi := 5010, u := false }, d := 100000 } 1100).hi == 5123 && ((uniC { s := 1000, b := { lo := 5000, hi := 5010, u := false }, d := 100000 } 1100).u == false && true))))), (pickL [] [])) := by kernel_rfl
theorem afact_pl : Pl Try.prog 66 [] (.bool true) := by
  refine Eq.mp (congrArg (Pl _ _ _) ?_) (pl_leaf rfl (ctxOf_ok libA3_ok eqA_ok) (by kernel_rfl) Try.func66 rfl cks_l rfl (all2_R .nil) rfl cd_nil)
  rw [show uniC ⟨1000, ⟨5000, 5010, false⟩, 100000⟩ 1100 = ⟨5090, 5123, false⟩ by kernel_rfl]; rfl
theorem libV_ok (B : Nat) : LibOk Try.prog (agI B) (lib1 libV) := (lib1_cons (nextS_ok B).rows Try.call59 (lib1_cons (belowS_ok _) Try.call58 (lib1_cons (runG_ok B).rows Try.call64 (lib1_cons (liftF_ok gRd_ok).rows Try.call65 (lib1_cons (liftF_ok gAgT_ok).rows Try.call55 (lib1_cons (sp2_ok fun b v _ => ⟨_, rfl, AtTick.has_pl b v⟩) Try.call67 (lib1_cons (sp0_ok rfl afact_pl) Try.call66 (lib1_nil _ _))))))))
/-- Where a round begins in the list; the time; the values shown; the clocks. -/
def pA (l : List Int) (f : Nat) : Nat → Int
  | 0 => 0 + 1
  | j + 1 => bif Nat.blt j f then ruI l (pA l f j) + 1 + 1 + 1 else ruI l (pA l f j) + 1 + 1
def tY (y : Int) : Int := IntKind.i64.wrap (1000 + belowV y 20000)
def hA (l : List Int) (f : Nat) (y : Int) (j : Nat) : Int := bif Nat.blt j f then IntKind.i64.wrap (rdV (ruS l (pA l f j)) (ruA l (pA l f j)) (ruT l (pA l f j)) (tY y) + nextV l (ruI l (pA l f j) + 1 + 1) 9000) else rdV (ruS l (pA l f j)) (ruA l (pA l f j)) (ruT l (pA l f j)) (tY y)
def TA (l : List Int) (f : Nat) : Nat → List (List Int)
  | 0 => []
  | n + 1 => TA l f n ++ [ruR l (pA l f n)]
def HA (l : List Int) (f : Nat) (y : Int) : Nat → List (List Int)
  | 0 => []
  | n + 1 => HA l f y n ++ [[hA l f y n]]
theorem pA_in (l : List Int) (f : Nat) : ∀ j : Nat, 1 ≤ pA l f j ∧ pA l f j ≤ 1 + 15 * j
  | 0 => ⟨Int.le_refl _, by show (0 : Int) + 1 ≤ _; omega⟩
  | j + 1 => by
    obtain ⟨h1, h2⟩ := pA_in l f j
    obtain ⟨_, _, _, _, g1, g2⟩ := ru_ok l (pA l f j)
    unfold pA
    cases Nat.blt j f
    · simp only [cond_false]; omega
    · simp only [cond_true]; omega
theorem okA_s {t : Int} {m : Nat} {r h : List Int} {T H : List (List Int)} (a : ckE (ckO r) = 0) (b : okA t m T H) : okA t (m + 1) (r :: T) (h :: H) := by unfold okA; exact ⟨a, b⟩
theorem okA_z {t : Int} {r h : List Int} {T H : List (List Int)} (a : ckE (ckO r) = 0) (g : gdA t r h) (b : okA t 0 T H) : okA t 0 (r :: T) (h :: H) := by unfold okA; exact ⟨a, g, b⟩
theorem okA_n {t : Int} : okA t 0 [] [] := by unfold okA; trivial
set_option maxRecDepth 100000 in
theorem at_1000111 (B : Nat) (l : List Int) (x : Int) (y : Int) : evL (ctxOf Try.prog (agI B) (fun _ => false) libV) Try.f11 l [(.w (.one (.int .i64 x))), (.w (.one (.int .i64 y)))] [true, false, false, false, true, true, true] = some (AV.w (AW.one (AC.bool (hasB (agB (TA l 0 1) (HA l 0 y 1) (belowV x 3)) (tY y)))), (pickL [(i64B x, true), (i64B 3, true), (i64B y, true), (i64B 20000, true), (listB l, true), (atB 0, true), (decide (0 < IntKind.i64.wrap (IntKind.i64.wrap (IntKind.i64.wrap (2 * belowV x 3) + 1) + nextV l 0 3)), true), (decide (0 ≤ pA l 0 0), true), (decide (pA l 0 0 < 900000), true), (rdE (ruS l (pA l 0 0)) (ruA l (pA l 0 0)) (ruT l (pA l 0 0)) (tY y) != 0, false), (decide (0 < belowV x 3), false), (decide (0 = 0), true), (decide (0 + 1 ≤ 34359738368), true), (decide (IntKind.i64.wrap (0 + 1) < IntKind.i64.wrap (IntKind.i64.wrap (IntKind.i64.wrap (2 * belowV x 3) + 1) + nextV l 0 3)), false), (true, true), (agE (TA l 0 1) (HA l 0 y 1) == 0, true), (!(agB (TA l 0 1) (HA l 0 y 1) (belowV x 3)).u, true)] [0, 1, 2, 3, 1, 4, 5, 6, 4, 7, 8, 9, 10, 11, 12, 11, 12, 13, 14, 14, 14, 15, 15, 15, 15, 16, 16, 16, 16])) := by kernel_rfl
set_option maxRecDepth 100000 in
theorem at_1001000111 (B : Nat) (l : List Int) (x : Int) (y : Int) : evL (ctxOf Try.prog (agI B) (fun _ => false) libV) Try.f11 l [(.w (.one (.int .i64 x))), (.w (.one (.int .i64 y)))] [true, false, false, true, false, false, false, true, true, true] = some (AV.w (AW.one (AC.bool (hasB (agB (TA l 0 2) (HA l 0 y 2) (belowV x 3)) (tY y)))), (pickL [(i64B x, true), (i64B 3, true), (i64B y, true), (i64B 20000, true), (listB l, true), (atB 0, true), (decide (0 < IntKind.i64.wrap (IntKind.i64.wrap (IntKind.i64.wrap (2 * belowV x 3) + 1) + nextV l 0 3)), true), (decide (0 ≤ pA l 0 0), true), (decide (pA l 0 0 < 900000), true), (rdE (ruS l (pA l 0 0)) (ruA l (pA l 0 0)) (ruT l (pA l 0 0)) (tY y) != 0, false), (decide (0 < belowV x 3), false), (decide (0 = 0), true), (decide (0 + 1 ≤ 34359738368), true), (decide (IntKind.i64.wrap (0 + 1) < IntKind.i64.wrap (IntKind.i64.wrap (IntKind.i64.wrap (2 * belowV x 3) + 1) + nextV l 0 3)), true), (decide (0 ≤ pA l 0 1), true), (decide (pA l 0 1 < 900000), true), (rdE (ruS l (pA l 0 1)) (ruA l (pA l 0 1)) (ruT l (pA l 0 1)) (tY y) != 0, false), (decide (IntKind.i64.wrap (0 + 1) < belowV x 3), false), (decide (0 + 1 = 0 + 1), true), (decide (0 + 1 + 1 ≤ 34359738368), true), (decide (IntKind.i64.wrap (IntKind.i64.wrap (0 + 1) + 1) < IntKind.i64.wrap (IntKind.i64.wrap (IntKind.i64.wrap (2 * belowV x 3) + 1) + nextV l 0 3)), false), (true, true), (agE (TA l 0 2) (HA l 0 y 2) == 0, true), (!(agB (TA l 0 2) (HA l 0 y 2) (belowV x 3)).u, true)] [0, 1, 2, 3, 1, 4, 5, 6, 4, 7, 8, 9, 10, 11, 12, 11, 12, 13, 4, 14, 15, 16, 17, 18, 19, 18, 19, 20, 21, 21, 21, 22, 22, 22, 22, 23, 23, 23, 23])) := by kernel_rfl
set_option maxRecDepth 100000 in
theorem at_1001001000111 (B : Nat) (l : List Int) (x : Int) (y : Int) : evL (ctxOf Try.prog (agI B) (fun _ => false) libV) Try.f11 l [(.w (.one (.int .i64 x))), (.w (.one (.int .i64 y)))] [true, false, false, true, false, false, true, false, false, false, true, true, true] = some (AV.w (AW.one (AC.bool (hasB (agB (TA l 0 3) (HA l 0 y 3) (belowV x 3)) (tY y)))), (pickL [(i64B x, true), (i64B 3, true), (i64B y, true), (i64B 20000, true), (listB l, true), (atB 0, true), (decide (0 < IntKind.i64.wrap (IntKind.i64.wrap (IntKind.i64.wrap (2 * belowV x 3) + 1) + nextV l 0 3)), true), (decide (0 ≤ pA l 0 0), true), (decide (pA l 0 0 < 900000), true), (rdE (ruS l (pA l 0 0)) (ruA l (pA l 0 0)) (ruT l (pA l 0 0)) (tY y) != 0, false), (decide (0 < belowV x 3), false), (decide (0 = 0), true), (decide (0 + 1 ≤ 34359738368), true), (decide (IntKind.i64.wrap (0 + 1) < IntKind.i64.wrap (IntKind.i64.wrap (IntKind.i64.wrap (2 * belowV x 3) + 1) + nextV l 0 3)), true), (decide (0 ≤ pA l 0 1), true), (decide (pA l 0 1 < 900000), true), (rdE (ruS l (pA l 0 1)) (ruA l (pA l 0 1)) (ruT l (pA l 0 1)) (tY y) != 0, false), (decide (IntKind.i64.wrap (0 + 1) < belowV x 3), false), (decide (0 + 1 = 0 + 1), true), (decide (0 + 1 + 1 ≤ 34359738368), true), (decide (IntKind.i64.wrap (IntKind.i64.wrap (0 + 1) + 1) < IntKind.i64.wrap (IntKind.i64.wrap (IntKind.i64.wrap (2 * belowV x 3) + 1) + nextV l 0 3)), true), (decide (0 ≤ pA l 0 2), true), (decide (pA l 0 2 < 900000), true), (rdE (ruS l (pA l 0 2)) (ruA l (pA l 0 2)) (ruT l (pA l 0 2)) (tY y) != 0, false), (decide (IntKind.i64.wrap (IntKind.i64.wrap (0 + 1) + 1) < belowV x 3), false), (decide (0 + 1 + 1 = 0 + 1 + 1), true), (decide (0 + 1 + 1 + 1 ≤ 34359738368), true), (decide (IntKind.i64.wrap (IntKind.i64.wrap (IntKind.i64.wrap (0 + 1) + 1) + 1) < IntKind.i64.wrap (IntKind.i64.wrap (IntKind.i64.wrap (2 * belowV x 3) + 1) + nextV l 0 3)), false), (true, true), (agE (TA l 0 3) (HA l 0 y 3) == 0, true), (!(agB (TA l 0 3) (HA l 0 y 3) (belowV x 3)).u, true)] [0, 1, 2, 3, 1, 4, 5, 6, 4, 7, 8, 9, 10, 11, 12, 11, 12, 13, 4, 14, 15, 16, 17, 18, 19, 18, 19, 20, 4, 21, 22, 23, 24, 25, 26, 25, 26, 27, 28, 28, 28, 29, 29, 29, 29, 30, 30, 30, 30])) := by kernel_rfl
set_option maxRecDepth 100000 in
theorem at_1011001000111 (B : Nat) (l : List Int) (x : Int) (y : Int) : evL (ctxOf Try.prog (agI B) (fun _ => false) libV) Try.f11 l [(.w (.one (.int .i64 x))), (.w (.one (.int .i64 y)))] [true, false, true, true, false, false, true, false, false, false, true, true, true] = some (AV.w (AW.one (AC.bool (hasB (agB (TA l 1 3) (HA l 1 y 3) (belowV x 3)) (tY y)))), (pickL [(i64B x, true), (i64B 3, true), (i64B y, true), (i64B 20000, true), (listB l, true), (atB 0, true), (decide (0 < IntKind.i64.wrap (IntKind.i64.wrap (IntKind.i64.wrap (2 * belowV x 3) + 1) + nextV l 0 3)), true), (decide (0 ≤ pA l 1 0), true), (decide (pA l 1 0 < 900000), true), (rdE (ruS l (pA l 1 0)) (ruA l (pA l 1 0)) (ruT l (pA l 1 0)) (tY y) != 0, false), (decide (0 < belowV x 3), true), (i64B 9000, true), (atB (ruI l (pA l 1 0) + 1 + 1), true), (decide (0 = 0), true), (decide (0 + 1 ≤ 34359738368), true), (decide (IntKind.i64.wrap (0 + 1) < IntKind.i64.wrap (IntKind.i64.wrap (IntKind.i64.wrap (2 * belowV x 3) + 1) + nextV l 0 3)), true), (decide (0 ≤ pA l 1 1), true), (decide (pA l 1 1 < 900000), true), (rdE (ruS l (pA l 1 1)) (ruA l (pA l 1 1)) (ruT l (pA l 1 1)) (tY y) != 0, false), (decide (IntKind.i64.wrap (0 + 1) < belowV x 3), false), (decide (0 + 1 = 0 + 1), true), (decide (0 + 1 + 1 ≤ 34359738368), true), (decide (IntKind.i64.wrap (IntKind.i64.wrap (0 + 1) + 1) < IntKind.i64.wrap (IntKind.i64.wrap (IntKind.i64.wrap (2 * belowV x 3) + 1) + nextV l 0 3)), true), (decide (0 ≤ pA l 1 2), true), (decide (pA l 1 2 < 900000), true), (rdE (ruS l (pA l 1 2)) (ruA l (pA l 1 2)) (ruT l (pA l 1 2)) (tY y) != 0, false), (decide (IntKind.i64.wrap (IntKind.i64.wrap (0 + 1) + 1) < belowV x 3), false), (decide (0 + 1 + 1 = 0 + 1 + 1), true), (decide (0 + 1 + 1 + 1 ≤ 34359738368), true), (decide (IntKind.i64.wrap (IntKind.i64.wrap (IntKind.i64.wrap (0 + 1) + 1) + 1) < IntKind.i64.wrap (IntKind.i64.wrap (IntKind.i64.wrap (2 * belowV x 3) + 1) + nextV l 0 3)), false), (true, true), (agE (TA l 1 3) (HA l 1 y 3) == 0, true), (!(agB (TA l 1 3) (HA l 1 y 3) (belowV x 3)).u, true)] [0, 1, 2, 3, 1, 4, 5, 6, 4, 7, 8, 9, 10, 11, 4, 12, 13, 14, 13, 14, 15, 4, 16, 17, 18, 19, 20, 21, 20, 21, 22, 4, 23, 24, 25, 26, 27, 28, 27, 28, 29, 30, 30, 30, 31, 31, 31, 31, 32, 32, 32, 32])) := by kernel_rfl
set_option maxRecDepth 100000 in
theorem at_1011001001000111 (B : Nat) (l : List Int) (x : Int) (y : Int) : evL (ctxOf Try.prog (agI B) (fun _ => false) libV) Try.f11 l [(.w (.one (.int .i64 x))), (.w (.one (.int .i64 y)))] [true, false, true, true, false, false, true, false, false, true, false, false, false, true, true, true] = some (AV.w (AW.one (AC.bool (hasB (agB (TA l 1 4) (HA l 1 y 4) (belowV x 3)) (tY y)))), (pickL [(i64B x, true), (i64B 3, true), (i64B y, true), (i64B 20000, true), (listB l, true), (atB 0, true), (decide (0 < IntKind.i64.wrap (IntKind.i64.wrap (IntKind.i64.wrap (2 * belowV x 3) + 1) + nextV l 0 3)), true), (decide (0 ≤ pA l 1 0), true), (decide (pA l 1 0 < 900000), true), (rdE (ruS l (pA l 1 0)) (ruA l (pA l 1 0)) (ruT l (pA l 1 0)) (tY y) != 0, false), (decide (0 < belowV x 3), true), (i64B 9000, true), (atB (ruI l (pA l 1 0) + 1 + 1), true), (decide (0 = 0), true), (decide (0 + 1 ≤ 34359738368), true), (decide (IntKind.i64.wrap (0 + 1) < IntKind.i64.wrap (IntKind.i64.wrap (IntKind.i64.wrap (2 * belowV x 3) + 1) + nextV l 0 3)), true), (decide (0 ≤ pA l 1 1), true), (decide (pA l 1 1 < 900000), true), (rdE (ruS l (pA l 1 1)) (ruA l (pA l 1 1)) (ruT l (pA l 1 1)) (tY y) != 0, false), (decide (IntKind.i64.wrap (0 + 1) < belowV x 3), false), (decide (0 + 1 = 0 + 1), true), (decide (0 + 1 + 1 ≤ 34359738368), true), (decide (IntKind.i64.wrap (IntKind.i64.wrap (0 + 1) + 1) < IntKind.i64.wrap (IntKind.i64.wrap (IntKind.i64.wrap (2 * belowV x 3) + 1) + nextV l 0 3)), true), (decide (0 ≤ pA l 1 2), true), (decide (pA l 1 2 < 900000), true), (rdE (ruS l (pA l 1 2)) (ruA l (pA l 1 2)) (ruT l (pA l 1 2)) (tY y) != 0, false), (decide (IntKind.i64.wrap (IntKind.i64.wrap (0 + 1) + 1) < belowV x 3), false), (decide (0 + 1 + 1 = 0 + 1 + 1), true), (decide (0 + 1 + 1 + 1 ≤ 34359738368), true), (decide (IntKind.i64.wrap (IntKind.i64.wrap (IntKind.i64.wrap (0 + 1) + 1) + 1) < IntKind.i64.wrap (IntKind.i64.wrap (IntKind.i64.wrap (2 * belowV x 3) + 1) + nextV l 0 3)), true), (decide (0 ≤ pA l 1 3), true), (decide (pA l 1 3 < 900000), true), (rdE (ruS l (pA l 1 3)) (ruA l (pA l 1 3)) (ruT l (pA l 1 3)) (tY y) != 0, false), (decide (IntKind.i64.wrap (IntKind.i64.wrap (IntKind.i64.wrap (0 + 1) + 1) + 1) < belowV x 3), false), (decide (0 + 1 + 1 + 1 = 0 + 1 + 1 + 1), true), (decide (0 + 1 + 1 + 1 + 1 ≤ 34359738368), true), (decide (IntKind.i64.wrap (IntKind.i64.wrap (IntKind.i64.wrap (IntKind.i64.wrap (0 + 1) + 1) + 1) + 1) < IntKind.i64.wrap (IntKind.i64.wrap (IntKind.i64.wrap (2 * belowV x 3) + 1) + nextV l 0 3)), false), (true, true), (agE (TA l 1 4) (HA l 1 y 4) == 0, true), (!(agB (TA l 1 4) (HA l 1 y 4) (belowV x 3)).u, true)] [0, 1, 2, 3, 1, 4, 5, 6, 4, 7, 8, 9, 10, 11, 4, 12, 13, 14, 13, 14, 15, 4, 16, 17, 18, 19, 20, 21, 20, 21, 22, 4, 23, 24, 25, 26, 27, 28, 27, 28, 29, 4, 30, 31, 32, 33, 34, 35, 34, 35, 36, 37, 37, 37, 38, 38, 38, 38, 39, 39, 39, 39])) := by kernel_rfl
set_option maxRecDepth 100000 in
theorem at_1011001001001000111 (B : Nat) (l : List Int) (x : Int) (y : Int) : evL (ctxOf Try.prog (agI B) (fun _ => false) libV) Try.f11 l [(.w (.one (.int .i64 x))), (.w (.one (.int .i64 y)))] [true, false, true, true, false, false, true, false, false, true, false, false, true, false, false, false, true, true, true] = some (AV.w (AW.one (AC.bool (hasB (agB (TA l 1 5) (HA l 1 y 5) (belowV x 3)) (tY y)))), (pickL [(i64B x, true), (i64B 3, true), (i64B y, true), (i64B 20000, true), (listB l, true), (atB 0, true), (decide (0 < IntKind.i64.wrap (IntKind.i64.wrap (IntKind.i64.wrap (2 * belowV x 3) + 1) + nextV l 0 3)), true), (decide (0 ≤ pA l 1 0), true), (decide (pA l 1 0 < 900000), true), (rdE (ruS l (pA l 1 0)) (ruA l (pA l 1 0)) (ruT l (pA l 1 0)) (tY y) != 0, false), (decide (0 < belowV x 3), true), (i64B 9000, true), (atB (ruI l (pA l 1 0) + 1 + 1), true), (decide (0 = 0), true), (decide (0 + 1 ≤ 34359738368), true), (decide (IntKind.i64.wrap (0 + 1) < IntKind.i64.wrap (IntKind.i64.wrap (IntKind.i64.wrap (2 * belowV x 3) + 1) + nextV l 0 3)), true), (decide (0 ≤ pA l 1 1), true), (decide (pA l 1 1 < 900000), true), (rdE (ruS l (pA l 1 1)) (ruA l (pA l 1 1)) (ruT l (pA l 1 1)) (tY y) != 0, false), (decide (IntKind.i64.wrap (0 + 1) < belowV x 3), false), (decide (0 + 1 = 0 + 1), true), (decide (0 + 1 + 1 ≤ 34359738368), true), (decide (IntKind.i64.wrap (IntKind.i64.wrap (0 + 1) + 1) < IntKind.i64.wrap (IntKind.i64.wrap (IntKind.i64.wrap (2 * belowV x 3) + 1) + nextV l 0 3)), true), (decide (0 ≤ pA l 1 2), true), (decide (pA l 1 2 < 900000), true), (rdE (ruS l (pA l 1 2)) (ruA l (pA l 1 2)) (ruT l (pA l 1 2)) (tY y) != 0, false), (decide (IntKind.i64.wrap (IntKind.i64.wrap (0 + 1) + 1) < belowV x 3), false), (decide (0 + 1 + 1 = 0 + 1 + 1), true), (decide (0 + 1 + 1 + 1 ≤ 34359738368), true), (decide (IntKind.i64.wrap (IntKind.i64.wrap (IntKind.i64.wrap (0 + 1) + 1) + 1) < IntKind.i64.wrap (IntKind.i64.wrap (IntKind.i64.wrap (2 * belowV x 3) + 1) + nextV l 0 3)), true), (decide (0 ≤ pA l 1 3), true), (decide (pA l 1 3 < 900000), true), (rdE (ruS l (pA l 1 3)) (ruA l (pA l 1 3)) (ruT l (pA l 1 3)) (tY y) != 0, false), (decide (IntKind.i64.wrap (IntKind.i64.wrap (IntKind.i64.wrap (0 + 1) + 1) + 1) < belowV x 3), false), (decide (0 + 1 + 1 + 1 = 0 + 1 + 1 + 1), true), (decide (0 + 1 + 1 + 1 + 1 ≤ 34359738368), true), (decide (IntKind.i64.wrap (IntKind.i64.wrap (IntKind.i64.wrap (IntKind.i64.wrap (0 + 1) + 1) + 1) + 1) < IntKind.i64.wrap (IntKind.i64.wrap (IntKind.i64.wrap (2 * belowV x 3) + 1) + nextV l 0 3)), true), (decide (0 ≤ pA l 1 4), true), (decide (pA l 1 4 < 900000), true), (rdE (ruS l (pA l 1 4)) (ruA l (pA l 1 4)) (ruT l (pA l 1 4)) (tY y) != 0, false), (decide (IntKind.i64.wrap (IntKind.i64.wrap (IntKind.i64.wrap (IntKind.i64.wrap (0 + 1) + 1) + 1) + 1) < belowV x 3), false), (decide (0 + 1 + 1 + 1 + 1 = 0 + 1 + 1 + 1 + 1), true), (decide (0 + 1 + 1 + 1 + 1 + 1 ≤ 34359738368), true), (decide (IntKind.i64.wrap (IntKind.i64.wrap (IntKind.i64.wrap (IntKind.i64.wrap (IntKind.i64.wrap (0 + 1) + 1) + 1) + 1) + 1) < IntKind.i64.wrap (IntKind.i64.wrap (IntKind.i64.wrap (2 * belowV x 3) + 1) + nextV l 0 3)), false), (true, true), (agE (TA l 1 5) (HA l 1 y 5) == 0, true), (!(agB (TA l 1 5) (HA l 1 y 5) (belowV x 3)).u, true)] [0, 1, 2, 3, 1, 4, 5, 6, 4, 7, 8, 9, 10, 11, 4, 12, 13, 14, 13, 14, 15, 4, 16, 17, 18, 19, 20, 21, 20, 21, 22, 4, 23, 24, 25, 26, 27, 28, 27, 28, 29, 4, 30, 31, 32, 33, 34, 35, 34, 35, 36, 4, 37, 38, 39, 40, 41, 42, 41, 42, 43, 44, 44, 44, 45, 45, 45, 45, 46, 46, 46, 46])) := by kernel_rfl
set_option maxRecDepth 100000 in
theorem at_1011011001001000111 (B : Nat) (l : List Int) (x : Int) (y : Int) : evL (ctxOf Try.prog (agI B) (fun _ => false) libV) Try.f11 l [(.w (.one (.int .i64 x))), (.w (.one (.int .i64 y)))] [true, false, true, true, false, true, true, false, false, true, false, false, true, false, false, false, true, true, true] = some (AV.w (AW.one (AC.bool (hasB (agB (TA l 2 5) (HA l 2 y 5) (belowV x 3)) (tY y)))), (pickL [(i64B x, true), (i64B 3, true), (i64B y, true), (i64B 20000, true), (listB l, true), (atB 0, true), (decide (0 < IntKind.i64.wrap (IntKind.i64.wrap (IntKind.i64.wrap (2 * belowV x 3) + 1) + nextV l 0 3)), true), (decide (0 ≤ pA l 2 0), true), (decide (pA l 2 0 < 900000), true), (rdE (ruS l (pA l 2 0)) (ruA l (pA l 2 0)) (ruT l (pA l 2 0)) (tY y) != 0, false), (decide (0 < belowV x 3), true), (i64B 9000, true), (atB (ruI l (pA l 2 0) + 1 + 1), true), (decide (0 = 0), true), (decide (0 + 1 ≤ 34359738368), true), (decide (IntKind.i64.wrap (0 + 1) < IntKind.i64.wrap (IntKind.i64.wrap (IntKind.i64.wrap (2 * belowV x 3) + 1) + nextV l 0 3)), true), (decide (0 ≤ pA l 2 1), true), (decide (pA l 2 1 < 900000), true), (rdE (ruS l (pA l 2 1)) (ruA l (pA l 2 1)) (ruT l (pA l 2 1)) (tY y) != 0, false), (decide (IntKind.i64.wrap (0 + 1) < belowV x 3), true), (atB (ruI l (pA l 2 1) + 1 + 1), true), (decide (0 + 1 = 0 + 1), true), (decide (0 + 1 + 1 ≤ 34359738368), true), (decide (IntKind.i64.wrap (IntKind.i64.wrap (0 + 1) + 1) < IntKind.i64.wrap (IntKind.i64.wrap (IntKind.i64.wrap (2 * belowV x 3) + 1) + nextV l 0 3)), true), (decide (0 ≤ pA l 2 2), true), (decide (pA l 2 2 < 900000), true), (rdE (ruS l (pA l 2 2)) (ruA l (pA l 2 2)) (ruT l (pA l 2 2)) (tY y) != 0, false), (decide (IntKind.i64.wrap (IntKind.i64.wrap (0 + 1) + 1) < belowV x 3), false), (decide (0 + 1 + 1 = 0 + 1 + 1), true), (decide (0 + 1 + 1 + 1 ≤ 34359738368), true), (decide (IntKind.i64.wrap (IntKind.i64.wrap (IntKind.i64.wrap (0 + 1) + 1) + 1) < IntKind.i64.wrap (IntKind.i64.wrap (IntKind.i64.wrap (2 * belowV x 3) + 1) + nextV l 0 3)), true), (decide (0 ≤ pA l 2 3), true), (decide (pA l 2 3 < 900000), true), (rdE (ruS l (pA l 2 3)) (ruA l (pA l 2 3)) (ruT l (pA l 2 3)) (tY y) != 0, false), (decide (IntKind.i64.wrap (IntKind.i64.wrap (IntKind.i64.wrap (0 + 1) + 1) + 1) < belowV x 3), false), (decide (0 + 1 + 1 + 1 = 0 + 1 + 1 + 1), true), (decide (0 + 1 + 1 + 1 + 1 ≤ 34359738368), true), (decide (IntKind.i64.wrap (IntKind.i64.wrap (IntKind.i64.wrap (IntKind.i64.wrap (0 + 1) + 1) + 1) + 1) < IntKind.i64.wrap (IntKind.i64.wrap (IntKind.i64.wrap (2 * belowV x 3) + 1) + nextV l 0 3)), true), (decide (0 ≤ pA l 2 4), true), (decide (pA l 2 4 < 900000), true), (rdE (ruS l (pA l 2 4)) (ruA l (pA l 2 4)) (ruT l (pA l 2 4)) (tY y) != 0, false), (decide (IntKind.i64.wrap (IntKind.i64.wrap (IntKind.i64.wrap (IntKind.i64.wrap (0 + 1) + 1) + 1) + 1) < belowV x 3), false), (decide (0 + 1 + 1 + 1 + 1 = 0 + 1 + 1 + 1 + 1), true), (decide (0 + 1 + 1 + 1 + 1 + 1 ≤ 34359738368), true), (decide (IntKind.i64.wrap (IntKind.i64.wrap (IntKind.i64.wrap (IntKind.i64.wrap (IntKind.i64.wrap (0 + 1) + 1) + 1) + 1) + 1) < IntKind.i64.wrap (IntKind.i64.wrap (IntKind.i64.wrap (2 * belowV x 3) + 1) + nextV l 0 3)), false), (true, true), (agE (TA l 2 5) (HA l 2 y 5) == 0, true), (!(agB (TA l 2 5) (HA l 2 y 5) (belowV x 3)).u, true)] [0, 1, 2, 3, 1, 4, 5, 6, 4, 7, 8, 9, 10, 11, 4, 12, 13, 14, 13, 14, 15, 4, 16, 17, 18, 19, 11, 4, 20, 21, 22, 21, 22, 23, 4, 24, 25, 26, 27, 28, 29, 28, 29, 30, 4, 31, 32, 33, 34, 35, 36, 35, 36, 37, 4, 38, 39, 40, 41, 42, 43, 42, 43, 44, 45, 45, 45, 46, 46, 46, 46, 47, 47, 47, 47])) := by kernel_rfl
set_option maxRecDepth 100000 in
theorem at_1011011001001001000111 (B : Nat) (l : List Int) (x : Int) (y : Int) : evL (ctxOf Try.prog (agI B) (fun _ => false) libV) Try.f11 l [(.w (.one (.int .i64 x))), (.w (.one (.int .i64 y)))] [true, false, true, true, false, true, true, false, false, true, false, false, true, false, false, true, false, false, false, true, true, true] = some (AV.w (AW.one (AC.bool (hasB (agB (TA l 2 6) (HA l 2 y 6) (belowV x 3)) (tY y)))), (pickL [(i64B x, true), (i64B 3, true), (i64B y, true), (i64B 20000, true), (listB l, true), (atB 0, true), (decide (0 < IntKind.i64.wrap (IntKind.i64.wrap (IntKind.i64.wrap (2 * belowV x 3) + 1) + nextV l 0 3)), true), (decide (0 ≤ pA l 2 0), true), (decide (pA l 2 0 < 900000), true), (rdE (ruS l (pA l 2 0)) (ruA l (pA l 2 0)) (ruT l (pA l 2 0)) (tY y) != 0, false), (decide (0 < belowV x 3), true), (i64B 9000, true), (atB (ruI l (pA l 2 0) + 1 + 1), true), (decide (0 = 0), true), (decide (0 + 1 ≤ 34359738368), true), (decide (IntKind.i64.wrap (0 + 1) < IntKind.i64.wrap (IntKind.i64.wrap (IntKind.i64.wrap (2 * belowV x 3) + 1) + nextV l 0 3)), true), (decide (0 ≤ pA l 2 1), true), (decide (pA l 2 1 < 900000), true), (rdE (ruS l (pA l 2 1)) (ruA l (pA l 2 1)) (ruT l (pA l 2 1)) (tY y) != 0, false), (decide (IntKind.i64.wrap (0 + 1) < belowV x 3), true), (atB (ruI l (pA l 2 1) + 1 + 1), true), (decide (0 + 1 = 0 + 1), true), (decide (0 + 1 + 1 ≤ 34359738368), true), (decide (IntKind.i64.wrap (IntKind.i64.wrap (0 + 1) + 1) < IntKind.i64.wrap (IntKind.i64.wrap (IntKind.i64.wrap (2 * belowV x 3) + 1) + nextV l 0 3)), true), (decide (0 ≤ pA l 2 2), true), (decide (pA l 2 2 < 900000), true), (rdE (ruS l (pA l 2 2)) (ruA l (pA l 2 2)) (ruT l (pA l 2 2)) (tY y) != 0, false), (decide (IntKind.i64.wrap (IntKind.i64.wrap (0 + 1) + 1) < belowV x 3), false), (decide (0 + 1 + 1 = 0 + 1 + 1), true), (decide (0 + 1 + 1 + 1 ≤ 34359738368), true), (decide (IntKind.i64.wrap (IntKind.i64.wrap (IntKind.i64.wrap (0 + 1) + 1) + 1) < IntKind.i64.wrap (IntKind.i64.wrap (IntKind.i64.wrap (2 * belowV x 3) + 1) + nextV l 0 3)), true), (decide (0 ≤ pA l 2 3), true), (decide (pA l 2 3 < 900000), true), (rdE (ruS l (pA l 2 3)) (ruA l (pA l 2 3)) (ruT l (pA l 2 3)) (tY y) != 0, false), (decide (IntKind.i64.wrap (IntKind.i64.wrap (IntKind.i64.wrap (0 + 1) + 1) + 1) < belowV x 3), false), (decide (0 + 1 + 1 + 1 = 0 + 1 + 1 + 1), true), (decide (0 + 1 + 1 + 1 + 1 ≤ 34359738368), true), (decide (IntKind.i64.wrap (IntKind.i64.wrap (IntKind.i64.wrap (IntKind.i64.wrap (0 + 1) + 1) + 1) + 1) < IntKind.i64.wrap (IntKind.i64.wrap (IntKind.i64.wrap (2 * belowV x 3) + 1) + nextV l 0 3)), true), (decide (0 ≤ pA l 2 4), true), (decide (pA l 2 4 < 900000), true), (rdE (ruS l (pA l 2 4)) (ruA l (pA l 2 4)) (ruT l (pA l 2 4)) (tY y) != 0, false), (decide (IntKind.i64.wrap (IntKind.i64.wrap (IntKind.i64.wrap (IntKind.i64.wrap (0 + 1) + 1) + 1) + 1) < belowV x 3), false), (decide (0 + 1 + 1 + 1 + 1 = 0 + 1 + 1 + 1 + 1), true), (decide (0 + 1 + 1 + 1 + 1 + 1 ≤ 34359738368), true), (decide (IntKind.i64.wrap (IntKind.i64.wrap (IntKind.i64.wrap (IntKind.i64.wrap (IntKind.i64.wrap (0 + 1) + 1) + 1) + 1) + 1) < IntKind.i64.wrap (IntKind.i64.wrap (IntKind.i64.wrap (2 * belowV x 3) + 1) + nextV l 0 3)), true), (decide (0 ≤ pA l 2 5), true), (decide (pA l 2 5 < 900000), true), (rdE (ruS l (pA l 2 5)) (ruA l (pA l 2 5)) (ruT l (pA l 2 5)) (tY y) != 0, false), (decide (IntKind.i64.wrap (IntKind.i64.wrap (IntKind.i64.wrap (IntKind.i64.wrap (IntKind.i64.wrap (0 + 1) + 1) + 1) + 1) + 1) < belowV x 3), false), (decide (0 + 1 + 1 + 1 + 1 + 1 = 0 + 1 + 1 + 1 + 1 + 1), true), (decide (0 + 1 + 1 + 1 + 1 + 1 + 1 ≤ 34359738368), true), (decide (IntKind.i64.wrap (IntKind.i64.wrap (IntKind.i64.wrap (IntKind.i64.wrap (IntKind.i64.wrap (IntKind.i64.wrap (0 + 1) + 1) + 1) + 1) + 1) + 1) < IntKind.i64.wrap (IntKind.i64.wrap (IntKind.i64.wrap (2 * belowV x 3) + 1) + nextV l 0 3)), false), (true, true), (agE (TA l 2 6) (HA l 2 y 6) == 0, true), (!(agB (TA l 2 6) (HA l 2 y 6) (belowV x 3)).u, true)] [0, 1, 2, 3, 1, 4, 5, 6, 4, 7, 8, 9, 10, 11, 4, 12, 13, 14, 13, 14, 15, 4, 16, 17, 18, 19, 11, 4, 20, 21, 22, 21, 22, 23, 4, 24, 25, 26, 27, 28, 29, 28, 29, 30, 4, 31, 32, 33, 34, 35, 36, 35, 36, 37, 4, 38, 39, 40, 41, 42, 43, 42, 43, 44, 4, 45, 46, 47, 48, 49, 50, 49, 50, 51, 52, 52, 52, 53, 53, 53, 53, 54, 54, 54, 54])) := by kernel_rfl
set_option maxRecDepth 100000 in
theorem at_1011011001001001001000111 (B : Nat) (l : List Int) (x : Int) (y : Int) : evL (ctxOf Try.prog (agI B) (fun _ => false) libV) Try.f11 l [(.w (.one (.int .i64 x))), (.w (.one (.int .i64 y)))] [true, false, true, true, false, true, true, false, false, true, false, false, true, false, false, true, false, false, true, false, false, false, true, true, true] = some (AV.w (AW.one (AC.bool (hasB (agB (TA l 2 7) (HA l 2 y 7) (belowV x 3)) (tY y)))), (pickL [(i64B x, true), (i64B 3, true), (i64B y, true), (i64B 20000, true), (listB l, true), (atB 0, true), (decide (0 < IntKind.i64.wrap (IntKind.i64.wrap (IntKind.i64.wrap (2 * belowV x 3) + 1) + nextV l 0 3)), true), (decide (0 ≤ pA l 2 0), true), (decide (pA l 2 0 < 900000), true), (rdE (ruS l (pA l 2 0)) (ruA l (pA l 2 0)) (ruT l (pA l 2 0)) (tY y) != 0, false), (decide (0 < belowV x 3), true), (i64B 9000, true), (atB (ruI l (pA l 2 0) + 1 + 1), true), (decide (0 = 0), true), (decide (0 + 1 ≤ 34359738368), true), (decide (IntKind.i64.wrap (0 + 1) < IntKind.i64.wrap (IntKind.i64.wrap (IntKind.i64.wrap (2 * belowV x 3) + 1) + nextV l 0 3)), true), (decide (0 ≤ pA l 2 1), true), (decide (pA l 2 1 < 900000), true), (rdE (ruS l (pA l 2 1)) (ruA l (pA l 2 1)) (ruT l (pA l 2 1)) (tY y) != 0, false), (decide (IntKind.i64.wrap (0 + 1) < belowV x 3), true), (atB (ruI l (pA l 2 1) + 1 + 1), true), (decide (0 + 1 = 0 + 1), true), (decide (0 + 1 + 1 ≤ 34359738368), true), (decide (IntKind.i64.wrap (IntKind.i64.wrap (0 + 1) + 1) < IntKind.i64.wrap (IntKind.i64.wrap (IntKind.i64.wrap (2 * belowV x 3) + 1) + nextV l 0 3)), true), (decide (0 ≤ pA l 2 2), true), (decide (pA l 2 2 < 900000), true), (rdE (ruS l (pA l 2 2)) (ruA l (pA l 2 2)) (ruT l (pA l 2 2)) (tY y) != 0, false), (decide (IntKind.i64.wrap (IntKind.i64.wrap (0 + 1) + 1) < belowV x 3), false), (decide (0 + 1 + 1 = 0 + 1 + 1), true), (decide (0 + 1 + 1 + 1 ≤ 34359738368), true), (decide (IntKind.i64.wrap (IntKind.i64.wrap (IntKind.i64.wrap (0 + 1) + 1) + 1) < IntKind.i64.wrap (IntKind.i64.wrap (IntKind.i64.wrap (2 * belowV x 3) + 1) + nextV l 0 3)), true), (decide (0 ≤ pA l 2 3), true), (decide (pA l 2 3 < 900000), true), (rdE (ruS l (pA l 2 3)) (ruA l (pA l 2 3)) (ruT l (pA l 2 3)) (tY y) != 0, false), (decide (IntKind.i64.wrap (IntKind.i64.wrap (IntKind.i64.wrap (0 + 1) + 1) + 1) < belowV x 3), false), (decide (0 + 1 + 1 + 1 = 0 + 1 + 1 + 1), true), (decide (0 + 1 + 1 + 1 + 1 ≤ 34359738368), true), (decide (IntKind.i64.wrap (IntKind.i64.wrap (IntKind.i64.wrap (IntKind.i64.wrap (0 + 1) + 1) + 1) + 1) < IntKind.i64.wrap (IntKind.i64.wrap (IntKind.i64.wrap (2 * belowV x 3) + 1) + nextV l 0 3)), true), (decide (0 ≤ pA l 2 4), true), (decide (pA l 2 4 < 900000), true), (rdE (ruS l (pA l 2 4)) (ruA l (pA l 2 4)) (ruT l (pA l 2 4)) (tY y) != 0, false), (decide (IntKind.i64.wrap (IntKind.i64.wrap (IntKind.i64.wrap (IntKind.i64.wrap (0 + 1) + 1) + 1) + 1) < belowV x 3), false), (decide (0 + 1 + 1 + 1 + 1 = 0 + 1 + 1 + 1 + 1), true), (decide (0 + 1 + 1 + 1 + 1 + 1 ≤ 34359738368), true), (decide (IntKind.i64.wrap (IntKind.i64.wrap (IntKind.i64.wrap (IntKind.i64.wrap (IntKind.i64.wrap (0 + 1) + 1) + 1) + 1) + 1) < IntKind.i64.wrap (IntKind.i64.wrap (IntKind.i64.wrap (2 * belowV x 3) + 1) + nextV l 0 3)), true), (decide (0 ≤ pA l 2 5), true), (decide (pA l 2 5 < 900000), true), (rdE (ruS l (pA l 2 5)) (ruA l (pA l 2 5)) (ruT l (pA l 2 5)) (tY y) != 0, false), (decide (IntKind.i64.wrap (IntKind.i64.wrap (IntKind.i64.wrap (IntKind.i64.wrap (IntKind.i64.wrap (0 + 1) + 1) + 1) + 1) + 1) < belowV x 3), false), (decide (0 + 1 + 1 + 1 + 1 + 1 = 0 + 1 + 1 + 1 + 1 + 1), true), (decide (0 + 1 + 1 + 1 + 1 + 1 + 1 ≤ 34359738368), true), (decide (IntKind.i64.wrap (IntKind.i64.wrap (IntKind.i64.wrap (IntKind.i64.wrap (IntKind.i64.wrap (IntKind.i64.wrap (0 + 1) + 1) + 1) + 1) + 1) + 1) < IntKind.i64.wrap (IntKind.i64.wrap (IntKind.i64.wrap (2 * belowV x 3) + 1) + nextV l 0 3)), true), (decide (0 ≤ pA l 2 6), true), (decide (pA l 2 6 < 900000), true), (rdE (ruS l (pA l 2 6)) (ruA l (pA l 2 6)) (ruT l (pA l 2 6)) (tY y) != 0, false), (decide (IntKind.i64.wrap (IntKind.i64.wrap (IntKind.i64.wrap (IntKind.i64.wrap (IntKind.i64.wrap (IntKind.i64.wrap (0 + 1) + 1) + 1) + 1) + 1) + 1) < belowV x 3), false), (decide (0 + 1 + 1 + 1 + 1 + 1 + 1 = 0 + 1 + 1 + 1 + 1 + 1 + 1), true), (decide (0 + 1 + 1 + 1 + 1 + 1 + 1 + 1 ≤ 34359738368), true), (decide (IntKind.i64.wrap (IntKind.i64.wrap (IntKind.i64.wrap (IntKind.i64.wrap (IntKind.i64.wrap (IntKind.i64.wrap (IntKind.i64.wrap (0 + 1) + 1) + 1) + 1) + 1) + 1) + 1) < IntKind.i64.wrap (IntKind.i64.wrap (IntKind.i64.wrap (2 * belowV x 3) + 1) + nextV l 0 3)), false), (true, true), (agE (TA l 2 7) (HA l 2 y 7) == 0, true), (!(agB (TA l 2 7) (HA l 2 y 7) (belowV x 3)).u, true)] [0, 1, 2, 3, 1, 4, 5, 6, 4, 7, 8, 9, 10, 11, 4, 12, 13, 14, 13, 14, 15, 4, 16, 17, 18, 19, 11, 4, 20, 21, 22, 21, 22, 23, 4, 24, 25, 26, 27, 28, 29, 28, 29, 30, 4, 31, 32, 33, 34, 35, 36, 35, 36, 37, 4, 38, 39, 40, 41, 42, 43, 42, 43, 44, 4, 45, 46, 47, 48, 49, 50, 49, 50, 51, 4, 52, 53, 54, 55, 56, 57, 56, 57, 58, 59, 59, 59, 60, 60, 60, 60, 61, 61, 61, 61])) := by kernel_rfl
set_option maxHeartbeats 4000000 in
theorem agreeTruth_walk (l : List Int) (p : Option Addr) (cap : Nat) (x : Int) (h1 : -9223372036854775808 ≤ x) (h2 : x ≤ 9223372036854775807) (y : Int) (h3 : -9223372036854775808 ≤ y) (h4 : y ≤ 9223372036854775807) (hl : listB l = true) (W : World) (hf : fctHolds W.heap.size (.ints l) W #[.slice p l.length cap]) :
    Calls Try.prog 11 #[.slice p l.length cap, .int .i64 x, .int .i64 y] W fun e w' => e = .returned (.bool true) ∧ Below W.heap.size W w' := by
  have hx : i64B x = true := i64B_iff.2 ⟨h1, h2⟩
  have hyB : i64B y = true := i64B_iff.2 ⟨h3, h4⟩
  have hb := belowV_in x 3 (by omega)
  have hy := belowV_in y 20000 (by omega)
  have eY : tY y = 1000 + belowV y 20000 := by unfold tY; exact v64 (by omega) (by omega)
  have hn := nextV_in l 0 3 (by omega)
  have y1 : 1000 ≤ tY y := by omega
  have y2 : tY y ≤ 21000 := by omega
  have cf : belowV x 3 = 0 ∨ belowV x 3 = 1 ∨ belowV x 3 = 2 := by omega
  have cn : nextV l 0 3 = 0 ∨ nextV l 0 3 = 1 ∨ nextV l 0 3 = 2 := by omega
  rcases cf with hF | hF | hF
  · rcases cn with hM | hM | hM
    · obtain ⟨R0, K0, U0, G0⟩ := round_ok l (pA l 0 0) y1 y2
      obtain ⟨P0, Q0⟩ := pA_in l 0 0
      obtain ⟨_, _, _, _, I0, J0⟩ := ru_ok l (pA l 0 0)
      have S0 : (rdE (ruS l (pA l 0 0)) (ruA l (pA l 0 0)) (ruT l (pA l 0 0)) (tY y) != 0) = false := by rw [R0]; rfl
      have ok : okA (tY y) 0 (TA l 0 1) (HA l 0 y 1) := (okA_z K0 ⟨U0, G0⟩ okA_n)
      obtain ⟨e1, e2, e3⟩ := agree_truth ok (by show 2 * 0 + 1 ≤ 1; omega) (by show 1 ≤ 64; omega)
      have E1 : (agE (TA l 0 1) (HA l 0 y 1) == 0) = true := by rw [e1]; rfl
      have E2 : (!(agB (TA l 0 1) (HA l 0 y 1) (belowV x 3)).u) = true := by rw [hF]; exact congrArg (fun b => !b) e2
      have V : hasB (agB (TA l 0 1) (HA l 0 y 1) (belowV x 3)) (tY y) = true := by rw [hF]; exact e3
      refine list_callsR (B := W.heap.size) (v := .bool true) (ctxOf_ok (libV_ok _) (eq_none _)) (by kernel_rfl) Try.func11 rfl (at_1000111 W.heap.size l x y) rfl (.cons rfl (.cons rfl .nil)) (congrArg (fun b => some (Value.bool b)) V) W rfl hf (pickL_ok ?_ _)
      repeat' (first | exact cd_nil | refine cd_cons ?_ ?_)
      all_goals first | rfl | with_reducible assumption | assumption | (rw [hF, hM]; decide) | (rw [hF]; decide) | exact atB_iff.2 (by omega) | exact decide_eq_true (by omega) | decide

    · obtain ⟨R0, K0, U0, G0⟩ := round_ok l (pA l 0 0) y1 y2
      obtain ⟨P0, Q0⟩ := pA_in l 0 0
      obtain ⟨_, _, _, _, I0, J0⟩ := ru_ok l (pA l 0 0)
      have S0 : (rdE (ruS l (pA l 0 0)) (ruA l (pA l 0 0)) (ruT l (pA l 0 0)) (tY y) != 0) = false := by rw [R0]; rfl
      obtain ⟨R1, K1, U1, G1⟩ := round_ok l (pA l 0 1) y1 y2
      obtain ⟨P1, Q1⟩ := pA_in l 0 1
      obtain ⟨_, _, _, _, I1, J1⟩ := ru_ok l (pA l 0 1)
      have S1 : (rdE (ruS l (pA l 0 1)) (ruA l (pA l 0 1)) (ruT l (pA l 0 1)) (tY y) != 0) = false := by rw [R1]; rfl
      have ok : okA (tY y) 0 (TA l 0 2) (HA l 0 y 2) := (okA_z K0 ⟨U0, G0⟩ (okA_z K1 ⟨U1, G1⟩ okA_n))
      obtain ⟨e1, e2, e3⟩ := agree_truth ok (by show 2 * 0 + 1 ≤ 2; omega) (by show 2 ≤ 64; omega)
      have E1 : (agE (TA l 0 2) (HA l 0 y 2) == 0) = true := by rw [e1]; rfl
      have E2 : (!(agB (TA l 0 2) (HA l 0 y 2) (belowV x 3)).u) = true := by rw [hF]; exact congrArg (fun b => !b) e2
      have V : hasB (agB (TA l 0 2) (HA l 0 y 2) (belowV x 3)) (tY y) = true := by rw [hF]; exact e3
      refine list_callsR (B := W.heap.size) (v := .bool true) (ctxOf_ok (libV_ok _) (eq_none _)) (by kernel_rfl) Try.func11 rfl (at_1001000111 W.heap.size l x y) rfl (.cons rfl (.cons rfl .nil)) (congrArg (fun b => some (Value.bool b)) V) W rfl hf (pickL_ok ?_ _)
      repeat' (first | exact cd_nil | refine cd_cons ?_ ?_)
      all_goals first | rfl | with_reducible assumption | assumption | (rw [hF, hM]; decide) | (rw [hF]; decide) | exact atB_iff.2 (by omega) | exact decide_eq_true (by omega) | decide

    · obtain ⟨R0, K0, U0, G0⟩ := round_ok l (pA l 0 0) y1 y2
      obtain ⟨P0, Q0⟩ := pA_in l 0 0
      obtain ⟨_, _, _, _, I0, J0⟩ := ru_ok l (pA l 0 0)
      have S0 : (rdE (ruS l (pA l 0 0)) (ruA l (pA l 0 0)) (ruT l (pA l 0 0)) (tY y) != 0) = false := by rw [R0]; rfl
      obtain ⟨R1, K1, U1, G1⟩ := round_ok l (pA l 0 1) y1 y2
      obtain ⟨P1, Q1⟩ := pA_in l 0 1
      obtain ⟨_, _, _, _, I1, J1⟩ := ru_ok l (pA l 0 1)
      have S1 : (rdE (ruS l (pA l 0 1)) (ruA l (pA l 0 1)) (ruT l (pA l 0 1)) (tY y) != 0) = false := by rw [R1]; rfl
      obtain ⟨R2, K2, U2, G2⟩ := round_ok l (pA l 0 2) y1 y2
      obtain ⟨P2, Q2⟩ := pA_in l 0 2
      obtain ⟨_, _, _, _, I2, J2⟩ := ru_ok l (pA l 0 2)
      have S2 : (rdE (ruS l (pA l 0 2)) (ruA l (pA l 0 2)) (ruT l (pA l 0 2)) (tY y) != 0) = false := by rw [R2]; rfl
      have ok : okA (tY y) 0 (TA l 0 3) (HA l 0 y 3) := (okA_z K0 ⟨U0, G0⟩ (okA_z K1 ⟨U1, G1⟩ (okA_z K2 ⟨U2, G2⟩ okA_n)))
      obtain ⟨e1, e2, e3⟩ := agree_truth ok (by show 2 * 0 + 1 ≤ 3; omega) (by show 3 ≤ 64; omega)
      have E1 : (agE (TA l 0 3) (HA l 0 y 3) == 0) = true := by rw [e1]; rfl
      have E2 : (!(agB (TA l 0 3) (HA l 0 y 3) (belowV x 3)).u) = true := by rw [hF]; exact congrArg (fun b => !b) e2
      have V : hasB (agB (TA l 0 3) (HA l 0 y 3) (belowV x 3)) (tY y) = true := by rw [hF]; exact e3
      refine list_callsR (B := W.heap.size) (v := .bool true) (ctxOf_ok (libV_ok _) (eq_none _)) (by kernel_rfl) Try.func11 rfl (at_1001001000111 W.heap.size l x y) rfl (.cons rfl (.cons rfl .nil)) (congrArg (fun b => some (Value.bool b)) V) W rfl hf (pickL_ok ?_ _)
      repeat' (first | exact cd_nil | refine cd_cons ?_ ?_)
      all_goals first | rfl | with_reducible assumption | assumption | (rw [hF, hM]; decide) | (rw [hF]; decide) | exact atB_iff.2 (by omega) | exact decide_eq_true (by omega) | decide

  · rcases cn with hM | hM | hM
    · obtain ⟨R0, K0, U0, G0⟩ := round_ok l (pA l 1 0) y1 y2
      obtain ⟨P0, Q0⟩ := pA_in l 1 0
      obtain ⟨_, _, _, _, I0, J0⟩ := ru_ok l (pA l 1 0)
      have S0 : (rdE (ruS l (pA l 1 0)) (ruA l (pA l 1 0)) (ruT l (pA l 1 0)) (tY y) != 0) = false := by rw [R0]; rfl
      obtain ⟨R1, K1, U1, G1⟩ := round_ok l (pA l 1 1) y1 y2
      obtain ⟨P1, Q1⟩ := pA_in l 1 1
      obtain ⟨_, _, _, _, I1, J1⟩ := ru_ok l (pA l 1 1)
      have S1 : (rdE (ruS l (pA l 1 1)) (ruA l (pA l 1 1)) (ruT l (pA l 1 1)) (tY y) != 0) = false := by rw [R1]; rfl
      obtain ⟨R2, K2, U2, G2⟩ := round_ok l (pA l 1 2) y1 y2
      obtain ⟨P2, Q2⟩ := pA_in l 1 2
      obtain ⟨_, _, _, _, I2, J2⟩ := ru_ok l (pA l 1 2)
      have S2 : (rdE (ruS l (pA l 1 2)) (ruA l (pA l 1 2)) (ruT l (pA l 1 2)) (tY y) != 0) = false := by rw [R2]; rfl
      have ok : okA (tY y) 1 (TA l 1 3) (HA l 1 y 3) := (okA_s K0 (okA_z K1 ⟨U1, G1⟩ (okA_z K2 ⟨U2, G2⟩ okA_n)))
      obtain ⟨e1, e2, e3⟩ := agree_truth ok (by show 2 * 1 + 1 ≤ 3; omega) (by show 3 ≤ 64; omega)
      have E1 : (agE (TA l 1 3) (HA l 1 y 3) == 0) = true := by rw [e1]; rfl
      have E2 : (!(agB (TA l 1 3) (HA l 1 y 3) (belowV x 3)).u) = true := by rw [hF]; exact congrArg (fun b => !b) e2
      have V : hasB (agB (TA l 1 3) (HA l 1 y 3) (belowV x 3)) (tY y) = true := by rw [hF]; exact e3
      refine list_callsR (B := W.heap.size) (v := .bool true) (ctxOf_ok (libV_ok _) (eq_none _)) (by kernel_rfl) Try.func11 rfl (at_1011001000111 W.heap.size l x y) rfl (.cons rfl (.cons rfl .nil)) (congrArg (fun b => some (Value.bool b)) V) W rfl hf (pickL_ok ?_ _)
      repeat' (first | exact cd_nil | refine cd_cons ?_ ?_)
      all_goals first | rfl | with_reducible assumption | assumption | (rw [hF, hM]; decide) | (rw [hF]; decide) | exact atB_iff.2 (by omega) | exact decide_eq_true (by omega) | decide

    · obtain ⟨R0, K0, U0, G0⟩ := round_ok l (pA l 1 0) y1 y2
      obtain ⟨P0, Q0⟩ := pA_in l 1 0
      obtain ⟨_, _, _, _, I0, J0⟩ := ru_ok l (pA l 1 0)
      have S0 : (rdE (ruS l (pA l 1 0)) (ruA l (pA l 1 0)) (ruT l (pA l 1 0)) (tY y) != 0) = false := by rw [R0]; rfl
      obtain ⟨R1, K1, U1, G1⟩ := round_ok l (pA l 1 1) y1 y2
      obtain ⟨P1, Q1⟩ := pA_in l 1 1
      obtain ⟨_, _, _, _, I1, J1⟩ := ru_ok l (pA l 1 1)
      have S1 : (rdE (ruS l (pA l 1 1)) (ruA l (pA l 1 1)) (ruT l (pA l 1 1)) (tY y) != 0) = false := by rw [R1]; rfl
      obtain ⟨R2, K2, U2, G2⟩ := round_ok l (pA l 1 2) y1 y2
      obtain ⟨P2, Q2⟩ := pA_in l 1 2
      obtain ⟨_, _, _, _, I2, J2⟩ := ru_ok l (pA l 1 2)
      have S2 : (rdE (ruS l (pA l 1 2)) (ruA l (pA l 1 2)) (ruT l (pA l 1 2)) (tY y) != 0) = false := by rw [R2]; rfl
      obtain ⟨R3, K3, U3, G3⟩ := round_ok l (pA l 1 3) y1 y2
      obtain ⟨P3, Q3⟩ := pA_in l 1 3
      obtain ⟨_, _, _, _, I3, J3⟩ := ru_ok l (pA l 1 3)
      have S3 : (rdE (ruS l (pA l 1 3)) (ruA l (pA l 1 3)) (ruT l (pA l 1 3)) (tY y) != 0) = false := by rw [R3]; rfl
      have ok : okA (tY y) 1 (TA l 1 4) (HA l 1 y 4) := (okA_s K0 (okA_z K1 ⟨U1, G1⟩ (okA_z K2 ⟨U2, G2⟩ (okA_z K3 ⟨U3, G3⟩ okA_n))))
      obtain ⟨e1, e2, e3⟩ := agree_truth ok (by show 2 * 1 + 1 ≤ 4; omega) (by show 4 ≤ 64; omega)
      have E1 : (agE (TA l 1 4) (HA l 1 y 4) == 0) = true := by rw [e1]; rfl
      have E2 : (!(agB (TA l 1 4) (HA l 1 y 4) (belowV x 3)).u) = true := by rw [hF]; exact congrArg (fun b => !b) e2
      have V : hasB (agB (TA l 1 4) (HA l 1 y 4) (belowV x 3)) (tY y) = true := by rw [hF]; exact e3
      refine list_callsR (B := W.heap.size) (v := .bool true) (ctxOf_ok (libV_ok _) (eq_none _)) (by kernel_rfl) Try.func11 rfl (at_1011001001000111 W.heap.size l x y) rfl (.cons rfl (.cons rfl .nil)) (congrArg (fun b => some (Value.bool b)) V) W rfl hf (pickL_ok ?_ _)
      repeat' (first | exact cd_nil | refine cd_cons ?_ ?_)
      all_goals first | rfl | with_reducible assumption | assumption | (rw [hF, hM]; decide) | (rw [hF]; decide) | exact atB_iff.2 (by omega) | exact decide_eq_true (by omega) | decide

    · obtain ⟨R0, K0, U0, G0⟩ := round_ok l (pA l 1 0) y1 y2
      obtain ⟨P0, Q0⟩ := pA_in l 1 0
      obtain ⟨_, _, _, _, I0, J0⟩ := ru_ok l (pA l 1 0)
      have S0 : (rdE (ruS l (pA l 1 0)) (ruA l (pA l 1 0)) (ruT l (pA l 1 0)) (tY y) != 0) = false := by rw [R0]; rfl
      obtain ⟨R1, K1, U1, G1⟩ := round_ok l (pA l 1 1) y1 y2
      obtain ⟨P1, Q1⟩ := pA_in l 1 1
      obtain ⟨_, _, _, _, I1, J1⟩ := ru_ok l (pA l 1 1)
      have S1 : (rdE (ruS l (pA l 1 1)) (ruA l (pA l 1 1)) (ruT l (pA l 1 1)) (tY y) != 0) = false := by rw [R1]; rfl
      obtain ⟨R2, K2, U2, G2⟩ := round_ok l (pA l 1 2) y1 y2
      obtain ⟨P2, Q2⟩ := pA_in l 1 2
      obtain ⟨_, _, _, _, I2, J2⟩ := ru_ok l (pA l 1 2)
      have S2 : (rdE (ruS l (pA l 1 2)) (ruA l (pA l 1 2)) (ruT l (pA l 1 2)) (tY y) != 0) = false := by rw [R2]; rfl
      obtain ⟨R3, K3, U3, G3⟩ := round_ok l (pA l 1 3) y1 y2
      obtain ⟨P3, Q3⟩ := pA_in l 1 3
      obtain ⟨_, _, _, _, I3, J3⟩ := ru_ok l (pA l 1 3)
      have S3 : (rdE (ruS l (pA l 1 3)) (ruA l (pA l 1 3)) (ruT l (pA l 1 3)) (tY y) != 0) = false := by rw [R3]; rfl
      obtain ⟨R4, K4, U4, G4⟩ := round_ok l (pA l 1 4) y1 y2
      obtain ⟨P4, Q4⟩ := pA_in l 1 4
      obtain ⟨_, _, _, _, I4, J4⟩ := ru_ok l (pA l 1 4)
      have S4 : (rdE (ruS l (pA l 1 4)) (ruA l (pA l 1 4)) (ruT l (pA l 1 4)) (tY y) != 0) = false := by rw [R4]; rfl
      have ok : okA (tY y) 1 (TA l 1 5) (HA l 1 y 5) := (okA_s K0 (okA_z K1 ⟨U1, G1⟩ (okA_z K2 ⟨U2, G2⟩ (okA_z K3 ⟨U3, G3⟩ (okA_z K4 ⟨U4, G4⟩ okA_n)))))
      obtain ⟨e1, e2, e3⟩ := agree_truth ok (by show 2 * 1 + 1 ≤ 5; omega) (by show 5 ≤ 64; omega)
      have E1 : (agE (TA l 1 5) (HA l 1 y 5) == 0) = true := by rw [e1]; rfl
      have E2 : (!(agB (TA l 1 5) (HA l 1 y 5) (belowV x 3)).u) = true := by rw [hF]; exact congrArg (fun b => !b) e2
      have V : hasB (agB (TA l 1 5) (HA l 1 y 5) (belowV x 3)) (tY y) = true := by rw [hF]; exact e3
      refine list_callsR (B := W.heap.size) (v := .bool true) (ctxOf_ok (libV_ok _) (eq_none _)) (by kernel_rfl) Try.func11 rfl (at_1011001001001000111 W.heap.size l x y) rfl (.cons rfl (.cons rfl .nil)) (congrArg (fun b => some (Value.bool b)) V) W rfl hf (pickL_ok ?_ _)
      repeat' (first | exact cd_nil | refine cd_cons ?_ ?_)
      all_goals first | rfl | with_reducible assumption | assumption | (rw [hF, hM]; decide) | (rw [hF]; decide) | exact atB_iff.2 (by omega) | exact decide_eq_true (by omega) | decide

  · rcases cn with hM | hM | hM
    · obtain ⟨R0, K0, U0, G0⟩ := round_ok l (pA l 2 0) y1 y2
      obtain ⟨P0, Q0⟩ := pA_in l 2 0
      obtain ⟨_, _, _, _, I0, J0⟩ := ru_ok l (pA l 2 0)
      have S0 : (rdE (ruS l (pA l 2 0)) (ruA l (pA l 2 0)) (ruT l (pA l 2 0)) (tY y) != 0) = false := by rw [R0]; rfl
      obtain ⟨R1, K1, U1, G1⟩ := round_ok l (pA l 2 1) y1 y2
      obtain ⟨P1, Q1⟩ := pA_in l 2 1
      obtain ⟨_, _, _, _, I1, J1⟩ := ru_ok l (pA l 2 1)
      have S1 : (rdE (ruS l (pA l 2 1)) (ruA l (pA l 2 1)) (ruT l (pA l 2 1)) (tY y) != 0) = false := by rw [R1]; rfl
      obtain ⟨R2, K2, U2, G2⟩ := round_ok l (pA l 2 2) y1 y2
      obtain ⟨P2, Q2⟩ := pA_in l 2 2
      obtain ⟨_, _, _, _, I2, J2⟩ := ru_ok l (pA l 2 2)
      have S2 : (rdE (ruS l (pA l 2 2)) (ruA l (pA l 2 2)) (ruT l (pA l 2 2)) (tY y) != 0) = false := by rw [R2]; rfl
      obtain ⟨R3, K3, U3, G3⟩ := round_ok l (pA l 2 3) y1 y2
      obtain ⟨P3, Q3⟩ := pA_in l 2 3
      obtain ⟨_, _, _, _, I3, J3⟩ := ru_ok l (pA l 2 3)
      have S3 : (rdE (ruS l (pA l 2 3)) (ruA l (pA l 2 3)) (ruT l (pA l 2 3)) (tY y) != 0) = false := by rw [R3]; rfl
      obtain ⟨R4, K4, U4, G4⟩ := round_ok l (pA l 2 4) y1 y2
      obtain ⟨P4, Q4⟩ := pA_in l 2 4
      obtain ⟨_, _, _, _, I4, J4⟩ := ru_ok l (pA l 2 4)
      have S4 : (rdE (ruS l (pA l 2 4)) (ruA l (pA l 2 4)) (ruT l (pA l 2 4)) (tY y) != 0) = false := by rw [R4]; rfl
      have ok : okA (tY y) 2 (TA l 2 5) (HA l 2 y 5) := (okA_s K0 (okA_s K1 (okA_z K2 ⟨U2, G2⟩ (okA_z K3 ⟨U3, G3⟩ (okA_z K4 ⟨U4, G4⟩ okA_n)))))
      obtain ⟨e1, e2, e3⟩ := agree_truth ok (by show 2 * 2 + 1 ≤ 5; omega) (by show 5 ≤ 64; omega)
      have E1 : (agE (TA l 2 5) (HA l 2 y 5) == 0) = true := by rw [e1]; rfl
      have E2 : (!(agB (TA l 2 5) (HA l 2 y 5) (belowV x 3)).u) = true := by rw [hF]; exact congrArg (fun b => !b) e2
      have V : hasB (agB (TA l 2 5) (HA l 2 y 5) (belowV x 3)) (tY y) = true := by rw [hF]; exact e3
      refine list_callsR (B := W.heap.size) (v := .bool true) (ctxOf_ok (libV_ok _) (eq_none _)) (by kernel_rfl) Try.func11 rfl (at_1011011001001000111 W.heap.size l x y) rfl (.cons rfl (.cons rfl .nil)) (congrArg (fun b => some (Value.bool b)) V) W rfl hf (pickL_ok ?_ _)
      repeat' (first | exact cd_nil | refine cd_cons ?_ ?_)
      all_goals first | rfl | with_reducible assumption | assumption | (rw [hF, hM]; decide) | (rw [hF]; decide) | exact atB_iff.2 (by omega) | exact decide_eq_true (by omega) | decide

    · obtain ⟨R0, K0, U0, G0⟩ := round_ok l (pA l 2 0) y1 y2
      obtain ⟨P0, Q0⟩ := pA_in l 2 0
      obtain ⟨_, _, _, _, I0, J0⟩ := ru_ok l (pA l 2 0)
      have S0 : (rdE (ruS l (pA l 2 0)) (ruA l (pA l 2 0)) (ruT l (pA l 2 0)) (tY y) != 0) = false := by rw [R0]; rfl
      obtain ⟨R1, K1, U1, G1⟩ := round_ok l (pA l 2 1) y1 y2
      obtain ⟨P1, Q1⟩ := pA_in l 2 1
      obtain ⟨_, _, _, _, I1, J1⟩ := ru_ok l (pA l 2 1)
      have S1 : (rdE (ruS l (pA l 2 1)) (ruA l (pA l 2 1)) (ruT l (pA l 2 1)) (tY y) != 0) = false := by rw [R1]; rfl
      obtain ⟨R2, K2, U2, G2⟩ := round_ok l (pA l 2 2) y1 y2
      obtain ⟨P2, Q2⟩ := pA_in l 2 2
      obtain ⟨_, _, _, _, I2, J2⟩ := ru_ok l (pA l 2 2)
      have S2 : (rdE (ruS l (pA l 2 2)) (ruA l (pA l 2 2)) (ruT l (pA l 2 2)) (tY y) != 0) = false := by rw [R2]; rfl
      obtain ⟨R3, K3, U3, G3⟩ := round_ok l (pA l 2 3) y1 y2
      obtain ⟨P3, Q3⟩ := pA_in l 2 3
      obtain ⟨_, _, _, _, I3, J3⟩ := ru_ok l (pA l 2 3)
      have S3 : (rdE (ruS l (pA l 2 3)) (ruA l (pA l 2 3)) (ruT l (pA l 2 3)) (tY y) != 0) = false := by rw [R3]; rfl
      obtain ⟨R4, K4, U4, G4⟩ := round_ok l (pA l 2 4) y1 y2
      obtain ⟨P4, Q4⟩ := pA_in l 2 4
      obtain ⟨_, _, _, _, I4, J4⟩ := ru_ok l (pA l 2 4)
      have S4 : (rdE (ruS l (pA l 2 4)) (ruA l (pA l 2 4)) (ruT l (pA l 2 4)) (tY y) != 0) = false := by rw [R4]; rfl
      obtain ⟨R5, K5, U5, G5⟩ := round_ok l (pA l 2 5) y1 y2
      obtain ⟨P5, Q5⟩ := pA_in l 2 5
      obtain ⟨_, _, _, _, I5, J5⟩ := ru_ok l (pA l 2 5)
      have S5 : (rdE (ruS l (pA l 2 5)) (ruA l (pA l 2 5)) (ruT l (pA l 2 5)) (tY y) != 0) = false := by rw [R5]; rfl
      have ok : okA (tY y) 2 (TA l 2 6) (HA l 2 y 6) := (okA_s K0 (okA_s K1 (okA_z K2 ⟨U2, G2⟩ (okA_z K3 ⟨U3, G3⟩ (okA_z K4 ⟨U4, G4⟩ (okA_z K5 ⟨U5, G5⟩ okA_n))))))
      obtain ⟨e1, e2, e3⟩ := agree_truth ok (by show 2 * 2 + 1 ≤ 6; omega) (by show 6 ≤ 64; omega)
      have E1 : (agE (TA l 2 6) (HA l 2 y 6) == 0) = true := by rw [e1]; rfl
      have E2 : (!(agB (TA l 2 6) (HA l 2 y 6) (belowV x 3)).u) = true := by rw [hF]; exact congrArg (fun b => !b) e2
      have V : hasB (agB (TA l 2 6) (HA l 2 y 6) (belowV x 3)) (tY y) = true := by rw [hF]; exact e3
      refine list_callsR (B := W.heap.size) (v := .bool true) (ctxOf_ok (libV_ok _) (eq_none _)) (by kernel_rfl) Try.func11 rfl (at_1011011001001001000111 W.heap.size l x y) rfl (.cons rfl (.cons rfl .nil)) (congrArg (fun b => some (Value.bool b)) V) W rfl hf (pickL_ok ?_ _)
      repeat' (first | exact cd_nil | refine cd_cons ?_ ?_)
      all_goals first | rfl | with_reducible assumption | assumption | (rw [hF, hM]; decide) | (rw [hF]; decide) | exact atB_iff.2 (by omega) | exact decide_eq_true (by omega) | decide

    · obtain ⟨R0, K0, U0, G0⟩ := round_ok l (pA l 2 0) y1 y2
      obtain ⟨P0, Q0⟩ := pA_in l 2 0
      obtain ⟨_, _, _, _, I0, J0⟩ := ru_ok l (pA l 2 0)
      have S0 : (rdE (ruS l (pA l 2 0)) (ruA l (pA l 2 0)) (ruT l (pA l 2 0)) (tY y) != 0) = false := by rw [R0]; rfl
      obtain ⟨R1, K1, U1, G1⟩ := round_ok l (pA l 2 1) y1 y2
      obtain ⟨P1, Q1⟩ := pA_in l 2 1
      obtain ⟨_, _, _, _, I1, J1⟩ := ru_ok l (pA l 2 1)
      have S1 : (rdE (ruS l (pA l 2 1)) (ruA l (pA l 2 1)) (ruT l (pA l 2 1)) (tY y) != 0) = false := by rw [R1]; rfl
      obtain ⟨R2, K2, U2, G2⟩ := round_ok l (pA l 2 2) y1 y2
      obtain ⟨P2, Q2⟩ := pA_in l 2 2
      obtain ⟨_, _, _, _, I2, J2⟩ := ru_ok l (pA l 2 2)
      have S2 : (rdE (ruS l (pA l 2 2)) (ruA l (pA l 2 2)) (ruT l (pA l 2 2)) (tY y) != 0) = false := by rw [R2]; rfl
      obtain ⟨R3, K3, U3, G3⟩ := round_ok l (pA l 2 3) y1 y2
      obtain ⟨P3, Q3⟩ := pA_in l 2 3
      obtain ⟨_, _, _, _, I3, J3⟩ := ru_ok l (pA l 2 3)
      have S3 : (rdE (ruS l (pA l 2 3)) (ruA l (pA l 2 3)) (ruT l (pA l 2 3)) (tY y) != 0) = false := by rw [R3]; rfl
      obtain ⟨R4, K4, U4, G4⟩ := round_ok l (pA l 2 4) y1 y2
      obtain ⟨P4, Q4⟩ := pA_in l 2 4
      obtain ⟨_, _, _, _, I4, J4⟩ := ru_ok l (pA l 2 4)
      have S4 : (rdE (ruS l (pA l 2 4)) (ruA l (pA l 2 4)) (ruT l (pA l 2 4)) (tY y) != 0) = false := by rw [R4]; rfl
      obtain ⟨R5, K5, U5, G5⟩ := round_ok l (pA l 2 5) y1 y2
      obtain ⟨P5, Q5⟩ := pA_in l 2 5
      obtain ⟨_, _, _, _, I5, J5⟩ := ru_ok l (pA l 2 5)
      have S5 : (rdE (ruS l (pA l 2 5)) (ruA l (pA l 2 5)) (ruT l (pA l 2 5)) (tY y) != 0) = false := by rw [R5]; rfl
      obtain ⟨R6, K6, U6, G6⟩ := round_ok l (pA l 2 6) y1 y2
      obtain ⟨P6, Q6⟩ := pA_in l 2 6
      obtain ⟨_, _, _, _, I6, J6⟩ := ru_ok l (pA l 2 6)
      have S6 : (rdE (ruS l (pA l 2 6)) (ruA l (pA l 2 6)) (ruT l (pA l 2 6)) (tY y) != 0) = false := by rw [R6]; rfl
      have ok : okA (tY y) 2 (TA l 2 7) (HA l 2 y 7) := (okA_s K0 (okA_s K1 (okA_z K2 ⟨U2, G2⟩ (okA_z K3 ⟨U3, G3⟩ (okA_z K4 ⟨U4, G4⟩ (okA_z K5 ⟨U5, G5⟩ (okA_z K6 ⟨U6, G6⟩ okA_n)))))))
      obtain ⟨e1, e2, e3⟩ := agree_truth ok (by show 2 * 2 + 1 ≤ 7; omega) (by show 7 ≤ 64; omega)
      have E1 : (agE (TA l 2 7) (HA l 2 y 7) == 0) = true := by rw [e1]; rfl
      have E2 : (!(agB (TA l 2 7) (HA l 2 y 7) (belowV x 3)).u) = true := by rw [hF]; exact congrArg (fun b => !b) e2
      have V : hasB (agB (TA l 2 7) (HA l 2 y 7) (belowV x 3)) (tY y) = true := by rw [hF]; exact e3
      refine list_callsR (B := W.heap.size) (v := .bool true) (ctxOf_ok (libV_ok _) (eq_none _)) (by kernel_rfl) Try.func11 rfl (at_1011011001001001001000111 W.heap.size l x y) rfl (.cons rfl (.cons rfl .nil)) (congrArg (fun b => some (Value.bool b)) V) W rfl hf (pickL_ok ?_ _)
      repeat' (first | exact cd_nil | refine cd_cons ?_ ?_)
      all_goals first | rfl | with_reducible assumption | assumption | (rw [hF, hM]; decide) | (rw [hF]; decide) | exact atB_iff.2 (by omega) | exact decide_eq_true (by omega) | decide

end
end Go.Proofs.Ytjegnlnnjcchaaa.AtCk

