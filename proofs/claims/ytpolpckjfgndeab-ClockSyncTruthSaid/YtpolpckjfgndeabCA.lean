/-
  The walk of the law ClockSyncTruth: it returns true, for every list and number.
  Conditions: those of each theorem.
-/
import Derived.Test.YtpolpckjfgndeabC9
import Derived.Test.YtpolpckjfgndeabCN
set_option linter.unusedVariables false
set_option linter.unusedSimpArgs false
namespace Go.Proofs.Ytpolpckjfgndeab.AtCk
open Go.RowKit Ev Wd
open Go.Proofs.Ytpolpckjfgndeab
noncomputable section

def sp4 {F α β γ δ : Type} (d : Dec F α) (e : Dec F β) (g : Dec F γ) (h : Dec F δ) (r : α → β → γ → δ → AV F) (cd : α → β → γ → δ → List (Bool × Bool)) : FnSp F := plain fun args => match args with
  | [x, y, z, t] => match d.dec x with
    | some a => match e.dec y with
      | some b => match g.dec z with
        | some c => match h.dec t with
          | some i => some (r a b c i, cd a b c i)
          | none => none
        | none => none
      | none => none
    | none => none
  | _ => none
theorem sp4_ok {F : Type} {P : Program} {I : Interp F} {f : FuncId} {α β γ δ : Type} {d : Dec F α} {e : Dec F β} {g : Dec F γ} {k : Dec F δ} {r : α → β → γ → δ → AV F} {cd : α → β → γ → δ → List (Bool × Bool)} (h : ∀ a b c i, (∀ p ∈ cd a b c i, p.1 = p.2) → ∃ u, (r a b c i).val = some u ∧ Pl P f [d.enc a, e.enc b, g.enc c, k.enc i] u) : (sp4 d e g k r cd).ok P I f := plain_ok' fun args v cd' hg hc => by
  split at hg
  · rename_i x y z t
    split at hg
    · rename_i a ha
      split at hg
      · rename_i b hb
        split at hg
        · rename_i c' hc'
          split at hg
          · rename_i i hi
            cases hg
            obtain ⟨u, h1, h2⟩ := h a b c' i hc
            exact ⟨_, u, .cons (d.ok _ _ ha) (.cons (e.ok _ _ hb) (.cons (g.ok _ _ hc') (.cons (k.ok _ _ hi) .nil))), h1, h2⟩
          · cases hg
        · cases hg
      · cases hg
    · cases hg
  · cases hg
abbrev eqC : TypeId → Bool := fun t => Nat.beq t 31
noncomputable abbrev libL0 : List (Nat × FnSp Empty) := [(12, unS)]
theorem eqC_ok : EqOk Try.prog (tabOf Try.prog) eqC := eq_of fun t ht => by
  have := Nat.eq_of_beq_eq_true ht
  subst this
  exact ⟨by kernel_rfl, by kernel_rfl, by kernel_rfl⟩
theorem libL0_ok : LibOk Try.prog noFacts (lib1 libL0) := lib1_cons (sp2_ok fun c x _ => ⟨_, rfl, unf_pl c x⟩) Try.call12 (lib1_nil _ _)
set_option maxRecDepth 100000 in
theorem cfa_l0  : evR (ctxOf Try.prog noFacts eqC libL0) Try.f10 [] [] = some (AV.w (AW.one (AC.bool ((uniC { s := 1000, b := { lo := 5000, hi := 5010, u := false }, d := 100000 } 1100).lo == 5090 && ((uniC { s := 1000, b := { lo := 5000, hi := 5010, u := false }, d := 100000 } 1100).hi == 5123 && ((uniC { s := 1000, b := { lo := 5000, hi := 5010, u := false }, d := 100000 } 1100).u == false && true))))), []) := by kernel_rfl
set_option maxRecDepth 100000 in
theorem cfa_t  : Pl Try.prog 10 [] (AV.get ((AV.w (AW.one (AC.bool ((uniC { s := 1000, b := { lo := 5000, hi := 5010, u := false }, d := 100000 } 1100).lo == 5090 && ((uniC { s := 1000, b := { lo := 5000, hi := 5010, u := false }, d := 100000 } 1100).hi == 5123 && ((uniC { s := 1000, b := { lo := 5000, hi := 5010, u := false }, d := 100000 } 1100).u == false && true)))))) : AV Empty)) :=
  (pl_leaf rfl (ctxOf_ok libL0_ok eqC_ok) (by kernel_rfl) Try.func10 rfl (cfa_l0) rfl (all2_R .nil) rfl cd_nil)
theorem fact_pl   : Pl Try.prog 10 [] (.bool true) := by
  refine Eq.mp (congrArg (Pl _ _ _) ?_) (cfa_t )
  rw [show uniC ⟨1000, ⟨5000, 5010, false⟩, 100000⟩ 1100 = ⟨5090, 5123, false⟩ by kernel_rfl]; rfl
noncomputable abbrev libU : List (Nat × FnSp Fct) := [(14, nextS), (8, belowS), (7, stream 25 runG), (9, factSp (liftG cvF inF [some .i64, some .i64] gRd)), (12, unS), (15, sp4 dCk (dInt .i64) (dInt .i64) dBd (fun c s g t => .tup [(.agg [.int .i64 (syC c s g t).s, .int .i64 (syC c s g t).b.lo, .int .i64 (syC c s g t).b.hi, .bool (syC c s g t).b.u, .int .i64 (syC c s g t).d]), .one (.int .i64 (syE c s g t))]) (fun _ _ _ _ => [])), (11, sp2 dBd (dInt .i64) (fun b v => aBool (hasB b v)) (fun _ _ => [])), (16, sp2 dBd dBd (fun a b => aBool (insB a b)) (fun _ _ => [])), (10, sp0 (aBool true))]
theorem libU_ok (B : Nat) : LibOk Try.prog (legI B) (lib1 libU) := (lib1_cons (nextS_ok B).rows Try.call14 (lib1_cons (belowS_ok _) Try.call8 (lib1_cons (runG_ok B) Try.call7 (lib1_cons (liftF_ok gRd_ok).rows Try.call9 (lib1_cons (sp2_ok fun c x _ => ⟨_, rfl, unf_pl c x⟩) Try.call12 (lib1_cons (sp4_ok fun c s g t _ => ⟨_, rfl, syf_pl c s g t⟩) Try.call15 (lib1_cons (sp2_ok fun b v _ => ⟨_, rfl, AtTick.has_pl b v⟩) Try.call11 (lib1_cons (sp2_ok fun a b _ => ⟨_, rfl, AtTick.inside_pl a b⟩) Try.call16 (lib1_cons (sp0_ok rfl fact_pl) Try.call10 (lib1_nil _ _))))))))))
/-- The indices, times and clocks behind k exchanges. -/
def iS (l : List Int) : Nat → Int
  | 0 => ruI l 0 + 1 + 1 + 1
  | k + 1 => iS l k + 1 + 1 + 1 + 1 + 1
def tB (l : List Int) : Nat → Int
  | 0 => ruA l 0
  | k + 1 => IntKind.i64.wrap (IntKind.i64.wrap (IntKind.i64.wrap (tB l k + nextV l (iS l k) 3000) + nextV l (iS l k + 1) 400) + nextV l (iS l k + 1 + 1 + 1 + 1) 400)
def tA (l : List Int) (k : Nat) : Int := IntKind.i64.wrap (tB l k + nextV l (iS l k) 3000)
def tM (l : List Int) (k : Nat) : Int := IntKind.i64.wrap (tA l k + nextV l (iS l k + 1) 400)
def tG (l : List Int) (k : Nat) : Int := tB l (k + 1)
def cS (l : List Int) : Nat → Ck
  | 0 => ⟨ruS l 0, ⟨ruLo l 0, ruHi l 0, false⟩, ruD l 0⟩
  | k + 1 => syC (cS l k) (rdV (ruS l 0) (ruA l 0) (ruT l 0) (tA l k)) (rdV (ruS l 0) (ruA l 0) (ruT l 0) (tG l k)) ⟨IntKind.i64.wrap (tM l k - nextV l (iS l k + 1 + 1) 9), IntKind.i64.wrap (tM l k + nextV l (iS l k + 1 + 1 + 1) 9), false⟩
theorem tB_in (l : List Int) : ∀ k : Nat, k ≤ 4 → ruA l 0 ≤ tB l k ∧ tB l k ≤ 1000 + 4000 * k ∧ tB l k ≤ tA l k ∧ tA l k ≤ tM l k ∧ tM l k ≤ tG l k ∧ tG l k ≤ 1000 + 4000 * (k + 1)
  | k, hk => by
    have hA := (rg_vals l 0).2.1
    have base : ruA l 0 ≤ tB l k ∧ tB l k ≤ 1000 + 4000 * k := by
      cases k with
      | zero => exact ⟨Int.le_refl _, by show ruA l 0 ≤ _; omega⟩
      | succ k =>
        obtain ⟨h1, h2, h3, h4, h5, h6⟩ := tB_in l k (by omega)
        exact ⟨by unfold tG at *; omega, by unfold tG at *; omega⟩
    have x1 := nextV_in l (iS l k) 3000 (by omega)
    have x2 := nextV_in l (iS l k + 1) 400 (by omega)
    have x3 := nextV_in l (iS l k + 1 + 1 + 1 + 1) 400 (by omega)
    have e1 : tA l k = tB l k + nextV l (iS l k) 3000 := v64 (by omega) (by omega)
    have e2 : tM l k = tA l k + nextV l (iS l k + 1) 400 := v64 (by omega) (by omega)
    have e3 : tG l k = tM l k + nextV l (iS l k + 1 + 1 + 1 + 1) 400 := by
      show IntKind.i64.wrap (tM l k + nextV l (iS l k + 1 + 1 + 1 + 1) 400) = _
      exact v64 (by omega) (by omega)
    exact ⟨base.1, base.2, by omega, by omega, by omega, by omega⟩
theorem rd_at {l : List Int} {t : Int} (h1 : ruA l 0 ≤ t) (h2 : t ≤ 1000000) : rdE (ruS l 0) (ruA l 0) (ruT l 0) t = 0 ∧ rdV (ruS l 0) (ruA l 0) (ruT l 0) t = ruS l 0 + gnT (ruT l 0) (t - ruA l 0) / 1000000 := by
  obtain ⟨g1, _⟩ := ru_ok l 0
  have hA := (rg_vals l 0).2.1
  have e : rdE (ruS l 0) (ruA l 0) (ruT l 0) t = 0 := by
    unfold rdE
    rw [if_neg (by omega), if_pos ⟨tmC_iff.2 (by omega), h1, by omega⟩]
  exact ⟨e, if_pos e⟩
/-- What holds behind k exchanges, and in the next one. -/
theorem cS_in (l : List Int) : ∀ k : Nat, k ≤ 4 → Tells (ruS l 0) (ruA l 0) (ruT l 0) (cS l k) (tB l k) ∧ ckE (cS l k) = 0 ∧ (cS l k).b.u = false
  | 0, hk => by
    obtain ⟨h1, h2, h3, h4, h5, h6⟩ := rg_vals l 0
    obtain ⟨g1, g2, g3, g4, _⟩ := ru_ok l 0
    refine ⟨⟨g1, g3, h3.1, h3.2, Int.le_refl _, ?_, h5.2, h6.1⟩, ?_, rfl⟩
    · show ruS l 0 = ruS l 0 + gnT (ruT l 0) (ruA l 0 - ruA l 0) / 1000000
      have := gn_pos (x := ruA l 0 - ruA l 0) g2 (by omega)
      omega
    · show ckE ⟨ruS l 0, ⟨ruLo l 0, ruHi l 0, false⟩, ruD l 0⟩ = 0
      unfold ckE
      have e : chkB ⟨ruLo l 0, ruHi l 0, false⟩ = 0 := by
        unfold chkB
        rw [inB_iff.2 (by simp only; omega), inB_iff.2 (by simp only; omega), decide_eq_false (show ¬ ruLo l 0 > ruHi l 0 by omega)]; rfl
      rw [if_pos e, if_pos (by simp only [Bool.and_eq_true, tmC_iff, drC_iff]; omega)]
  | k + 1, hk => by
    obtain ⟨q1, q2, q3⟩ := cS_in l k (by omega)
    obtain ⟨h1, h2, h3, h4, h5, h6⟩ := rg_vals l 0
    obtain ⟨t1, t2, t3, t4, t5, t6⟩ := tB_in l k (by omega)
    have x1 := nextV_in l (iS l k + 1 + 1) 9 (by omega)
    have x2 := nextV_in l (iS l k + 1 + 1 + 1) 9 (by omega)
    have S := sync_step (t1 := tA l k) (tm := tM l k) (t2 := tG l k) (p := nextV l (iS l k + 1 + 1) 9) (r := nextV l (iS l k + 1 + 1 + 1) 9) q1 q2 q3 (by omega) (by omega) t3 t4 t5 (by omega) (by omega) (by omega)
    have e1 : IntKind.i64.wrap (tM l k - nextV l (iS l k + 1 + 1) 9) = tM l k - nextV l (iS l k + 1 + 1) 9 := v64 (by omega) (by omega)
    have e2 : IntKind.i64.wrap (tM l k + nextV l (iS l k + 1 + 1 + 1) 9) = tM l k + nextV l (iS l k + 1 + 1 + 1) 9 := v64 (by omega) (by omega)
    have r1 := (rd_at (l := l) (t := tA l k) (by omega) (by omega)).2
    have r2 := (rd_at (l := l) (t := tG l k) (by omega) (by omega)).2
    have e : cS l (k + 1) = syC (cS l k) (ruS l 0 + gnT (ruT l 0) (tA l k - ruA l 0) / 1000000) (ruS l 0 + gnT (ruT l 0) (tG l k - ruA l 0) / 1000000) ⟨tM l k - nextV l (iS l k + 1 + 1) 9, tM l k + nextV l (iS l k + 1 + 1 + 1) 9, false⟩ := by
      rw [cS, e1, e2, r1, r2]
    rw [e]
    exact ⟨S.2.1, S.2.2.1, S.2.2.2.1⟩
theorem ex_in (l : List Int) (k : Nat) (hk : k < 4) : (rdE (ruS l 0) (ruA l 0) (ruT l 0) (tA l k) != 0) = false ∧ (rdE (ruS l 0) (ruA l 0) (ruT l 0) (tG l k) != 0) = false ∧
    (syE (cS l k) (rdV (ruS l 0) (ruA l 0) (ruT l 0) (tA l k)) (rdV (ruS l 0) (ruA l 0) (ruT l 0) (tG l k)) ⟨IntKind.i64.wrap (tM l k - nextV l (iS l k + 1 + 1) 9), IntKind.i64.wrap (tM l k + nextV l (iS l k + 1 + 1 + 1) 9), false⟩ != 0) = false ∧
    (!hasB (cS l (k + 1)).b (tG l k)) = false ∧ (!insB (cS l (k + 1)).b (uniC (cS l k) (rdV (ruS l 0) (ruA l 0) (ruT l 0) (tG l k)))) = false := by
  obtain ⟨q1, q2, q3⟩ := cS_in l k (by omega)
  obtain ⟨h1, h2, h3, h4, h5, h6⟩ := rg_vals l 0
  obtain ⟨t1, t2, t3, t4, t5, t6⟩ := tB_in l k (by omega)
  have x1 := nextV_in l (iS l k + 1 + 1) 9 (by omega)
  have x2 := nextV_in l (iS l k + 1 + 1 + 1) 9 (by omega)
  have S := sync_step (t1 := tA l k) (tm := tM l k) (t2 := tG l k) (p := nextV l (iS l k + 1 + 1) 9) (r := nextV l (iS l k + 1 + 1 + 1) 9) q1 q2 q3 (by omega) (by omega) t3 t4 t5 (by omega) (by omega) (by omega)
  have e1 : IntKind.i64.wrap (tM l k - nextV l (iS l k + 1 + 1) 9) = tM l k - nextV l (iS l k + 1 + 1) 9 := v64 (by omega) (by omega)
  have e2 : IntKind.i64.wrap (tM l k + nextV l (iS l k + 1 + 1 + 1) 9) = tM l k + nextV l (iS l k + 1 + 1 + 1) 9 := v64 (by omega) (by omega)
  have r1 := rd_at (l := l) (t := tA l k) (by omega) (by omega)
  have r2 := rd_at (l := l) (t := tG l k) (by omega) (by omega)
  rw [cS, e1, e2, r1.2, r2.2, r1.1, r2.1]
  obtain ⟨s1, s2, s3, s4, s5, s6⟩ := S
  rw [s1, s5, s6]
  exact ⟨rfl, rfl, rfl, rfl, rfl⟩
set_option maxRecDepth 100000 in
theorem cs_010000001 (B : Nat) (l : List Int) (x : Int) : evL (ctxOf Try.prog (legI B) (fun _ => false) libU) Try.f4 l [(.w (.one (.int .i64 x)))] [false, true, false, false, false, false, false, false, true] = some (AV.w (AW.one (AC.bool (hasB (uniC (cS l 1) (rdV (ruS l 0) (ruA l 0) (ruT l 0) (IntKind.i64.wrap (tG l 0 + belowV x 5000)))) (IntKind.i64.wrap (tG l 0 + belowV x 5000))))), (pickL [(listB l, true), (decide (0 ≤ 0), true), (decide (0 < 900000), true), (!true, false), (i64B 4, true), (atB (ruI l 0 + 1 + 1), true), (decide (0 < IntKind.i64.wrap (nextV l (ruI l 0 + 1 + 1) 4 + 1)), true), (i64B 3000, true), (atB (ruI l 0 + 1 + 1 + 1), true), (i64B 400, true), (atB (ruI l 0 + 1 + 1 + 1 + 1), true), (i64B 9, true), (atB (ruI l 0 + 1 + 1 + 1 + 1 + 1), true), (atB (ruI l 0 + 1 + 1 + 1 + 1 + 1 + 1), true), (atB (ruI l 0 + 1 + 1 + 1 + 1 + 1 + 1 + 1), true), (rdE (ruS l 0) (ruA l 0) (ruT l 0) (tA l 0) != 0, false), (rdE (ruS l 0) (ruA l 0) (ruT l 0) (tG l 0) != 0, false), (syE (cS l 0) (rdV (ruS l 0) (ruA l 0) (ruT l 0) (tA l 0)) (rdV (ruS l 0) (ruA l 0) (ruT l 0) (tG l 0)) { lo := IntKind.i64.wrap (tM l 0 - nextV l (ruI l 0 + 1 + 1 + 1 + 1 + 1) 9), hi := IntKind.i64.wrap (tM l 0 + nextV l (ruI l 0 + 1 + 1 + 1 + 1 + 1 + 1) 9), u := false } != 0, false), (!hasB (cS l 1).b (tG l 0), false), (!insB (cS l 1).b (uniC (cS l 0) (rdV (ruS l 0) (ruA l 0) (ruT l 0) (tG l 0))), false), (decide (IntKind.i64.wrap (0 + 1) < IntKind.i64.wrap (nextV l (ruI l 0 + 1 + 1) 4 + 1)), false), (i64B x, true), (i64B 5000, true), (rdE (ruS l 0) (ruA l 0) (ruT l 0) (IntKind.i64.wrap (tG l 0 + belowV x 5000)) == 0, true)] [0, 1, 2, 3, 4, 0, 5, 6, 7, 0, 8, 9, 0, 10, 11, 0, 12, 11, 0, 13, 9, 0, 14, 15, 15, 15, 16, 16, 16, 17, 17, 17, 17, 17, 17, 18, 18, 18, 18, 18, 18, 18, 18, 19, 20, 21, 22, 23, 23, 23, 23, 23, 23])) := by kernel_rfl
set_option maxRecDepth 100000 in
theorem cs_010000010000001 (B : Nat) (l : List Int) (x : Int) : evL (ctxOf Try.prog (legI B) (fun _ => false) libU) Try.f4 l [(.w (.one (.int .i64 x)))] [false, true, false, false, false, false, false, true, false, false, false, false, false, false, true] = some (AV.w (AW.one (AC.bool (hasB (uniC (cS l 2) (rdV (ruS l 0) (ruA l 0) (ruT l 0) (IntKind.i64.wrap (tG l 1 + belowV x 5000)))) (IntKind.i64.wrap (tG l 1 + belowV x 5000))))), (pickL [(listB l, true), (decide (0 ≤ 0), true), (decide (0 < 900000), true), (!true, false), (i64B 4, true), (atB (ruI l 0 + 1 + 1), true), (decide (0 < IntKind.i64.wrap (nextV l (ruI l 0 + 1 + 1) 4 + 1)), true), (i64B 3000, true), (atB (ruI l 0 + 1 + 1 + 1), true), (i64B 400, true), (atB (ruI l 0 + 1 + 1 + 1 + 1), true), (i64B 9, true), (atB (ruI l 0 + 1 + 1 + 1 + 1 + 1), true), (atB (ruI l 0 + 1 + 1 + 1 + 1 + 1 + 1), true), (atB (ruI l 0 + 1 + 1 + 1 + 1 + 1 + 1 + 1), true), (rdE (ruS l 0) (ruA l 0) (ruT l 0) (tA l 0) != 0, false), (rdE (ruS l 0) (ruA l 0) (ruT l 0) (tG l 0) != 0, false), (syE (cS l 0) (rdV (ruS l 0) (ruA l 0) (ruT l 0) (tA l 0)) (rdV (ruS l 0) (ruA l 0) (ruT l 0) (tG l 0)) { lo := IntKind.i64.wrap (tM l 0 - nextV l (ruI l 0 + 1 + 1 + 1 + 1 + 1) 9), hi := IntKind.i64.wrap (tM l 0 + nextV l (ruI l 0 + 1 + 1 + 1 + 1 + 1 + 1) 9), u := false } != 0, false), (!hasB (cS l 1).b (tG l 0), false), (!insB (cS l 1).b (uniC (cS l 0) (rdV (ruS l 0) (ruA l 0) (ruT l 0) (tG l 0))), false), (decide (IntKind.i64.wrap (0 + 1) < IntKind.i64.wrap (nextV l (ruI l 0 + 1 + 1) 4 + 1)), true), (atB (ruI l 0 + 1 + 1 + 1 + 1 + 1 + 1 + 1 + 1), true), (atB (ruI l 0 + 1 + 1 + 1 + 1 + 1 + 1 + 1 + 1 + 1), true), (atB (ruI l 0 + 1 + 1 + 1 + 1 + 1 + 1 + 1 + 1 + 1 + 1), true), (atB (ruI l 0 + 1 + 1 + 1 + 1 + 1 + 1 + 1 + 1 + 1 + 1 + 1), true), (atB (ruI l 0 + 1 + 1 + 1 + 1 + 1 + 1 + 1 + 1 + 1 + 1 + 1 + 1), true), (rdE (ruS l 0) (ruA l 0) (ruT l 0) (tA l 1) != 0, false), (rdE (ruS l 0) (ruA l 0) (ruT l 0) (tG l 1) != 0, false), (syE (cS l 1) (rdV (ruS l 0) (ruA l 0) (ruT l 0) (tA l 1)) (rdV (ruS l 0) (ruA l 0) (ruT l 0) (tG l 1)) { lo := IntKind.i64.wrap (tM l 1 - nextV l (ruI l 0 + 1 + 1 + 1 + 1 + 1 + 1 + 1 + 1 + 1 + 1) 9), hi := IntKind.i64.wrap (tM l 1 + nextV l (ruI l 0 + 1 + 1 + 1 + 1 + 1 + 1 + 1 + 1 + 1 + 1 + 1) 9), u := false } != 0, false), (!hasB (cS l 2).b (tG l 1), false), (!insB (cS l 2).b (uniC (cS l 1) (rdV (ruS l 0) (ruA l 0) (ruT l 0) (tG l 1))), false), (decide (IntKind.i64.wrap (IntKind.i64.wrap (0 + 1) + 1) < IntKind.i64.wrap (nextV l (ruI l 0 + 1 + 1) 4 + 1)), false), (i64B x, true), (i64B 5000, true), (rdE (ruS l 0) (ruA l 0) (ruT l 0) (IntKind.i64.wrap (tG l 1 + belowV x 5000)) == 0, true)] [0, 1, 2, 3, 4, 0, 5, 6, 7, 0, 8, 9, 0, 10, 11, 0, 12, 11, 0, 13, 9, 0, 14, 15, 15, 15, 16, 16, 16, 17, 17, 17, 17, 17, 17, 18, 18, 18, 18, 18, 18, 18, 18, 19, 20, 7, 0, 21, 9, 0, 22, 11, 0, 23, 11, 0, 24, 9, 0, 25, 26, 26, 26, 27, 27, 27, 28, 28, 28, 28, 28, 28, 29, 29, 29, 29, 29, 29, 29, 29, 30, 31, 32, 33, 34, 34, 34, 34, 34, 34])) := by kernel_rfl
set_option maxRecDepth 100000 in
theorem cs_010000010000010000001 (B : Nat) (l : List Int) (x : Int) : evL (ctxOf Try.prog (legI B) (fun _ => false) libU) Try.f4 l [(.w (.one (.int .i64 x)))] [false, true, false, false, false, false, false, true, false, false, false, false, false, true, false, false, false, false, false, false, true] = some (AV.w (AW.one (AC.bool (hasB (uniC (cS l 3) (rdV (ruS l 0) (ruA l 0) (ruT l 0) (IntKind.i64.wrap (tG l 2 + belowV x 5000)))) (IntKind.i64.wrap (tG l 2 + belowV x 5000))))), (pickL [(listB l, true), (decide (0 ≤ 0), true), (decide (0 < 900000), true), (!true, false), (i64B 4, true), (atB (ruI l 0 + 1 + 1), true), (decide (0 < IntKind.i64.wrap (nextV l (ruI l 0 + 1 + 1) 4 + 1)), true), (i64B 3000, true), (atB (ruI l 0 + 1 + 1 + 1), true), (i64B 400, true), (atB (ruI l 0 + 1 + 1 + 1 + 1), true), (i64B 9, true), (atB (ruI l 0 + 1 + 1 + 1 + 1 + 1), true), (atB (ruI l 0 + 1 + 1 + 1 + 1 + 1 + 1), true), (atB (ruI l 0 + 1 + 1 + 1 + 1 + 1 + 1 + 1), true), (rdE (ruS l 0) (ruA l 0) (ruT l 0) (tA l 0) != 0, false), (rdE (ruS l 0) (ruA l 0) (ruT l 0) (tG l 0) != 0, false), (syE (cS l 0) (rdV (ruS l 0) (ruA l 0) (ruT l 0) (tA l 0)) (rdV (ruS l 0) (ruA l 0) (ruT l 0) (tG l 0)) { lo := IntKind.i64.wrap (tM l 0 - nextV l (ruI l 0 + 1 + 1 + 1 + 1 + 1) 9), hi := IntKind.i64.wrap (tM l 0 + nextV l (ruI l 0 + 1 + 1 + 1 + 1 + 1 + 1) 9), u := false } != 0, false), (!hasB (cS l 1).b (tG l 0), false), (!insB (cS l 1).b (uniC (cS l 0) (rdV (ruS l 0) (ruA l 0) (ruT l 0) (tG l 0))), false), (decide (IntKind.i64.wrap (0 + 1) < IntKind.i64.wrap (nextV l (ruI l 0 + 1 + 1) 4 + 1)), true), (atB (ruI l 0 + 1 + 1 + 1 + 1 + 1 + 1 + 1 + 1), true), (atB (ruI l 0 + 1 + 1 + 1 + 1 + 1 + 1 + 1 + 1 + 1), true), (atB (ruI l 0 + 1 + 1 + 1 + 1 + 1 + 1 + 1 + 1 + 1 + 1), true), (atB (ruI l 0 + 1 + 1 + 1 + 1 + 1 + 1 + 1 + 1 + 1 + 1 + 1), true), (atB (ruI l 0 + 1 + 1 + 1 + 1 + 1 + 1 + 1 + 1 + 1 + 1 + 1 + 1), true), (rdE (ruS l 0) (ruA l 0) (ruT l 0) (tA l 1) != 0, false), (rdE (ruS l 0) (ruA l 0) (ruT l 0) (tG l 1) != 0, false), (syE (cS l 1) (rdV (ruS l 0) (ruA l 0) (ruT l 0) (tA l 1)) (rdV (ruS l 0) (ruA l 0) (ruT l 0) (tG l 1)) { lo := IntKind.i64.wrap (tM l 1 - nextV l (ruI l 0 + 1 + 1 + 1 + 1 + 1 + 1 + 1 + 1 + 1 + 1) 9), hi := IntKind.i64.wrap (tM l 1 + nextV l (ruI l 0 + 1 + 1 + 1 + 1 + 1 + 1 + 1 + 1 + 1 + 1 + 1) 9), u := false } != 0, false), (!hasB (cS l 2).b (tG l 1), false), (!insB (cS l 2).b (uniC (cS l 1) (rdV (ruS l 0) (ruA l 0) (ruT l 0) (tG l 1))), false), (decide (IntKind.i64.wrap (IntKind.i64.wrap (0 + 1) + 1) < IntKind.i64.wrap (nextV l (ruI l 0 + 1 + 1) 4 + 1)), true), (atB (ruI l 0 + 1 + 1 + 1 + 1 + 1 + 1 + 1 + 1 + 1 + 1 + 1 + 1 + 1), true), (atB (ruI l 0 + 1 + 1 + 1 + 1 + 1 + 1 + 1 + 1 + 1 + 1 + 1 + 1 + 1 + 1), true), (atB (ruI l 0 + 1 + 1 + 1 + 1 + 1 + 1 + 1 + 1 + 1 + 1 + 1 + 1 + 1 + 1 + 1), true), (atB (ruI l 0 + 1 + 1 + 1 + 1 + 1 + 1 + 1 + 1 + 1 + 1 + 1 + 1 + 1 + 1 + 1 + 1), true), (atB (ruI l 0 + 1 + 1 + 1 + 1 + 1 + 1 + 1 + 1 + 1 + 1 + 1 + 1 + 1 + 1 + 1 + 1 + 1), true), (rdE (ruS l 0) (ruA l 0) (ruT l 0) (tA l 2) != 0, false), (rdE (ruS l 0) (ruA l 0) (ruT l 0) (tG l 2) != 0, false), (syE (cS l 2) (rdV (ruS l 0) (ruA l 0) (ruT l 0) (tA l 2)) (rdV (ruS l 0) (ruA l 0) (ruT l 0) (tG l 2)) { lo := IntKind.i64.wrap (tM l 2 - nextV l (ruI l 0 + 1 + 1 + 1 + 1 + 1 + 1 + 1 + 1 + 1 + 1 + 1 + 1 + 1 + 1 + 1) 9), hi := IntKind.i64.wrap (tM l 2 + nextV l (ruI l 0 + 1 + 1 + 1 + 1 + 1 + 1 + 1 + 1 + 1 + 1 + 1 + 1 + 1 + 1 + 1 + 1) 9), u := false } != 0, false), (!hasB (cS l 3).b (tG l 2), false), (!insB (cS l 3).b (uniC (cS l 2) (rdV (ruS l 0) (ruA l 0) (ruT l 0) (tG l 2))), false), (decide (IntKind.i64.wrap (IntKind.i64.wrap (IntKind.i64.wrap (0 + 1) + 1) + 1) < IntKind.i64.wrap (nextV l (ruI l 0 + 1 + 1) 4 + 1)), false), (i64B x, true), (i64B 5000, true), (rdE (ruS l 0) (ruA l 0) (ruT l 0) (IntKind.i64.wrap (tG l 2 + belowV x 5000)) == 0, true)] [0, 1, 2, 3, 4, 0, 5, 6, 7, 0, 8, 9, 0, 10, 11, 0, 12, 11, 0, 13, 9, 0, 14, 15, 15, 15, 16, 16, 16, 17, 17, 17, 17, 17, 17, 18, 18, 18, 18, 18, 18, 18, 18, 19, 20, 7, 0, 21, 9, 0, 22, 11, 0, 23, 11, 0, 24, 9, 0, 25, 26, 26, 26, 27, 27, 27, 28, 28, 28, 28, 28, 28, 29, 29, 29, 29, 29, 29, 29, 29, 30, 31, 7, 0, 32, 9, 0, 33, 11, 0, 34, 11, 0, 35, 9, 0, 36, 37, 37, 37, 38, 38, 38, 39, 39, 39, 39, 39, 39, 40, 40, 40, 40, 40, 40, 40, 40, 41, 42, 43, 44, 45, 45, 45, 45, 45, 45])) := by kernel_rfl
set_option maxRecDepth 100000 in
theorem cs_010000010000010000010000001 (B : Nat) (l : List Int) (x : Int) : evL (ctxOf Try.prog (legI B) (fun _ => false) libU) Try.f4 l [(.w (.one (.int .i64 x)))] [false, true, false, false, false, false, false, true, false, false, false, false, false, true, false, false, false, false, false, true, false, false, false, false, false, false, true] = some (AV.w (AW.one (AC.bool (hasB (uniC (cS l 4) (rdV (ruS l 0) (ruA l 0) (ruT l 0) (IntKind.i64.wrap (tG l 3 + belowV x 5000)))) (IntKind.i64.wrap (tG l 3 + belowV x 5000))))), (pickL [(listB l, true), (decide (0 ≤ 0), true), (decide (0 < 900000), true), (!true, false), (i64B 4, true), (atB (ruI l 0 + 1 + 1), true), (decide (0 < IntKind.i64.wrap (nextV l (ruI l 0 + 1 + 1) 4 + 1)), true), (i64B 3000, true), (atB (ruI l 0 + 1 + 1 + 1), true), (i64B 400, true), (atB (ruI l 0 + 1 + 1 + 1 + 1), true), (i64B 9, true), (atB (ruI l 0 + 1 + 1 + 1 + 1 + 1), true), (atB (ruI l 0 + 1 + 1 + 1 + 1 + 1 + 1), true), (atB (ruI l 0 + 1 + 1 + 1 + 1 + 1 + 1 + 1), true), (rdE (ruS l 0) (ruA l 0) (ruT l 0) (tA l 0) != 0, false), (rdE (ruS l 0) (ruA l 0) (ruT l 0) (tG l 0) != 0, false), (syE (cS l 0) (rdV (ruS l 0) (ruA l 0) (ruT l 0) (tA l 0)) (rdV (ruS l 0) (ruA l 0) (ruT l 0) (tG l 0)) { lo := IntKind.i64.wrap (tM l 0 - nextV l (ruI l 0 + 1 + 1 + 1 + 1 + 1) 9), hi := IntKind.i64.wrap (tM l 0 + nextV l (ruI l 0 + 1 + 1 + 1 + 1 + 1 + 1) 9), u := false } != 0, false), (!hasB (cS l 1).b (tG l 0), false), (!insB (cS l 1).b (uniC (cS l 0) (rdV (ruS l 0) (ruA l 0) (ruT l 0) (tG l 0))), false), (decide (IntKind.i64.wrap (0 + 1) < IntKind.i64.wrap (nextV l (ruI l 0 + 1 + 1) 4 + 1)), true), (atB (ruI l 0 + 1 + 1 + 1 + 1 + 1 + 1 + 1 + 1), true), (atB (ruI l 0 + 1 + 1 + 1 + 1 + 1 + 1 + 1 + 1 + 1), true), (atB (ruI l 0 + 1 + 1 + 1 + 1 + 1 + 1 + 1 + 1 + 1 + 1), true), (atB (ruI l 0 + 1 + 1 + 1 + 1 + 1 + 1 + 1 + 1 + 1 + 1 + 1), true), (atB (ruI l 0 + 1 + 1 + 1 + 1 + 1 + 1 + 1 + 1 + 1 + 1 + 1 + 1), true), (rdE (ruS l 0) (ruA l 0) (ruT l 0) (tA l 1) != 0, false), (rdE (ruS l 0) (ruA l 0) (ruT l 0) (tG l 1) != 0, false), (syE (cS l 1) (rdV (ruS l 0) (ruA l 0) (ruT l 0) (tA l 1)) (rdV (ruS l 0) (ruA l 0) (ruT l 0) (tG l 1)) { lo := IntKind.i64.wrap (tM l 1 - nextV l (ruI l 0 + 1 + 1 + 1 + 1 + 1 + 1 + 1 + 1 + 1 + 1) 9), hi := IntKind.i64.wrap (tM l 1 + nextV l (ruI l 0 + 1 + 1 + 1 + 1 + 1 + 1 + 1 + 1 + 1 + 1 + 1) 9), u := false } != 0, false), (!hasB (cS l 2).b (tG l 1), false), (!insB (cS l 2).b (uniC (cS l 1) (rdV (ruS l 0) (ruA l 0) (ruT l 0) (tG l 1))), false), (decide (IntKind.i64.wrap (IntKind.i64.wrap (0 + 1) + 1) < IntKind.i64.wrap (nextV l (ruI l 0 + 1 + 1) 4 + 1)), true), (atB (ruI l 0 + 1 + 1 + 1 + 1 + 1 + 1 + 1 + 1 + 1 + 1 + 1 + 1 + 1), true), (atB (ruI l 0 + 1 + 1 + 1 + 1 + 1 + 1 + 1 + 1 + 1 + 1 + 1 + 1 + 1 + 1), true), (atB (ruI l 0 + 1 + 1 + 1 + 1 + 1 + 1 + 1 + 1 + 1 + 1 + 1 + 1 + 1 + 1 + 1), true), (atB (ruI l 0 + 1 + 1 + 1 + 1 + 1 + 1 + 1 + 1 + 1 + 1 + 1 + 1 + 1 + 1 + 1 + 1), true), (atB (ruI l 0 + 1 + 1 + 1 + 1 + 1 + 1 + 1 + 1 + 1 + 1 + 1 + 1 + 1 + 1 + 1 + 1 + 1), true), (rdE (ruS l 0) (ruA l 0) (ruT l 0) (tA l 2) != 0, false), (rdE (ruS l 0) (ruA l 0) (ruT l 0) (tG l 2) != 0, false), (syE (cS l 2) (rdV (ruS l 0) (ruA l 0) (ruT l 0) (tA l 2)) (rdV (ruS l 0) (ruA l 0) (ruT l 0) (tG l 2)) { lo := IntKind.i64.wrap (tM l 2 - nextV l (ruI l 0 + 1 + 1 + 1 + 1 + 1 + 1 + 1 + 1 + 1 + 1 + 1 + 1 + 1 + 1 + 1) 9), hi := IntKind.i64.wrap (tM l 2 + nextV l (ruI l 0 + 1 + 1 + 1 + 1 + 1 + 1 + 1 + 1 + 1 + 1 + 1 + 1 + 1 + 1 + 1 + 1) 9), u := false } != 0, false), (!hasB (cS l 3).b (tG l 2), false), (!insB (cS l 3).b (uniC (cS l 2) (rdV (ruS l 0) (ruA l 0) (ruT l 0) (tG l 2))), false), (decide (IntKind.i64.wrap (IntKind.i64.wrap (IntKind.i64.wrap (0 + 1) + 1) + 1) < IntKind.i64.wrap (nextV l (ruI l 0 + 1 + 1) 4 + 1)), true), (atB (ruI l 0 + 1 + 1 + 1 + 1 + 1 + 1 + 1 + 1 + 1 + 1 + 1 + 1 + 1 + 1 + 1 + 1 + 1 + 1), true), (atB (ruI l 0 + 1 + 1 + 1 + 1 + 1 + 1 + 1 + 1 + 1 + 1 + 1 + 1 + 1 + 1 + 1 + 1 + 1 + 1 + 1), true), (atB (ruI l 0 + 1 + 1 + 1 + 1 + 1 + 1 + 1 + 1 + 1 + 1 + 1 + 1 + 1 + 1 + 1 + 1 + 1 + 1 + 1 + 1), true), (atB (ruI l 0 + 1 + 1 + 1 + 1 + 1 + 1 + 1 + 1 + 1 + 1 + 1 + 1 + 1 + 1 + 1 + 1 + 1 + 1 + 1 + 1 + 1), true), (atB (ruI l 0 + 1 + 1 + 1 + 1 + 1 + 1 + 1 + 1 + 1 + 1 + 1 + 1 + 1 + 1 + 1 + 1 + 1 + 1 + 1 + 1 + 1 + 1), true), (rdE (ruS l 0) (ruA l 0) (ruT l 0) (tA l 3) != 0, false), (rdE (ruS l 0) (ruA l 0) (ruT l 0) (tG l 3) != 0, false), (syE (cS l 3) (rdV (ruS l 0) (ruA l 0) (ruT l 0) (tA l 3)) (rdV (ruS l 0) (ruA l 0) (ruT l 0) (tG l 3)) { lo := IntKind.i64.wrap (tM l 3 - nextV l (ruI l 0 + 1 + 1 + 1 + 1 + 1 + 1 + 1 + 1 + 1 + 1 + 1 + 1 + 1 + 1 + 1 + 1 + 1 + 1 + 1 + 1) 9), hi := IntKind.i64.wrap (tM l 3 + nextV l (ruI l 0 + 1 + 1 + 1 + 1 + 1 + 1 + 1 + 1 + 1 + 1 + 1 + 1 + 1 + 1 + 1 + 1 + 1 + 1 + 1 + 1 + 1) 9), u := false } != 0, false), (!hasB (cS l 4).b (tG l 3), false), (!insB (cS l 4).b (uniC (cS l 3) (rdV (ruS l 0) (ruA l 0) (ruT l 0) (tG l 3))), false), (decide (IntKind.i64.wrap (IntKind.i64.wrap (IntKind.i64.wrap (IntKind.i64.wrap (0 + 1) + 1) + 1) + 1) < IntKind.i64.wrap (nextV l (ruI l 0 + 1 + 1) 4 + 1)), false), (i64B x, true), (i64B 5000, true), (rdE (ruS l 0) (ruA l 0) (ruT l 0) (IntKind.i64.wrap (tG l 3 + belowV x 5000)) == 0, true)] [0, 1, 2, 3, 4, 0, 5, 6, 7, 0, 8, 9, 0, 10, 11, 0, 12, 11, 0, 13, 9, 0, 14, 15, 15, 15, 16, 16, 16, 17, 17, 17, 17, 17, 17, 18, 18, 18, 18, 18, 18, 18, 18, 19, 20, 7, 0, 21, 9, 0, 22, 11, 0, 23, 11, 0, 24, 9, 0, 25, 26, 26, 26, 27, 27, 27, 28, 28, 28, 28, 28, 28, 29, 29, 29, 29, 29, 29, 29, 29, 30, 31, 7, 0, 32, 9, 0, 33, 11, 0, 34, 11, 0, 35, 9, 0, 36, 37, 37, 37, 38, 38, 38, 39, 39, 39, 39, 39, 39, 40, 40, 40, 40, 40, 40, 40, 40, 41, 42, 7, 0, 43, 9, 0, 44, 11, 0, 45, 11, 0, 46, 9, 0, 47, 48, 48, 48, 49, 49, 49, 50, 50, 50, 50, 50, 50, 51, 51, 51, 51, 51, 51, 51, 51, 52, 53, 54, 55, 56, 56, 56, 56, 56, 56])) := by kernel_rfl
set_option maxHeartbeats 4000000 in
theorem clockSyncTruth_walk (l : List Int) (p : Option Addr) (cap : Nat) (x : Int) (h1 : -9223372036854775808 ≤ x) (h2 : x ≤ 9223372036854775807) (hl : listB l = true) (W : World) (hf : fctHolds W.heap.size (.ints l) W #[.slice p l.length cap]) :
    Calls Try.prog 4 #[.slice p l.length cap, .int .i64 x] W fun e w' => e = .returned (.bool true) ∧ Below W.heap.size W w' := by
  have hx : i64B x = true := i64B_iff.2 ⟨h1, h2⟩
  obtain ⟨_, _, _, _, hI0, hI1⟩ := ru_ok l 0
  obtain ⟨_, hA, _⟩ := rg_vals l 0
  have hn := nextV_in l (ruI l 0 + 1 + 1) 4 (by omega)
  have hy := belowV_in x 5000 (by omega)
  have at_ : ∀ i : Int, 0 ≤ i → i < 100 → atB i = true := fun i h1 h2 => atB_iff.2 (by omega)
  have c1 : decide ((0 : Int) ≤ 0) = true := by decide
  have c2 : decide ((0 : Int) < 900000) = true := by decide
  have c3 : (!true) = false := rfl
  have c4 : i64B 4 = true := by decide
  have c5 : i64B 3000 = true := by decide
  have c6 : i64B 400 = true := by decide
  have c7 : i64B 9 = true := by decide
  have c8 : i64B 5000 = true := by decide
  have fin : ∀ k : Nat, 1 ≤ k → k ≤ 4 → (rdE (ruS l 0) (ruA l 0) (ruT l 0) (IntKind.i64.wrap (tB l k + belowV x 5000)) == 0) = true ∧ hasB (uniC (cS l k) (rdV (ruS l 0) (ruA l 0) (ruT l 0) (IntKind.i64.wrap (tB l k + belowV x 5000)))) (IntKind.i64.wrap (tB l k + belowV x 5000)) = true := fun k hk1 hk => by
    obtain ⟨t1, t2, _⟩ := tB_in l k hk
    obtain ⟨q1, q2, q3⟩ := cS_in l k hk
    have e : IntKind.i64.wrap (tB l k + belowV x 5000) = tB l k + belowV x 5000 := v64 (by omega) (by omega)
    have r := rd_at (l := l) (t := tB l k + belowV x 5000) (by omega) (by omega)
    rw [e, r.1, r.2]
    exact ⟨rfl, truth_uni q1 (by omega)⟩
  have cases_n : nextV l (ruI l 0 + 1 + 1) 4 = 0 ∨ nextV l (ruI l 0 + 1 + 1) 4 = 1 ∨ nextV l (ruI l 0 + 1 + 1) 4 = 2 ∨ nextV l (ruI l 0 + 1 + 1) 4 = 3 := by omega
  rcases cases_n with hk | hk | hk | hk
  · obtain ⟨a0, b0, d0, e0, f0⟩ := ex_in l 0 (by omega)
    obtain ⟨F1, V⟩ := fin 1 (by omega) (by omega)
    have n6 : decide (0 < IntKind.i64.wrap (nextV l (ruI l 0 + 1 + 1) 4 + 1)) = true := by rw [show (0 : Int) = 0 by decide, hk]; rfl
    have n20 : decide (IntKind.i64.wrap (0 + 1) < IntKind.i64.wrap (nextV l (ruI l 0 + 1 + 1) 4 + 1)) = false := by rw [show (IntKind.i64.wrap (0 + 1) : Int) = 1 by decide, hk]; rfl
    refine list_callsR (B := W.heap.size) (v := .bool true) (ctxOf_ok (libU_ok _) (eq_none _)) (by kernel_rfl) Try.func4 rfl (cs_010000001 W.heap.size l x) rfl (.cons rfl .nil) (congrArg (fun b => some (Value.bool b)) V) W rfl hf (pickL_ok ?_ _)
    repeat' (first | exact cd_nil | refine cd_cons ?_ ?_)
    all_goals first | rfl | with_reducible assumption | assumption | exact at_ _ (by omega) (by omega)

  · obtain ⟨a0, b0, d0, e0, f0⟩ := ex_in l 0 (by omega)
    obtain ⟨a1, b1, d1, e1, f1⟩ := ex_in l 1 (by omega)
    obtain ⟨F1, V⟩ := fin 2 (by omega) (by omega)
    have n6 : decide (0 < IntKind.i64.wrap (nextV l (ruI l 0 + 1 + 1) 4 + 1)) = true := by rw [show (0 : Int) = 0 by decide, hk]; rfl
    have n20 : decide (IntKind.i64.wrap (0 + 1) < IntKind.i64.wrap (nextV l (ruI l 0 + 1 + 1) 4 + 1)) = true := by rw [show (IntKind.i64.wrap (0 + 1) : Int) = 1 by decide, hk]; rfl
    have n31 : decide (IntKind.i64.wrap (IntKind.i64.wrap (0 + 1) + 1) < IntKind.i64.wrap (nextV l (ruI l 0 + 1 + 1) 4 + 1)) = false := by rw [show (IntKind.i64.wrap (IntKind.i64.wrap (0 + 1) + 1) : Int) = 2 by decide, hk]; rfl
    refine list_callsR (B := W.heap.size) (v := .bool true) (ctxOf_ok (libU_ok _) (eq_none _)) (by kernel_rfl) Try.func4 rfl (cs_010000010000001 W.heap.size l x) rfl (.cons rfl .nil) (congrArg (fun b => some (Value.bool b)) V) W rfl hf (pickL_ok ?_ _)
    repeat' (first | exact cd_nil | refine cd_cons ?_ ?_)
    all_goals first | rfl | with_reducible assumption | assumption | exact at_ _ (by omega) (by omega)

  · obtain ⟨a0, b0, d0, e0, f0⟩ := ex_in l 0 (by omega)
    obtain ⟨a1, b1, d1, e1, f1⟩ := ex_in l 1 (by omega)
    obtain ⟨a2, b2, d2, e2, f2⟩ := ex_in l 2 (by omega)
    obtain ⟨F1, V⟩ := fin 3 (by omega) (by omega)
    have n6 : decide (0 < IntKind.i64.wrap (nextV l (ruI l 0 + 1 + 1) 4 + 1)) = true := by rw [show (0 : Int) = 0 by decide, hk]; rfl
    have n20 : decide (IntKind.i64.wrap (0 + 1) < IntKind.i64.wrap (nextV l (ruI l 0 + 1 + 1) 4 + 1)) = true := by rw [show (IntKind.i64.wrap (0 + 1) : Int) = 1 by decide, hk]; rfl
    have n31 : decide (IntKind.i64.wrap (IntKind.i64.wrap (0 + 1) + 1) < IntKind.i64.wrap (nextV l (ruI l 0 + 1 + 1) 4 + 1)) = true := by rw [show (IntKind.i64.wrap (IntKind.i64.wrap (0 + 1) + 1) : Int) = 2 by decide, hk]; rfl
    have n42 : decide (IntKind.i64.wrap (IntKind.i64.wrap (IntKind.i64.wrap (0 + 1) + 1) + 1) < IntKind.i64.wrap (nextV l (ruI l 0 + 1 + 1) 4 + 1)) = false := by rw [show (IntKind.i64.wrap (IntKind.i64.wrap (IntKind.i64.wrap (0 + 1) + 1) + 1) : Int) = 3 by decide, hk]; rfl
    refine list_callsR (B := W.heap.size) (v := .bool true) (ctxOf_ok (libU_ok _) (eq_none _)) (by kernel_rfl) Try.func4 rfl (cs_010000010000010000001 W.heap.size l x) rfl (.cons rfl .nil) (congrArg (fun b => some (Value.bool b)) V) W rfl hf (pickL_ok ?_ _)
    repeat' (first | exact cd_nil | refine cd_cons ?_ ?_)
    all_goals first | rfl | with_reducible assumption | assumption | exact at_ _ (by omega) (by omega)

  · obtain ⟨a0, b0, d0, e0, f0⟩ := ex_in l 0 (by omega)
    obtain ⟨a1, b1, d1, e1, f1⟩ := ex_in l 1 (by omega)
    obtain ⟨a2, b2, d2, e2, f2⟩ := ex_in l 2 (by omega)
    obtain ⟨a3, b3, d3, e3, f3⟩ := ex_in l 3 (by omega)
    obtain ⟨F1, V⟩ := fin 4 (by omega) (by omega)
    have n6 : decide (0 < IntKind.i64.wrap (nextV l (ruI l 0 + 1 + 1) 4 + 1)) = true := by rw [show (0 : Int) = 0 by decide, hk]; rfl
    have n20 : decide (IntKind.i64.wrap (0 + 1) < IntKind.i64.wrap (nextV l (ruI l 0 + 1 + 1) 4 + 1)) = true := by rw [show (IntKind.i64.wrap (0 + 1) : Int) = 1 by decide, hk]; rfl
    have n31 : decide (IntKind.i64.wrap (IntKind.i64.wrap (0 + 1) + 1) < IntKind.i64.wrap (nextV l (ruI l 0 + 1 + 1) 4 + 1)) = true := by rw [show (IntKind.i64.wrap (IntKind.i64.wrap (0 + 1) + 1) : Int) = 2 by decide, hk]; rfl
    have n42 : decide (IntKind.i64.wrap (IntKind.i64.wrap (IntKind.i64.wrap (0 + 1) + 1) + 1) < IntKind.i64.wrap (nextV l (ruI l 0 + 1 + 1) 4 + 1)) = true := by rw [show (IntKind.i64.wrap (IntKind.i64.wrap (IntKind.i64.wrap (0 + 1) + 1) + 1) : Int) = 3 by decide, hk]; rfl
    have n53 : decide (IntKind.i64.wrap (IntKind.i64.wrap (IntKind.i64.wrap (IntKind.i64.wrap (0 + 1) + 1) + 1) + 1) < IntKind.i64.wrap (nextV l (ruI l 0 + 1 + 1) 4 + 1)) = false := by rw [show (IntKind.i64.wrap (IntKind.i64.wrap (IntKind.i64.wrap (IntKind.i64.wrap (0 + 1) + 1) + 1) + 1) : Int) = 4 by decide, hk]; rfl
    refine list_callsR (B := W.heap.size) (v := .bool true) (ctxOf_ok (libU_ok _) (eq_none _)) (by kernel_rfl) Try.func4 rfl (cs_010000010000010000010000001 W.heap.size l x) rfl (.cons rfl .nil) (congrArg (fun b => some (Value.bool b)) V) W rfl hf (pickL_ok ?_ _)
    repeat' (first | exact cd_nil | refine cd_cons ?_ ?_)
    all_goals first | rfl | with_reducible assumption | assumption | exact at_ _ (by omega) (by omega)

end
end Go.Proofs.Ytpolpckjfgndeab.AtCk

