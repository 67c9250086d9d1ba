/-
  The reference's BendsErr and RefractOf as functions of tables of refraction.
  Conditions: those of each theorem.
-/
import Derived.Test.YtagbpehfieejcaaHA
set_option linter.unusedVariables false
set_option linter.unusedSimpArgs false
namespace Go.Proofs.Ytagbpehfieejcaa.AtHz
open Ev Go.RowKit Go.Shelf Zd Wd
open Go.Proofs.Ytagbpehfieejcaa
noncomputable section

def cvN : Nm → Option Tb
  | .tab ks l => some (.tab ks l)
  | _ => none
def inN : Tb → Nm
  | .tab ks l => .tab ks l
theorem liftN_ok {P : Program} {f : FuncId} {ks0 : List (Option IntKind)} {g : List (AV Tb) → Option (AV Tb × List (Bool × Bool))} (h : (factSp g).ok P tbI f) : (factSp (liftG cvN inN ks0 g)).ok P numI f :=
  lift_ok (fun f t h => by cases f <;> cases h; rfl) (fun t D w v => by cases t; exact Iff.rfl) h
def fuB (T : List (List Int)) (a : Bd) : Bool := (bLift (rwT T (rfF T a))).u
def gRo : List (AV Nm) → Option (AV Nm × List (Bool × Bool))
  | [.w (.one (.fv (.tab [some .i64, some .i64, some .i64, none] T))), .w (.agg [.int .i64 x, .int .i64 y, .bool u])] => some (bC' (rfV T ⟨x, y, u⟩), [])
  | _ => none
def gRa : List (AV Nm) → Option (AV Nm × List (Bool × Bool))
  | [.w (.one (.fv (.tab [some .i64, some .i64, some .i64, none] T))), .w (.agg [.int .i64 x, .int .i64 y, .bool u])] => some (bC' (rfV T ⟨x, y, u⟩), [(!fuB T ⟨x, y, u⟩, true)])
  | _ => none
def gRb : List (AV Nm) → Option (AV Nm × List (Bool × Bool))
  | [.w (.one (.fv (.tab [some .i64, some .i64, some .i64, none] T))), .w (.agg [.int .i64 x, .int .i64 y, .bool u])] => some (bC' (rfV T ⟨x, y, u⟩), [(fuB T ⟨x, y, u⟩, true)])
  | _ => none
noncomputable abbrev beLps : Lps Tb := [((44, [false, true, false, true, true]), beD.sp (fun _ => true))]
noncomputable abbrev roLps : Lps Nm := [((111, [false, true, false, true, true, true, true, true]), raD.sp nmSafe), ((111, [false, true, false, true, true, true, true, true, true, true, true]), rbD.sp nmSafe)]
noncomputable abbrev rpLps : Lps Nm := [((111, [false, true, false, true, true, true, true, true]), raD.sp nmSafe), ((111, [false, true, false, true, true, true, true, true, true, true, true]), rcD.sp nmSafe)]
noncomputable abbrev fnsRo : List (Nat × Func) := [(101, Try.f101)]
theorem beLps_ok : LpsOk Try.prog tbI beLps Try.f33.ntmps (bodyOf Try.f33) := lps_cons (fun _ x hx => beD_ok x hx) lps_nil
set_option maxRecDepth 100000 in
theorem bef_1 (T : List (List Int)) : evR (ctxLp Try.prog tbI (fun _ => false) libU0 [] beLps) Try.f33 [(.w (.one (.fv (.tab [some .i64, some .i64, some .i64, none] T))))] [true] = some (AV.w (AW.one (AC.int IntKind.i64 2)), (pickL [(decide (lenT T > 64), true)] [0])) := by kernel_rfl
set_option maxRecDepth 100000 in
theorem bef_01 (T : List (List Int)) : evR (ctxLp Try.prog tbI (fun _ => false) libU0 [] beLps) Try.f33 [(.w (.one (.fv (.tab [some .i64, some .i64, some .i64, none] T))))] [false, true] = some (AV.w (AW.one (AC.int IntKind.i64 0)), (pickL [(decide (lenT T > 64), false), (beL none T == 0, true), (decide ((0 : Int) = 0) && decide (lenT T = lenT T) && decide (lenT T ≤ 64) && decide (T = T), true)] [0, 1, 2])) := by kernel_rfl
set_option maxRecDepth 100000 in
theorem bef_00 (T : List (List Int)) : evR (ctxLp Try.prog tbI (fun _ => false) libU0 [] beLps) Try.f33 [(.w (.one (.fv (.tab [some .i64, some .i64, some .i64, none] T))))] [false, false] = some (AV.w (AW.one (AC.int IntKind.i64 (beL none T))), (pickL [(decide (lenT T > 64), false), (beL none T == 0, false), (decide ((0 : Int) = 0) && decide (lenT T = lenT T) && decide (lenT T ≤ 64) && decide (T = T), true)] [0, 1, 2])) := by kernel_rfl
theorem gBe_ok : (factSp gCb).ok Try.prog tbI 33 :=
  factR_ok (ctxLp_ok libU0_ok (eq_none _) (fns_nil _) (fun f fn h => by cases h)) (by kernel_rfl) Try.func33 rfl beLps_ok fun args v cd hg hc => by
    unfold gCb at hg
    split at hg
    · rename_i T
      cases hg
      refine ⟨rfl, rfl, rfl, ?_⟩
      by_cases h : 64 < lenT T
      · have c1 : decide (lenT T > 64) = true := decide_eq_true h
        rw [show cbE T = 2 from if_pos h]
        refine ⟨[true], _, _, bef_1 T, fun E u hu => hu, pickL_ok ?_ _⟩
        repeat' (first | exact cd_nil | refine cd_cons ?_ ?_)
        all_goals first | rfl | with_reducible assumption

      · have c1 : decide (lenT T > 64) = false := decide_eq_false h
        have c2 : (decide ((0 : Int) = 0) && decide (lenT T = lenT T) && decide (lenT T ≤ 64) && decide (T = T)) = true := by simp; omega
        rw [show cbE T = beL none T from if_neg h]
        by_cases hb : beL none T = 0
        · have c3 : (beL none T == 0) = true := by rw [hb]; rfl
          rw [hb] 
          refine ⟨[false, true], _, _, bef_01 T, fun E u hu => hu, pickL_ok ?_ _⟩
          repeat' (first | exact cd_nil | refine cd_cons ?_ ?_)
          all_goals first | rfl | with_reducible assumption

        · have c3 : (beL none T == 0) = false := by simpa using hb
          refine ⟨[false, false], _, _, bef_00 T, fun E u hu => hu, pickL_ok ?_ _⟩
          repeat' (first | exact cd_nil | refine cd_cons ?_ ?_)
          all_goals first | rfl | with_reducible assumption

    · cases hg
noncomputable abbrev libU2 : List (Nat × FnSp Nm) := [(94, sp1 dBd (fun b => aInt .i64 (chkB b)) (fun _ => [])), (15, nfn nI), (58, nfn nCmp), (12, nfn nPlus), (102, factSp gBd), (33, factSp (liftG cvN inN [some .i64, some .i64, some .i64, none] gCb))]
theorem libU2_ok : LibOk Try.prog numI (lib1 libU2) := (lib1_cons (sp1_ok fun a _ => ⟨_, rfl, berr_pl a⟩) Try.call94 (lib1_cons nI_ok Try.call15 (lib1_cons nCmp_ok Try.call58 (lib1_cons nPlus_ok Try.call12 (lib1_cons bdt_ok Try.call102 (lib1_cons (liftN_ok gBe_ok) Try.call33 (lib1_nil _ _)))))))
theorem fnsRo_ok : FnsOk Try.prog fnsRo := fns_cons Try.func101 rfl Try.call101 (fns_nil _)
theorem lps_ro : LpsOk Try.prog numI roLps Try.f35.ntmps (bodyOf Try.f35) := lps_cons (fun _ x hx => raD_ok x hx) (lps_cons (fun _ x hx => rbD_ok x hx) lps_nil)
theorem lps_rp : LpsOk Try.prog numI rpLps Try.f35.ntmps (bodyOf Try.f35) := lps_cons (fun _ x hx => raD_ok x hx) (lps_cons (fun _ x hx => rcD_ok x hx) lps_nil)
theorem fnl_ro : ∀ f fn, Ev.look f fnsRo = some fn → LpsOk Try.prog numI roLps fn.ntmps (bodyOf fn) := fun f fn h => by
  unfold fnsRo at h
  rw [look_cons] at h
  split at h
  · cases h; exact lps_cons (fun h => absurd h (by decide)) (lps_cons (fun h => absurd h (by decide)) lps_nil)
  · cases h
theorem fnl_rp : ∀ f fn, Ev.look f fnsRo = some fn → LpsOk Try.prog numI rpLps fn.ntmps (bodyOf fn) := fun f fn h => by
  unfold fnsRo at h
  rw [look_cons] at h
  split at h
  · cases h; exact lps_cons (fun h => absurd h (by decide)) (lps_cons (fun h => absurd h (by decide)) lps_nil)
  · cases h
theorem chk_known {b : Bd} (h : chkB b = 0) (hu : b.u = false) : knB b = true := by
  unfold chkB at h
  unfold knB
  rw [hu] at h ⊢
  cases h2 : inB b.lo && inB b.hi with
  | false => rw [h2] at h; cases h
  | true =>
    rw [h2] at h
    by_cases h3 : b.lo > b.hi
    · rw [decide_eq_true h3] at h; cases h
    · rw [decide_eq_true (show b.lo ≤ b.hi by omega)]; rfl
theorem chk_no {b : Bd} (h : chkB b ≠ 0) : knB b = false := by
  cases hk : knB b with
  | false => rfl
  | true =>
    have := knB_iff.1 hk
    exfalso; apply h
    unfold chkB
    rw [this.1, inB_iff.2 (by omega), inB_iff.2 (by omega), decide_eq_false (show ¬ b.lo > b.hi by omega)]; rfl
theorem hu_no {a b : Bd} (h : knB a = false ∨ knB b = false) : knB (hullB a b) = false := by
  unfold hullB
  rcases h with h | h <;> rw [h]
  · rfl
  · cases knB a <;> rfl
theorem hl_no : ∀ {R : List (List Int)} {b : Bd}, knB b = false → knB (hlF b R) = false
  | [], b, h => h
  | r :: R, b, h => hl_no (R := R) (b := hullB b (bLift r)) (hu_no (.inl h))
theorem hu_mk {a b : Bd} (ha : knB a = true) (hb : knB b = true) : hullB a b = ⟨minI a.lo b.lo, maxI a.hi b.hi, false⟩ ∧ knB (hullB a b) = true := by
  have ga := knB_iff.1 ha
  have gb := knB_iff.1 hb
  have m1 : minI a.lo b.lo = a.lo ∨ minI a.lo b.lo = b.lo := by unfold minI; split <;> simp
  have m2 : minI a.lo b.lo ≤ a.lo ∧ minI a.lo b.lo ≤ b.lo := by unfold minI; split <;> omega
  have m3 : maxI a.hi b.hi = a.hi ∨ maxI a.hi b.hi = b.hi := by unfold maxI; split <;> simp
  have m4 : a.hi ≤ maxI a.hi b.hi ∧ b.hi ≤ maxI a.hi b.hi := by unfold maxI; split <;> omega
  have e : hullB a b = ⟨minI a.lo b.lo, maxI a.hi b.hi, false⟩ := by
    unfold hullB
    rw [ha, hb]
    exact ofB_in (by omega) (by omega) (by omega)
  exact ⟨e, by rw [e]; exact knB_iff.2 ⟨rfl, by simp only; omega, by simp only; omega, by simp only; omega⟩⟩
theorem rb_hl : ∀ {R : List (List Int)} {a z : Int}, (∀ r ∈ R, chkB (bLift r) = 0) → knB ⟨a, z, false⟩ = true →
    ((rbR (some (a, z)) R).1 = true → ∃ A Z, (rbR (some (a, z)) R).2 = some (A, Z) ∧ hlF ⟨a, z, false⟩ R = ⟨A, Z, false⟩ ∧ knB (⟨A, Z, false⟩ : Bd) = true) ∧ ((rbR (some (a, z)) R).1 = false → knB (hlF ⟨a, z, false⟩ R) = false)
  | [], a, z, hR, hk => ⟨fun _ => ⟨a, z, rfl, rfl, hk⟩, fun h => by simp [rbR] at h⟩
  | r :: R, a, z, hR, hk => by
    unfold rbR
    by_cases hu : (bLift r).u = true
    · rw [if_pos hu]
      refine ⟨fun h => (by cases h), fun _ => ?_⟩
      have kn : knB (bLift r) = false := by unfold knB; rw [hu]; rfl
      exact hl_no (R := R) (b := hullB ⟨a, z, false⟩ (bLift r)) (hu_no (.inr kn))
    · rw [if_neg hu]
      have kn := chk_known (hR r (by simp)) (by simpa using hu)
      obtain ⟨e, k⟩ := hu_mk hk kn
      have eu : upW (some (a, z)) r = (minI a (bLift r).lo, maxI z (bLift r).hi) := rfl
      rw [eu]
      rw [e] at k
      have := rb_hl (R := R) (a := minI a (bLift r).lo) (z := maxI z (bLift r).hi) (fun q hq => hR q (by simp [hq])) k
      rw [show hlF ⟨a, z, false⟩ (r :: R) = hlF (hullB ⟨a, z, false⟩ (bLift r)) R from rfl, e]
      exact this
theorem fi_end (x : Int) (T : List (List Int)) : fiV x T (lenT T) = ggT (x + 1) T - 1 := by
  have := gg_in (x + 1) T
  unfold fiV; split <;> omega
theorem ki_end (y : Int) (T : List (List Int)) : kiV y T (lenT T) = if ggT y T = lenT T then -1 else ggT y T := by
  have := gg_in y T
  unfold kiV; split <;> split <;> omega
theorem drop_row {T : List (List Int)} (hs : beL none T = 0) {m n : Nat} (hm : m ≤ T.length) : ∀ r ∈ (T.take m).drop n, chkB (bLift r) = 0 := fun r hr => by
  have : r ∈ T := List.mem_of_mem_take (List.mem_of_mem_drop hr)
  obtain ⟨i, hi, e⟩ := List.getElem_of_mem this
  have := (be_row hs i hi).2
  unfold rwT at this
  rw [Int.toNat_natCast, List.getD_eq_getElem?_getD, List.getElem?_eq_getElem hi, Option.getD_some, e] at this
  exact this
set_option maxRecDepth 100000 in
theorem rof_1 (T : List (List Int)) (x : Int) (y : Int) (u : Bool) : evR (ctxLp Try.prog numI (fun _ => false) libU2 fnsRo roLps) Try.f35 [(.w (.one (.fv (.tab [some .i64, some .i64, some .i64, none] T)))), (.w (.agg [.int .i64 x, .int .i64 y, .bool u]))] [true] = some (AV.w (AW.agg [AC.int IntKind.i64 0, AC.int IntKind.i64 0, AC.yes true]), (pickL [(chkB { lo := x, hi := y, u := u } != 0, true), (true, true), (!false, true)] [0, 0, 0, 1, 2, 2, 2, 2, 1])) := by kernel_rfl
set_option maxRecDepth 100000 in
theorem rof_01 (T : List (List Int)) (x : Int) (y : Int) (u : Bool) : evR (ctxLp Try.prog numI (fun _ => false) libU2 fnsRo roLps) Try.f35 [(.w (.one (.fv (.tab [some .i64, some .i64, some .i64, none] T)))), (.w (.agg [.int .i64 x, .int .i64 y, .bool u]))] [false, true] = some (AV.w (AW.agg [AC.int IntKind.i64 0, AC.int IntKind.i64 0, AC.yes true]), (pickL [(chkB { lo := x, hi := y, u := u } != 0, false), (u, true), (!false, true), (true, true)] [0, 0, 0, 1, 2, 2, 2, 2, 3])) := by kernel_rfl
set_option maxRecDepth 100000 in
theorem rof_001 (T : List (List Int)) (x : Int) (y : Int) (u : Bool) : evR (ctxLp Try.prog numI (fun _ => false) libU2 fnsRo roLps) Try.f35 [(.w (.one (.fv (.tab [some .i64, some .i64, some .i64, none] T)))), (.w (.agg [.int .i64 x, .int .i64 y, .bool u]))] [false, false, true] = some (AV.w (AW.agg [AC.int IntKind.i64 0, AC.int IntKind.i64 0, AC.yes true]), (pickL [(chkB { lo := x, hi := y, u := u } != 0, false), (u, false), (i64B x, true), (i64B y, true), (!true, false), (cbE T != 0, true)] [0, 0, 0, 1, 2, 3, 4, 4, 4, 4, 5])) := by kernel_rfl
set_option maxRecDepth 100000 in
theorem rof_0001 (T : List (List Int)) (x : Int) (y : Int) (u : Bool) : evR (ctxLp Try.prog numI (fun _ => false) libU2 fnsRo roLps) Try.f35 [(.w (.one (.fv (.tab [some .i64, some .i64, some .i64, none] T)))), (.w (.agg [.int .i64 x, .int .i64 y, .bool u]))] [false, false, false, true] = some (AV.w (AW.agg [AC.int IntKind.i64 0, AC.int IntKind.i64 0, AC.yes true]), (pickL [(chkB { lo := x, hi := y, u := u } != 0, false), (u, false), (i64B x, true), (i64B y, true), (!true, false), (cbE T != 0, false), (decide (cbE T = 0) && decide (lenT T = lenT T) && decide ((0 : Int) = 0) && decide ((-1 : Int) = -1) && decide ((-1 : Int) = -1), true), (decide (fiV x T (lenT T) < 0), true), (true, true)] [0, 0, 0, 1, 2, 3, 4, 4, 4, 4, 5, 6, 7, 7, 7, 8])) := by kernel_rfl
set_option maxRecDepth 100000 in
theorem rof_00001 (T : List (List Int)) (x : Int) (y : Int) (u : Bool) : evR (ctxLp Try.prog numI (fun _ => false) libU2 fnsRo roLps) Try.f35 [(.w (.one (.fv (.tab [some .i64, some .i64, some .i64, none] T)))), (.w (.agg [.int .i64 x, .int .i64 y, .bool u]))] [false, false, false, false, true] = some (AV.w (AW.agg [AC.int IntKind.i64 0, AC.int IntKind.i64 0, AC.yes true]), (pickL [(chkB { lo := x, hi := y, u := u } != 0, false), (u, false), (i64B x, true), (i64B y, true), (!true, false), (cbE T != 0, false), (decide (cbE T = 0) && decide (lenT T = lenT T) && decide ((0 : Int) = 0) && decide ((-1 : Int) = -1) && decide ((-1 : Int) = -1), true), (decide (fiV x T (lenT T) < 0), false), (decide (kiV y T (lenT T) < 0), true)] [0, 0, 0, 1, 2, 3, 4, 4, 4, 4, 5, 6, 7, 7, 7, 8])) := by kernel_rfl
set_option maxRecDepth 100000 in
theorem rof_000001 (T : List (List Int)) (x : Int) (y : Int) (u : Bool) : evR (ctxLp Try.prog numI (fun _ => false) libU2 fnsRo roLps) Try.f35 [(.w (.one (.fv (.tab [some .i64, some .i64, some .i64, none] T)))), (.w (.agg [.int .i64 x, .int .i64 y, .bool u]))] [false, false, false, false, false, true] = some (AV.w (AW.agg [AC.int IntKind.i64 (ofB (x + ((rbR none (List.drop (fiV x T (lenT T)).toNat (List.take (kiV y T (lenT T) + 1).toNat T))).snd.getD (0, 0)).fst) (y + ((rbR none (List.drop (fiV x T (lenT T)).toNat (List.take (kiV y T (lenT T) + 1).toNat T))).snd.getD (0, 0)).snd)).lo, AC.int IntKind.i64 (ofB (x + ((rbR none (List.drop (fiV x T (lenT T)).toNat (List.take (kiV y T (lenT T) + 1).toNat T))).snd.getD (0, 0)).fst) (y + ((rbR none (List.drop (fiV x T (lenT T)).toNat (List.take (kiV y T (lenT T) + 1).toNat T))).snd.getD (0, 0)).snd)).hi, AC.bool (ofB (x + ((rbR none (List.drop (fiV x T (lenT T)).toNat (List.take (kiV y T (lenT T) + 1).toNat T))).snd.getD (0, 0)).fst) (y + ((rbR none (List.drop (fiV x T (lenT T)).toNat (List.take (kiV y T (lenT T) + 1).toNat T))).snd.getD (0, 0)).snd)).u]), (pickL [(chkB { lo := x, hi := y, u := u } != 0, false), (u, false), (i64B x, true), (i64B y, true), (!true, false), (cbE T != 0, false), (decide (cbE T = 0) && decide (lenT T = lenT T) && decide ((0 : Int) = 0) && decide ((-1 : Int) = -1) && decide ((-1 : Int) = -1), true), (decide (fiV x T (lenT T) < 0), false), (decide (kiV y T (lenT T) < 0), false), ((rbR none (List.drop (fiV x T (lenT T)).toNat (List.take (kiV y T (lenT T) + 1).toNat T))).fst, true), (decide (cbE T = 0) && decide (0 ≤ fiV x T (lenT T)) && decide (fiV x T (lenT T) ≤ kiV y T (lenT T)) && decide (kiV y T (lenT T) < lenT T) && decide (fiV x T (lenT T) = fiV x T (lenT T)) && decide ((none : Option (Int × Int)) = none) && !(bLift (rwT T (fiV x T (lenT T)))).u, true), (decide (x < 0) == decide (x < 0), true), (decide (((rbR none (List.drop (fiV x T (lenT T)).toNat (List.take (kiV y T (lenT T) + 1).toNat T))).snd.getD (0, 0)).fst < 0) == decide (((rbR none (List.drop (fiV x T (lenT T)).toNat (List.take (kiV y T (lenT T) + 1).toNat T))).snd.getD (0, 0)).fst < 0), true), (szB x, true), (szB ((rbR none (List.drop (fiV x T (lenT T)).toNat (List.take (kiV y T (lenT T) + 1).toNat T))).snd.getD (0, 0)).fst, true), (decide (y < 0) == decide (y < 0), true), (decide (((rbR none (List.drop (fiV x T (lenT T)).toNat (List.take (kiV y T (lenT T) + 1).toNat T))).snd.getD (0, 0)).snd < 0) == decide (((rbR none (List.drop (fiV x T (lenT T)).toNat (List.take (kiV y T (lenT T) + 1).toNat T))).snd.getD (0, 0)).snd < 0), true), (szB y, true), (szB ((rbR none (List.drop (fiV x T (lenT T)).toNat (List.take (kiV y T (lenT T) + 1).toNat T))).snd.getD (0, 0)).snd, true), (decide (x + ((rbR none (List.drop (fiV x T (lenT T)).toNat (List.take (kiV y T (lenT T) + 1).toNat T))).snd.getD (0, 0)).fst < 0) == decide (x + ((rbR none (List.drop (fiV x T (lenT T)).toNat (List.take (kiV y T (lenT T) + 1).toNat T))).snd.getD (0, 0)).fst < 0), true), (decide (y + ((rbR none (List.drop (fiV x T (lenT T)).toNat (List.take (kiV y T (lenT T) + 1).toNat T))).snd.getD (0, 0)).snd < 0) == decide (y + ((rbR none (List.drop (fiV x T (lenT T)).toNat (List.take (kiV y T (lenT T) + 1).toNat T))).snd.getD (0, 0)).snd < 0), true), (szB (x + ((rbR none (List.drop (fiV x T (lenT T)).toNat (List.take (kiV y T (lenT T) + 1).toNat T))).snd.getD (0, 0)).fst), true), (szB (y + ((rbR none (List.drop (fiV x T (lenT T)).toNat (List.take (kiV y T (lenT T) + 1).toNat T))).snd.getD (0, 0)).snd), true)] [0, 0, 0, 1, 2, 3, 4, 4, 4, 4, 5, 6, 7, 7, 7, 8, 9, 10, 11, 12, 13, 14, 15, 16, 17, 18, 19, 20, 21, 22])) := by kernel_rfl
set_option maxRecDepth 100000 in
theorem rof_000000 (T : List (List Int)) (x : Int) (y : Int) (u : Bool) : evR (ctxLp Try.prog numI (fun _ => false) libU2 fnsRo roLps) Try.f35 [(.w (.one (.fv (.tab [some .i64, some .i64, some .i64, none] T)))), (.w (.agg [.int .i64 x, .int .i64 y, .bool u]))] [false, false, false, false, false, false] = some (AV.w (AW.agg [AC.int IntKind.i64 0, AC.int IntKind.i64 0, AC.yes true]), (pickL [(chkB { lo := x, hi := y, u := u } != 0, false), (u, false), (i64B x, true), (i64B y, true), (!true, false), (cbE T != 0, false), (decide (cbE T = 0) && decide (lenT T = lenT T) && decide ((0 : Int) = 0) && decide ((-1 : Int) = -1) && decide ((-1 : Int) = -1), true), (decide (fiV x T (lenT T) < 0), false), (decide (kiV y T (lenT T) < 0), false), ((rbR none (List.drop (fiV x T (lenT T)).toNat (List.take (kiV y T (lenT T) + 1).toNat T))).fst, false), (decide (cbE T = 0) && decide (0 ≤ fiV x T (lenT T)) && decide (fiV x T (lenT T) ≤ kiV y T (lenT T)) && decide (kiV y T (lenT T) < lenT T) && decide (fiV x T (lenT T) = fiV x T (lenT T)) && decide ((none : Option (Int × Int)) = none) && !(bLift (rwT T (fiV x T (lenT T)))).u, true)] [0, 0, 0, 1, 2, 3, 4, 4, 4, 4, 5, 6, 7, 7, 7, 8, 9, 10])) := by kernel_rfl
set_option maxRecDepth 100000 in
theorem rog_1 (T : List (List Int)) (x : Int) (y : Int) (u : Bool) : evR (ctxLp Try.prog numI (fun _ => false) libU2 fnsRo rpLps) Try.f35 [(.w (.one (.fv (.tab [some .i64, some .i64, some .i64, none] T)))), (.w (.agg [.int .i64 x, .int .i64 y, .bool u]))] [true] = some (AV.w (AW.agg [AC.int IntKind.i64 0, AC.int IntKind.i64 0, AC.yes true]), (pickL [(chkB { lo := x, hi := y, u := u } != 0, true), (true, true), (!false, true)] [0, 0, 0, 1, 2, 2, 2, 2, 1])) := by kernel_rfl
set_option maxRecDepth 100000 in
theorem rog_01 (T : List (List Int)) (x : Int) (y : Int) (u : Bool) : evR (ctxLp Try.prog numI (fun _ => false) libU2 fnsRo rpLps) Try.f35 [(.w (.one (.fv (.tab [some .i64, some .i64, some .i64, none] T)))), (.w (.agg [.int .i64 x, .int .i64 y, .bool u]))] [false, true] = some (AV.w (AW.agg [AC.int IntKind.i64 0, AC.int IntKind.i64 0, AC.yes true]), (pickL [(chkB { lo := x, hi := y, u := u } != 0, false), (u, true), (!false, true), (true, true)] [0, 0, 0, 1, 2, 2, 2, 2, 3])) := by kernel_rfl
set_option maxRecDepth 100000 in
theorem rog_001 (T : List (List Int)) (x : Int) (y : Int) (u : Bool) : evR (ctxLp Try.prog numI (fun _ => false) libU2 fnsRo rpLps) Try.f35 [(.w (.one (.fv (.tab [some .i64, some .i64, some .i64, none] T)))), (.w (.agg [.int .i64 x, .int .i64 y, .bool u]))] [false, false, true] = some (AV.w (AW.agg [AC.int IntKind.i64 0, AC.int IntKind.i64 0, AC.yes true]), (pickL [(chkB { lo := x, hi := y, u := u } != 0, false), (u, false), (i64B x, true), (i64B y, true), (!true, false), (cbE T != 0, true)] [0, 0, 0, 1, 2, 3, 4, 4, 4, 4, 5])) := by kernel_rfl
set_option maxRecDepth 100000 in
theorem rog_0001 (T : List (List Int)) (x : Int) (y : Int) (u : Bool) : evR (ctxLp Try.prog numI (fun _ => false) libU2 fnsRo rpLps) Try.f35 [(.w (.one (.fv (.tab [some .i64, some .i64, some .i64, none] T)))), (.w (.agg [.int .i64 x, .int .i64 y, .bool u]))] [false, false, false, true] = some (AV.w (AW.agg [AC.int IntKind.i64 0, AC.int IntKind.i64 0, AC.yes true]), (pickL [(chkB { lo := x, hi := y, u := u } != 0, false), (u, false), (i64B x, true), (i64B y, true), (!true, false), (cbE T != 0, false), (decide (cbE T = 0) && decide (lenT T = lenT T) && decide ((0 : Int) = 0) && decide ((-1 : Int) = -1) && decide ((-1 : Int) = -1), true), (decide (fiV x T (lenT T) < 0), true), (true, true)] [0, 0, 0, 1, 2, 3, 4, 4, 4, 4, 5, 6, 7, 7, 7, 8])) := by kernel_rfl
set_option maxRecDepth 100000 in
theorem rog_00001 (T : List (List Int)) (x : Int) (y : Int) (u : Bool) : evR (ctxLp Try.prog numI (fun _ => false) libU2 fnsRo rpLps) Try.f35 [(.w (.one (.fv (.tab [some .i64, some .i64, some .i64, none] T)))), (.w (.agg [.int .i64 x, .int .i64 y, .bool u]))] [false, false, false, false, true] = some (AV.w (AW.agg [AC.int IntKind.i64 0, AC.int IntKind.i64 0, AC.yes true]), (pickL [(chkB { lo := x, hi := y, u := u } != 0, false), (u, false), (i64B x, true), (i64B y, true), (!true, false), (cbE T != 0, false), (decide (cbE T = 0) && decide (lenT T = lenT T) && decide ((0 : Int) = 0) && decide ((-1 : Int) = -1) && decide ((-1 : Int) = -1), true), (decide (fiV x T (lenT T) < 0), false), (decide (kiV y T (lenT T) < 0), true)] [0, 0, 0, 1, 2, 3, 4, 4, 4, 4, 5, 6, 7, 7, 7, 8])) := by kernel_rfl
set_option maxRecDepth 100000 in
theorem rog_00000 (T : List (List Int)) (x : Int) (y : Int) (u : Bool) : evR (ctxLp Try.prog numI (fun _ => false) libU2 fnsRo rpLps) Try.f35 [(.w (.one (.fv (.tab [some .i64, some .i64, some .i64, none] T)))), (.w (.agg [.int .i64 x, .int .i64 y, .bool u]))] [false, false, false, false, false] = some (AV.w (AW.agg [AC.int IntKind.i64 0, AC.int IntKind.i64 0, AC.yes true]), (pickL [(chkB { lo := x, hi := y, u := u } != 0, false), (u, false), (i64B x, true), (i64B y, true), (!true, false), (cbE T != 0, false), (decide (cbE T = 0) && decide (lenT T = lenT T) && decide ((0 : Int) = 0) && decide ((-1 : Int) = -1) && decide ((-1 : Int) = -1), true), (decide (fiV x T (lenT T) < 0), false), (decide (kiV y T (lenT T) < 0), false), (decide (cbE T = 0) && decide (0 ≤ fiV x T (lenT T)) && decide (fiV x T (lenT T) ≤ kiV y T (lenT T)) && decide (kiV y T (lenT T) < lenT T) && decide (fiV x T (lenT T) = fiV x T (lenT T)) && decide ((none : Option (Int × Int)) = none) && (bLift (rwT T (fiV x T (lenT T)))).u, true)] [0, 0, 0, 1, 2, 3, 4, 4, 4, 4, 5, 6, 7, 7, 7, 8, 9])) := by kernel_rfl
theorem gRa_ok : (factSp gRa).ok Try.prog numI 35 :=
  factR_ok (ctxLp_ok libU2_ok (eq_none _) fnsRo_ok fnl_ro) (by kernel_rfl) Try.func35 rfl lps_ro fun args v cd hg hc => by
    unfold gRa at hg
    split at hg
    · rename_i T x y u
      cases hg
      refine ⟨rfl, rfl, rfl, ?_⟩
      have hfu := c1' hc
      by_cases hk : chkB ⟨x, y, u⟩ = 0
      · have c1 : (chkB { lo := x, hi := y, u := u } != 0) = false := by rw [hk]; rfl
        obtain ⟨ix, iy⟩ := chk_in hk
        simp only at ix iy
        cases u with
        | true =>
          have hn : knB (⟨x, y, true⟩ : Bd) = false := by unfold knB; rfl
          rw [show rfV T ⟨x, y, true⟩ = noneB by unfold rfV; rw [if_neg (fun h => by rw [hn] at h; cases h.2)]]
          refine ⟨[false, true], _, _, rof_01 T x y true, fun E u hu => bd_R hu, pickL_ok ?_ _⟩
          repeat' (first | exact cd_nil | refine cd_cons ?_ ?_)
          all_goals first | rfl | with_reducible assumption | exact eqB _

        | false =>
          have kn := chk_known hk rfl
          by_cases h0 : cbE T = 0
          · have c2 : (cbE T != 0) = false := by rw [h0]; rfl
            obtain ⟨hl, hs⟩ := cb_len h0
            have kk := knB_iff.1 kn
            simp only at kk
            have tn : (T.length : Int) = lenT T := rfl
            have c3 : (decide (cbE T = 0) && decide (lenT T = lenT T) && decide ((0 : Int) = 0) && decide ((-1 : Int) = -1) && decide ((-1 : Int) = -1)) = true := by rw [decide_eq_true h0]; simp
            have g1 := gg_in (x + 1) T
            have g2 := gg_in y T
            have g3 := gg_mono (c := x) (d := y) (by omega) T
            have g4 := gg_succ x hs
            have ef := fi_end x T
            have ek := ki_end y T
            have df : rfF T ⟨x, y, false⟩ = ggT (x + 1) T - 1 := rfl
            have dl : rfL T ⟨x, y, false⟩ = ggT y T := rfl
            by_cases hf : ggT (x + 1) T - 1 < 0
            · have c4 : decide (fiV x T (lenT T) < 0) = true := by rw [ef]; exact decide_eq_true hf
              rw [show rfV T ⟨x, y, false⟩ = noneB by unfold rfV; rw [if_pos ⟨h0, kn⟩, if_pos (.inl (by omega))]]
              refine ⟨[false, false, false, true], _, _, rof_0001 T x y false, fun E u hu => bd_R hu, pickL_ok ?_ _⟩
              repeat' (first | exact cd_nil | refine cd_cons ?_ ?_)
              all_goals first | rfl | with_reducible assumption | exact eqB _

            · have c4 : decide (fiV x T (lenT T) < 0) = false := by rw [ef]; exact decide_eq_false hf
              by_cases he : ggT y T = lenT T
              · have c5 : decide (kiV y T (lenT T) < 0) = true := by rw [ek, if_pos he]; rfl
                rw [show rfV T ⟨x, y, false⟩ = noneB by unfold rfV; rw [if_pos ⟨h0, kn⟩, if_pos (.inr (by omega))]]
                refine ⟨[false, false, false, false, true], _, _, rof_00001 T x y false, fun E u hu => bd_R hu, pickL_ok ?_ _⟩
                repeat' (first | exact cd_nil | refine cd_cons ?_ ?_)
                all_goals first | rfl | with_reducible assumption | exact eqB _

              · have c5 : decide (kiV y T (lenT T) < 0) = false := by rw [ek, if_neg he]; exact decide_eq_false (by omega)
                have ek' : kiV y T (lenT T) = ggT y T := by rw [ek, if_neg he]
                have er : rfV T ⟨x, y, false⟩ = addB ⟨x, y, false⟩ (hlF (bLift (rwT T (ggT (x + 1) T - 1))) ((T.take (ggT y T + 1).toNat).drop (ggT (x + 1) T - 1 + 1).toNat)) := by unfold rfV; rw [if_pos ⟨h0, kn⟩, if_neg (by omega), df, dl]
                rw [er]
                have hfu' : (bLift (rwT T (ggT (x + 1) T - 1))).u = false := by
                  unfold fuB at hfu
                  rw [df] at hfu
                  simpa using hfu
                have c6 : (decide (cbE T = 0) && decide (0 ≤ ggT (x + 1) T - 1) && decide (ggT (x + 1) T - 1 ≤ ggT y T) && decide (ggT y T < lenT T) && decide (ggT (x + 1) T - 1 = ggT (x + 1) T - 1) && decide ((none : Option (Int × Int)) = none) && !(bLift (rwT T (ggT (x + 1) T - 1))).u) = true := by rw [decide_eq_true h0, decide_eq_true (show 0 ≤ ggT (x + 1) T - 1 by omega), decide_eq_true (show ggT (x + 1) T - 1 ≤ ggT y T by omega), decide_eq_true (show ggT y T < lenT T by omega), hfu']; simp
                have ht := take_rw (T := T) (m := (ggT y T + 1).toNat) (n := (ggT (x + 1) T - 1).toNat) (by omega) (by omega)
                rw [show (((ggT (x + 1) T - 1).toNat : Nat) : Int) = ggT (x + 1) T - 1 by omega, show (ggT (x + 1) T - 1).toNat + 1 = (ggT (x + 1) T - 1 + 1).toNat by omega] at ht
                have br := be_row hs (ggT (x + 1) T - 1).toNat (by omega)
                rw [show (((ggT (x + 1) T - 1).toNat : Nat) : Int) = ggT (x + 1) T - 1 by omega] at br
                have k1 := chk_known br.2 hfu'
                have b1 : bLift (rwT T (ggT (x + 1) T - 1)) = ⟨(bLift (rwT T (ggT (x + 1) T - 1))).lo, (bLift (rwT T (ggT (x + 1) T - 1))).hi, false⟩ := by
                  generalize bLift (rwT T (ggT (x + 1) T - 1)) = b at *
                  obtain ⟨p, q, w⟩ := b
                  cases (hfu' : w = false)
                  rfl
                have e0 : rbR none ((T.take (ggT y T + 1).toNat).drop (ggT (x + 1) T - 1).toNat) = rbR (some ((bLift (rwT T (ggT (x + 1) T - 1))).lo, (bLift (rwT T (ggT (x + 1) T - 1))).hi)) ((T.take (ggT y T + 1).toNat).drop (ggT (x + 1) T - 1 + 1).toNat) := by
                  rw [ht]
                  conv => lhs; unfold rbR
                  rw [if_neg (by rw [hfu']; decide)]
                  rfl
                obtain ⟨m1, m2⟩ := rb_hl (R := (T.take (ggT y T + 1).toNat).drop (ggT (x + 1) T - 1 + 1).toNat) (a := (bLift (rwT T (ggT (x + 1) T - 1))).lo) (z := (bLift (rwT T (ggT (x + 1) T - 1))).hi) (drop_row hs (by omega)) (by rw [← b1]; exact k1)
                rw [← e0, ← b1] at m1 m2
                cases hb : (rbR none ((T.take (ggT y T + 1).toNat).drop (ggT (x + 1) T - 1).toNat)).1 with
                | true =>
                  obtain ⟨A, Z, q1, q2, q3⟩ := m1 hb
                  have L := rof_000001 T x y false
                  rw [ef, ek', q1] at L
                  have kq := knB_iff.1 q3
                  simp only at kq
                  have ea : addB ⟨x, y, false⟩ (hlF (bLift (rwT T (ggT (x + 1) T - 1))) ((T.take (ggT y T + 1).toNat).drop (ggT (x + 1) T - 1 + 1).toNat)) = ofB (x + A) (y + Z) := by rw [q2]; unfold addB; rw [kn, q3]; rfl
                  rw [ea]
                  have iA : i64B A = true := i64B_iff.2 (by omega)
                  have iZ : i64B Z = true := i64B_iff.2 (by omega)
                  have s1 : szB x = true := (Dl.i64 ix).sz (by omega)
                  have s2 : szB y = true := (Dl.i64 iy).sz (by omega)
                  have s3 : szB A = true := (Dl.i64 iA).sz (by omega)
                  have s4 : szB Z = true := (Dl.i64 iZ).sz (by omega)
                  have s5 : szB (x + A) = true := ((Dl.i64 ix).add (Dl.i64 iA)).sz (by omega)
                  have s6 : szB (y + Z) = true := ((Dl.i64 iy).add (Dl.i64 iZ)).sz (by omega)
                  have t3 : szB ((some (A, Z)).getD (0, 0)).1 = true := s3
                  have t4 : szB ((some (A, Z)).getD (0, 0)).2 = true := s4
                  have t5 : szB (x + ((some (A, Z)).getD (0, 0)).1) = true := s5
                  have t6 : szB (y + ((some (A, Z)).getD (0, 0)).2) = true := s6
                  rw [ef] at c4
                  rw [ek'] at c5
                  refine ⟨[false, false, false, false, false, true], _, _, L, fun E u hu => hu, pickL_ok ?_ _⟩
                  repeat' (first | exact cd_nil | refine cd_cons ?_ ?_)
                  all_goals first | rfl | with_reducible assumption | exact eqB _

                | false =>
                  have ea : addB ⟨x, y, false⟩ (hlF (bLift (rwT T (ggT (x + 1) T - 1))) ((T.take (ggT y T + 1).toNat).drop (ggT (x + 1) T - 1 + 1).toNat)) = noneB := by unfold addB; rw [m2 hb]; cases knB (⟨x, y, false⟩ : Bd) <;> rfl
                  rw [ea]
                  have L := rof_000000 T x y false
                  rw [ef, ek'] at L
                  rw [ef] at c4
                  rw [ek'] at c5
                  refine ⟨[false, false, false, false, false, false], _, _, L, fun E u hu => bd_R hu, pickL_ok ?_ _⟩
                  repeat' (first | exact cd_nil | refine cd_cons ?_ ?_)
                  all_goals first | rfl | with_reducible assumption | exact eqB _

          · have c2 : (cbE T != 0) = true := by simpa using h0
            rw [show rfV T ⟨x, y, false⟩ = noneB by unfold rfV; rw [if_neg (fun h => h0 h.1)]]
            refine ⟨[false, false, true], _, _, rof_001 T x y false, fun E u hu => bd_R hu, pickL_ok ?_ _⟩
            repeat' (first | exact cd_nil | refine cd_cons ?_ ?_)
            all_goals first | rfl | with_reducible assumption | exact eqB _

      · have c1 : (chkB { lo := x, hi := y, u := u } != 0) = true := by simpa using hk
        rw [show rfV T ⟨x, y, u⟩ = noneB by unfold rfV; rw [if_neg (fun h => by rw [chk_no hk] at h; cases h.2)]]
        refine ⟨[true], _, _, rof_1 T x y u, fun E u hu => bd_R hu, pickL_ok ?_ _⟩
        repeat' (first | exact cd_nil | refine cd_cons ?_ ?_)
        all_goals first | rfl | with_reducible assumption | exact eqB _

    · cases hg
theorem gRb_ok : (factSp gRb).ok Try.prog numI 35 :=
  factR_ok (ctxLp_ok libU2_ok (eq_none _) fnsRo_ok fnl_rp) (by kernel_rfl) Try.func35 rfl lps_rp fun args v cd hg hc => by
    unfold gRb at hg
    split at hg
    · rename_i T x y u
      cases hg
      refine ⟨rfl, rfl, rfl, ?_⟩
      have hfu := c1' hc
      by_cases hk : chkB ⟨x, y, u⟩ = 0
      · have c1 : (chkB { lo := x, hi := y, u := u } != 0) = false := by rw [hk]; rfl
        obtain ⟨ix, iy⟩ := chk_in hk
        simp only at ix iy
        cases u with
        | true =>
          have hn : knB (⟨x, y, true⟩ : Bd) = false := by unfold knB; rfl
          rw [show rfV T ⟨x, y, true⟩ = noneB by unfold rfV; rw [if_neg (fun h => by rw [hn] at h; cases h.2)]]
          refine ⟨[false, true], _, _, rog_01 T x y true, fun E u hu => bd_R hu, pickL_ok ?_ _⟩
          repeat' (first | exact cd_nil | refine cd_cons ?_ ?_)
          all_goals first | rfl | with_reducible assumption | exact eqB _

        | false =>
          have kn := chk_known hk rfl
          by_cases h0 : cbE T = 0
          · have c2 : (cbE T != 0) = false := by rw [h0]; rfl
            obtain ⟨hl, hs⟩ := cb_len h0
            have kk := knB_iff.1 kn
            simp only at kk
            have tn : (T.length : Int) = lenT T := rfl
            have c3 : (decide (cbE T = 0) && decide (lenT T = lenT T) && decide ((0 : Int) = 0) && decide ((-1 : Int) = -1) && decide ((-1 : Int) = -1)) = true := by rw [decide_eq_true h0]; simp
            have g1 := gg_in (x + 1) T
            have g2 := gg_in y T
            have g3 := gg_mono (c := x) (d := y) (by omega) T
            have g4 := gg_succ x hs
            have ef := fi_end x T
            have ek := ki_end y T
            have df : rfF T ⟨x, y, false⟩ = ggT (x + 1) T - 1 := rfl
            have dl : rfL T ⟨x, y, false⟩ = ggT y T := rfl
            by_cases hf : ggT (x + 1) T - 1 < 0
            · have c4 : decide (fiV x T (lenT T) < 0) = true := by rw [ef]; exact decide_eq_true hf
              rw [show rfV T ⟨x, y, false⟩ = noneB by unfold rfV; rw [if_pos ⟨h0, kn⟩, if_pos (.inl (by omega))]]
              refine ⟨[false, false, false, true], _, _, rog_0001 T x y false, fun E u hu => bd_R hu, pickL_ok ?_ _⟩
              repeat' (first | exact cd_nil | refine cd_cons ?_ ?_)
              all_goals first | rfl | with_reducible assumption | exact eqB _

            · have c4 : decide (fiV x T (lenT T) < 0) = false := by rw [ef]; exact decide_eq_false hf
              by_cases he : ggT y T = lenT T
              · have c5 : decide (kiV y T (lenT T) < 0) = true := by rw [ek, if_pos he]; rfl
                rw [show rfV T ⟨x, y, false⟩ = noneB by unfold rfV; rw [if_pos ⟨h0, kn⟩, if_pos (.inr (by omega))]]
                refine ⟨[false, false, false, false, true], _, _, rog_00001 T x y false, fun E u hu => bd_R hu, pickL_ok ?_ _⟩
                repeat' (first | exact cd_nil | refine cd_cons ?_ ?_)
                all_goals first | rfl | with_reducible assumption | exact eqB _

              · have c5 : decide (kiV y T (lenT T) < 0) = false := by rw [ek, if_neg he]; exact decide_eq_false (by omega)
                have ek' : kiV y T (lenT T) = ggT y T := by rw [ek, if_neg he]
                have er : rfV T ⟨x, y, false⟩ = addB ⟨x, y, false⟩ (hlF (bLift (rwT T (ggT (x + 1) T - 1))) ((T.take (ggT y T + 1).toNat).drop (ggT (x + 1) T - 1 + 1).toNat)) := by unfold rfV; rw [if_pos ⟨h0, kn⟩, if_neg (by omega), df, dl]
                rw [er]
                have hfu' : (bLift (rwT T (ggT (x + 1) T - 1))).u = true := by
                  unfold fuB at hfu
                  rw [df] at hfu
                  exact hfu
                have c6 : (decide (cbE T = 0) && decide (0 ≤ ggT (x + 1) T - 1) && decide (ggT (x + 1) T - 1 ≤ ggT y T) && decide (ggT y T < lenT T) && decide (ggT (x + 1) T - 1 = ggT (x + 1) T - 1) && decide ((none : Option (Int × Int)) = none) && (bLift (rwT T (ggT (x + 1) T - 1))).u) = true := by rw [decide_eq_true h0, decide_eq_true (show 0 ≤ ggT (x + 1) T - 1 by omega), decide_eq_true (show ggT (x + 1) T - 1 ≤ ggT y T by omega), decide_eq_true (show ggT y T < lenT T by omega), hfu']; simp
                have kn1 : knB (bLift (rwT T (ggT (x + 1) T - 1))) = false := by unfold knB; rw [hfu']; rfl
                have ea : addB ⟨x, y, false⟩ (hlF (bLift (rwT T (ggT (x + 1) T - 1))) ((T.take (ggT y T + 1).toNat).drop (ggT (x + 1) T - 1 + 1).toNat)) = noneB := by unfold addB; rw [hl_no kn1]; cases knB (⟨x, y, false⟩ : Bd) <;> rfl
                rw [ea]
                have L := rog_00000 T x y false
                rw [ef, ek'] at L
                rw [ef] at c4
                rw [ek'] at c5
                refine ⟨[false, false, false, false, false], _, _, L, fun E u hu => bd_R hu, pickL_ok ?_ _⟩
                repeat' (first | exact cd_nil | refine cd_cons ?_ ?_)
                all_goals first | rfl | with_reducible assumption | exact eqB _

          · have c2 : (cbE T != 0) = true := by simpa using h0
            rw [show rfV T ⟨x, y, false⟩ = noneB by unfold rfV; rw [if_neg (fun h => h0 h.1)]]
            refine ⟨[false, false, true], _, _, rog_001 T x y false, fun E u hu => bd_R hu, pickL_ok ?_ _⟩
            repeat' (first | exact cd_nil | refine cd_cons ?_ ?_)
            all_goals first | rfl | with_reducible assumption | exact eqB _

      · have c1 : (chkB { lo := x, hi := y, u := u } != 0) = true := by simpa using hk
        rw [show rfV T ⟨x, y, u⟩ = noneB by unfold rfV; rw [if_neg (fun h => by rw [chk_no hk] at h; cases h.2)]]
        refine ⟨[true], _, _, rog_1 T x y u, fun E u hu => bd_R hu, pickL_ok ?_ _⟩
        repeat' (first | exact cd_nil | refine cd_cons ?_ ?_)
        all_goals first | rfl | with_reducible assumption | exact eqB _

    · cases hg
theorem gRo_ok : (factSp gRo).ok Try.prog numI 35 := by
  intro E hp w slot args us bs out dt hrun ha hbl hm hfr hc
  simp only [factSp] at hrun
  split at hrun
  · rename_i v cd hg
    cases hrun
    unfold gRo at hg
    split at hg
    · rename_i T x y u
      cases hg
      cases hf : fuB T ⟨x, y, u⟩ with
      | false => exact gRa_ok E hp w slot _ us bs ⟨bC' (rfV T ⟨x, y, u⟩), [], [(!fuB T ⟨x, y, u⟩, true)]⟩ dt rfl ha hbl hm hfr (fun p hp => by simp only [List.mem_singleton] at hp; subst hp; rw [hf]; rfl)
      | true => exact gRb_ok E hp w slot _ us bs ⟨bC' (rfV T ⟨x, y, u⟩), [], [(fuB T ⟨x, y, u⟩, true)]⟩ dt rfl ha hbl hm hfr (fun p hp => by simp only [List.mem_singleton] at hp; subst hp; exact hf)
    · cases hg
  · cases hrun
end
end Go.Proofs.Ytagbpehfieejcaa.AtHz

