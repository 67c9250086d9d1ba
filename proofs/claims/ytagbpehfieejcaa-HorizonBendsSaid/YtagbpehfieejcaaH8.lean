/-
  Package horizon: CheckBends and Refract as functions of tables of refraction.
  Conditions: those of each theorem.
-/
import Derived.Test.YtagbpehfieejcaaH7
set_option linter.unusedVariables false
set_option linter.unusedSimpArgs false
namespace Go.Proofs.Ytagbpehfieejcaa.AtHz
open Go.RowKit Ev Wd
open Go.Proofs.Ytagbpehfieejcaa
variable {F : Type}
noncomputable section

/-- A known Boolean counts as a Boolean. -/
def unY : AC F → AC F
  | .yes b => .bool b
  | x => x
def unYV : AV F → AV F
  | .w (.one c) => .w (.one (unY c))
  | .w (.agg cs) => .w (.agg (cs.map unY))
  | x => x
theorem unY_R {E : Env F} {c : AC F} {v : Value} (h : c.R E v) : (unY c).R E v := by
  unfold unY
  split
  · exact h
  · exact h
theorem unYs_R {E : Env F} {l : List (AC F)} {us : List Value} (h : All2 (AC.R E) l us) : All2 (AC.R E) (l.map unY) us := by
  induction h with
  | nil => exact .nil
  | cons r _ ih => exact .cons (unY_R r) ih
theorem unYV_R {E : Env F} {x : AV F} {v : Value} (h : x.R E v) : (unYV x).R E v := by
  unfold unYV
  split
  · exact unY_R h
  · obtain ⟨us, rfl, h⟩ := h
    exact ⟨us, rfl, unYs_R h⟩
  · exact h
theorem unYVs_R {E : Env F} {l : List (AV F)} {us : List Value} (h : All2 (AV.R E) l us) : All2 (AV.R E) (l.map unYV) us := by
  induction h with
  | nil => exact .nil
  | cons r _ ih => exact .cons (unYV_R r) ih
def yesSp (s : FnSp F) : FnSp F where
  blocks := fun args => s.blocks (args.map unYV)
  run := fun slot args bs => s.run slot (args.map unYV) bs
theorem yesSp_ok {P : Program} {I : Interp F} {f : FuncId} {s : FnSp F} (h : s.ok P I f) : (yesSp s).ok P I f :=
  fun E hp w slot args us bs out dt hrun ha hbl hm hfr hc => h E hp w slot _ us bs out dt hrun (unYVs_R ha) hbl hm hfr hc
abbrev bC' (a : Bd) : AV F := .w (.agg [.int .i64 a.lo, .int .i64 a.hi, .bool a.u])
def rfF (T : List (List Int)) (a : Bd) : Int := ggT (a.lo + 1) T - 1
def rfL (T : List (List Int)) (a : Bd) : Int := ggT a.hi T
/-- P10.7. -/
def rfV (T : List (List Int)) (a : Bd) : Bd := if cbE T = 0 ∧ knB a = true then (if rfF T a < 0 ∨ rfL T a = lenT T then noneB else addB a (hlF (bLift (rwT T (rfF T a))) ((T.take (rfL T a + 1).toNat).drop (rfF T a + 1).toNat))) else noneB
def gCb : List (AV Tb) → Option (AV Tb × List (Bool × Bool))
  | [.w (.one (.fv (.tab [some .i64, some .i64, some .i64, none] T)))] => some (.w (.one (.int .i64 (cbE T))), [])
  | _ => none
def gRf : List (AV Tb) → Option (AV Tb × List (Bool × Bool))
  | [.w (.one (.fv (.tab [some .i64, some .i64, some .i64, none] T))), .w (.agg [.int .i64 x, .int .i64 y, .bool u])] => some (bC' (rfV T ⟨x, y, u⟩), [])
  | _ => none
noncomputable abbrev cbLps : Lps Tb := [((40, [false, true, false, true, true]), cbD.sp (fun _ => true))]
noncomputable abbrev rfLps : Lps Tb := [((26, [false, false, true, true]), (saD.sp (fun _ => true)).or (sbD.sp (fun _ => true))), ((61, [false, true, false, true, true, true, true, true, true]), rlD.sp (fun _ => true))]
noncomputable abbrev fnsRf : List (Nat × Func) := [(97, Try.f97), (98, Try.f98), (99, Try.f99)]
theorem cbLps_ok : LpsOk Try.prog tbI cbLps Try.f32.ntmps (bodyOf Try.f32) := lps_cons (fun _ x hx => cbD_ok x hx) lps_nil
set_option maxRecDepth 100000 in
theorem cbf_1 (T : List (List Int)) : evR (ctxLp Try.prog tbI (fun _ => false) libJ0 [] cbLps) Try.f32 [(.w (.one (.fv (.tab [some .i64, some .i64, some .i64, none] T))))] [true] = some (AV.w (AW.one (AC.int IntKind.i64 2)), (pickL [(decide (lenT T > 64), true)] [0])) := by kernel_rfl
set_option maxRecDepth 100000 in
theorem cbf_01 (T : List (List Int)) : evR (ctxLp Try.prog tbI (fun _ => false) libJ0 [] cbLps) Try.f32 [(.w (.one (.fv (.tab [some .i64, some .i64, some .i64, none] T))))] [false, true] = some (AV.w (AW.one (AC.int IntKind.i64 0)), (pickL [(decide (lenT T > 64), false), (beL none T == 0, true), (decide ((0 : Int) = 0) && decide (lenT T = lenT T) && decide (lenT T ≤ 64) && decide (T = T), true)] [0, 1, 2])) := by kernel_rfl
set_option maxRecDepth 100000 in
theorem cbf_00 (T : List (List Int)) : evR (ctxLp Try.prog tbI (fun _ => false) libJ0 [] cbLps) Try.f32 [(.w (.one (.fv (.tab [some .i64, some .i64, some .i64, none] T))))] [false, false] = some (AV.w (AW.one (AC.int IntKind.i64 (beL none T))), (pickL [(decide (lenT T > 64), false), (beL none T == 0, false), (decide ((0 : Int) = 0) && decide (lenT T = lenT T) && decide (lenT T ≤ 64) && decide (T = T), true)] [0, 1, 2])) := by kernel_rfl
theorem gCb_ok : (factSp gCb).ok Try.prog tbI 32 :=
  factR_ok (ctxLp_ok libJ0_ok (eq_none _) (fns_nil _) (fun f fn h => by cases h)) (by kernel_rfl) Try.func32 rfl cbLps_ok fun args v cd hg hc => by
    unfold gCb at hg
    split at hg
    · rename_i T
      cases hg
      refine ⟨rfl, rfl, rfl, ?_⟩
      by_cases h : 64 < lenT T
      · have c1 : decide (lenT T > 64) = true := decide_eq_true h
        rw [show cbE T = 2 from if_pos h]
        refine ⟨[true], _, _, cbf_1 T, fun E u hu => hu, pickL_ok ?_ _⟩
        repeat' (first | exact cd_nil | refine cd_cons ?_ ?_)
        all_goals first | rfl | with_reducible assumption

      · have c1 : decide (lenT T > 64) = false := decide_eq_false h
        have c2 : (decide ((0 : Int) = 0) && decide (lenT T = lenT T) && decide (lenT T ≤ 64) && decide (T = T)) = true := by simp; omega
        rw [show cbE T = beL none T from if_neg h]
        by_cases hb : beL none T = 0
        · have c3 : (beL none T == 0) = true := by rw [hb]; rfl
          rw [hb] 
          refine ⟨[false, true], _, _, cbf_01 T, fun E u hu => hu, pickL_ok ?_ _⟩
          repeat' (first | exact cd_nil | refine cd_cons ?_ ?_)
          all_goals first | rfl | with_reducible assumption

        · have c3 : (beL none T == 0) = false := by simpa using hb
          refine ⟨[false, false], _, _, cbf_00 T, fun E u hu => hu, pickL_ok ?_ _⟩
          repeat' (first | exact cd_nil | refine cd_cons ?_ ?_)
          all_goals first | rfl | with_reducible assumption

    · cases hg
noncomputable abbrev libJ3 : List (Nat × FnSp Tb) := [(32, factSp gCb), (95, sp1 dBd (fun b => bC' (normB b)) (fun _ => [])), (96, sp0 (bC' noneB)), (100, sp2 dBd dBd (fun a b => bC' (hullB a b)) (fun _ _ => [])), (56, sp2 dBd dBd (fun a b => bC' (addB a b)) (fun _ _ => []))]
theorem libJ3_ok : LibOk Try.prog tbI (lib1 libJ3) := (lib1_cons gCb_ok Try.call32 (lib1_cons (sp1_ok fun a _ => ⟨_, rfl, AtArc.norm_pl a⟩) Try.call95 (lib1_cons (sp0_ok rfl AtArc.none_pl) Try.call96 (lib1_cons (sp2_ok fun a b _ => ⟨_, rfl, AtArc.hull_pl a b⟩) Try.call100 (lib1_cons (sp2_ok fun a b _ => ⟨_, rfl, AtArc.add_pl a b⟩) Try.call56 (lib1_nil _ _))))))
theorem orD_ok (x : Code) (hx : codeAt (bodyOf Try.f97) [false, false, true, true] = some (.loop x)) : LpOk Try.prog tbI 26 x ((saD.sp (fun _ => true)).or (sbD.sp (fun _ => true))) := lpOr_ok (saD_ok x hx) (sbD_ok x hx) rfl (fun _ _ => rfl) (fun _ _ => rfl)
theorem lps_Search : LpsOk Try.prog tbI rfLps Try.f97.ntmps (bodyOf Try.f97) := lps_cons (fun _ x hx => orD_ok x hx) (lps_cons (fun h => absurd h (by decide)) lps_nil)
theorem lps_Rf1 : LpsOk Try.prog tbI rfLps Try.f98.ntmps (bodyOf Try.f98) := lps_cons (fun h => absurd h (by decide)) (lps_cons (fun h => absurd h (by decide)) lps_nil)
theorem lps_Rf2 : LpsOk Try.prog tbI rfLps Try.f99.ntmps (bodyOf Try.f99) := lps_cons (fun h => absurd h (by decide)) (lps_cons (fun h => absurd h (by decide)) lps_nil)
theorem lps_Refract : LpsOk Try.prog tbI rfLps Try.f34.ntmps (bodyOf Try.f34) := lps_cons (fun h => absurd h (by decide)) (lps_cons (fun _ x hx => rlD_ok x hx) lps_nil)
theorem fnsRf_ok : FnsOk Try.prog fnsRf := fns_cons Try.func97 rfl Try.call97 (fns_cons Try.func98 rfl Try.call98 (fns_cons Try.func99 rfl Try.call99 (fns_nil _)))
theorem fnl_Rf : ∀ f fn, Ev.look f fnsRf = some fn → LpsOk Try.prog tbI rfLps fn.ntmps (bodyOf fn) := fun f fn h => by
  unfold fnsRf at h
  rw [look_cons] at h
  split at h
  · cases h; exact lps_Search
  · rw [look_cons] at h
    split at h
    · cases h; exact lps_Rf1
    · rw [look_cons] at h
      split at h
      · cases h; exact lps_Rf2
      · cases h
theorem norm_kn (a : Bd) : (normB a).u = !knB a := by
  unfold normB
  cases h : knB a with
  | true => have := knB_iff.1 h; rw [cond_true, this.1]; rfl
  | false => rfl
theorem gg_mono {c d : Int} (h : c ≤ d) : ∀ T : List (List Int), ggT c T ≤ ggT d T
  | [] => by unfold ggT; omega
  | r :: T => by
    have := gg_mono h T
    have := gg_in d T
    rw [ggT, ggT]
    split <;> split <;> omega
theorem gg_succ (c : Int) : ∀ {T : List (List Int)} {p : Option Int}, beL p T = 0 → ggT (c + 1) T ≤ ggT c T + 1
  | [], p, h => by unfold ggT; omega
  | r :: T, p, h => by
    obtain ⟨h1, h2, h3, h4⟩ := be_ok h
    rw [ggT, ggT]
    by_cases a : c + 1 ≤ bAlt r
    · rw [if_pos a, if_pos (by omega)]; omega
    · rw [if_neg a]
      by_cases b : c ≤ bAlt r
      · rw [if_pos b]
        have e : ggT (c + 1) T = 0 := by
          cases T with
          | nil => rfl
          | cons r' T' =>
            have g := be_gt h4 0 (by simp)
            rw [show rwT (r' :: T') ((0 : Nat) : Int) = r' from rfl] at g
            rw [ggT, if_pos (by omega)]
        omega
      · rw [if_neg b]
        have := gg_succ c h4
        omega
set_option maxRecDepth 100000 in
theorem rfb_1 (T : List (List Int)) (x : Int) (y : Int) (u : Bool) : evR (ctxLp Try.prog tbI (fun _ => false) libJ3 fnsRf rfLps) Try.f34 [(.w (.one (.fv (.tab [some .i64, some .i64, some .i64, none] T)))), (.w (.agg [.int .i64 x, .int .i64 y, .bool u]))] [true] = some (AV.w (AW.agg [AC.int IntKind.i64 noneB.lo, AC.int IntKind.i64 noneB.hi, AC.bool noneB.u]), (pickL [(cbE T != 0, true), (true, true)] [0, 0, 0, 0, 1])) := by kernel_rfl
set_option maxRecDepth 100000 in
theorem rfb_01 (T : List (List Int)) (x : Int) (y : Int) (u : Bool) : evR (ctxLp Try.prog tbI (fun _ => false) libJ3 fnsRf rfLps) Try.f34 [(.w (.one (.fv (.tab [some .i64, some .i64, some .i64, none] T)))), (.w (.agg [.int .i64 x, .int .i64 y, .bool u]))] [false, true] = some (AV.w (AW.agg [AC.int IntKind.i64 noneB.lo, AC.int IntKind.i64 noneB.hi, AC.bool noneB.u]), (pickL [(cbE T != 0, false), ((normB { lo := x, hi := y, u := u }).u, true)] [0, 0, 0, 0, 1])) := by kernel_rfl
set_option maxRecDepth 100000 in
theorem rfb_001 (T : List (List Int)) (x : Int) (y : Int) (u : Bool) : evR (ctxLp Try.prog tbI (fun _ => false) libJ3 fnsRf rfLps) Try.f34 [(.w (.one (.fv (.tab [some .i64, some .i64, some .i64, none] T)))), (.w (.agg [.int .i64 x, .int .i64 y, .bool u]))] [false, false, true] = some (AV.w (AW.agg [AC.int IntKind.i64 noneB.lo, AC.int IntKind.i64 noneB.hi, AC.bool noneB.u]), (pickL [(cbE T != 0, false), ((normB { lo := x, hi := y, u := u }).u, false), (decide (cbE T = 0) && i64B x && i64B y && decide ((0 : Int) = 0) && decide (lenT T = lenT T), true), (decide (IntKind.i64.wrap (ggT (x + 1) T - 1) < 0), true), (true, true)] [0, 0, 0, 0, 1, 2, 2, 3, 3, 3, 3, 3, 4])) := by kernel_rfl
set_option maxRecDepth 100000 in
theorem rfb_0001 (T : List (List Int)) (x : Int) (y : Int) (u : Bool) : evR (ctxLp Try.prog tbI (fun _ => false) libJ3 fnsRf rfLps) Try.f34 [(.w (.one (.fv (.tab [some .i64, some .i64, some .i64, none] T)))), (.w (.agg [.int .i64 x, .int .i64 y, .bool u]))] [false, false, false, true] = some (AV.w (AW.agg [AC.int IntKind.i64 noneB.lo, AC.int IntKind.i64 noneB.hi, AC.bool noneB.u]), (pickL [(cbE T != 0, false), ((normB { lo := x, hi := y, u := u }).u, false), (decide (cbE T = 0) && i64B x && i64B y && decide ((0 : Int) = 0) && decide (lenT T = lenT T), true), (decide (IntKind.i64.wrap (ggT (x + 1) T - 1) < 0), false), (ggT y T == lenT T, true)] [0, 0, 0, 0, 1, 2, 2, 3, 3, 3, 3, 3, 4])) := by kernel_rfl
set_option maxRecDepth 100000 in
theorem rfb_0000 (T : List (List Int)) (x : Int) (y : Int) (u : Bool) : evR (ctxLp Try.prog tbI (fun _ => false) libJ3 fnsRf rfLps) Try.f34 [(.w (.one (.fv (.tab [some .i64, some .i64, some .i64, none] T)))), (.w (.agg [.int .i64 x, .int .i64 y, .bool u]))] [false, false, false, false] = some (AV.w (AW.agg [AC.int IntKind.i64 (addB { lo := x, hi := y, u := u } (hlF { lo := cel T (IntKind.i64.wrap (ggT (x + 1) T - 1)) 1, hi := cel T (IntKind.i64.wrap (ggT (x + 1) T - 1)) 2, u := decide (cel T (IntKind.i64.wrap (ggT (x + 1) T - 1)) 3 = 1) } (List.drop (IntKind.i64.wrap (IntKind.i64.wrap (ggT (x + 1) T - 1) + 1)).toNat (List.take (IntKind.i64.wrap (ggT y T + 1)).toNat T)))).lo, AC.int IntKind.i64 (addB { lo := x, hi := y, u := u } (hlF { lo := cel T (IntKind.i64.wrap (ggT (x + 1) T - 1)) 1, hi := cel T (IntKind.i64.wrap (ggT (x + 1) T - 1)) 2, u := decide (cel T (IntKind.i64.wrap (ggT (x + 1) T - 1)) 3 = 1) } (List.drop (IntKind.i64.wrap (IntKind.i64.wrap (ggT (x + 1) T - 1) + 1)).toNat (List.take (IntKind.i64.wrap (ggT y T + 1)).toNat T)))).hi, AC.bool (addB { lo := x, hi := y, u := u } (hlF { lo := cel T (IntKind.i64.wrap (ggT (x + 1) T - 1)) 1, hi := cel T (IntKind.i64.wrap (ggT (x + 1) T - 1)) 2, u := decide (cel T (IntKind.i64.wrap (ggT (x + 1) T - 1)) 3 = 1) } (List.drop (IntKind.i64.wrap (IntKind.i64.wrap (ggT (x + 1) T - 1) + 1)).toNat (List.take (IntKind.i64.wrap (ggT y T + 1)).toNat T)))).u]), (pickL [(cbE T != 0, false), ((normB { lo := x, hi := y, u := u }).u, false), (decide (cbE T = 0) && i64B x && i64B y && decide ((0 : Int) = 0) && decide (lenT T = lenT T), true), (decide (IntKind.i64.wrap (ggT (x + 1) T - 1) < 0), false), (ggT y T == lenT T, false), (decide (0 ≤ IntKind.i64.wrap (ggT (x + 1) T - 1)), true), (decide (IntKind.i64.wrap (ggT (x + 1) T - 1) < lenT T), true), (decide (0 ≤ IntKind.i64.wrap (IntKind.i64.wrap (ggT (x + 1) T - 1) + 1)), true), (decide (IntKind.i64.wrap (IntKind.i64.wrap (ggT (x + 1) T - 1) + 1) ≤ IntKind.i64.wrap (ggT y T + 1)), true), (decide (IntKind.i64.wrap (ggT y T + 1) ≤ lenT T), true), (decide ((0 : Int) = 0) && decide (lenT (List.drop (IntKind.i64.wrap (IntKind.i64.wrap (ggT (x + 1) T - 1) + 1)).toNat (List.take (IntKind.i64.wrap (ggT y T + 1)).toNat T)) = lenT (List.drop (IntKind.i64.wrap (IntKind.i64.wrap (ggT (x + 1) T - 1) + 1)).toNat (List.take (IntKind.i64.wrap (ggT y T + 1)).toNat T))) && decide (lenT (List.drop (IntKind.i64.wrap (IntKind.i64.wrap (ggT (x + 1) T - 1) + 1)).toNat (List.take (IntKind.i64.wrap (ggT y T + 1)).toNat T)) ≤ 64), true)] [0, 0, 0, 0, 1, 2, 2, 3, 3, 3, 3, 3, 4, 5, 6, 5, 6, 7, 8, 9, 10])) := by kernel_rfl
theorem gRf_ok : (factSp gRf).ok Try.prog tbI 34 :=
  factR_ok (ctxLp_ok libJ3_ok (eq_none _) fnsRf_ok fnl_Rf) (by kernel_rfl) Try.func34 rfl lps_Refract fun args v cd hg hc => by
    unfold gRf at hg
    split at hg
    · rename_i T x y u
      cases hg
      refine ⟨rfl, rfl, rfl, ?_⟩
      by_cases h0 : cbE T = 0
      · have c1 : (cbE T != 0) = false := by rw [h0]; rfl
        obtain ⟨hl, hs⟩ := cb_len h0
        have ln := lenT_nn' T
        cases hk : knB ⟨x, y, u⟩ with
        | true =>
          have c2 : (normB { lo := x, hi := y, u := u }).u = false := by rw [norm_kn, hk]; rfl
          have kk := knB_iff.1 hk
          simp only at kk
          have ix : i64B x = true := i64B_iff.2 (by omega)
          have iy : i64B y = true := i64B_iff.2 (by omega)
          have c3 : (decide (cbE T = 0) && i64B x && i64B y && decide ((0 : Int) = 0) && decide (lenT T = lenT T)) = true := by rw [decide_eq_true h0, ix, iy]; simp
          have g1 := gg_in (x + 1) T
          have g2 := gg_in y T
          have g3 := gg_mono (c := x) (d := y) (by omega) T
          have g4 := gg_succ x hs
          have ef : IntKind.i64.wrap (ggT (x + 1) T - 1) = rfF T ⟨x, y, u⟩ := v64 (by omega) (by omega)
          have df : rfF T ⟨x, y, u⟩ = ggT (x + 1) T - 1 := rfl
          have dl : rfL T ⟨x, y, u⟩ = ggT y T := rfl
          by_cases hf : rfF T ⟨x, y, u⟩ < 0
          · have c4 : decide (rfF T ⟨x, y, u⟩ < 0) = true := decide_eq_true hf
            have L := rfb_001 T x y u
            rw [ef] at L
            rw [show rfV T ⟨x, y, u⟩ = noneB by unfold rfV; rw [if_pos ⟨h0, hk⟩, if_pos (.inl hf)]]
            refine ⟨[false, false, true], _, _, L, fun E u hu => hu, pickL_ok ?_ _⟩
            repeat' (first | exact cd_nil | refine cd_cons ?_ ?_)
            all_goals first | rfl | with_reducible assumption

          · have c4 : decide (rfF T ⟨x, y, u⟩ < 0) = false := decide_eq_false hf
            by_cases he : ggT y T = lenT T
            · have c5 : (ggT y T == lenT T) = true := by rw [he]; simp
              have L := rfb_0001 T x y u
              rw [ef] at L
              rw [show rfV T ⟨x, y, u⟩ = noneB by unfold rfV; rw [if_pos ⟨h0, hk⟩, if_pos (.inr he)]]
              refine ⟨[false, false, false, true], _, _, L, fun E u hu => hu, pickL_ok ?_ _⟩
              repeat' (first | exact cd_nil | refine cd_cons ?_ ?_)
              all_goals first | rfl | with_reducible assumption

            · have c5 : (ggT y T == lenT T) = false := by simpa using he
              have e1 : IntKind.i64.wrap (rfF T ⟨x, y, u⟩ + 1) = rfF T ⟨x, y, u⟩ + 1 := v64 (by omega) (by omega)
              have e2 : IntKind.i64.wrap (ggT y T + 1) = rfL T ⟨x, y, u⟩ + 1 := v64 (by omega) (by omega)
              have L := rfb_0000 T x y u
              rw [ef, e1, e2] at L
              have c6 : decide (0 ≤ rfF T ⟨x, y, u⟩) = true := decide_eq_true (by omega)
              have c7 : decide (rfF T ⟨x, y, u⟩ < lenT T) = true := decide_eq_true (by omega)
              have c8 : decide (0 ≤ rfF T ⟨x, y, u⟩ + 1) = true := decide_eq_true (by omega)
              have c9 : decide (rfF T ⟨x, y, u⟩ + 1 ≤ rfL T ⟨x, y, u⟩ + 1) = true := decide_eq_true (by omega)
              have c10 : decide (rfL T ⟨x, y, u⟩ + 1 ≤ lenT T) = true := decide_eq_true (by omega)
              have c11 : (decide ((0 : Int) = 0) && decide (lenT (List.drop (rfF T ⟨x, y, u⟩ + 1).toNat (List.take (rfL T ⟨x, y, u⟩ + 1).toNat T)) = lenT (List.drop (rfF T ⟨x, y, u⟩ + 1).toNat (List.take (rfL T ⟨x, y, u⟩ + 1).toNat T))) && decide (lenT (List.drop (rfF T ⟨x, y, u⟩ + 1).toNat (List.take (rfL T ⟨x, y, u⟩ + 1).toNat T)) ≤ 64)) = true := by
                have hle : lenT (List.drop (rfF T ⟨x, y, u⟩ + 1).toNat (List.take (rfL T ⟨x, y, u⟩ + 1).toNat T)) ≤ 64 := by
                  unfold lenT at *
                  rw [List.length_drop, List.length_take]; omega
                rw [decide_eq_true hle]; simp
              rw [show rfV T ⟨x, y, u⟩ = addB ⟨x, y, u⟩ (hlF (bLift (rwT T (rfF T ⟨x, y, u⟩))) ((T.take (rfL T ⟨x, y, u⟩ + 1).toNat).drop (rfF T ⟨x, y, u⟩ + 1).toNat)) by unfold rfV; rw [if_pos ⟨h0, hk⟩, if_neg (fun h => h.elim hf he)]]
              refine ⟨[false, false, false, false], _, _, L, fun E u hu => hu, pickL_ok ?_ _⟩
              repeat' (first | exact cd_nil | refine cd_cons ?_ ?_)
              all_goals first | rfl | with_reducible assumption

        | false =>
          have c2 : (normB { lo := x, hi := y, u := u }).u = true := by rw [norm_kn, hk]; rfl
          rw [show rfV T ⟨x, y, u⟩ = noneB by unfold rfV; rw [if_neg (fun h => by rw [hk] at h; cases h.2)]]
          refine ⟨[false, true], _, _, rfb_01 T x y u, fun E u hu => hu, pickL_ok ?_ _⟩
          repeat' (first | exact cd_nil | refine cd_cons ?_ ?_)
          all_goals first | rfl | with_reducible assumption

      · have c1 : (cbE T != 0) = true := by simpa using h0
        rw [show rfV T ⟨x, y, u⟩ = noneB by unfold rfV; rw [if_neg (fun h => h0 h.1)]]
        refine ⟨[true], _, _, rfb_1 T x y u, fun E u hu => hu, pickL_ok ?_ _⟩
        repeat' (first | exact cd_nil | refine cd_cons ?_ ?_)
        all_goals first | rfl | with_reducible assumption

    · cases hg
end
end Go.Proofs.Ytagbpehfieejcaa.AtHz

