/-
  The walk of the law ClockRuns; the reference's RunErr and ReadAt as functions of tables of legs.
  Conditions: those of each theorem.
-/
import Derived.Test.YtpolpckjfgndeaaC6
import Derived.Test.YtpolpckjfgndeaaC5
set_option linter.unusedVariables false
set_option linter.unusedSimpArgs false
namespace Go.Proofs.Ytpolpckjfgndeaa.AtCk
open Go.RowKit Ev Wd Zd Go.Shelf
open Go.Proofs.Ytpolpckjfgndeaa
noncomputable section

def cvN : Nm → Option Tb
  | .tab ks l => some (.tab ks l)
  | _ => none
def inN : Tb → Nm
  | .tab ks l => .tab ks l
def gRa : List (AV Nm) → Option (AV Nm × List (Bool × Bool))
  | [.w (.agg [.int .i64 s, .int .i64 a, .fv (.tab [some .i64, some .i64] T)]), .w (.one (.int .i64 t))] => some (.tup [.one (.int .i64 (rdV s a T t)), .one (.int .i64 (rdE s a T t))], [])
  | _ => none
theorem liftN_ok {P : Program} {f : FuncId} {ks0 : List (Option IntKind)} {g : List (AV Tb) → Option (AV Tb × List (Bool × Bool))} (h : (factSp g).ok P tbI f) : (factSp (liftG cvN inN ks0 g)).ok P numI f :=
  lift_ok (fun f t h => by cases f <;> cases h; rfl) (fun t D w v => by cases t; exact Iff.rfl) h
noncomputable abbrev reLps : Lps Tb := [((45, [false, true, false, true, true, true]), reD.sp (fun _ => false))]
theorem reLps_ok : LpsOk Try.prog tbI reLps Try.f27.ntmps (bodyOf Try.f27) := lps_cons (fun _ x hx => reD_ok x hx) lps_nil
noncomputable abbrev raLps : Lps Nm := [((80, [false, true, false, true, true, true, true, true]), raD.sp nmSafe)]
theorem raLps_ok : LpsOk Try.prog numI raLps Try.f25.ntmps (bodyOf Try.f25) := lps_cons (fun _ x hx => raD_ok x hx) lps_nil
noncomputable abbrev libQ1 : List (Nat × FnSp Tb) := [(74, tmS)]
theorem libQ1_ok : LibOk Try.prog tbI (lib1 libQ1) := (lib1_cons (sp1_ok fun t _ => ⟨_, rfl, itf_pl t⟩) Try.call74 (lib1_nil _ _))
set_option maxRecDepth 100000 in
theorem ref_1 (s : Int) (a : Int) (T : List (List Int)) : evR (ctxLp Try.prog tbI (fun _ => false) libQ1 [] reLps) Try.f27 [(.w (.agg [.int .i64 s, .int .i64 a, .fv (.tab [some .i64, some .i64] T)]))] [true] = some (AV.w (AW.one (AC.int IntKind.i64 4)), (pickL [(!tmC s, true), (true, true)] [0, 0, 0, 0, 0, 1])) := by kernel_rfl
set_option maxRecDepth 100000 in
theorem ref_01 (s : Int) (a : Int) (T : List (List Int)) : evR (ctxLp Try.prog tbI (fun _ => false) libQ1 [] reLps) Try.f27 [(.w (.agg [.int .i64 s, .int .i64 a, .fv (.tab [some .i64, some .i64] T)]))] [false, true] = some (AV.w (AW.one (AC.int IntKind.i64 4)), (pickL [(!tmC s, false), (!tmC a, true)] [0, 0, 0, 0, 0, 1])) := by kernel_rfl
set_option maxRecDepth 100000 in
theorem ref_001 (s : Int) (a : Int) (T : List (List Int)) : evR (ctxLp Try.prog tbI (fun _ => false) libQ1 [] reLps) Try.f27 [(.w (.agg [.int .i64 s, .int .i64 a, .fv (.tab [some .i64, some .i64] T)]))] [false, false, true] = some (AV.w (AW.one (AC.int IntKind.i64 2)), (pickL [(!tmC s, false), (!tmC a, false), (decide (lenT T > 64), true)] [0, 0, 0, 0, 0, 1, 2])) := by kernel_rfl
set_option maxRecDepth 100000 in
theorem ref_0001 (s : Int) (a : Int) (T : List (List Int)) : evR (ctxLp Try.prog tbI (fun _ => false) libQ1 [] reLps) Try.f27 [(.w (.agg [.int .i64 s, .int .i64 a, .fv (.tab [some .i64, some .i64] T)]))] [false, false, false, true] = some (AV.w (AW.one (AC.int IntKind.i64 0)), (pickL [(!tmC s, false), (!tmC a, false), (decide (lenT T > 64), false), (T.all lgB, true), (decide ((0 : Int) = 0) && decide (lenT T = lenT T) && decide (lenT T ≤ 9223372036854775807), true)] [0, 0, 0, 0, 0, 1, 2, 3, 4])) := by kernel_rfl
set_option maxRecDepth 100000 in
theorem ref_0000 (s : Int) (a : Int) (T : List (List Int)) : evR (ctxLp Try.prog tbI (fun _ => false) libQ1 [] reLps) Try.f27 [(.w (.agg [.int .i64 s, .int .i64 a, .fv (.tab [some .i64, some .i64] T)]))] [false, false, false, false] = some (AV.w (AW.one (AC.int IntKind.i64 4)), (pickL [(!tmC s, false), (!tmC a, false), (decide (lenT T > 64), false), (T.all lgB, false), (decide ((0 : Int) = 0) && decide (lenT T = lenT T) && decide (lenT T ≤ 9223372036854775807), true)] [0, 0, 0, 0, 0, 1, 2, 3, 4])) := by kernel_rfl
set_option maxHeartbeats 4000000 in
theorem gRe_ok : (factSp gCk).ok Try.prog tbI 27 :=
  factR_ok (ctxLp_ok libQ1_ok (eq_none _) (fns_nil _) (fun f fn h => by cases h)) (by kernel_rfl) Try.func27 rfl reLps_ok fun args v cd hg hc => by
    unfold gCk at hg
    split at hg
    · rename_i s a T
      cases hg
      refine ⟨rfl, rfl, rfl, ?_⟩
      cases hs : tmC s with
      | false =>
        have k1 : (!tmC s) = true := by rw [hs]; rfl
        have e : ruE s a T = 4 := if_neg (by rw [hs]; simp)
        refine ⟨[true], _, _, ref_1 s a T, fun E u hu => ?_, pickL_ok ?_ _⟩
        · rw [e]; exact hu
        repeat' (first | exact cd_nil | refine cd_cons ?_ ?_)
        all_goals first | rfl | with_reducible assumption

      | true =>
        have k1 : (!tmC s) = false := by rw [hs]; rfl
        cases ha : tmC a with
        | false =>
          have k2 : (!tmC a) = true := by rw [ha]; rfl
          have e : ruE s a T = 4 := if_neg (by rw [hs, ha]; simp)
          refine ⟨[false, true], _, _, ref_01 s a T, fun E u hu => ?_, pickL_ok ?_ _⟩
          · rw [e]; exact hu
          repeat' (first | exact cd_nil | refine cd_cons ?_ ?_)
          all_goals first | rfl | with_reducible assumption

        | true =>
          have k2 : (!tmC a) = false := by rw [ha]; rfl
          have e0 : ruE s a T = if 64 < lenT T then 2 else if T.all lgB = true then 0 else 4 := if_pos (by rw [hs, ha]; rfl)
          by_cases h1 : 64 < lenT T
          · have k3 : decide (lenT T > 64) = true := decide_eq_true h1
            have e : ruE s a T = 2 := e0.trans (if_pos h1)
            refine ⟨[false, false, true], _, _, ref_001 s a T, fun E u hu => ?_, pickL_ok ?_ _⟩
            · rw [e]; exact hu
            repeat' (first | exact cd_nil | refine cd_cons ?_ ?_)
            all_goals first | rfl | with_reducible assumption

          · have k3 : decide (lenT T > 64) = false := decide_eq_false h1
            have k5 : (decide ((0 : Int) = 0) && decide (lenT T = lenT T) && decide (lenT T ≤ 9223372036854775807)) = true := by
              rw [decide_eq_true (show lenT T ≤ 9223372036854775807 by omega), decide_eq_true (rfl : lenT T = lenT T)]; rfl
            cases h2 : T.all lgB with
            | true =>
              have e : ruE s a T = 0 := e0.trans ((if_neg h1).trans (if_pos h2))
              refine ⟨[false, false, false, true], _, _, ref_0001 s a T, fun E u hu => ?_, pickL_ok ?_ _⟩
              · rw [e]; exact hu
              repeat' (first | exact cd_nil | refine cd_cons ?_ ?_)
              all_goals first | rfl | with_reducible assumption

            | false =>
              have e : ruE s a T = 4 := e0.trans ((if_neg h1).trans (if_neg (by rw [h2]; simp)))
              refine ⟨[false, false, false, false], _, _, ref_0000 s a T, fun E u hu => ?_, pickL_ok ?_ _⟩
              · rw [e]; exact hu
              repeat' (first | exact cd_nil | refine cd_cons ?_ ?_)
              all_goals first | rfl | with_reducible assumption

    · cases hg
noncomputable abbrev libQ2 : List (Nat × FnSp Nm) := [(27, factSp (liftG cvN inN [some .i64, some .i64] gCk)), (74, tmS), (31, nfn nI), (89, nfn nFloor), (44, nfn nPlus), (90, nfn nSmall)]
theorem libQ2_ok : LibOk Try.prog numI (lib1 libQ2) := (lib1_cons (liftN_ok gRe_ok) Try.call27 (lib1_cons (sp1_ok fun t _ => ⟨_, rfl, itf_pl t⟩) Try.call74 (lib1_cons nI_ok Try.call31 (lib1_cons nFloor_ok Try.call89 (lib1_cons nPlus_ok Try.call44 (lib1_cons nSmall_ok Try.call90 (lib1_nil _ _)))))))
set_option maxRecDepth 100000 in
theorem raf_1 (s : Int) (a : Int) (T : List (List Int)) (t : Int) : evR (ctxLp Try.prog numI (fun _ => false) libQ2 [] raLps) Try.f25 [(.w (.agg [.int .i64 s, .int .i64 a, .fv (.tab [some .i64, some .i64] T)])), (.w (.one (.int .i64 t)))] [true] = some (AV.tup [AW.one (AC.int IntKind.i64 0), AW.one (AC.int IntKind.i64 (ruE s a T))], (pickL [(ruE s a T != 0, true)] [0])) := by kernel_rfl
set_option maxRecDepth 100000 in
theorem raf_01 (s : Int) (a : Int) (T : List (List Int)) (t : Int) : evR (ctxLp Try.prog numI (fun _ => false) libQ2 [] raLps) Try.f25 [(.w (.agg [.int .i64 s, .int .i64 a, .fv (.tab [some .i64, some .i64] T)])), (.w (.one (.int .i64 t)))] [false, true] = some (AV.tup [AW.one (AC.int IntKind.i64 0), AW.one (AC.int IntKind.i64 4)], (pickL [(ruE s a T != 0, false), (!tmC t, true), (true, true)] [0, 1, 1, 1, 1, 1, 2, 2, 2, 2, 2, 2, 2])) := by kernel_rfl
set_option maxRecDepth 100000 in
theorem raf_001 (s : Int) (a : Int) (T : List (List Int)) (t : Int) : evR (ctxLp Try.prog numI (fun _ => false) libQ2 [] raLps) Try.f25 [(.w (.agg [.int .i64 s, .int .i64 a, .fv (.tab [some .i64, some .i64] T)])), (.w (.one (.int .i64 t)))] [false, false, true] = some (AV.tup [AW.one (AC.int IntKind.i64 0), AW.one (AC.int IntKind.i64 4)], (pickL [(ruE s a T != 0, false), (!tmC t, false), (decide (t < a), true), (true, true)] [0, 1, 1, 1, 1, 1, 2, 2, 2, 2, 2, 2, 3])) := by kernel_rfl
set_option maxRecDepth 100000 in
theorem raf_0001 (s : Int) (a : Int) (T : List (List Int)) (t : Int) : evR (ctxLp Try.prog numI (fun _ => false) libQ2 [] raLps) Try.f25 [(.w (.agg [.int .i64 s, .int .i64 a, .fv (.tab [some .i64, some .i64] T)])), (.w (.one (.int .i64 t)))] [false, false, false, true] = some (AV.tup [AW.one (AC.int IntKind.i64 0), AW.one (AC.int IntKind.i64 4)], (pickL [(ruE s a T != 0, false), (!tmC t, false), (decide (t < a), false), (decide (IntKind.i64.wrap (t - a) > 1099511627776), true)] [0, 1, 1, 1, 1, 1, 2, 2, 2, 2, 2, 2, 3])) := by kernel_rfl
set_option maxRecDepth 100000 in
theorem raf_00001 (s : Int) (a : Int) (T : List (List Int)) (t : Int) : evR (ctxLp Try.prog numI (fun _ => false) libQ2 [] raLps) Try.f25 [(.w (.agg [.int .i64 s, .int .i64 a, .fv (.tab [some .i64, some .i64] T)])), (.w (.one (.int .i64 t)))] [false, false, false, false, true] = some (AV.tup [AW.one (AC.int IntKind.i64 (smV (0 / 1000000 + IntKind.i64.wrap (IntKind.i64.wrap (s + t) - a)))), AW.one (AC.int IntKind.i64 0)], (pickL [(ruE s a T != 0, false), (!tmC t, false), (decide (t < a), false), (decide (IntKind.i64.wrap (t - a) > 1099511627776), false), (decide (T = []), true), (decide ((0 : Int) = 0) && decide (lenT T = lenT T) && decide (lenT T ≤ 64) && T.all lgB && decide (-17592186044416 ≤ a) && decide (a ≤ t) && decide (t ≤ 17592186044416) && decide (t - a ≤ 1099511627776) && decide ((none : Option Int) = none), true), (i64B 1000000, true), (decide ((1000000 : Int) < 0) == decide ((1000000 : Int) < 0), true), (szB 0, true), (szB 1000000, true), (decide ((1000000 : Int) = 0), false), (i64B (IntKind.i64.wrap (IntKind.i64.wrap (s + t) - a)), true), (decide ((0 : Int) / 1000000 < 0) == decide ((0 : Int) / 1000000 < 0), true), (decide (IntKind.i64.wrap (IntKind.i64.wrap (s + t) - a) < 0) == decide (IntKind.i64.wrap (IntKind.i64.wrap (s + t) - a) < 0), true), (szB (0 / 1000000), true), (szB (IntKind.i64.wrap (IntKind.i64.wrap (s + t) - a)), true), (decide (0 / 1000000 + IntKind.i64.wrap (IntKind.i64.wrap (s + t) - a) < 0) == decide (0 / 1000000 + IntKind.i64.wrap (IntKind.i64.wrap (s + t) - a) < 0), true), (szB (0 / 1000000 + IntKind.i64.wrap (IntKind.i64.wrap (s + t) - a)), true)] [0, 1, 1, 1, 1, 1, 2, 2, 2, 2, 2, 2, 3, 4, 5, 6, 7, 8, 9, 10, 11, 12, 13, 14, 15, 16, 17])) := by kernel_rfl
set_option maxRecDepth 100000 in
theorem raf_00000 (s : Int) (a : Int) (T : List (List Int)) (t : Int) : evR (ctxLp Try.prog numI (fun _ => false) libQ2 [] raLps) Try.f25 [(.w (.agg [.int .i64 s, .int .i64 a, .fv (.tab [some .i64, some .i64] T)])), (.w (.one (.int .i64 t)))] [false, false, false, false, false] = some (AV.tup [AW.one (AC.int IntKind.i64 (smV (grT T (t - a) / 1000000 + IntKind.i64.wrap (IntKind.i64.wrap (s + t) - a)))), AW.one (AC.int IntKind.i64 0)], (pickL [(ruE s a T != 0, false), (!tmC t, false), (decide (t < a), false), (decide (IntKind.i64.wrap (t - a) > 1099511627776), false), (decide (T = []), false), (decide ((0 : Int) = 0) && decide (lenT T = lenT T) && decide (lenT T ≤ 64) && T.all lgB && decide (-17592186044416 ≤ a) && decide (a ≤ t) && decide (t ≤ 17592186044416) && decide (t - a ≤ 1099511627776) && decide ((none : Option Int) = none), true), (i64B 1000000, true), (decide (grT T (t - a) < 0) == decide (grT T (t - a) < 0), true), (decide ((1000000 : Int) < 0) == decide ((1000000 : Int) < 0), true), (szB (grT T (t - a)), true), (szB 1000000, true), (decide ((1000000 : Int) = 0), false), (i64B (IntKind.i64.wrap (IntKind.i64.wrap (s + t) - a)), true), (decide (grT T (t - a) / 1000000 < 0) == decide (grT T (t - a) / 1000000 < 0), true), (decide (IntKind.i64.wrap (IntKind.i64.wrap (s + t) - a) < 0) == decide (IntKind.i64.wrap (IntKind.i64.wrap (s + t) - a) < 0), true), (szB (grT T (t - a) / 1000000), true), (szB (IntKind.i64.wrap (IntKind.i64.wrap (s + t) - a)), true), (decide (grT T (t - a) / 1000000 + IntKind.i64.wrap (IntKind.i64.wrap (s + t) - a) < 0) == decide (grT T (t - a) / 1000000 + IntKind.i64.wrap (IntKind.i64.wrap (s + t) - a) < 0), true), (szB (grT T (t - a) / 1000000 + IntKind.i64.wrap (IntKind.i64.wrap (s + t) - a)), true)] [0, 1, 1, 1, 1, 1, 2, 2, 2, 2, 2, 2, 3, 4, 5, 6, 7, 8, 9, 10, 11, 12, 13, 14, 15, 16, 17, 18])) := by kernel_rfl
theorem ra_fin {s a : Int} {T : List (List Int)} {t : Int} (h : ruE s a T = 0) (ht : tmC t = true) (h1 : a ≤ t) (h2 : t - a ≤ 1099511627776) : IntKind.i64.wrap (IntKind.i64.wrap (s + t) - a) = s + t - a ∧ i64B (s + t - a) = true ∧ i64B (grT T (t - a)) = true ∧
    smV (grT T (t - a) / 1000000 + (s + t - a)) = s + gnT T (t - a) / 1000000 := by
  obtain ⟨g1, g2, g3, g4⟩ := ru_in h
  rw [tmC_iff] at ht
  have e := ra_gn T (t - a)
  obtain ⟨q1, q2, q3, q4⟩ := gn_in (x := t - a) g4 (by omega)
  unfold gnT at e ⊢
  rw [e]
  have b : -1200000000000000000 ≤ grT T (t - a) ∧ grT T (t - a) ≤ 200000000000000000 := by omega
  refine ⟨by rw [v64 (x := s + t) (by omega) (by omega)]; exact v64 (by omega) (by omega), i64B_iff.2 (by omega), i64B_iff.2 (by omega), ?_⟩
  generalize grT T (t - a) = G at *
  have hd : (1000000 * (t - a) + G) / 1000000 = (t - a) + G / 1000000 := by omega
  rw [hd, sm_id (by omega) (by omega)]
  omega
set_option maxHeartbeats 4000000 in
theorem gRa_ok : (factSp gRa).ok Try.prog numI 25 :=
  factR_ok (ctxLp_ok libQ2_ok (eq_none _) (fns_nil _) (fun f fn h => by cases h)) (by kernel_rfl) Try.func25 rfl raLps_ok fun args v cd hg hc => by
    unfold gRa at hg
    split at hg
    · rename_i s a T t
      cases hg
      refine ⟨rfl, rfl, rfl, ?_⟩
      have zero : rdE s a T t ≠ 0 → rdV s a T t = 0 := fun h => if_neg h
      by_cases h : ruE s a T = 0
      · have k1 : (ruE s a T != 0) = false := by rw [h]; rfl
        obtain ⟨g1, g2, g3, g4⟩ := ru_in h
        have e0 : rdE s a T t = if tmC t = true ∧ a ≤ t ∧ t ≤ a + 1099511627776 then 0 else 4 := if_neg (by omega)
        cases ht : tmC t with
        | false =>
          have k2 : (!tmC t) = true := by rw [ht]; rfl
          have e : rdE s a T t = 4 := e0.trans (if_neg (by rw [ht]; simp))
          have e' := zero (by omega)
          refine ⟨[false, true], _, _, raf_01 s a T t, fun E u hu => ?_, pickL_ok ?_ _⟩
          · rw [e', e]; exact hu
          repeat' (first | exact cd_nil | refine cd_cons ?_ ?_)
          all_goals first | rfl | with_reducible assumption

        | true =>
          have k2 : (!tmC t) = false := by rw [ht]; rfl
          have htt := tmC_iff.1 ht
          have ew : IntKind.i64.wrap (t - a) = t - a := v64 (by omega) (by omega)
          by_cases h1 : t < a
          · have k3 : decide (t < a) = true := decide_eq_true h1
            have e : rdE s a T t = 4 := e0.trans (if_neg (by omega))
            have e' := zero (by omega)
            refine ⟨[false, false, true], _, _, raf_001 s a T t, fun E u hu => ?_, pickL_ok ?_ _⟩
            · rw [e', e]; exact hu
            repeat' (first | exact cd_nil | refine cd_cons ?_ ?_)
            all_goals first | rfl | with_reducible assumption

          · have k3 : decide (t < a) = false := decide_eq_false h1
            by_cases h2 : t - a > 1099511627776
            · have k4 : decide (IntKind.i64.wrap (t - a) > 1099511627776) = true := by rw [ew]; exact decide_eq_true h2
              have e : rdE s a T t = 4 := e0.trans (if_neg (by omega))
              have e' := zero (by omega)
              refine ⟨[false, false, false, true], _, _, raf_0001 s a T t, fun E u hu => ?_, pickL_ok ?_ _⟩
              · rw [e', e]; exact hu
              repeat' (first | exact cd_nil | refine cd_cons ?_ ?_)
              all_goals first | rfl | with_reducible assumption

            · have k4 : decide (IntKind.i64.wrap (t - a) > 1099511627776) = false := by rw [ew]; exact decide_eq_false h2
              have h2' : t - a ≤ 1099511627776 := by omega
              have e : rdE s a T t = 0 := e0.trans (if_pos ⟨ht, by omega, by omega⟩)
              have e' : rdV s a T t = s + gnT T (t - a) / 1000000 := if_pos e
              obtain ⟨w1, w2, w3, w4⟩ := ra_fin h ht (show a ≤ t by omega) h2'
              have d1 := Dl.i64 w2
              have d2 := Dl.i64 w3
              have d3 := Dl.i64 i_m
              have d0 : Dl 4 0 := Dl.lit (by omega) (by omega)
              have k5 : (decide ((0 : Int) = 0) && decide (lenT T = lenT T) && decide (lenT T ≤ 64) && T.all lgB && decide (-17592186044416 ≤ a) && decide (a ≤ t) && decide (t ≤ 17592186044416) && decide (t - a ≤ 1099511627776) && decide ((none : Option Int) = none)) = true := by
                rw [decide_eq_true g3, g4, decide_eq_true g2.1, decide_eq_true (show a ≤ t by omega), decide_eq_true (tmC_iff.1 ht).2, decide_eq_true h2', decide_eq_true (rfl : lenT T = lenT T)]; rfl

              by_cases hT : T = []
              · have k6 : decide (T = []) = true := decide_eq_true hT
                have hz : grT T (t - a) = 0 := by rw [hT, grT]
                rw [hz] at w4
                have L := raf_00001 s a T t
                rw [w1, w4] at L
                refine ⟨[false, false, false, false, true], _, _, L, fun E u hu => ?_, pickL_ok ?_ _⟩
                · rw [e', e]; exact hu
                repeat' (first | exact cd_nil | refine cd_cons ?_ ?_)
                all_goals first | rfl | with_reducible assumption | exact eqB _ | exact i_m | (apply Dl.sz; (repeat' (first | with_reducible assumption | with_reducible apply Dl.add' | with_reducible apply Dl.div)); omega)

              · have k6 : decide (T = []) = false := decide_eq_false hT
                have L := raf_00000 s a T t
                rw [w1, w4] at L
                refine ⟨[false, false, false, false, false], _, _, L, fun E u hu => ?_, pickL_ok ?_ _⟩
                · rw [e', e]; exact hu
                repeat' (first | exact cd_nil | refine cd_cons ?_ ?_)
                all_goals first | rfl | with_reducible assumption | exact eqB _ | exact i_m | (apply Dl.sz; (repeat' (first | with_reducible assumption | with_reducible apply Dl.add' | with_reducible apply Dl.div)); omega)

      · have k1 : (ruE s a T != 0) = true := by simpa using h
        have e : rdE s a T t = ruE s a T := if_pos h
        have e' := zero (by omega)
        refine ⟨[true], _, _, raf_1 s a T t, fun E u hu => ?_, pickL_ok ?_ _⟩
        · rw [e', e]; exact hu
        repeat' (first | exact cd_nil | refine cd_cons ?_ ?_)
        all_goals first | rfl | with_reducible assumption

    · cases hg
noncomputable abbrev libQ3 : List (Nat × FnSp Nm) := [(13, sp0 (aBool true)), (24, factSp (liftG cvN inN [some .i64, some .i64] gRd)), (25, factSp gRa), (26, factSp (liftG cvN inN [some .i64, some .i64] gCk)), (27, factSp (liftG cvN inN [some .i64, some .i64] gCk))]
theorem libQ3_ok : LibOk Try.prog numI (lib1 libQ3) := (lib1_cons (sp0_ok rfl fact_pl) Try.call13 (lib1_cons (liftN_ok gRd_ok) Try.call24 (lib1_cons gRa_ok Try.call25 (lib1_cons (liftN_ok gCk_ok) Try.call26 (lib1_cons (liftN_ok gRe_ok) Try.call27 (lib1_nil _ _))))))
set_option maxRecDepth 100000 in
theorem lr_111 (s : Int) (a : Int) (T : List (List Int)) (t : Int) : evR (ctxOf Try.prog numI (fun _ => false) libQ3) Try.f6 [(.w (.agg [.int .i64 s, .int .i64 a, .fv (.tab [some .i64, some .i64] T)])), (.w (.one (.int .i64 t)))] [true, true, true] = some (AV.w (AW.one (AC.bool (rdE s a T t == rdE s a T t))), (pickL [(true, true), (ruE s a T == ruE s a T, true), (rdV s a T t == rdV s a T t, true)] [0, 0, 0, 0, 0, 0, 1, 1, 1, 1, 2, 2, 2, 2])) := by kernel_rfl
theorem clockRuns_law (W : World) (s : Int) (hs : okK (some .i64) s) (a : Int) (ha : okK (some .i64) a) (T : List (List Int)) (u : Value) (hu : tabHv (fun _ _ => False) W u [some .i64, some .i64] T) (hT : okRows [some .i64, some .i64] T) (t : Int) (ht : okK (some .i64) t) :
    Calls Try.prog 6 #[.agg #[.int .i64 s, .int .i64 a, u], .int .i64 t] W fun e w' => e = .returned (.bool true) ∧ Below W.heap.size W w' := by
  have L := lr_111 s a T t
  have V : (rdE s a T t == rdE s a T t) = true := by simp only [beq_self_eq_true]
  refine law_facts (I := numI) (h := fun q v => q = .tab [some .i64, some .i64] T ∧ v = u) (v := .bool true) (ctxOf_ok libQ3_ok (eq_none _)) (by kernel_rfl) Try.func6 rfl lps_nil rfl (fun q v hq => by obtain ⟨rfl, rfl⟩ := hq; exact hu) L rfl (.cons ⟨_, rfl, .cons rfl (.cons rfl (.cons ⟨rfl, rfl⟩ .nil))⟩ (.cons rfl .nil)) (congrArg (fun b => some (Value.bool b)) V) (pickL_ok ?_ _)
  repeat' (first | exact cd_nil | refine cd_cons ?_ ?_)
  all_goals first | rfl | with_reducible assumption | (simp only [beq_self_eq_true]; done)
end
end Go.Proofs.Ytpolpckjfgndeaa.AtCk

