/-
  Package clock: CheckRun and Reads as functions of tables of legs.
  Conditions: those of each theorem.
-/
import Derived.Test.YtjegnlnnjcchaaaC2
set_option linter.unusedVariables false
set_option linter.unusedSimpArgs false
namespace Go.Proofs.Ytjegnlnnjcchaaa.AtCk
open Go.RowKit Ev Wd
open Go.Proofs.Ytjegnlnnjcchaaa
variable {F : Type}
noncomputable section

def ruE (s a : Int) (T : List (List Int)) : Int := if (tmC s && tmC a) = true then (if 64 < lenT T then 2 else if T.all lgB = true then 0 else 4) else 4
def rdE (s a : Int) (T : List (List Int)) (t : Int) : Int := if ruE s a T ≠ 0 then ruE s a T else if tmC t = true ∧ a ≤ t ∧ t ≤ a + 1099511627776 then 0 else 4
def gnT (T : List (List Int)) (x : Int) : Int := mlT T x + lfT T x * 1000000
def rdV (s a : Int) (T : List (List Int)) (t : Int) : Int := if rdE s a T t = 0 then s + gnT T (t - a) / 1000000 else 0
def gCk : List (AV Tb) → Option (AV Tb × List (Bool × Bool))
  | [.w (.agg [.int .i64 s, .int .i64 a, .fv (.tab [some .i64, some .i64] T)])] => some (.w (.one (.int .i64 (ruE s a T))), [])
  | _ => none
def gRd : List (AV Tb) → Option (AV Tb × List (Bool × Bool))
  | [.w (.agg [.int .i64 s, .int .i64 a, .fv (.tab [some .i64, some .i64] T)]), .w (.one (.int .i64 t))] => some (.tup [.one (.int .i64 (rdV s a T t)), .one (.int .i64 (rdE s a T t))], [])
  | _ => none
noncomputable abbrev crLps : Lps Tb := [((45, [false, true, false, true, true, true]), crD.sp (fun _ => false))]
noncomputable abbrev rdLps : Lps Tb := [((68, [false, true, false, true, true, true, true]), rdD.sp (fun _ => false))]
theorem gn_in : ∀ {T : List (List Int)} {x : Int}, T.all lgB = true → 0 ≤ x → 0 ≤ lfT T x ∧ lfT T x ≤ x ∧ 0 ≤ mlT T x ∧ mlT T x ≤ (x - lfT T x) * 1100000
  | [], x, h, hx => by rw [lfT, mlT]; omega
  | r :: T, x, h, hx => by
    rw [List.all_cons, Bool.and_eq_true] at h
    have g := lgB_iff.1 h.1
    have m1 : 0 ≤ minI x (r.getD 0 0) ∧ minI x (r.getD 0 0) ≤ x := by unfold minI; split <;> omega
    obtain ⟨h1, h2, h3, h4⟩ := gn_in (x := x - minI x (r.getD 0 0)) h.2 (by omega)
    rw [lfT, mlT]
    have p1 : 0 ≤ minI x (r.getD 0 0) * (1000000 + r.getD 1 0) := Int.mul_nonneg m1.1 (by omega)
    have p2 : minI x (r.getD 0 0) * (1000000 + r.getD 1 0) ≤ minI x (r.getD 0 0) * 1100000 := Int.mul_le_mul_of_nonneg_left (by omega) m1.1
    generalize minI x (r.getD 0 0) * (1000000 + r.getD 1 0) = p at *
    omega
theorem ru_in {s a : Int} {T : List (List Int)} (h : ruE s a T = 0) : (-17592186044416 ≤ s ∧ s ≤ 17592186044416) ∧ (-17592186044416 ≤ a ∧ a ≤ 17592186044416) ∧ lenT T ≤ 64 ∧ T.all lgB = true := by
  unfold ruE at h
  by_cases h1 : (tmC s && tmC a) = true
  · rw [if_pos h1] at h
    simp only [Bool.and_eq_true, tmC_iff] at h1
    by_cases h2 : 64 < lenT T
    · rw [if_pos h2] at h; omega
    · rw [if_neg h2] at h
      by_cases h3 : T.all lgB = true
      · exact ⟨h1.1, h1.2, by omega, h3⟩
      · rw [if_neg h3] at h; omega
  · rw [if_neg h1] at h; omega
theorem crLps_ok : LpsOk Try.prog tbI crLps Try.f92.ntmps (bodyOf Try.f92) := lps_cons (fun _ x hx => crD_ok x hx) lps_nil
theorem rdLps_ok : LpsOk Try.prog tbI rdLps Try.f65.ntmps (bodyOf Try.f65) := lps_cons (fun _ x hx => rdD_ok x hx) lps_nil
noncomputable abbrev libK1 : List (Nat × FnSp Tb) := [(93, tmS)]
theorem libK1_ok : LibOk Try.prog tbI (lib1 libK1) := lib1_cons (sp1_ok fun t _ => ⟨_, rfl, tmf_pl t⟩) Try.call93 (lib1_nil _ _)
set_option maxRecDepth 100000 in
theorem crf_1 (s : Int) (a : Int) (T : List (List Int)) : evR (ctxLp Try.prog tbI (fun _ => false) libK1 [] crLps) Try.f92 [(.w (.agg [.int .i64 s, .int .i64 a, .fv (.tab [some .i64, some .i64] T)]))] [true] = some (AV.w (AW.one (AC.int IntKind.i64 4)), (pickL [(!tmC s, true), (true, true)] [0, 0, 0, 0, 0, 1])) := by kernel_rfl
set_option maxRecDepth 100000 in
theorem crf_01 (s : Int) (a : Int) (T : List (List Int)) : evR (ctxLp Try.prog tbI (fun _ => false) libK1 [] crLps) Try.f92 [(.w (.agg [.int .i64 s, .int .i64 a, .fv (.tab [some .i64, some .i64] T)]))] [false, true] = some (AV.w (AW.one (AC.int IntKind.i64 4)), (pickL [(!tmC s, false), (!tmC a, true)] [0, 0, 0, 0, 0, 1])) := by kernel_rfl
set_option maxRecDepth 100000 in
theorem crf_001 (s : Int) (a : Int) (T : List (List Int)) : evR (ctxLp Try.prog tbI (fun _ => false) libK1 [] crLps) Try.f92 [(.w (.agg [.int .i64 s, .int .i64 a, .fv (.tab [some .i64, some .i64] T)]))] [false, false, true] = some (AV.w (AW.one (AC.int IntKind.i64 2)), (pickL [(!tmC s, false), (!tmC a, false), (decide (lenT T > 64), true)] [0, 0, 0, 0, 0, 1, 2])) := by kernel_rfl
set_option maxRecDepth 100000 in
theorem crf_0001 (s : Int) (a : Int) (T : List (List Int)) : evR (ctxLp Try.prog tbI (fun _ => false) libK1 [] crLps) Try.f92 [(.w (.agg [.int .i64 s, .int .i64 a, .fv (.tab [some .i64, some .i64] T)]))] [false, false, false, true] = some (AV.w (AW.one (AC.int IntKind.i64 0)), (pickL [(!tmC s, false), (!tmC a, false), (decide (lenT T > 64), false), (T.all lgB, true), (decide ((0 : Int) = 0) && decide (lenT T = lenT T) && decide (lenT T ≤ 9223372036854775807), true)] [0, 0, 0, 0, 0, 1, 2, 3, 4])) := by kernel_rfl
set_option maxRecDepth 100000 in
theorem crf_0000 (s : Int) (a : Int) (T : List (List Int)) : evR (ctxLp Try.prog tbI (fun _ => false) libK1 [] crLps) Try.f92 [(.w (.agg [.int .i64 s, .int .i64 a, .fv (.tab [some .i64, some .i64] T)]))] [false, false, false, false] = some (AV.w (AW.one (AC.int IntKind.i64 4)), (pickL [(!tmC s, false), (!tmC a, false), (decide (lenT T > 64), false), (T.all lgB, false), (decide ((0 : Int) = 0) && decide (lenT T = lenT T) && decide (lenT T ≤ 9223372036854775807), true)] [0, 0, 0, 0, 0, 1, 2, 3, 4])) := by kernel_rfl
set_option maxHeartbeats 2000000 in
theorem gCk_ok : (factSp gCk).ok Try.prog tbI 92 :=
  factR_ok (ctxLp_ok libK1_ok (eq_none _) (fns_nil _) (fun f fn h => by cases h)) (by kernel_rfl) Try.func92 rfl crLps_ok fun args v cd hg hc => by
    unfold gCk at hg
    split at hg
    · rename_i s a T
      cases hg
      refine ⟨rfl, rfl, rfl, ?_⟩
      cases hs : tmC s with
      | false =>
        have k1 : (!tmC s) = true := by rw [hs]; rfl
        have e : ruE s a T = 4 := if_neg (by rw [hs]; simp)
        refine ⟨[true], _, _, crf_1 s a T, fun E u hu => ?_, pickL_ok ?_ _⟩
        · rw [e]; exact hu
        repeat' (first | exact cd_nil | refine cd_cons ?_ ?_)
        all_goals first | rfl | with_reducible assumption

      | true =>
        have k1 : (!tmC s) = false := by rw [hs]; rfl
        cases ha : tmC a with
        | false =>
          have k2 : (!tmC a) = true := by rw [ha]; rfl
          have e : ruE s a T = 4 := if_neg (by rw [hs, ha]; simp)
          refine ⟨[false, true], _, _, crf_01 s a T, fun E u hu => ?_, pickL_ok ?_ _⟩
          · rw [e]; exact hu
          repeat' (first | exact cd_nil | refine cd_cons ?_ ?_)
          all_goals first | rfl | with_reducible assumption

        | true =>
          have k2 : (!tmC a) = false := by rw [ha]; rfl
          have e0 : ruE s a T = if 64 < lenT T then 2 else if T.all lgB = true then 0 else 4 := if_pos (by rw [hs, ha]; rfl)
          by_cases h1 : 64 < lenT T
          · have k3 : decide (lenT T > 64) = true := decide_eq_true h1
            have e : ruE s a T = 2 := e0.trans (if_pos h1)
            refine ⟨[false, false, true], _, _, crf_001 s a T, fun E u hu => ?_, pickL_ok ?_ _⟩
            · rw [e]; exact hu
            repeat' (first | exact cd_nil | refine cd_cons ?_ ?_)
            all_goals first | rfl | with_reducible assumption

          · have k3 : decide (lenT T > 64) = false := decide_eq_false h1
            have k5 : (decide ((0 : Int) = 0) && decide (lenT T = lenT T) && decide (lenT T ≤ 9223372036854775807)) = true := by
              rw [decide_eq_true (show lenT T ≤ 9223372036854775807 by omega), decide_eq_true (rfl : lenT T = lenT T)]; rfl
            cases h2 : T.all lgB with
            | true =>
              have e : ruE s a T = 0 := e0.trans ((if_neg h1).trans (if_pos h2))
              refine ⟨[false, false, false, true], _, _, crf_0001 s a T, fun E u hu => ?_, pickL_ok ?_ _⟩
              · rw [e]; exact hu
              repeat' (first | exact cd_nil | refine cd_cons ?_ ?_)
              all_goals first | rfl | with_reducible assumption

            | false =>
              have e : ruE s a T = 4 := e0.trans ((if_neg h1).trans (if_neg (by rw [h2]; simp)))
              refine ⟨[false, false, false, false], _, _, crf_0000 s a T, fun E u hu => ?_, pickL_ok ?_ _⟩
              · rw [e]; exact hu
              repeat' (first | exact cd_nil | refine cd_cons ?_ ?_)
              all_goals first | rfl | with_reducible assumption

    · cases hg
noncomputable abbrev libK2 : List (Nat × FnSp Tb) := [(93, tmS), (92, factSp gCk)]
theorem libK2_ok : LibOk Try.prog tbI (lib1 libK2) := lib1_cons (sp1_ok fun t _ => ⟨_, rfl, tmf_pl t⟩) Try.call93 (lib1_cons gCk_ok Try.call92 (lib1_nil _ _))
set_option maxRecDepth 100000 in
theorem rdf_1 (s : Int) (a : Int) (T : List (List Int)) (t : Int) : evR (ctxLp Try.prog tbI (fun _ => false) libK2 [] rdLps) Try.f65 [(.w (.agg [.int .i64 s, .int .i64 a, .fv (.tab [some .i64, some .i64] T)])), (.w (.one (.int .i64 t)))] [true] = some (AV.tup [AW.one (AC.int IntKind.i64 0), AW.one (AC.int IntKind.i64 (ruE s a T))], (pickL [(ruE s a T != 0, true)] [0])) := by kernel_rfl
set_option maxRecDepth 100000 in
theorem rdf_01 (s : Int) (a : Int) (T : List (List Int)) (t : Int) : evR (ctxLp Try.prog tbI (fun _ => false) libK2 [] rdLps) Try.f65 [(.w (.agg [.int .i64 s, .int .i64 a, .fv (.tab [some .i64, some .i64] T)])), (.w (.one (.int .i64 t)))] [false, true] = some (AV.tup [AW.one (AC.int IntKind.i64 0), AW.one (AC.int IntKind.i64 4)], (pickL [(ruE s a T != 0, false), (!tmC t, true), (true, true)] [0, 1, 1, 1, 1, 1, 2, 2, 2, 2, 2, 2, 2])) := by kernel_rfl
set_option maxRecDepth 100000 in
theorem rdf_001 (s : Int) (a : Int) (T : List (List Int)) (t : Int) : evR (ctxLp Try.prog tbI (fun _ => false) libK2 [] rdLps) Try.f65 [(.w (.agg [.int .i64 s, .int .i64 a, .fv (.tab [some .i64, some .i64] T)])), (.w (.one (.int .i64 t)))] [false, false, true] = some (AV.tup [AW.one (AC.int IntKind.i64 0), AW.one (AC.int IntKind.i64 4)], (pickL [(ruE s a T != 0, false), (!tmC t, false), (decide (t < a), true), (true, true)] [0, 1, 1, 1, 1, 1, 2, 2, 2, 2, 2, 2, 3])) := by kernel_rfl
set_option maxRecDepth 100000 in
theorem rdf_0001 (s : Int) (a : Int) (T : List (List Int)) (t : Int) : evR (ctxLp Try.prog tbI (fun _ => false) libK2 [] rdLps) Try.f65 [(.w (.agg [.int .i64 s, .int .i64 a, .fv (.tab [some .i64, some .i64] T)])), (.w (.one (.int .i64 t)))] [false, false, false, true] = some (AV.tup [AW.one (AC.int IntKind.i64 0), AW.one (AC.int IntKind.i64 4)], (pickL [(ruE s a T != 0, false), (!tmC t, false), (decide (t < a), false), (decide (t > IntKind.i64.wrap (a + 1099511627776)), true)] [0, 1, 1, 1, 1, 1, 2, 2, 2, 2, 2, 2, 3])) := by kernel_rfl
set_option maxRecDepth 100000 in
theorem rdf_0000 (s : Int) (a : Int) (T : List (List Int)) (t : Int) : evR (ctxLp Try.prog tbI (fun _ => false) libK2 [] rdLps) Try.f65 [(.w (.agg [.int .i64 s, .int .i64 a, .fv (.tab [some .i64, some .i64] T)])), (.w (.one (.int .i64 t)))] [false, false, false, false] = some (AV.tup [AW.one (AC.int IntKind.i64 (IntKind.i64.wrap (s + IntKind.i64.wrap ((IntKind.i64.wrap (0 + mlT T (IntKind.i64.wrap (t - a)) + IntKind.i64.wrap (lfT T (IntKind.i64.wrap (t - a)) * 1000000))).tdiv 1000000)))), AW.one (AC.int IntKind.i64 0)], (pickL [(ruE s a T != 0, false), (!tmC t, false), (decide (t < a), false), (decide (t > IntKind.i64.wrap (a + 1099511627776)), false), (decide ((0 : Int) = 0) && decide (lenT T = lenT T) && decide (lenT T ≤ 64) && T.all lgB && decide (0 ≤ IntKind.i64.wrap (t - a)) && decide (IntKind.i64.wrap (t - a) ≤ 1099511627776) && decide ((0 : Int) = 0), true), (decide ((1000000 : Int) = 0), false)] [0, 1, 1, 1, 1, 1, 2, 2, 2, 2, 2, 2, 3, 4, 5])) := by kernel_rfl
theorem rd_wr {s a : Int} {T : List (List Int)} {t : Int} (h : ruE s a T = 0) (ht : tmC t = true) (h1 : a ≤ t) (h2 : t ≤ a + 1099511627776) : IntKind.i64.wrap (t - a) = t - a ∧
    IntKind.i64.wrap (s + IntKind.i64.wrap ((IntKind.i64.wrap (0 + mlT T (t - a) + IntKind.i64.wrap (lfT T (t - a) * 1000000))).tdiv 1000000)) = s + gnT T (t - a) / 1000000 := by
  obtain ⟨g1, g2, g3, g4⟩ := ru_in h
  rw [tmC_iff] at ht
  refine ⟨v64 (by omega) (by omega), ?_⟩
  obtain ⟨q1, q2, q3, q4⟩ := gn_in (x := t - a) g4 (by omega)
  unfold gnT
  rw [v64 (x := lfT T (t - a) * 1000000) (by omega) (by omega), Int.zero_add, v64 (x := mlT T (t - a) + lfT T (t - a) * 1000000) (by omega) (by omega)]
  rw [Int.tdiv_eq_ediv_of_nonneg (by omega)]
  have b1 : 0 ≤ mlT T (t - a) + lfT T (t - a) * 1000000 ∧ mlT T (t - a) + lfT T (t - a) * 1000000 ≤ 1300000000000000000 := by omega
  generalize mlT T (t - a) + lfT T (t - a) * 1000000 = G at *
  rw [v64 (x := G / 1000000) (by omega) (by omega), v64 (by omega) (by omega)]
set_option maxHeartbeats 2000000 in
theorem gRd_ok : (factSp gRd).ok Try.prog tbI 65 :=
  factR_ok (ctxLp_ok libK2_ok (eq_none _) (fns_nil _) (fun f fn h => by cases h)) (by kernel_rfl) Try.func65 rfl rdLps_ok fun args v cd hg hc => by
    unfold gRd at hg
    split at hg
    · rename_i s a T t
      cases hg
      refine ⟨rfl, rfl, rfl, ?_⟩
      have zero : rdE s a T t ≠ 0 → rdV s a T t = 0 := fun h => if_neg h
      by_cases h : ruE s a T = 0
      · have k1 : (ruE s a T != 0) = false := by rw [h]; rfl
        obtain ⟨g1, g2, g3, g4⟩ := ru_in h
        have ew : IntKind.i64.wrap (a + 1099511627776) = a + 1099511627776 := v64 (by omega) (by omega)
        have e0 : rdE s a T t = if tmC t = true ∧ a ≤ t ∧ t ≤ a + 1099511627776 then 0 else 4 := if_neg (by omega)
        cases ht : tmC t with
        | false =>
          have k2 : (!tmC t) = true := by rw [ht]; rfl
          have e : rdE s a T t = 4 := e0.trans (if_neg (by rw [ht]; simp))
          have e' := zero (by omega)
          refine ⟨[false, true], _, _, rdf_01 s a T t, fun E u hu => ?_, pickL_ok ?_ _⟩
          · rw [e', e]; exact hu
          repeat' (first | exact cd_nil | refine cd_cons ?_ ?_)
          all_goals first | rfl | with_reducible assumption

        | true =>
          have k2 : (!tmC t) = false := by rw [ht]; rfl
          by_cases h1 : t < a
          · have k3 : decide (t < a) = true := decide_eq_true h1
            have e : rdE s a T t = 4 := e0.trans (if_neg (by omega))
            have e' := zero (by omega)
            refine ⟨[false, false, true], _, _, rdf_001 s a T t, fun E u hu => ?_, pickL_ok ?_ _⟩
            · rw [e', e]; exact hu
            repeat' (first | exact cd_nil | refine cd_cons ?_ ?_)
            all_goals first | rfl | with_reducible assumption

          · have k3 : decide (t < a) = false := decide_eq_false h1
            by_cases h2 : t > a + 1099511627776
            · have k4 : decide (t > IntKind.i64.wrap (a + 1099511627776)) = true := by rw [ew]; exact decide_eq_true h2
              have e : rdE s a T t = 4 := e0.trans (if_neg (by omega))
              have e' := zero (by omega)
              refine ⟨[false, false, false, true], _, _, rdf_0001 s a T t, fun E u hu => ?_, pickL_ok ?_ _⟩
              · rw [e', e]; exact hu
              repeat' (first | exact cd_nil | refine cd_cons ?_ ?_)
              all_goals first | rfl | with_reducible assumption

            · have k4 : decide (t > IntKind.i64.wrap (a + 1099511627776)) = false := by rw [ew]; exact decide_eq_false h2
              have e : rdE s a T t = 0 := e0.trans (if_pos ⟨ht, by omega, by omega⟩)
              have e' : rdV s a T t = s + gnT T (t - a) / 1000000 := if_pos e
              obtain ⟨w1, w2⟩ := rd_wr h ht (show a ≤ t by omega) (by omega)
              have k5 : (decide ((0 : Int) = 0) && decide (lenT T = lenT T) && decide (lenT T ≤ 64) && T.all lgB && decide (0 ≤ t - a) && decide (t - a ≤ 1099511627776) && decide ((0 : Int) = 0)) = true := by
                rw [decide_eq_true g3, g4, decide_eq_true (show 0 ≤ t - a by omega), decide_eq_true (show t - a ≤ 1099511627776 by omega), decide_eq_true (rfl : lenT T = lenT T)]; rfl
              have L := rdf_0000 s a T t
              rw [w1, w2] at L
              refine ⟨[false, false, false, false], _, _, L, fun E u hu => ?_, pickL_ok ?_ _⟩
              · rw [e', e]; exact hu
              repeat' (first | exact cd_nil | refine cd_cons ?_ ?_)
              all_goals first | rfl | with_reducible assumption

      · have k1 : (ruE s a T != 0) = true := by simpa using h
        have e : rdE s a T t = ruE s a T := if_pos h
        have e' := zero (by omega)
        refine ⟨[true], _, _, rdf_1 s a T t, fun E u hu => ?_, pickL_ok ?_ _⟩
        · rw [e', e]; exact hu
        repeat' (first | exact cd_nil | refine cd_cons ?_ ?_)
        all_goals first | rfl | with_reducible assumption

    · cases hg
end
end Go.Proofs.Ytjegnlnnjcchaaa.AtCk

