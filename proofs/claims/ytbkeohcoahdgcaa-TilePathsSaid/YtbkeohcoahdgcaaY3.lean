/-
  The walk of TilePaths: it returns true.
  Conditions: none.
-/
import Derived.Test.YtbkeohcoahdgcaaY2
import Derived.Test.YtbkeohcoahdgcaaH5
set_option linter.unusedVariables false
set_option linter.unusedSimpArgs false
namespace Go.Proofs.Ytbkeohcoahdgcaa.AtTl
open Go.RowKit Ev Wd AtHz
open Go.Proofs.Ytbkeohcoahdgcaa
variable {F : Type}
noncomputable section

theorem ro_back (w : V3) {a : Int} (ha : 0 ≤ a ∧ a ≤ 2) : roV (roV w (3 - a)) a = w := by
  rcases (show a = 0 ∨ a = 1 ∨ a = 2 by omega) with rfl | rfl | rfl <;> simp [roV]
theorem dt_ro (w u : V3) {a : Int} (ha : 0 ≤ a ∧ a ≤ 2) : dtV (roV w (3 - a)) u = dtV w (roV u a) := by
  rcases (show a = 0 ∨ a = 1 ∨ a = 2 by omega) with rfl | rfl | rfl <;> simp [roV, dtV] <;> omega
theorem dt_ve {p : Pc} (ha : 0 ≤ p.a ∧ p.a ≤ 2) (o c r : Int) (u : V3) : dtV (veW p o c r) u = p.s * o * (roV u p.a).x + c * (roV u p.a).y + r * (roV u p.a).z := by
  unfold veW
  rw [dt_ro _ _ ha]
  rfl
/-- A direction lies behind no side. -/
theorem hs_of {p : Pc} (ha : 0 ≤ p.a ∧ p.a ≤ 2) {u : V3} {m : Int} (hm : p.s * (roV u p.a).x = m)
    (h1 : (2 * p.c - p.z) * m ≤ p.z * (roV u p.a).y) (h2 : p.z * (roV u p.a).y ≤ (2 * p.c - p.z + 2) * m) (h3 : (2 * p.r - p.z) * m ≤ p.z * (roV u p.a).z) (h4 : p.z * (roV u p.a).z ≤ (2 * p.r - p.z + 2) * m) : hs4 (sd1 p) (sd2 p) (sd3 p) (sd4 p) u = true := by
  have e : ∀ o : Int, p.s * o * (roV u p.a).x = o * m := fun o => by rw [← hm]; grind
  unfold hs4 sd1 sd2 sd3 sd4
  rw [dt_ve ha, dt_ve ha, dt_ve ha, dt_ve ha, e, e, e, e]
  generalize (roV u p.a).y = Y at *
  generalize (roV u p.a).z = Z at *
  have f1 : 0 ≤ -(2 * p.c - p.z) * m + p.z * Y + 0 * Z := by rw [Int.neg_mul]; omega
  have f2 : 0 ≤ (2 * p.c - p.z + 2) * m + -p.z * Y + 0 * Z := by rw [Int.neg_mul]; omega
  have f3 : 0 ≤ -(2 * p.r - p.z) * m + 0 * Y + p.z * Z := by rw [Int.neg_mul]; omega
  have f4 : 0 ≤ (2 * p.r - p.z + 2) * m + 0 * Y + -p.z * Z := by rw [Int.neg_mul]; omega
  simp only [f1, f2, f3, f4, decide_true, Bool.and_true]
/-- What is known of the tile of a direction. -/
def sgV (v : V3) : Int := if (roV v (mA v)).x < 0 then -1 else 1
theorem sg_sz (v : V3) : sgV v * (roV v (mA v)).x = sz (roV v (mA v)).x ∧ sgV v * sgV v = 1 := by
  unfold sgV sz
  split <;> omega
theorem fa_in (v : V3) : 8 ≤ faV v ∧ faV v ≤ 13 ∧ (faV v - 8) / 2 = mA v ∧ 1 - 2 * ((faV v - 8) % 2) = sgV v := by
  have := mA_in v
  unfold faV sgV
  split <;> omega
theorem of_lv {v : V3} {n : Nat} (hn : n ≤ 12) : lvT (ofT v n) = true ∧ lvN (ofT v n) = n := by
  have f := fa_in v
  have h := nm_range (faV v) n (clV (roV v (mA v)).y (sz (roV v (mA v)).x) n) (clV (roV v (mA v)).z (sz (roV v (mA v)).x) n)
  have q := p4 n
  have a := Int.mul_le_mul_of_nonneg_right f.1 (Int.le_of_lt q)
  have b := Int.mul_le_mul_of_nonneg_right (show faV v + 1 ≤ 14 by omega) (Int.le_of_lt q)
  exact lv_at ⟨Int.le_trans a h.1, Int.lt_of_lt_of_le h.2 b⟩ hn
theorem of_div {v : V3} (hv : vE v = 0) (n : Nat) : ofT v (n + 1) / 4 = ofT v n := by
  have m := ax_main hv
  unfold ofT
  rw [nm_div, cl_half n (by omega), cl_half n (by omega)]
theorem of_pl {v : V3} (hv : vE v = 0) {n : Nat} (hn : n ≤ 12) : plP (ofT v n) = ⟨mA v, sgV v, 2 ^ n, clV (roV v (mA v)).y (sz (roV v (mA v)).x) n, clV (roV v (mA v)).z (sz (roV v (mA v)).x) n⟩ := by
  obtain ⟨l1, l2⟩ := of_lv (v := v) hn
  have m := ax_main hv
  have f := fa_in v
  have cy := cl_range (u := (roV v (mA v)).y) (m := sz (roV v (mA v)).x) n (by omega) (by omega)
  have cz := cl_range (u := (roV v (mA v)).z) (m := sz (roV v (mA v)).x) n (by omega) (by omega)
  rw [plP_at l1, l2, Int.toNat_natCast]
  unfold ofT
  rw [nm_face, co_nm _ _ _ _ cy.1 cy.2, ro_nm _ _ _ _ cz.1 cz.2, f.2.2.1, f.2.2.2]
theorem of_has {v : V3} (hv : vE v = 0) {n : Nat} (hn : n ≤ 12) : haV (ofT v n) v = true := by
  obtain ⟨l1, l2⟩ := of_lv (v := v) hn
  have m := ax_main hv
  have a := mA_in v
  unfold haV
  rw [l1, of_pl hv hn, show (vE v == 0) = true by rw [hv]; rfl]
  have h := hs_of (p := ⟨mA v, sgV v, 2 ^ n, clV (roV v (mA v)).y (sz (roV v (mA v)).x) n, clV (roV v (mA v)).z (sz (roV v (mA v)).x) n⟩) a (u := v) (sg_sz v).1 (cl_lo n (by omega)) (by
    have := cl_hi (u := (roV v (mA v)).y) (m := sz (roV v (mA v)).x) n (by omega) (by omega)
    rw [show ∀ c : Int, 2 * c - 2 ^ n + 2 = 2 * c + 2 - 2 ^ n from fun c => by omega]; exact this) (cl_lo n (by omega)) (by
    have := cl_hi (u := (roV v (mA v)).z) (m := sz (roV v (mA v)).x) n (by omega) (by omega)
    rw [show ∀ c : Int, 2 * c - 2 ^ n + 2 = 2 * c + 2 - 2 ^ n from fun c => by omega]; exact this)
  rw [h]; rfl
/-- A corner is a direction. -/
theorem ve_ok {p : Pc} {c r : Int} (hp : plB p = true) (hs : p.s * p.s = 1) (hc : v8B c = true) (hr : v8B r = true) : vE (veW p p.z c r) = 0 := by
  have hp' := plB_iff.1 hp
  have a1 : v8B p.z = true := v8B_iff.2 (by omega)
  refine vE_iff.2 ⟨inC_iff.1 (veW_in hp a1 hc hr), fun h => ?_⟩
  have b := ro_back ⟨p.s * p.z, c, r⟩ (a := p.a) (by omega)
  unfold veW at h
  have e : roV ⟨p.s * p.z, c, r⟩ (3 - p.a) = ⟨0, 0, 0⟩ := by
    generalize roV ⟨p.s * p.z, c, r⟩ (3 - p.a) = w at *
    obtain ⟨x, y, z⟩ := w
    simp only at h
    obtain ⟨rfl, rfl, rfl⟩ := h
    rfl
  rw [e] at b
  have z0 : roV ⟨0, 0, 0⟩ p.a = ⟨0, 0, 0⟩ := by unfold roV; split <;> (try split) <;> rfl
  rw [z0] at b
  have b1 : (0 : Int) = p.s * p.z := congrArg V3.x b
  rcases (show p.s = -1 ∨ p.s = 0 ∨ p.s = 1 by omega) with s | s | s <;> rw [s] at b1 hs <;> omega
theorem has_co {t : Int} {p : Pc} {c r : Int} (hl : lvT t = true) (hp : plB p = true) (hs : p.s * p.s = 1) (hc : v8B c = true) (hr : v8B r = true) (ea : (plP t).a = p.a) (es : (plP t).s = p.s)
    (h1 : (2 * (plP t).c - (plP t).z) * p.z ≤ (plP t).z * c) (h2 : (plP t).z * c ≤ (2 * (plP t).c - (plP t).z + 2) * p.z) (h3 : (2 * (plP t).r - (plP t).z) * p.z ≤ (plP t).z * r) (h4 : (plP t).z * r ≤ (2 * (plP t).r - (plP t).z + 2) * p.z) : haV t (veW p p.z c r) = true := by
  have hp' := plB_iff.1 hp
  have b : roV (veW p p.z c r) p.a = ⟨p.s * p.z, c, r⟩ := ro_back _ (by omega)
  have h := hs_of (p := plP t) (by rw [ea]; omega) (u := veW p p.z c r) (m := p.z) (by rw [ea, es, b]; simp only; rw [← Int.mul_assoc, hs, Int.one_mul]) (by rw [ea, b]; exact h1) (by rw [ea, b]; exact h2) (by rw [ea, b]; exact h3) (by rw [ea, b]; exact h4)
  unfold haV
  rw [hl, ve_ok hp hs hc hr, h]; rfl
theorem mid_le {z d : Int} (hz : 0 < z) (h : 0 ≤ d) {a b : Int} (e : b - a = z * d) : a ≤ b := by
  have := Int.mul_nonneg (Int.le_of_lt hz) h
  omega
/-- All that a round of TilePaths asks. -/
theorem tp_all {v : V3} (hv : vE v = 0) {k : Int} (h1 : 1 ≤ k) (h2 : k ≤ 12) : ofE v k = 0 ∧ lvT (ofV v k) = true ∧ paT (ofV v k) = true ∧ lvN (ofV v k) = k ∧ ofV v k / 4 = ofV v (k - 1) ∧ kiB (ofV v (k - 1)) = true ∧
    in4 (ofV v k) (4 * ofV v (k - 1)) (4 * ofV v (k - 1) + 1) (4 * ofV v (k - 1) + 2) (4 * ofV v (k - 1) + 3) = true ∧ haV (ofV v k) v = true ∧ True ∧
    haV (ofV v k) (co1 (plP (ofV v k))) = true ∧ haV (ofV v k) (co2 (plP (ofV v k))) = true ∧ haV (ofV v k) (co3 (plP (ofV v k))) = true ∧ haV (ofV v k) (co4 (plP (ofV v k))) = true ∧
    haV (ofV v (k - 1)) (co1 (plP (ofV v k))) = true ∧ haV (ofV v (k - 1)) (co2 (plP (ofV v k))) = true ∧ haV (ofV v (k - 1)) (co3 (plP (ofV v k))) = true ∧ haV (ofV v (k - 1)) (co4 (plP (ofV v k))) = true := by
  obtain ⟨n, hn⟩ : ∃ n : Nat, k = ((n + 1 : Nat) : Int) := ⟨(k - 1).toNat, by omega⟩
  have b1 : lvB k = true := lvB_iff.2 (by omega)
  have b2 : lvB (k - 1) = true := lvB_iff.2 (by omega)
  have hvb : (vE v == 0) = true := by rw [hv]; rfl
  have e1 : ofV v k = ofT v (n + 1) := by unfold ofV; rw [b1, hvb, hn]; rfl
  have e2 : ofV v (k - 1) = ofT v n := by unfold ofV; rw [b2, hvb, hn, show (((n + 1 : Nat) : Int) - 1).toNat = n by omega]; rfl
  have e3 : ofE v k = 0 := by unfold ofE; rw [hv, b1]; rfl
  obtain ⟨l1, l2⟩ := of_lv (v := v) (n := n + 1) (by omega)
  obtain ⟨l3, l4⟩ := of_lv (v := v) (n := n) (by omega)
  have hd := of_div hv n
  have pl1 := of_pl hv (n := n + 1) (by omega)
  have pl2 := of_pl hv (n := n) (by omega)
  have hp := plB_of l1
  have m := ax_main hv
  have hp' := plB_iff.1 hp
  have hs : (plP (ofT v (n + 1))).s * (plP (ofT v (n + 1))).s = 1 := by rw [pl1]; exact (sg_sz v).2
  have cc := cl_half (u := (roV v (mA v)).y) (m := sz (roV v (mA v)).x) n (by omega)
  have cr := cl_half (u := (roV v (mA v)).z) (m := sz (roV v (mA v)).x) n (by omega)
  have q := p2 n
  rw [e1, e2, e3]
  have ea : (plP (ofT v n)).a = (plP (ofT v (n + 1))).a := by rw [pl1, pl2]
  have es : (plP (ofT v n)).s = (plP (ofT v (n + 1))).s := by rw [pl1, pl2]
  have ez : (plP (ofT v (n + 1))).z = 2 * (plP (ofT v n)).z := by rw [pl1, pl2]; simp only; rw [Int.pow_succ]; omega
  have ec : (plP (ofT v n)).c = (plP (ofT v (n + 1))).c / 2 := by rw [pl1, pl2]; exact cc.symm
  have er : (plP (ofT v n)).r = (plP (ofT v (n + 1))).r / 2 := by rw [pl1, pl2]; exact cr.symm
  have qz : 0 < (plP (ofT v n)).z := by rw [pl2]; exact q
  have own : ∀ c' r' : Int, (c' = 2 * (plP (ofT v (n + 1))).c - (plP (ofT v (n + 1))).z ∨ c' = 2 * (plP (ofT v (n + 1))).c - (plP (ofT v (n + 1))).z + 2) → (r' = 2 * (plP (ofT v (n + 1))).r - (plP (ofT v (n + 1))).z ∨ r' = 2 * (plP (ofT v (n + 1))).r - (plP (ofT v (n + 1))).z + 2) →
      haV (ofT v (n + 1)) (veW (plP (ofT v (n + 1))) (plP (ofT v (n + 1))).z c' r') = true ∧ haV (ofT v n) (veW (plP (ofT v (n + 1))) (plP (ofT v (n + 1))).z c' r') = true := by
    intro c' r' hc hr
    have vc : v8B c' = true := v8B_iff.2 (by omega)
    have vr : v8B r' = true := v8B_iff.2 (by omega)
    refine ⟨has_co l1 hp hs vc vr rfl rfl ?_ ?_ ?_ ?_, has_co l3 hp hs vc vr ea es ?_ ?_ ?_ ?_⟩
    all_goals generalize plP (ofT v (n + 1)) = P at *
    all_goals generalize plP (ofT v n) = Q at *
    · exact mid_le (z := P.z) (d := c' - (2 * P.c - P.z)) (by omega) (by omega) (by grind)
    · exact mid_le (z := P.z) (d := 2 * P.c - P.z + 2 - c') (by omega) (by omega) (by grind)
    · exact mid_le (z := P.z) (d := r' - (2 * P.r - P.z)) (by omega) (by omega) (by grind)
    · exact mid_le (z := P.z) (d := 2 * P.r - P.z + 2 - r') (by omega) (by omega) (by grind)
    · rw [ez, ec]; exact mid_le (z := Q.z) (d := c' + P.z - 4 * (P.c / 2)) (by omega) (by omega) (by rw [ez]; grind)
    · rw [ez, ec]; exact mid_le (z := Q.z) (d := 4 * (P.c / 2) + 4 - P.z - c') (by omega) (by omega) (by rw [ez]; grind)
    · rw [ez, er]; exact mid_le (z := Q.z) (d := r' + P.z - 4 * (P.r / 2)) (by omega) (by omega) (by rw [ez]; grind)
    · rw [ez, er]; exact mid_le (z := Q.z) (d := 4 * (P.r / 2) + 4 - P.z - r') (by omega) (by omega) (by rw [ez]; grind)
  refine ⟨rfl, l1, ?_, by rw [l2, hn], hd, ?_, ?_, of_has hv (by omega), trivial, (own _ _ (.inl rfl) (.inl rfl)).1, (own _ _ (.inr rfl) (.inl rfl)).1, (own _ _ (.inl rfl) (.inr rfl)).1, (own _ _ (.inr rfl) (.inr rfl)).1,
    (own _ _ (.inl rfl) (.inl rfl)).2, (own _ _ (.inr rfl) (.inl rfl)).2, (own _ _ (.inl rfl) (.inr rfl)).2, (own _ _ (.inr rfl) (.inr rfl)).2⟩
  · unfold paT; rw [l1, l2, show (((n + 1 : Nat) : Int) == 0) = false by simp; omega]; rfl
  · unfold kiB; rw [l3, l4, show ((n : Int) == 12) = false by simp; omega]; rfl
  · have : ofT v (n + 1) = 4 * ofT v n ∨ ofT v (n + 1) = 4 * ofT v n + 1 ∨ ofT v (n + 1) = 4 * ofT v n + 2 ∨ ofT v (n + 1) = 4 * ofT v n + 3 := by omega
    unfold in4
    simpa using this
noncomputable abbrev libV0 : List (Nat × FnSp Empty) := [(6, ofS)]
noncomputable abbrev libV1 : List (Nat × FnSp Fct) := [(6, ofS), (8, paS), (9, leS), (11, newSp cxN 29 kiG), (10, locSp cxN ctG), (12, haS), (13, newSp cxN 27 coG)]
theorem libV0_ok : LibOk Try.prog noFacts (lib1 libV0) := (lib1_cons (sp2_ok fun v k _ => ⟨_, rfl, tof_pl v k⟩) Try.call6 (lib1_nil _ _))
theorem libV1_ok (B : Nat) : LibOk Try.prog (fctI B) (lib1 libV1) := (lib1_cons (sp2_ok fun v k _ => ⟨_, rfl, tof_pl v k⟩) Try.call6 (lib1_cons (sp1_ok fun t _ => ⟨_, rfl, par_pl t⟩) Try.call8 (lib1_cons (sp1_ok fun t _ => ⟨_, rfl, lev_pl t⟩) Try.call9 (lib1_cons (kiS_ok B) Try.call11 (lib1_cons (ctS_ok B) Try.call10 (lib1_cons (sp2_ok fun t v _ => ⟨_, rfl, has_pl t v⟩) Try.call12 (lib1_cons (coS_ok B) Try.call13 (lib1_nil _ _))))))))
theorem fnsV_ok : FnsOk Try.prog [(14, Try.f14), (37, Try.f37), (15, Try.f15)] := (fns_cons Try.func14 rfl Try.call14 (fns_cons Try.func37 rfl Try.call37 (fns_cons Try.func15 rfl Try.call15 (fns_nil _))))
set_option maxRecDepth 100000 in
theorem tft_1  : evR (ctxOf Try.prog noFacts (fun _ => false) libV0) Try.f7 [] [true] = some (AV.w (AW.one (AC.bool (ofV { x := 3, y := -1, z := 2 } 1 == 34))), (pickL [(ofE { x := 3, y := -1, z := 2 } 1 == 0, true)] [0, 0, 0])) := by kernel_rfl
set_option maxRecDepth 100000 in
theorem tp_10000000010010010010000 (B : Nat) (k : Int) (last : Int) (x : Int) (y : Int) (z : Int) (rest : List (Nat × AV Fct)) : evView (ctxIn Try.prog (fctI B) (fun _ => false) libV1 [(14, Try.f14), (37, Try.f37), (15, Try.f15)]) 95 (false :: [false, true, false, true, true, true, true, true]) (loopAt (bodyOf Try.f3) [false, true, false, true, true, true, true, true]) ([(7, .w (.one (.int .i64 k))), (5, .w (.one (.int .i64 last)))] ++ (ptrN 0 [4] ++ rest)) [⟨27, [.int .i64 x, .int .i64 y, .int .i64 z]⟩] 1 [7, 5, 4] [true, false, false, false, false, false, false, false, false, true, false, false, true, false, false, true, false, false, true, false, false, false, false] = some ((Ex.normal, [AV.w (AW.one (AC.int IntKind.i64 (IntKind.i64.wrap (k + 1)))), AV.w (AW.one (AC.int IntKind.i64 (ofV ⟨x, y, z⟩ k))), AV.w (AW.one (AC.ptr 0 0))], [{ ty := 27, cs := [AC.int IntKind.i64 x, AC.int IntKind.i64 y, AC.int IntKind.i64 z] }]), (pickL [(decide (k ≤ 12), true), (ofE ⟨x, y, z⟩ k != 0, false), (!paT (ofV ⟨x, y, z⟩ k), false), (!lvT (ofV ⟨x, y, z⟩ k), false), (lvN (ofV ⟨x, y, z⟩ k) != k, false), ((if paT (ofV ⟨x, y, z⟩ k) = true then ofV ⟨x, y, z⟩ k / 4 else 0) != last, false), (kiB last, true), (!in4 (ofV ⟨x, y, z⟩ k) (4 * last) (4 * last + 1) (4 * last + 2) (4 * last + 3), false), (!haV (ofV ⟨x, y, z⟩ k) ⟨x, y, z⟩, false), (lvT (ofV ⟨x, y, z⟩ k), true), (((4 : Nat) : Int) != 4, false), (decide (0 < ((4 : Nat) : Int)), true), (decide ((0 : Int) ≤ 0), true), (!haV (ofV ⟨x, y, z⟩ k) (co1 (plP (ofV ⟨x, y, z⟩ k))), false), (!haV (if paT (ofV ⟨x, y, z⟩ k) = true then ofV ⟨x, y, z⟩ k / 4 else 0) (co1 (plP (ofV ⟨x, y, z⟩ k))), false), (decide (IntKind.i64.wrap (0 + 1) < ((4 : Nat) : Int)), true), (decide (0 ≤ IntKind.i64.wrap (0 + 1)), true), (!haV (ofV ⟨x, y, z⟩ k) (co2 (plP (ofV ⟨x, y, z⟩ k))), false), (!haV (if paT (ofV ⟨x, y, z⟩ k) = true then ofV ⟨x, y, z⟩ k / 4 else 0) (co2 (plP (ofV ⟨x, y, z⟩ k))), false), (decide (IntKind.i64.wrap (IntKind.i64.wrap (0 + 1) + 1) < ((4 : Nat) : Int)), true), (decide (0 ≤ IntKind.i64.wrap (IntKind.i64.wrap (0 + 1) + 1)), true), (!haV (ofV ⟨x, y, z⟩ k) (co3 (plP (ofV ⟨x, y, z⟩ k))), false), (!haV (if paT (ofV ⟨x, y, z⟩ k) = true then ofV ⟨x, y, z⟩ k / 4 else 0) (co3 (plP (ofV ⟨x, y, z⟩ k))), false), (decide (IntKind.i64.wrap (IntKind.i64.wrap (IntKind.i64.wrap (0 + 1) + 1) + 1) < ((4 : Nat) : Int)), true), (decide (0 ≤ IntKind.i64.wrap (IntKind.i64.wrap (IntKind.i64.wrap (0 + 1) + 1) + 1)), true), (!haV (ofV ⟨x, y, z⟩ k) (co4 (plP (ofV ⟨x, y, z⟩ k))), false), (!haV (if paT (ofV ⟨x, y, z⟩ k) = true then ofV ⟨x, y, z⟩ k / 4 else 0) (co4 (plP (ofV ⟨x, y, z⟩ k))), false), (decide (IntKind.i64.wrap (IntKind.i64.wrap (IntKind.i64.wrap (IntKind.i64.wrap (0 + 1) + 1) + 1) + 1) < ((4 : Nat) : Int)), false), (decide ((-1 : Int) ≥ 0), false)] [0, 1, 1, 1, 2, 2, 2, 3, 3, 3, 3, 4, 4, 4, 4, 5, 5, 6, 5, 5, 5, 5, 7, 7, 7, 7, 7, 8, 9, 10, 10, 10, 11, 12, 11, 13, 13, 13, 13, 13, 14, 15, 16, 15, 17, 17, 17, 17, 17, 18, 19, 20, 19, 21, 21, 21, 21, 21, 22, 23, 24, 23, 25, 25, 25, 25, 25, 26, 27, 10, 28])) := by kernel_rfl
set_option maxRecDepth 100000 in
theorem tp_0 (B : Nat) (k : Int) (last : Int) (x : Int) (y : Int) (z : Int) (rest : List (Nat × AV Fct)) : evView (ctxIn Try.prog (fctI B) (fun _ => false) libV1 [(14, Try.f14), (37, Try.f37), (15, Try.f15)]) 95 (false :: [false, true, false, true, true, true, true, true]) (loopAt (bodyOf Try.f3) [false, true, false, true, true, true, true, true]) ([(7, .w (.one (.int .i64 k))), (5, .w (.one (.int .i64 last)))] ++ (ptrN 0 [4] ++ rest)) [⟨27, [.int .i64 x, .int .i64 y, .int .i64 z]⟩] 1 [7, 5, 4] [false] = some ((Ex.exit 0, [AV.w (AW.one (AC.int IntKind.i64 k)), AV.w (AW.one (AC.int IntKind.i64 last)), AV.w (AW.one (AC.ptr 0 0))], [{ ty := 27, cs := [AC.int IntKind.i64 x, AC.int IntKind.i64 y, AC.int IntKind.i64 z] }]), (pickL [(decide (k ≤ 12), false)] [0])) := by kernel_rfl
theorem tft_pl : Pl Try.prog 7 [] (.bool true) := fun w => by
  have k0 : (ofE ⟨3, -1, 2⟩ 1 == 0) = true := by decide +kernel
  have L := tft_1
  rw [show (ofV ⟨3, -1, 2⟩ 1 == 34) = true by decide +kernel] at L
  refine evR_calls (I := noFacts) (v := .bool true) (ctxOf_ok libV0_ok (eq_none _)) (by kernel_rfl) Try.func7 rfl lps_nil L rfl (all2_R .nil) rfl w (Nat.zero_le _) (pickL_ok ?_ _)
  repeat' (first | exact cd_nil | refine cd_cons ?_ ?_)
  all_goals first | rfl | with_reducible assumption
structure tpT where
  k : Int
  last : Int
  x : Int
  y : Int
  z : Int
def tpP (k : Int) (last : Int) (x : Int) (y : Int) (z : Int) : Prop := vE ⟨x, y, z⟩ = 0 ∧ 1 ≤ k ∧ k ≤ 13 ∧ last = ofV ⟨x, y, z⟩ (k - 1)
instance (k : Int) (last : Int) (x : Int) (y : Int) (z : Int) : Decidable (tpP k last x y z) := by unfold tpP; infer_instance
def tpTm (k : Int) (last : Int) (x : Int) (y : Int) (z : Int) : List (Nat × AV Fct) := [(7, .w (.one (.int .i64 k))), (5, .w (.one (.int .i64 last)))]
def tpS : LpSt tpT Fct where
  ps := [4]
  tm := fun t => tpTm t.k t.last t.x t.y t.z
  hp := fun t => [⟨27, [.int .i64 t.x, .int .i64 t.y, .int .i64 t.z]⟩]
def tpNx (k : Int) (last : Int) (x : Int) (y : Int) (z : Int) : Nxt tpT Fct := if k ≤ 12 then .go ⟨k + 1, ofV ⟨x, y, z⟩ k, x, y, z⟩ else .out (.exit 0) (tpTm k last x y z) [⟨27, [.int .i64 x, .int .i64 y, .int .i64 z]⟩]
def tpStep (t : tpT) : Nxt tpT Fct := if tpP t.k t.last t.x t.y t.z then tpNx t.k t.last t.x t.y t.z else .bad
theorem tp_go {k last x y z : Int} (h : tpP k last x y z) : tpStep ⟨k, last, x, y, z⟩ = tpNx k last x y z := if_pos h
set_option maxRecDepth 100000 in
set_option maxHeartbeats 4000000 in
theorem tp_round (B : Nat) (t : tpT) (hb : (tpStep t).isBad = false) (rest : List (Nat × AV Fct)) : ∃ fuel path r, evC (ctxIn Try.prog (fctI B) (fun _ => false) libV1 [(14, Try.f14), (37, Try.f37), (15, Try.f15)]) fuel 95 (false :: [false, true, false, true, true, true, true, true]) (loopAt (bodyOf Try.f3) [false, true, false, true, true, true, true, true]) (tpS.tm t ++ (ptrN 0 tpS.ps ++ rest)) (numb 0 (tpS.hp t)) 1 path = some r ∧ (∀ p ∈ r.cd, p.1 = p.2) ∧ Gives tpS 1 r (tpStep t) := by
  obtain ⟨k, last, x, y, z⟩ := t
  by_cases ok : tpP k last x y z
  · rw [tp_go ok]
    clear hb
    unfold tpNx
    obtain ⟨hv, h1, h2, hl⟩ := ok
    have e1 : IntKind.i64.wrap (k + 1) = k + 1 := v64 (by omega) (by omega)
    by_cases hk : k ≤ 12
    · have c0 : decide (k ≤ 12) = true := decide_eq_true hk
      rw [if_pos hk]
      subst hl
      obtain ⟨q1, q2, q3, q4, q5, q6, q7, q8, q9, q10⟩ := tp_all hv h1 hk
      obtain ⟨a1, a2, a3, a4, b1, b2, b3, b4⟩ := q10
      have L := tp_10000000010010010010000 B k (ofV ⟨x, y, z⟩ (k - 1)) x y z rest
      rw [q3] at L
      simp only [if_true] at L
      rw [q5] at L
      have r1 : (ofE ⟨x, y, z⟩ k != 0) = false := by rw [q1]; rfl
      have r2 : (!true) = false := rfl
      have r3 : (!lvT (ofV ⟨x, y, z⟩ k)) = false := by rw [q2]; rfl
      have r4 : (lvN (ofV ⟨x, y, z⟩ k) != k) = false := by rw [q4]; simp
      have r5 : (ofV ⟨x, y, z⟩ (k - 1) != ofV ⟨x, y, z⟩ (k - 1)) = false := by simp
      have r6 : (!in4 (ofV ⟨x, y, z⟩ k) (4 * ofV ⟨x, y, z⟩ (k - 1)) (4 * ofV ⟨x, y, z⟩ (k - 1) + 1) (4 * ofV ⟨x, y, z⟩ (k - 1) + 2) (4 * ofV ⟨x, y, z⟩ (k - 1) + 3)) = false := by rw [q7]; rfl
      have r7 : (!haV (ofV ⟨x, y, z⟩ k) ⟨x, y, z⟩) = false := by rw [q8]; rfl
      have s1 : (!haV (ofV ⟨x, y, z⟩ k) (co1 (plP (ofV ⟨x, y, z⟩ k)))) = false := by rw [a1]; rfl
      have s2 : (!haV (ofV ⟨x, y, z⟩ k) (co2 (plP (ofV ⟨x, y, z⟩ k)))) = false := by rw [a2]; rfl
      have s3 : (!haV (ofV ⟨x, y, z⟩ k) (co3 (plP (ofV ⟨x, y, z⟩ k)))) = false := by rw [a3]; rfl
      have s4 : (!haV (ofV ⟨x, y, z⟩ k) (co4 (plP (ofV ⟨x, y, z⟩ k)))) = false := by rw [a4]; rfl
      have t1 : (!haV (ofV ⟨x, y, z⟩ (k - 1)) (co1 (plP (ofV ⟨x, y, z⟩ k)))) = false := by rw [b1]; rfl
      have t2 : (!haV (ofV ⟨x, y, z⟩ (k - 1)) (co2 (plP (ofV ⟨x, y, z⟩ k)))) = false := by rw [b2]; rfl
      have t3 : (!haV (ofV ⟨x, y, z⟩ (k - 1)) (co3 (plP (ofV ⟨x, y, z⟩ k)))) = false := by rw [b3]; rfl
      have t4 : (!haV (ofV ⟨x, y, z⟩ (k - 1)) (co4 (plP (ofV ⟨x, y, z⟩ k)))) = false := by rw [b4]; rfl
      rw [e1] at L
      refine round_go L (pickL_ok ?_ _) rfl rfl rfl rfl
      repeat' (first | exact cd_nil | refine cd_cons ?_ ?_)
      all_goals first | rfl | with_reducible assumption
    · have c0 : decide (k ≤ 12) = false := decide_eq_false hk
      rw [if_neg hk]
      have L := tp_0 B k last x y z rest
      refine round_out L rfl (pickL_ok ?_ _) rfl rfl rfl
      repeat' (first | exact cd_nil | refine cd_cons ?_ ?_)
      all_goals first | rfl | with_reducible assumption
  · exfalso
    have : tpStep ⟨k, last, x, y, z⟩ = .bad := if_neg ok
    rw [this] at hb; cases hb
theorem tp_runs {x y z : Int} (hv : vE ⟨x, y, z⟩ = 0) : ∀ (n : Nat) (k : Int), k + n = 13 → 1 ≤ k → ∃ m, runs tpStep m ⟨k, ofV ⟨x, y, z⟩ (k - 1), x, y, z⟩ = some (.exit 0, tpTm 13 (ofV ⟨x, y, z⟩ 12) x y z, [⟨27, [.int .i64 x, .int .i64 y, .int .i64 z]⟩])
  | 0, k, h, h1 => by
    obtain rfl : k = 13 := by omega
    refine ⟨1, ?_⟩
    rw [runs, tp_go ⟨hv, by omega, by omega, rfl⟩]
    unfold tpNx
    rw [if_neg (by omega)]
    rfl
  | n + 1, k, h, h1 => by
    obtain ⟨m, hm⟩ := tp_runs hv n (k + 1) (by omega) (by omega)
    refine ⟨m + 1, ?_⟩
    rw [runs, tp_go ⟨hv, by omega, by omega, rfl⟩]
    unfold tpNx
    rw [if_pos (by omega)]
    rw [show k + 1 - 1 = k by omega] at hm
    exact hm
def tpD : LpDef tpT Fct where
  ts := [7, 5]
  ps := [4]
  W := [2, 4, 5, 7, 8, 9, 10, 11, 12, 13, 14, 31, 32, 33, 34, 35, 36, 37, 38, 39, 40, 41, 42, 43, 44, 45, 46, 47, 48, 49, 50, 51, 52, 53, 54, 55, 56, 57, 58, 59, 60, 61, 62, 63, 64, 65, 66, 67, 68, 69, 70, 71, 72, 73, 74, 75, 76, 77, 78, 79, 80, 81, 82, 83, 84, 85, 86, 87, 88, 89, 90, 91, 92, 93, 94]
  dec := fun vs ks => match vs, ks with
    | [.w (.one (.int .i64 k)), .w (.one (.int .i64 last))], [⟨27, [.int .i64 x, .int .i64 y, .int .i64 z]⟩] => some ⟨k, last, x, y, z⟩
    | _, _ => none
  spec := fun t => some (.exit 0, tpTm 13 (ofV ⟨t.x, t.y, t.z⟩ 12) t.x t.y t.z, [⟨27, [.int .i64 t.x, .int .i64 t.y, .int .i64 t.z]⟩], [(vE ⟨t.x, t.y, t.z⟩ == 0, true), (t.last == ofV ⟨t.x, t.y, t.z⟩ 0, true), (t.k == 1, true)])
theorem tpD_ok (B : Nat) (x : Code) (hx : codeAt (bodyOf Try.f3) [false, true, false, true, true, true, true, true] = some (.loop x)) : LpOk Try.prog (fctI B) 95 x (tpD.sp (fun _ => true)) := by
  obtain rfl := loopAt_eq hx
  refine lp_ok (c := ctxIn Try.prog (fctI B) (fun _ => false) libV1 [(14, Try.f14), (37, Try.f37), (15, Try.f15)]) (ctxIn_ok (libV1_ok B) (eq_none _) fnsV_ok) (by kernel_rfl) hx lps_nil (S := tpS) (step := tpStep) (fun _ _ => rfl) (by kernel_rfl) (by kernel_rfl) ?_ rfl (fun t e he => ?_) (fun t hb rest => tp_round B t hb rest) ?_
  · intro vs ks s hv1 h hv2
    simp only [tpD] at h
    split at h
    · cases h
      exact ⟨rfl, fun e he => he⟩
    · cases h
  · simp only [tpS, tpTm, List.mem_cons, List.not_mem_nil, or_false] at he
    rcases he with rfl | rfl <;> rfl
  · intro s ex outs wb cd h hc
    obtain ⟨k, last, x, y, z⟩ := s
    simp only [tpD] at h
    cases h
    obtain ⟨h1, h2, h3⟩ := cd3 hc
    have h1 : vE ⟨x, y, z⟩ = 0 := by simpa using h1
    have h3 : k = 1 := by simpa using h3
    have h2 : last = ofV ⟨x, y, z⟩ 0 := by simpa using h2
    subst h3 h2
    exact tp_runs h1 12 1 (by omega) (by omega)
end
end Go.Proofs.Ytbkeohcoahdgcaa.AtTl

