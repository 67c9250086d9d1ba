/-
  The contracts of frac.Sub, frac.Div and frac.Cmp.
  Conditions: the arguments are int64.
-/
import Derived.Test.YtijpjjpndpdjpaaF4
set_option linter.unusedVariables false
set_option linter.unusedSimpArgs false
namespace Go.Proofs.Ytijpjjpndpdjpaa
open Go.RowKit Go.Shelf Wd

theorem chkV_least (d : Int) : chkV (-9223372036854775808) d = 4 := chkV_no (Bool.eq_false_iff.2 fun h => by have := frOk_iff.1 h; omega)
theorem add_neg_wrap (a b c d : Int) (c1 : -9223372036854775808 ≤ c) (c2 : c ≤ 9223372036854775807) :
    addA a b (Go.RowKit.wrap64 (-c)) d = addA a b (-c) d ∧ addB a b (Go.RowKit.wrap64 (-c)) d = addB a b (-c) d ∧ addE a b (Go.RowKit.wrap64 (-c)) d = addE a b (-c) d := by
  rcases Int.lt_or_le (-9223372036854775808) c with h | h
  · rw [wrap_id64 (by omega) (by omega)]; exact ⟨rfl, rfl, rfl⟩
  · obtain rfl : c = -9223372036854775808 := by omega
    have e : Go.RowKit.wrap64 (- -9223372036854775808) = -9223372036854775808 := by rw [show Go.RowKit.wrap64 (- -9223372036854775808) = IntKind.i64.wrap (- -9223372036854775808) from (Go.IntWalk.i64_left _).symm, IntKind.wrap_i64]; omega
    rw [e]
    have e2 := chk2_neg a b (-9223372036854775808) d
    have n1 : ¬ chk2 a b (-9223372036854775808) d = 0 := by
      unfold chk2; rw [chkV_least]; split <;> omega
    unfold addA addB addE
    rw [e2, if_neg n1, if_neg n1, if_neg n1, if_neg n1, if_neg n1, if_neg n1]
    exact ⟨rfl, rfl, rfl⟩
set_option maxRecDepth 100000 in
set_option maxHeartbeats 1000000 in
theorem subf_any (a b c d : Int) (a1 : -9223372036854775808 ≤ a) (a2 : a ≤ 9223372036854775807) (b1 : -9223372036854775808 ≤ b) (b2 : b ≤ 9223372036854775807) (c1 : -9223372036854775808 ≤ c) (c2 : c ≤ 9223372036854775807) (d1 : -9223372036854775808 ≤ d) (d2 : d ≤ 9223372036854775807) (w : World) : Calls Try.prog 67 #[fr a b, fr c d] w fun e w' => e = .returned (.tuple #[fr (addA a b (-c) d) (addB a b (-c) d), .int .i64 (addE a b (-c) d)]) ∧ Below w.heap.size w w' := by
  obtain ⟨hA, hB, hE⟩ := add_neg_wrap a b c d c1 c2
  rw [← hA, ← hB, ← hE]
  clear hA hB hE
  obtain ⟨k, hk⟩ : ∃ k, Go.RowKit.wrap64 (-c) = k := ⟨_, rfl⟩
  have k1 : -9223372036854775808 ≤ k ∧ k ≤ 9223372036854775807 := by rw [← hk, show Go.RowKit.wrap64 (-c) = IntKind.i64.wrap (-c) from (Go.IntWalk.i64_left _).symm, IntKind.wrap_i64]; omega
  rw [hk]
  obtain ⟨A, hA⟩ : ∃ v, addA a b k d = v := ⟨_, rfl⟩
  obtain ⟨B, hB⟩ : ∃ v, addB a b k d = v := ⟨_, rfl⟩
  obtain ⟨E, hE⟩ : ∃ v, addE a b k d = v := ⟨_, rfl⟩
  rw [hA, hB, hE]
  have HK : Hid (addA a b k d = A ∧ addB a b k d = B ∧ addE a b k d = E) := ⟨hA, hB, hE⟩
  clear hA hB hE
  obtain ⟨W, hW, h0, xa, xb, xr⟩ := fbox3 w (.int .i64 a) (.int .i64 b) (.int .i64 c) (.int .i64 d) (.int .i64 0) (.int .i64 0)
  have HW := Lib.hid hW
  clear hW
  go_enter Try.func67, Try.ntmps67
  go_wp2_with fail
  rw [← HW.out]
  clear HW
  have c_xa := xa.c0
  have d_xa := xa.c1
  have p_xa := xa.f0
  have q_xa := xa.f1
  have c_xb := xb.c0
  have d_xb := xb.c1
  have p_xb := xb.f0
  have q_xb := xb.f1
  have c_xr := xr.c0
  have d_xr := xr.c1
  have p_xr := xr.f0
  have q_xr := xr.f1
  go_wp2_with fail
  clear c_xa d_xa p_xa q_xa c_xb d_xb p_xb q_xb c_xr d_xr p_xr q_xr
  go_at_call 66; (with_reducible refine (addf_any a b k d a1 a2 b1 b2 k1.1 k1.2 d1 d2 _).mono ?_)
  rintro e W1 ⟨rfl, hb⟩
  replace xa := xa.go hb
  replace xb := xb.go hb
  replace xr := xr.go hb
  replace h0 := bel_go h0 h0.size hb
  clear hb
  rw [HK.out.1, HK.out.2.1, HK.out.2.2]
  have c_xr := xr.c0
  have d_xr := xr.c1
  have p_xr := xr.f0
  have q_xr := xr.f1
  go_wp2_with fail
  clear c_xr d_xr p_xr q_xr
  have hP := put2 W1 (w.heap.size + 1 + 1) (.int .i64 (A)) (.int .i64 (B))
  have hN := xr.stored (.int .i64 (A)) (.int .i64 (B))
  generalize (W1.setCell _ _).setCell _ _ = W2 at hP hN ⊢
  replace h0 := bel_put h0 (by omega) hP
  clear hP xr
  have xr := hN
  clear hN
  have e0 := xr.c0
  have e1 := xr.c1
  exact bodyPost_ret (v := .tuple #[fr (A) (B), .int .i64 (E)]) (by simp [results, Try.results67, go_sem, e0, e1]) rfl ⟨rfl, h0⟩
theorem div_flip (a b c d : Int) (h1 : Fv a b) (h2 : Fv c d) (hc : c < 0) : mulA a b (-d) (-c) = divfA a b c d ∧ mulB a b (-d) (-c) = divfB a b c d ∧ mulE a b (-d) (-c) = divfE a b c d := by
  have k2 := h2.bd
  have v : Fv (-d) (-c) := ⟨by omega, by rw [gcd_neg_l, Int.gcd_neg, Int.gcd_comm]; exact h2.2⟩
  have h0 := chk2_zero.2 ⟨h1, h2⟩
  have h3 := chk2_zero.2 ⟨h1, v⟩
  unfold mulA mulB mulE divfA divfB divfE
  rw [if_pos h0, if_pos h0, if_pos h0, if_pos h3, if_pos h3, if_pos h3, if_neg (by omega), if_neg (by omega), if_neg (by omega)]
  have hD : b * c ≠ 0 := Int.mul_ne_zero (Int.ne_of_gt h1.pos) (by omega)
  obtain ⟨r1, r2⟩ := red_neg (a * d) (b * c) hD
  unfold lowA lowB lowE
  rw [Int.mul_neg, Int.mul_neg, r1, r2]
  exact ⟨rfl, rfl, rfl⟩
theorem div_up (a b c d : Int) (h1 : Fv a b) (h2 : Fv c d) (hc : 0 < c) : mulA a b d c = divfA a b c d ∧ mulB a b d c = divfB a b c d ∧ mulE a b d c = divfE a b c d := by
  have k2 := h2.bd
  have v : Fv d c := ⟨by omega, by rw [Int.gcd_comm]; exact h2.2⟩
  have h0 := chk2_zero.2 ⟨h1, h2⟩
  have h3 := chk2_zero.2 ⟨h1, v⟩
  unfold mulA mulB mulE divfA divfB divfE
  rw [if_pos h0, if_pos h0, if_pos h0, if_pos h3, if_pos h3, if_pos h3, if_neg (by omega), if_neg (by omega), if_neg (by omega)]
  exact ⟨rfl, rfl, rfl⟩
set_option maxRecDepth 100000 in
set_option maxHeartbeats 4000000 in
theorem divf_any (a b c d : Int) (a1 : -9223372036854775808 ≤ a) (a2 : a ≤ 9223372036854775807) (b1 : -9223372036854775808 ≤ b) (b2 : b ≤ 9223372036854775807) (c1 : -9223372036854775808 ≤ c) (c2 : c ≤ 9223372036854775807) (d1 : -9223372036854775808 ≤ d) (d2 : d ≤ 9223372036854775807) (w : World) : Calls Try.prog 69 #[fr a b, fr c d] w fun e w' => e = .returned (.tuple #[fr (divfA a b c d) (divfB a b c d), .int .i64 (divfE a b c d)]) ∧ Below w.heap.size w w' := by
  by_cases h : chk2 a b c d = 0
  · have HC := Lib.hid h
    obtain ⟨v1, v2⟩ := chk2_zero.1 h
    have k2 := v2.bd
    by_cases hc : c = 0
    · rw [show divfA a b c d = 0 by unfold divfA; rw [if_pos h, if_pos hc], show divfB a b c d = 0 by unfold divfB; rw [if_pos h, if_pos hc], show divfE a b c d = 1 by unfold divfE; rw [if_pos h, if_pos hc]]
      have hcb : (c == 0) = true := by simpa using hc
      clear h v1 v2 hc
      obtain ⟨W, hW, h0, xa, xb, xr⟩ := fbox3 w (.int .i64 a) (.int .i64 b) (.int .i64 c) (.int .i64 d) (.int .i64 0) (.int .i64 0)
      have HW := Lib.hid hW
      clear hW
      go_enter Try.func69, Try.ntmps69
      go_wp2_with fail
      rw [← HW.out]
      clear HW
      have c_xa := xa.c0
      have d_xa := xa.c1
      have p_xa := xa.f0
      have q_xa := xa.f1
      have c_xb := xb.c0
      have d_xb := xb.c1
      have p_xb := xb.f0
      have q_xb := xb.f1
      have c_xr := xr.c0
      have d_xr := xr.c1
      have p_xr := xr.f0
      have q_xr := xr.f1
      go_wp2_with fail
      clear c_xa d_xa p_xa q_xa c_xb d_xb p_xb q_xb c_xr d_xr p_xr q_xr
      go_at_call 116; (with_reducible refine (checkBoth_any a b c d a1 a2 b1 b2 c1 c2 d1 d2 _).mono ?_)
      rintro e W1 ⟨rfl, hb⟩
      replace xa := xa.go hb
      replace xb := xb.go hb
      replace xr := xr.go hb
      replace h0 := bel_go h0 h0.size hb
      clear hb
      rw [HC.out]
      have c_xb := xb.c0
      have d_xb := xb.c1
      have p_xb := xb.f0
      have q_xb := xb.f1
      have c_xr := xr.c0
      have d_xr := xr.c1
      have p_xr := xr.f0
      have q_xr := xr.f1
      go_wp2_with fail
      clear c_xb d_xb p_xb q_xb c_xr d_xr p_xr q_xr
      have hP := put2 W1 (w.heap.size + 1 + 1) (.int .i64 0) (.int .i64 0)
      have hN := xr.stored (.int .i64 0) (.int .i64 0)
      generalize (W1.setCell _ _).setCell _ _ = WZ at hP hN ⊢
      replace h0 := bel_put h0 (by omega) hP
      clear hP xr
      have xr := hN
      clear hN
      have e0 := xr.c0
      have e1 := xr.c1
      exact bodyPost_ret (v := .tuple #[fr (0) (0), .int .i64 (1)]) (by simp [results, Try.results69, go_sem, e0, e1]) rfl ⟨rfl, h0⟩
    · have hcb : (c == 0) = false := by simpa using hc
      obtain ⟨A, hA⟩ : ∃ v, divfA a b c d = v := ⟨_, rfl⟩
      obtain ⟨B, hB⟩ : ∃ v, divfB a b c d = v := ⟨_, rfl⟩
      obtain ⟨E, hE⟩ : ∃ v, divfE a b c d = v := ⟨_, rfl⟩
      rw [hA, hB, hE]
      rcases Int.lt_or_gt_of_ne hc with hc0 | hc0
      · obtain ⟨g1, g2, g3⟩ := div_flip a b c d v1 v2 hc0
        have HK : Hid (mulA a b (-d) (-c) = A ∧ mulB a b (-d) (-c) = B ∧ mulE a b (-d) (-c) = E) := by unfold Hid; rw [g1, g2, g3]; exact ⟨hA, hB, hE⟩
        clear g1 g2 g3 hA hB hE h v1 v2 hc
        obtain ⟨W, hW, h0, xa, xb, xr⟩ := fbox3 w (.int .i64 a) (.int .i64 b) (.int .i64 c) (.int .i64 d) (.int .i64 0) (.int .i64 0)
        have HW := Lib.hid hW
        clear hW
        go_enter Try.func69, Try.ntmps69
        go_wp2_with fail
        rw [← HW.out]
        clear HW
        have c_xa := xa.c0
        have d_xa := xa.c1
        have p_xa := xa.f0
        have q_xa := xa.f1
        have c_xb := xb.c0
        have d_xb := xb.c1
        have p_xb := xb.f0
        have q_xb := xb.f1
        have c_xr := xr.c0
        have d_xr := xr.c1
        have p_xr := xr.f0
        have q_xr := xr.f1
        go_wp2_with fail
        clear c_xa d_xa p_xa q_xa c_xb d_xb p_xb q_xb c_xr d_xr p_xr q_xr
        go_at_call 116; (with_reducible refine (checkBoth_any a b c d a1 a2 b1 b2 c1 c2 d1 d2 _).mono ?_)
        rintro e W1 ⟨rfl, hb⟩
        replace xa := xa.go hb
        replace xb := xb.go hb
        replace xr := xr.go hb
        replace h0 := bel_go h0 h0.size hb
        clear hb
        rw [HC.out]
        have c_xb := xb.c0
        have d_xb := xb.c1
        have p_xb := xb.f0
        have q_xb := xb.f1
        go_upto_region 7 with fail
        clear c_xb d_xb p_xb q_xb
        have hal : Below W1.heap.size W1 (W1.alloc (.cells #[.int .i64 d, .int .i64 c] 76)) := (Below.refl _ _).alloc (Nat.le_refl _) _
        have xi := Bx.new W1 76 (.int .i64 d) (.int .i64 c)
        have la := xa.lt
        have lb := xb.lt
        have lr := xr.lt
        replace xa := xa.go hal
        replace xb := xb.go hal
        replace xr := xr.go hal
        replace h0 := bel_go h0 h0.size hal
        clear hal
        generalize W1.heap.size = BI at xi la lb lr ⊢
        generalize W1.alloc (.cells #[.int .i64 d, .int .i64 c] 76) = W2 at xa xb xr xi h0 ⊢
        have u1 : Go.RowKit.wrap64 (-d) = -d := wrap_id64 (by omega) (by omega)
        have u2 : Go.RowKit.wrap64 (-c) = -c := wrap_id64 (by omega) (by omega)
        have c_xb := xb.c0
        have d_xb := xb.c1
        have p_xb := xb.f0
        have q_xb := xb.f1
        have c_xi := xi.c0
        have d_xi := xi.c1
        have p_xi := xi.f0
        have q_xi := xi.f1
        go_upto_region 9 with fail
        clear c_xb d_xb p_xb q_xb c_xi d_xi p_xi q_xi
        have hP := put2 W2 (BI) (.int .i64 (-d)) (.int .i64 (-c))
        have hN := xi.stored (.int .i64 (-d)) (.int .i64 (-c))
        generalize (W2.setCell _ _).setCell _ _ = W3 at hP hN ⊢
        replace xa := xa.put hP (by omega)
        replace xb := xb.put hP (by omega)
        replace xr := xr.put hP (by omega)
        replace h0 := bel_put h0 (by omega) hP
        clear hP xi
        have xi := hN
        clear hN
        have c_xa := xa.c0
        have d_xa := xa.c1
        have p_xa := xa.f0
        have q_xa := xa.f1
        have c_xi := xi.c0
        have d_xi := xi.c1
        have p_xi := xi.f0
        have q_xi := xi.f1
        have c_xr := xr.c0
        have d_xr := xr.c1
        have p_xr := xr.f0
        have q_xr := xr.f1
        go_wp2_with fail
        clear c_xa d_xa p_xa q_xa c_xi d_xi p_xi q_xi c_xr d_xr p_xr q_xr
        go_at_call 68; (with_reducible refine (mulf_any a b (-d) (-c) a1 a2 b1 b2 (by omega) (by omega) (by omega) (by omega) _).mono ?_)
        rintro e W4 ⟨rfl, hb⟩
        replace xa := xa.go hb
        replace xi := xi.go hb
        replace xr := xr.go hb
        replace h0 := bel_go h0 h0.size hb
        clear hb
        rw [HK.out.1, HK.out.2.1, HK.out.2.2]
        have c_xr := xr.c0
        have d_xr := xr.c1
        have p_xr := xr.f0
        have q_xr := xr.f1
        go_wp2_with fail
        clear c_xr d_xr p_xr q_xr
        have hP := put2 W4 (w.heap.size + 1 + 1) (.int .i64 (A)) (.int .i64 (B))
        have hN := xr.stored (.int .i64 (A)) (.int .i64 (B))
        generalize (W4.setCell _ _).setCell _ _ = W5 at hP hN ⊢
        replace h0 := bel_put h0 (by omega) hP
        clear hP xr
        have xr := hN
        clear hN
        have e0 := xr.c0
        have e1 := xr.c1
        exact bodyPost_ret (v := .tuple #[fr (A) (B), .int .i64 (E)]) (by simp [results, Try.results69, go_sem, e0, e1]) rfl ⟨rfl, h0⟩
      · obtain ⟨g1, g2, g3⟩ := div_up a b c d v1 v2 hc0
        have HK : Hid (mulA a b d c = A ∧ mulB a b d c = B ∧ mulE a b d c = E) := by unfold Hid; rw [g1, g2, g3]; exact ⟨hA, hB, hE⟩
        clear g1 g2 g3 hA hB hE h v1 v2 hc
        obtain ⟨W, hW, h0, xa, xb, xr⟩ := fbox3 w (.int .i64 a) (.int .i64 b) (.int .i64 c) (.int .i64 d) (.int .i64 0) (.int .i64 0)
        have HW := Lib.hid hW
        clear hW
        go_enter Try.func69, Try.ntmps69
        go_wp2_with fail
        rw [← HW.out]
        clear HW
        have c_xa := xa.c0
        have d_xa := xa.c1
        have p_xa := xa.f0
        have q_xa := xa.f1
        have c_xb := xb.c0
        have d_xb := xb.c1
        have p_xb := xb.f0
        have q_xb := xb.f1
        have c_xr := xr.c0
        have d_xr := xr.c1
        have p_xr := xr.f0
        have q_xr := xr.f1
        go_wp2_with fail
        clear c_xa d_xa p_xa q_xa c_xb d_xb p_xb q_xb c_xr d_xr p_xr q_xr
        go_at_call 116; (with_reducible refine (checkBoth_any a b c d a1 a2 b1 b2 c1 c2 d1 d2 _).mono ?_)
        rintro e W1 ⟨rfl, hb⟩
        replace xa := xa.go hb
        replace xb := xb.go hb
        replace xr := xr.go hb
        replace h0 := bel_go h0 h0.size hb
        clear hb
        rw [HC.out]
        have c_xb := xb.c0
        have d_xb := xb.c1
        have p_xb := xb.f0
        have q_xb := xb.f1
        go_upto_region 7 with fail
        clear c_xb d_xb p_xb q_xb
        have hal : Below W1.heap.size W1 (W1.alloc (.cells #[.int .i64 d, .int .i64 c] 76)) := (Below.refl _ _).alloc (Nat.le_refl _) _
        have xi := Bx.new W1 76 (.int .i64 d) (.int .i64 c)
        have la := xa.lt
        have lb := xb.lt
        have lr := xr.lt
        replace xa := xa.go hal
        replace xb := xb.go hal
        replace xr := xr.go hal
        replace h0 := bel_go h0 h0.size hal
        clear hal
        generalize W1.heap.size = BI at xi la lb lr ⊢
        generalize W1.alloc (.cells #[.int .i64 d, .int .i64 c] 76) = W2 at xa xb xr xi h0 ⊢
        have c_xb := xb.c0
        have d_xb := xb.c1
        have p_xb := xb.f0
        have q_xb := xb.f1
        have c_xi := xi.c0
        have d_xi := xi.c1
        have p_xi := xi.f0
        have q_xi := xi.f1
        go_upto_region 9 with fail
        clear c_xb d_xb p_xb q_xb c_xi d_xi p_xi q_xi
        have c_xa := xa.c0
        have d_xa := xa.c1
        have p_xa := xa.f0
        have q_xa := xa.f1
        have c_xi := xi.c0
        have d_xi := xi.c1
        have p_xi := xi.f0
        have q_xi := xi.f1
        have c_xr := xr.c0
        have d_xr := xr.c1
        have p_xr := xr.f0
        have q_xr := xr.f1
        go_wp2_with fail
        clear c_xa d_xa p_xa q_xa c_xi d_xi p_xi q_xi c_xr d_xr p_xr q_xr
        go_at_call 68; (with_reducible refine (mulf_any a b d c a1 a2 b1 b2 d1 d2 c1 c2 _).mono ?_)
        rintro e W4 ⟨rfl, hb⟩
        replace xa := xa.go hb
        replace xi := xi.go hb
        replace xr := xr.go hb
        replace h0 := bel_go h0 h0.size hb
        clear hb
        rw [HK.out.1, HK.out.2.1, HK.out.2.2]
        have c_xr := xr.c0
        have d_xr := xr.c1
        have p_xr := xr.f0
        have q_xr := xr.f1
        go_wp2_with fail
        clear c_xr d_xr p_xr q_xr
        have hP := put2 W4 (w.heap.size + 1 + 1) (.int .i64 (A)) (.int .i64 (B))
        have hN := xr.stored (.int .i64 (A)) (.int .i64 (B))
        generalize (W4.setCell _ _).setCell _ _ = W5 at hP hN ⊢
        replace h0 := bel_put h0 (by omega) hP
        clear hP xr
        have xr := hN
        clear hN
        have e0 := xr.c0
        have e1 := xr.c1
        exact bodyPost_ret (v := .tuple #[fr (A) (B), .int .i64 (E)]) (by simp [results, Try.results69, go_sem, e0, e1]) rfl ⟨rfl, h0⟩
  · rw [show divfA a b c d = 0 from if_neg h, show divfB a b c d = 0 from if_neg h, show divfE a b c d = chk2 a b c d from if_neg h]
    generalize hk_ : chk2 a b c d = k at h
    have HK := Lib.hid hk_
    clear hk_
    have hk : (k != 0) = true := by simpa using h
    obtain ⟨W, hW, h0, xa, xb, xr⟩ := fbox3 w (.int .i64 a) (.int .i64 b) (.int .i64 c) (.int .i64 d) (.int .i64 0) (.int .i64 0)
    have HW := Lib.hid hW
    clear hW
    go_enter Try.func69, Try.ntmps69
    go_wp2_with fail
    rw [← HW.out]
    clear HW
    have c_xa := xa.c0
    have d_xa := xa.c1
    have p_xa := xa.f0
    have q_xa := xa.f1
    have c_xb := xb.c0
    have d_xb := xb.c1
    have p_xb := xb.f0
    have q_xb := xb.f1
    have c_xr := xr.c0
    have d_xr := xr.c1
    have p_xr := xr.f0
    have q_xr := xr.f1
    go_wp2_with fail
    clear c_xa d_xa p_xa q_xa c_xb d_xb p_xb q_xb c_xr d_xr p_xr q_xr
    go_at_call 116; (with_reducible refine (checkBoth_any a b c d a1 a2 b1 b2 c1 c2 d1 d2 _).mono ?_)
    rintro e W1 ⟨rfl, hb⟩
    replace xa := xa.go hb
    replace xb := xb.go hb
    replace xr := xr.go hb
    replace h0 := bel_go h0 h0.size hb
    clear hb
    rw [HK.out]
    have c_xr := xr.c0
    have d_xr := xr.c1
    have p_xr := xr.f0
    have q_xr := xr.f1
    go_wp2_with fail
    clear c_xr d_xr p_xr q_xr
    have hP := put2 W1 (w.heap.size + 1 + 1) (.int .i64 (0)) (.int .i64 (0))
    have hN := xr.stored (.int .i64 (0)) (.int .i64 (0))
    generalize (W1.setCell _ _).setCell _ _ = WZ at hP hN ⊢
    replace h0 := bel_put h0 (by omega) hP
    clear hP xr
    have xr := hN
    clear hN
    have e0 := xr.c0
    have e1 := xr.c1
    exact bodyPost_ret (v := .tuple #[fr (0) (0), .int .i64 (k)]) (by simp [results, Try.results69, go_sem, e0, e1]) rfl ⟨rfl, h0⟩
set_option maxRecDepth 100000 in
set_option maxHeartbeats 4000000 in
theorem cmpf_any (a b c d : Int) (a1 : -9223372036854775808 ≤ a) (a2 : a ≤ 9223372036854775807) (b1 : -9223372036854775808 ≤ b) (b2 : b ≤ 9223372036854775807) (c1 : -9223372036854775808 ≤ c) (c2 : c ≤ 9223372036854775807) (d1 : -9223372036854775808 ≤ d) (d2 : d ≤ 9223372036854775807) (w : World) : Calls Try.prog 73 #[fr a b, fr c d] w fun e w' => e = .returned (.int .i64 (cmpfV a b c d)) ∧ Below w.heap.size w w' := by
  by_cases h : chk2 a b c d = 0
  · rw [show cmpfV a b c d = cmpI (a * d) (c * b) from if_pos h]
    have HC := Lib.hid h
    obtain ⟨k, hk⟩ : ∃ k, cmpI (a * d) (c * b) = k := ⟨_, rfl⟩
    rw [hk]
    obtain ⟨p1h, hp1h⟩ : ∃ v, a * d / 18446744073709551616 = v := ⟨_, rfl⟩
    obtain ⟨p1l, hp1l⟩ : ∃ v, a * d % 18446744073709551616 = v := ⟨_, rfl⟩
    obtain ⟨p2h, hp2h⟩ : ∃ v, c * b / 18446744073709551616 = v := ⟨_, rfl⟩
    obtain ⟨p2l, hp2l⟩ : ∃ v, c * b % 18446744073709551616 = v := ⟨_, rfl⟩
    have HP1 : Hid (∀ w : World, Calls Try.prog 117 #[.int .i64 a, .int .i64 d] w fun e w' => e = .returned (.agg #[.int .i64 p1h, .int .u64 p1l]) ∧ Below w.heap.size w w') := by
      intro w
      have := prod_any a d a1 a2 d1 d2 w
      rw [wide, hp1h, hp1l] at this
      exact this
    have HP2 : Hid (∀ w : World, Calls Try.prog 117 #[.int .i64 c, .int .i64 b] w fun e w' => e = .returned (.agg #[.int .i64 p2h, .int .u64 p2l]) ∧ Below w.heap.size w w') := by
      intro w
      have := prod_any c b c1 c2 b1 b2 w
      rw [wide, hp2h, hp2l] at this
      exact this
    have HCM : Hid (∀ w : World, Calls Try.prog 122 #[.agg #[.int .i64 p1h, .int .u64 p1l], .agg #[.int .i64 p2h, .int .u64 p2l]] w fun e w' => e = .returned (.int .i64 k) ∧ Below w.heap.size w w') := by
      intro w
      have := wcmp_any (a * d) (c * b) w
      rw [hk, wide, wide, hp1h, hp1l, hp2h, hp2l] at this
      exact this
    clear h hk hp1h hp1l hp2h hp2l
    obtain ⟨W, hW, h0, xa, xb⟩ := fbox2 w (.int .i64 a) (.int .i64 b) (.int .i64 c) (.int .i64 d)
    have HW := Lib.hid hW
    clear hW
    go_enter Try.func73, Try.ntmps73
    go_wp2_with fail
    rw [← HW.out]
    clear HW
    have c_xa := xa.c0
    have d_xa := xa.c1
    have p_xa := xa.f0
    have q_xa := xa.f1
    have c_xb := xb.c0
    have d_xb := xb.c1
    have p_xb := xb.f0
    have q_xb := xb.f1
    go_wp2_with fail
    clear c_xa d_xa p_xa q_xa c_xb d_xb p_xb q_xb
    go_at_call 116; (with_reducible refine (checkBoth_any a b c d a1 a2 b1 b2 c1 c2 d1 d2 _).mono ?_)
    rintro e W1 ⟨rfl, hb⟩
    replace xa := xa.go hb
    replace xb := xb.go hb
    replace h0 := bel_go h0 h0.size hb
    clear hb
    rw [HC.out]
    go_wp2_with fail
    refine wp_region_held_drew (S := fun W' => Bx W' (w.heap.size) 76 (.int .i64 a) (.int .i64 b) ∧ Bx W' (w.heap.size + 1) 76 (.int .i64 c) (.int .i64 d)) (by kernel_rfl) (⟨xa.drew, xb.drew⟩) (fun _ => ?_)
    replace xa := xa.drew
    replace xb := xb.drew
    replace h0 := Below.drew h0
    generalize W1.drew = W1 at xa xb h0 ⊢
    refine wpAnyH_take (i := 0) (v := ?_) rfl (by kernel_rfl) (by kernel_rfl) (by kernel_rfl) (fun _ _ _ h => h) (Or.inl ⟨by kernel_rfl, ?_⟩) (⟨xa, xb⟩) ?_
    rotate_left
    focus (intro W' hSw; obtain ⟨hx0, hx1⟩ := hSw; have hc0 := hx0.c0; have hc1 := hx0.c1; have hc2 := hx1.c0; have hc3 := hx1.c1; clear hx0 hx1; go_simp; (try with_reducible rfl))
    (try simp only [Act.put, List.setIfInBounds_toArray, List.set_cons_zero, List.set_cons_succ, List.getElem_toArray, List.getElem_cons_zero, List.getElem_cons_succ])
    refine wpAnyH_take (i := 1) (v := ?_) rfl (by kernel_rfl) (by kernel_rfl) (by kernel_rfl) (fun _ _ _ h => h) (Or.inl ⟨by kernel_rfl, ?_⟩) (⟨xa, xb⟩) ?_
    rotate_left
    focus (intro W' hSw; obtain ⟨hx0, hx1⟩ := hSw; have hc0 := hx0.c0; have hc1 := hx0.c1; have hc2 := hx1.c0; have hc3 := hx1.c1; clear hx0 hx1; go_simp; (try with_reducible rfl))
    (try simp only [Act.put, List.setIfInBounds_toArray, List.set_cons_zero, List.set_cons_succ, List.getElem_toArray, List.getElem_cons_zero, List.getElem_cons_succ])
    refine wpAnyH_take (i := 2) (v := ?_) rfl (by kernel_rfl) (by kernel_rfl) (by kernel_rfl) (fun _ _ _ h => h) (Or.inl ⟨by kernel_rfl, ?_⟩) (⟨xa, xb⟩) ?_
    rotate_left
    focus (intro W' hSw; obtain ⟨hx0, hx1⟩ := hSw; have hc0 := hx0.c0; have hc1 := hx0.c1; have hc2 := hx1.c0; have hc3 := hx1.c1; clear hx0 hx1; go_simp; (try with_reducible rfl))
    (try simp only [Act.put, List.setIfInBounds_toArray, List.set_cons_zero, List.set_cons_succ, List.getElem_toArray, List.getElem_cons_zero, List.getElem_cons_succ])
    refine wpAnyH_take (i := 3) (v := ?_) rfl (by kernel_rfl) (by kernel_rfl) (by kernel_rfl) (fun _ _ _ h => h) (Or.inl ⟨by kernel_rfl, ?_⟩) (⟨xa, xb⟩) ?_
    rotate_left
    focus (intro W' hSw; obtain ⟨hx0, hx1⟩ := hSw; have hc0 := hx0.c0; have hc1 := hx0.c1; have hc2 := hx1.c0; have hc3 := hx1.c1; clear hx0 hx1; go_simp; (try with_reducible rfl))
    (try simp only [Act.put, List.setIfInBounds_toArray, List.set_cons_zero, List.set_cons_succ, List.getElem_toArray, List.getElem_cons_zero, List.getElem_cons_succ])
    refine wpAnyH_take (i := 5) (v := ?_) rfl (by kernel_rfl) (by kernel_rfl) (by kernel_rfl) (fun _ _ _ h => h) (Or.inl ⟨by kernel_rfl, ?_⟩) (⟨xa, xb⟩) ?_
    rotate_left
    focus (intro W' hSw; obtain ⟨hx0, hx1⟩ := hSw; have hc0 := hx0.c0; have hc1 := hx0.c1; have hc2 := hx1.c0; have hc3 := hx1.c1; clear hx0 hx1; go_simp; (try with_reducible rfl))
    (try simp only [Act.put, List.setIfInBounds_toArray, List.set_cons_zero, List.set_cons_succ, List.getElem_toArray, List.getElem_cons_zero, List.getElem_cons_succ])
    refine wpAnyH_take (i := 6) (v := ?_) rfl (by kernel_rfl) (by kernel_rfl) (by kernel_rfl) (fun _ _ _ h => h) (Or.inl ⟨by kernel_rfl, ?_⟩) (⟨xa, xb⟩) ?_
    rotate_left
    focus (intro W' hSw; obtain ⟨hx0, hx1⟩ := hSw; have hc0 := hx0.c0; have hc1 := hx0.c1; have hc2 := hx1.c0; have hc3 := hx1.c1; clear hx0 hx1; go_simp; (try with_reducible rfl))
    (try simp only [Act.put, List.setIfInBounds_toArray, List.set_cons_zero, List.set_cons_succ, List.getElem_toArray, List.getElem_cons_zero, List.getElem_cons_succ])
    refine wpAnyH_take (i := 7) (v := ?_) rfl (by kernel_rfl) (by kernel_rfl) (by kernel_rfl) (fun _ _ _ h => h) (Or.inl ⟨by kernel_rfl, ?_⟩) (⟨xa, xb⟩) ?_
    rotate_left
    focus (intro W' hSw; obtain ⟨hx0, hx1⟩ := hSw; have hc0 := hx0.c0; have hc1 := hx0.c1; have hc2 := hx1.c0; have hc3 := hx1.c1; clear hx0 hx1; go_simp; (try with_reducible rfl))
    (try simp only [Act.put, List.setIfInBounds_toArray, List.set_cons_zero, List.set_cons_succ, List.getElem_toArray, List.getElem_cons_zero, List.getElem_cons_succ])
    refine wpAnyH_take (i := 8) (v := ?_) rfl (by kernel_rfl) (by kernel_rfl) (by kernel_rfl) (fun _ _ _ h => h) (Or.inl ⟨by kernel_rfl, ?_⟩) (⟨xa, xb⟩) ?_
    rotate_left
    focus (intro W' hSw; obtain ⟨hx0, hx1⟩ := hSw; have hc0 := hx0.c0; have hc1 := hx0.c1; have hc2 := hx1.c0; have hc3 := hx1.c1; clear hx0 hx1; go_simp; (try with_reducible rfl))
    (try simp only [Act.put, List.setIfInBounds_toArray, List.set_cons_zero, List.set_cons_succ, List.getElem_toArray, List.getElem_cons_zero, List.getElem_cons_succ])
    refine wpAnyH_ready (rs := [4]) (by kernel_rfl) (by simp) ?_
    refine AllReadyH.cons rfl (fun K hK => ?_) (AllReadyH.nil)
    go_simp
    go_at_call 117; (with_reducible refine (HP1.out _).mono ?_)

    rintro e W2 ⟨rfl, hb⟩
    replace xa := xa.go hb
    replace xb := xb.go hb
    replace h0 := bel_go h0 h0.size hb
    clear hb
    refine hK.out _ _ (⟨xa, xb⟩) (fun _ => ?_)
    clear hK K
    (try simp only [Act.put, List.setIfInBounds_toArray, List.set_cons_zero, List.set_cons_succ, List.getElem_toArray, List.getElem_cons_zero, List.getElem_cons_succ])
    refine wpAnyH_ready (rs := [9]) (by kernel_rfl) (by simp) ?_
    refine AllReadyH.cons rfl (fun K hK => ?_) (AllReadyH.nil)
    go_simp
    go_at_call 117; (with_reducible refine (HP2.out _).mono ?_)

    rintro e W3 ⟨rfl, hb⟩
    replace xa := xa.go hb
    replace xb := xb.go hb
    replace h0 := bel_go h0 h0.size hb
    clear hb
    refine hK.out _ _ (⟨xa, xb⟩) (fun _ => ?_)
    clear hK K
    (try simp only [Act.put, List.setIfInBounds_toArray, List.set_cons_zero, List.set_cons_succ, List.getElem_toArray, List.getElem_cons_zero, List.getElem_cons_succ])
    refine wpAnyH_ready (rs := [10]) (by kernel_rfl) (by simp) ?_
    refine AllReadyH.cons rfl (fun K hK => ?_) (AllReadyH.nil)
    go_simp
    go_at_call 122; (with_reducible refine (HCM.out _).mono ?_)

    rintro e W4 ⟨rfl, hb⟩
    replace xa := xa.go hb
    replace xb := xb.go hb
    replace h0 := bel_go h0 h0.size hb
    clear hb
    refine hK.out _ _ (⟨xa, xb⟩) (fun _ => ?_)
    clear hK K
    (try simp only [Act.put, List.setIfInBounds_toArray, List.set_cons_zero, List.set_cons_succ, List.getElem_toArray, List.getElem_cons_zero, List.getElem_cons_succ])
    refine wpAnyH_take (i := 11) (v := ?_) rfl (by kernel_rfl) (by kernel_rfl) (by kernel_rfl) (fun _ _ _ h => h) (Or.inl ⟨by kernel_rfl, ?_⟩) (⟨xa, xb⟩) ?_
    rotate_left
    focus (intro W' hSw; obtain ⟨hx0, hx1⟩ := hSw; have hc0 := hx0.c0; have hc1 := hx0.c1; have hc2 := hx1.c0; have hc3 := hx1.c1; clear hx0 hx1; go_simp; (try with_reducible rfl))
    (try simp only [Act.put, List.setIfInBounds_toArray, List.set_cons_zero, List.set_cons_succ, List.getElem_toArray, List.getElem_cons_zero, List.getElem_cons_succ])
    refine wpAnyH_done (by kernel_rfl) ?_ _
    go_wp2_with fail
    go_ret
    exact ⟨rfl, h0⟩
  · rw [show cmpfV a b c d = 0 from if_neg h]
    generalize hk_ : chk2 a b c d = k at h
    have HK := Lib.hid hk_
    clear hk_
    have hk : (k != 0) = true := by simpa using h
    obtain ⟨W, hW, h0, xa, xb⟩ := fbox2 w (.int .i64 a) (.int .i64 b) (.int .i64 c) (.int .i64 d)
    have HW := Lib.hid hW
    clear hW
    go_enter Try.func73, Try.ntmps73
    go_wp2_with fail
    rw [← HW.out]
    clear HW
    have c_xa := xa.c0
    have d_xa := xa.c1
    have p_xa := xa.f0
    have q_xa := xa.f1
    have c_xb := xb.c0
    have d_xb := xb.c1
    have p_xb := xb.f0
    have q_xb := xb.f1
    go_wp2_with fail
    clear c_xa d_xa p_xa q_xa c_xb d_xb p_xb q_xb
    go_at_call 116; (with_reducible refine (checkBoth_any a b c d a1 a2 b1 b2 c1 c2 d1 d2 _).mono ?_)
    rintro e W1 ⟨rfl, hb⟩
    replace xa := xa.go hb
    replace xb := xb.go hb
    replace h0 := bel_go h0 h0.size hb
    clear hb
    rw [HK.out]
    go_wp2_with fail
    go_ret
    exact ⟨rfl, h0⟩
end Go.Proofs.Ytijpjjpndpdjpaa

