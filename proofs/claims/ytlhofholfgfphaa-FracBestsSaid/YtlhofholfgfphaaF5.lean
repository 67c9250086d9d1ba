/-
  The contracts of frac.Sub, frac.Div and frac.Cmp.
  Conditions: the arguments are int64.
-/
import Derived.Test.YtlhofholfgfphaaF4
set_option linter.unusedVariables false
set_option linter.unusedSimpArgs false
namespace Go.Proofs.Ytlhofholfgfphaa
open Go.RowKit Go.Shelf Wd

theorem chkV_least (d : Int) : chkV (-9223372036854775808) d = 4 := chkV_no (Bool.eq_false_iff.2 fun h => by have := frOk_iff.1 h; omega)
theorem add_neg_wrap (a b c d : Int) (c1 : -9223372036854775808 ≤ c) (c2 : c ≤ 9223372036854775807) :
    addA a b (Go.RowKit.wrap64 (-c)) d = addA a b (-c) d ∧ addB a b (Go.RowKit.wrap64 (-c)) d = addB a b (-c) d ∧ addE a b (Go.RowKit.wrap64 (-c)) d = addE a b (-c) d := by
  rcases Int.lt_or_le (-9223372036854775808) c with h | h
  · rw [wrap_id64 (by omega) (by omega)]; exact ⟨rfl, rfl, rfl⟩
  · obtain rfl : c = -9223372036854775808 := by omega
    have e : Go.RowKit.wrap64 (- -9223372036854775808) = -9223372036854775808 := by rw [show Go.RowKit.wrap64 (- -9223372036854775808) = IntKind.i64.wrap (- -9223372036854775808) from (Go.IntWalk.i64_left _).symm, IntKind.wrap_i64]; omega
    rw [e]
    have e2 := chk2_neg a b (-9223372036854775808) d
    have n1 : ¬ chk2 a b (-9223372036854775808) d = 0 := by
      unfold chk2; rw [chkV_least]; split <;> omega
    unfold addA addB addE
    rw [e2, if_neg n1, if_neg n1, if_neg n1, if_neg n1, if_neg n1, if_neg n1]
    exact ⟨rfl, rfl, rfl⟩
set_option maxRecDepth 100000 in
set_option maxHeartbeats 1000000 in
theorem subf_any (a b c d : Int) (a1 : -9223372036854775808 ≤ a) (a2 : a ≤ 9223372036854775807) (b1 : -9223372036854775808 ≤ b) (b2 : b ≤ 9223372036854775807) (c1 : -9223372036854775808 ≤ c) (c2 : c ≤ 9223372036854775807) (d1 : -9223372036854775808 ≤ d) (d2 : d ≤ 9223372036854775807) (w : World) : Calls Try.prog 76 #[fr a b, fr c d] w fun e w' => e = .returned (.tuple #[fr (addA a b (-c) d) (addB a b (-c) d), .int .i64 (addE a b (-c) d)]) ∧ Below w.heap.size w w' := by
  obtain ⟨hA, hB, hE⟩ := add_neg_wrap a b c d c1 c2
  rw [← hA, ← hB, ← hE]
  clear hA hB hE
  obtain ⟨k, hk⟩ : ∃ k, Go.RowKit.wrap64 (-c) = k := ⟨_, rfl⟩
  have k1 : -9223372036854775808 ≤ k ∧ k ≤ 9223372036854775807 := by rw [← hk, show Go.RowKit.wrap64 (-c) = IntKind.i64.wrap (-c) from (Go.IntWalk.i64_left _).symm, IntKind.wrap_i64]; omega
  rw [hk]
  obtain ⟨A, hA⟩ : ∃ v, addA a b k d = v := ⟨_, rfl⟩
  obtain ⟨B, hB⟩ : ∃ v, addB a b k d = v := ⟨_, rfl⟩
  obtain ⟨E, hE⟩ : ∃ v, addE a b k d = v := ⟨_, rfl⟩
  rw [hA, hB, hE]
  have HK : Hid (addA a b k d = A ∧ addB a b k d = B ∧ addE a b k d = E) := ⟨hA, hB, hE⟩
  clear hA hB hE
  obtain ⟨W, hW, h0, xa, xb, xr⟩ := fbox3 w (.int .i64 a) (.int .i64 b) (.int .i64 c) (.int .i64 d) (.int .i64 0) (.int .i64 0)
  have HW := Lib.hid hW
  clear hW
  go_enter Try.func76, Try.ntmps76
  go_wp2_with fail
  rw [← HW.out]
  clear HW
  have c_xa := xa.c0
  have d_xa := xa.c1
  have p_xa := xa.f0
  have q_xa := xa.f1
  have c_xb := xb.c0
  have d_xb := xb.c1
  have p_xb := xb.f0
  have q_xb := xb.f1
  have c_xr := xr.c0
  have d_xr := xr.c1
  have p_xr := xr.f0
  have q_xr := xr.f1
  go_wp2_with fail
  clear c_xa d_xa p_xa q_xa c_xb d_xb p_xb q_xb c_xr d_xr p_xr q_xr
  go_at_call 75; (with_reducible refine (addf_any a b k d a1 a2 b1 b2 k1.1 k1.2 d1 d2 _).mono ?_)
  rintro e W1 ⟨rfl, hb⟩
  replace xa := xa.go hb
  replace xb := xb.go hb
  replace xr := xr.go hb
  replace h0 := bel_go h0 h0.size hb
  clear hb
  rw [HK.out.1, HK.out.2.1, HK.out.2.2]
  have c_xr := xr.c0
  have d_xr := xr.c1
  have p_xr := xr.f0
  have q_xr := xr.f1
  go_wp2_with fail
  clear c_xr d_xr p_xr q_xr
  have hP := put2 W1 (w.heap.size + 1 + 1) (.int .i64 (A)) (.int .i64 (B))
  have hN := xr.stored (.int .i64 (A)) (.int .i64 (B))
  generalize (W1.setCell _ _).setCell _ _ = W2 at hP hN ⊢
  replace h0 := bel_put h0 (by omega) hP
  clear hP xr
  have xr := hN
  clear hN
  have e0 := xr.c0
  have e1 := xr.c1
  exact bodyPost_ret (v := .tuple #[fr (A) (B), .int .i64 (E)]) (by simp [results, Try.results76, go_sem, e0, e1]) rfl ⟨rfl, h0⟩
theorem div_flip (a b c d : Int) (h1 : Fv a b) (h2 : Fv c d) (hc : c < 0) : mulA a b (-d) (-c) = divfA a b c d ∧ mulB a b (-d) (-c) = divfB a b c d ∧ mulE a b (-d) (-c) = divfE a b c d := by
  have k2 := h2.bd
  have v : Fv (-d) (-c) := ⟨by omega, by rw [gcd_neg_l, Int.gcd_neg, Int.gcd_comm]; exact h2.2⟩
  have h0 := chk2_zero.2 ⟨h1, h2⟩
  have h3 := chk2_zero.2 ⟨h1, v⟩
  unfold mulA mulB mulE divfA divfB divfE
  rw [if_pos h0, if_pos h0, if_pos h0, if_pos h3, if_pos h3, if_pos h3, if_neg (by omega), if_neg (by omega), if_neg (by omega)]
  have hD : b * c ≠ 0 := Int.mul_ne_zero (Int.ne_of_gt h1.pos) (by omega)
  obtain ⟨r1, r2⟩ := red_neg (a * d) (b * c) hD
  unfold lowA lowB lowE
  rw [Int.mul_neg, Int.mul_neg, r1, r2]
  exact ⟨rfl, rfl, rfl⟩
theorem div_up (a b c d : Int) (h1 : Fv a b) (h2 : Fv c d) (hc : 0 < c) : mulA a b d c = divfA a b c d ∧ mulB a b d c = divfB a b c d ∧ mulE a b d c = divfE a b c d := by
  have k2 := h2.bd
  have v : Fv d c := ⟨by omega, by rw [Int.gcd_comm]; exact h2.2⟩
  have h0 := chk2_zero.2 ⟨h1, h2⟩
  have h3 := chk2_zero.2 ⟨h1, v⟩
  unfold mulA mulB mulE divfA divfB divfE
  rw [if_pos h0, if_pos h0, if_pos h0, if_pos h3, if_pos h3, if_pos h3, if_neg (by omega), if_neg (by omega), if_neg (by omega)]
  exact ⟨rfl, rfl, rfl⟩
set_option maxRecDepth 100000 in
set_option maxHeartbeats 4000000 in
theorem divf_any (a b c d : Int) (a1 : -9223372036854775808 ≤ a) (a2 : a ≤ 9223372036854775807) (b1 : -9223372036854775808 ≤ b) (b2 : b ≤ 9223372036854775807) (c1 : -9223372036854775808 ≤ c) (c2 : c ≤ 9223372036854775807) (d1 : -9223372036854775808 ≤ d) (d2 : d ≤ 9223372036854775807) (w : World) : Calls Try.prog 78 #[fr a b, fr c d] w fun e w' => e = .returned (.tuple #[fr (divfA a b c d) (divfB a b c d), .int .i64 (divfE a b c d)]) ∧ Below w.heap.size w w' := by
  by_cases h : chk2 a b c d = 0
  · have HC := Lib.hid h
    obtain ⟨v1, v2⟩ := chk2_zero.1 h
    have k2 := v2.bd
    by_cases hc : c = 0
    · rw [show divfA a b c d = 0 by unfold divfA; rw [if_pos h, if_pos hc], show divfB a b c d = 0 by unfold divfB; rw [if_pos h, if_pos hc], show divfE a b c d = 1 by unfold divfE; rw [if_pos h, if_pos hc]]
      have hcb : (c == 0) = true := by simpa using hc
      clear h v1 v2 hc
      obtain ⟨W, hW, h0, xa, xb, xr⟩ := fbox3 w (.int .i64 a) (.int .i64 b) (.int .i64 c) (.int .i64 d) (.int .i64 0) (.int .i64 0)
      have HW := Lib.hid hW
      clear hW
      go_enter Try.func78, Try.ntmps78
      go_wp2_with fail
      rw [← HW.out]
      clear HW
      have c_xa := xa.c0
      have d_xa := xa.c1
      have p_xa := xa.f0
      have q_xa := xa.f1
      have c_xb := xb.c0
      have d_xb := xb.c1
      have p_xb := xb.f0
      have q_xb := xb.f1
      have c_xr := xr.c0
      have d_xr := xr.c1
      have p_xr := xr.f0
      have q_xr := xr.f1
      go_wp2_with fail
      clear c_xa d_xa p_xa q_xa c_xb d_xb p_xb q_xb c_xr d_xr p_xr q_xr
      go_at_call 110; (with_reducible refine (checkBoth_any a b c d a1 a2 b1 b2 c1 c2 d1 d2 _).mono ?_)
      rintro e W1 ⟨rfl, hb⟩
      replace xa := xa.go hb
      replace xb := xb.go hb
      replace xr := xr.go hb
      replace h0 := bel_go h0 h0.size hb
      clear hb
      rw [HC.out]
      have c_xb := xb.c0
      have d_xb := xb.c1
      have p_xb := xb.f0
      have q_xb := xb.f1
      have c_xr := xr.c0
      have d_xr := xr.c1
      have p_xr := xr.f0
      have q_xr := xr.f1
      go_wp2_with fail
      clear c_xb d_xb p_xb q_xb c_xr d_xr p_xr q_xr
      have hP := put2 W1 (w.heap.size + 1 + 1) (.int .i64 0) (.int .i64 0)
      have hN := xr.stored (.int .i64 0) (.int .i64 0)
      generalize (W1.setCell _ _).setCell _ _ = WZ at hP hN ⊢
      replace h0 := bel_put h0 (by omega) hP
      clear hP xr
      have xr := hN
      clear hN
      have e0 := xr.c0
      have e1 := xr.c1
      exact bodyPost_ret (v := .tuple #[fr (0) (0), .int .i64 (1)]) (by simp [results, Try.results78, go_sem, e0, e1]) rfl ⟨rfl, h0⟩
    · have hcb : (c == 0) = false := by simpa using hc
      obtain ⟨A, hA⟩ : ∃ v, divfA a b c d = v := ⟨_, rfl⟩
      obtain ⟨B, hB⟩ : ∃ v, divfB a b c d = v := ⟨_, rfl⟩
      obtain ⟨E, hE⟩ : ∃ v, divfE a b c d = v := ⟨_, rfl⟩
      rw [hA, hB, hE]
      rcases Int.lt_or_gt_of_ne hc with hc0 | hc0
      · obtain ⟨g1, g2, g3⟩ := div_flip a b c d v1 v2 hc0
        have HK : Hid (mulA a b (-d) (-c) = A ∧ mulB a b (-d) (-c) = B ∧ mulE a b (-d) (-c) = E) := by unfold Hid; rw [g1, g2, g3]; exact ⟨hA, hB, hE⟩
        clear g1 g2 g3 hA hB hE h v1 v2 hc
        obtain ⟨W, hW, h0, xa, xb, xr⟩ := fbox3 w (.int .i64 a) (.int .i64 b) (.int .i64 c) (.int .i64 d) (.int .i64 0) (.int .i64 0)
        have HW := Lib.hid hW
        clear hW
        go_enter Try.func78, Try.ntmps78
        go_wp2_with fail
        rw [← HW.out]
        clear HW
        have c_xa := xa.c0
        have d_xa := xa.c1
        have p_xa := xa.f0
        have q_xa := xa.f1
        have c_xb := xb.c0
        have d_xb := xb.c1
        have p_xb := xb.f0
        have q_xb := xb.f1
        have c_xr := xr.c0
        have d_xr := xr.c1
        have p_xr := xr.f0
        have q_xr := xr.f1
        go_wp2_with fail
        clear c_xa d_xa p_xa q_xa c_xb d_xb p_xb q_xb c_xr d_xr p_xr q_xr
        go_at_call 110; (with_reducible refine (checkBoth_any a b c d a1 a2 b1 b2 c1 c2 d1 d2 _).mono ?_)
        rintro e W1 ⟨rfl, hb⟩
        replace xa := xa.go hb
        replace xb := xb.go hb
        replace xr := xr.go hb
        replace h0 := bel_go h0 h0.size hb
        clear hb
        rw [HC.out]
        have c_xb := xb.c0
        have d_xb := xb.c1
        have p_xb := xb.f0
        have q_xb := xb.f1
        go_upto_region 7 with fail
        clear c_xb d_xb p_xb q_xb
        have hal : Below W1.heap.size W1 (W1.alloc (.cells #[.int .i64 d, .int .i64 c] 87)) := (Below.refl _ _).alloc (Nat.le_refl _) _
        have xi := Bx.new W1 87 (.int .i64 d) (.int .i64 c)
        have la := xa.lt
        have lb := xb.lt
        have lr := xr.lt
        replace xa := xa.go hal
        replace xb := xb.go hal
        replace xr := xr.go hal
        replace h0 := bel_go h0 h0.size hal
        clear hal
        generalize W1.heap.size = BI at xi la lb lr ⊢
        generalize W1.alloc (.cells #[.int .i64 d, .int .i64 c] 87) = W2 at xa xb xr xi h0 ⊢
        have u1 : Go.RowKit.wrap64 (-d) = -d := wrap_id64 (by omega) (by omega)
        have u2 : Go.RowKit.wrap64 (-c) = -c := wrap_id64 (by omega) (by omega)
        have c_xb := xb.c0
        have d_xb := xb.c1
        have p_xb := xb.f0
        have q_xb := xb.f1
        have c_xi := xi.c0
        have d_xi := xi.c1
        have p_xi := xi.f0
        have q_xi := xi.f1
        go_upto_region 9 with fail
        clear c_xb d_xb p_xb q_xb c_xi d_xi p_xi q_xi
        have hP := put2 W2 (BI) (.int .i64 (-d)) (.int .i64 (-c))
        have hN := xi.stored (.int .i64 (-d)) (.int .i64 (-c))
        generalize (W2.setCell _ _).setCell _ _ = W3 at hP hN ⊢
        replace xa := xa.put hP (by omega)
        replace xb := xb.put hP (by omega)
        replace xr := xr.put hP (by omega)
        replace h0 := bel_put h0 (by omega) hP
        clear hP xi
        have xi := hN
        clear hN
        have c_xa := xa.c0
        have d_xa := xa.c1
        have p_xa := xa.f0
        have q_xa := xa.f1
        have c_xi := xi.c0
        have d_xi := xi.c1
        have p_xi := xi.f0
        have q_xi := xi.f1
        have c_xr := xr.c0
        have d_xr := xr.c1
        have p_xr := xr.f0
        have q_xr := xr.f1
        go_wp2_with fail
        clear c_xa d_xa p_xa q_xa c_xi d_xi p_xi q_xi c_xr d_xr p_xr q_xr
        go_at_call 77; (with_reducible refine (mulf_any a b (-d) (-c) a1 a2 b1 b2 (by omega) (by omega) (by omega) (by omega) _).mono ?_)
        rintro e W4 ⟨rfl, hb⟩
        replace xa := xa.go hb
        replace xi := xi.go hb
        replace xr := xr.go hb
        replace h0 := bel_go h0 h0.size hb
        clear hb
        rw [HK.out.1, HK.out.2.1, HK.out.2.2]
        have c_xr := xr.c0
        have d_xr := xr.c1
        have p_xr := xr.f0
        have q_xr := xr.f1
        go_wp2_with fail
        clear c_xr d_xr p_xr q_xr
        have hP := put2 W4 (w.heap.size + 1 + 1) (.int .i64 (A)) (.int .i64 (B))
        have hN := xr.stored (.int .i64 (A)) (.int .i64 (B))
        generalize (W4.setCell _ _).setCell _ _ = W5 at hP hN ⊢
        replace h0 := bel_put h0 (by omega) hP
        clear hP xr
        have xr := hN
        clear hN
        have e0 := xr.c0
        have e1 := xr.c1
        exact bodyPost_ret (v := .tuple #[fr (A) (B), .int .i64 (E)]) (by simp [results, Try.results78, go_sem, e0, e1]) rfl ⟨rfl, h0⟩
      · obtain ⟨g1, g2, g3⟩ := div_up a b c d v1 v2 hc0
        have HK : Hid (mulA a b d c = A ∧ mulB a b d c = B ∧ mulE a b d c = E) := by unfold Hid; rw [g1, g2, g3]; exact ⟨hA, hB, hE⟩
        clear g1 g2 g3 hA hB hE h v1 v2 hc
        obtain ⟨W, hW, h0, xa, xb, xr⟩ := fbox3 w (.int .i64 a) (.int .i64 b) (.int .i64 c) (.int .i64 d) (.int .i64 0) (.int .i64 0)
        have HW := Lib.hid hW
        clear hW
        go_enter Try.func78, Try.ntmps78
        go_wp2_with fail
        rw [← HW.out]
        clear HW
        have c_xa := xa.c0
        have d_xa := xa.c1
        have p_xa := xa.f0
        have q_xa := xa.f1
        have c_xb := xb.c0
        have d_xb := xb.c1
        have p_xb := xb.f0
        have q_xb := xb.f1
        have c_xr := xr.c0
        have d_xr := xr.c1
        have p_xr := xr.f0
        have q_xr := xr.f1
        go_wp2_with fail
        clear c_xa d_xa p_xa q_xa c_xb d_xb p_xb q_xb c_xr d_xr p_xr q_xr
        go_at_call 110; (with_reducible refine (checkBoth_any a b c d a1 a2 b1 b2 c1 c2 d1 d2 _).mono ?_)
        rintro e W1 ⟨rfl, hb⟩
        replace xa := xa.go hb
        replace xb := xb.go hb
        replace xr := xr.go hb
        replace h0 := bel_go h0 h0.size hb
        clear hb
        rw [HC.out]
        have c_xb := xb.c0
        have d_xb := xb.c1
        have p_xb := xb.f0
        have q_xb := xb.f1
        go_upto_region 7 with fail
        clear c_xb d_xb p_xb q_xb
        have hal : Below W1.heap.size W1 (W1.alloc (.cells #[.int .i64 d, .int .i64 c] 87)) := (Below.refl _ _).alloc (Nat.le_refl _) _
        have xi := Bx.new W1 87 (.int .i64 d) (.int .i64 c)
        have la := xa.lt
        have lb := xb.lt
        have lr := xr.lt
        replace xa := xa.go hal
        replace xb := xb.go hal
        replace xr := xr.go hal
        replace h0 := bel_go h0 h0.size hal
        clear hal
        generalize W1.heap.size = BI at xi la lb lr ⊢
        generalize W1.alloc (.cells #[.int .i64 d, .int .i64 c] 87) = W2 at xa xb xr xi h0 ⊢
        have c_xb := xb.c0
        have d_xb := xb.c1
        have p_xb := xb.f0
        have q_xb := xb.f1
        have c_xi := xi.c0
        have d_xi := xi.c1
        have p_xi := xi.f0
        have q_xi := xi.f1
        go_upto_region 9 with fail
        clear c_xb d_xb p_xb q_xb c_xi d_xi p_xi q_xi
        have c_xa := xa.c0
        have d_xa := xa.c1
        have p_xa := xa.f0
        have q_xa := xa.f1
        have c_xi := xi.c0
        have d_xi := xi.c1
        have p_xi := xi.f0
        have q_xi := xi.f1
        have c_xr := xr.c0
        have d_xr := xr.c1
        have p_xr := xr.f0
        have q_xr := xr.f1
        go_wp2_with fail
        clear c_xa d_xa p_xa q_xa c_xi d_xi p_xi q_xi c_xr d_xr p_xr q_xr
        go_at_call 77; (with_reducible refine (mulf_any a b d c a1 a2 b1 b2 d1 d2 c1 c2 _).mono ?_)
        rintro e W4 ⟨rfl, hb⟩
        replace xa := xa.go hb
        replace xi := xi.go hb
        replace xr := xr.go hb
        replace h0 := bel_go h0 h0.size hb
        clear hb
        rw [HK.out.1, HK.out.2.1, HK.out.2.2]
        have c_xr := xr.c0
        have d_xr := xr.c1
        have p_xr := xr.f0
        have q_xr := xr.f1
        go_wp2_with fail
        clear c_xr d_xr p_xr q_xr
        have hP := put2 W4 (w.heap.size + 1 + 1) (.int .i64 (A)) (.int .i64 (B))
        have hN := xr.stored (.int .i64 (A)) (.int .i64 (B))
        generalize (W4.setCell _ _).setCell _ _ = W5 at hP hN ⊢
        replace h0 := bel_put h0 (by omega) hP
        clear hP xr
        have xr := hN
        clear hN
        have e0 := xr.c0
        have e1 := xr.c1
        exact bodyPost_ret (v := .tuple #[fr (A) (B), .int .i64 (E)]) (by simp [results, Try.results78, go_sem, e0, e1]) rfl ⟨rfl, h0⟩
  · rw [show divfA a b c d = 0 from if_neg h, show divfB a b c d = 0 from if_neg h, show divfE a b c d = chk2 a b c d from if_neg h]
    generalize hk_ : chk2 a b c d = k at h
    have HK := Lib.hid hk_
    clear hk_
    have hk : (k != 0) = true := by simpa using h
    obtain ⟨W, hW, h0, xa, xb, xr⟩ := fbox3 w (.int .i64 a) (.int .i64 b) (.int .i64 c) (.int .i64 d) (.int .i64 0) (.int .i64 0)
    have HW := Lib.hid hW
    clear hW
    go_enter Try.func78, Try.ntmps78
    go_wp2_with fail
    rw [← HW.out]
    clear HW
    have c_xa := xa.c0
    have d_xa := xa.c1
    have p_xa := xa.f0
    have q_xa := xa.f1
    have c_xb := xb.c0
    have d_xb := xb.c1
    have p_xb := xb.f0
    have q_xb := xb.f1
    have c_xr := xr.c0
    have d_xr := xr.c1
    have p_xr := xr.f0
    have q_xr := xr.f1
    go_wp2_with fail
    clear c_xa d_xa p_xa q_xa c_xb d_xb p_xb q_xb c_xr d_xr p_xr q_xr
    go_at_call 110; (with_reducible refine (checkBoth_any a b c d a1 a2 b1 b2 c1 c2 d1 d2 _).mono ?_)
    rintro e W1 ⟨rfl, hb⟩
    replace xa := xa.go hb
    replace xb := xb.go hb
    replace xr := xr.go hb
    replace h0 := bel_go h0 h0.size hb
    clear hb
    rw [HK.out]
    have c_xr := xr.c0
    have d_xr := xr.c1
    have p_xr := xr.f0
    have q_xr := xr.f1
    go_wp2_with fail
    clear c_xr d_xr p_xr q_xr
    have hP := put2 W1 (w.heap.size + 1 + 1) (.int .i64 (0)) (.int .i64 (0))
    have hN := xr.stored (.int .i64 (0)) (.int .i64 (0))
    generalize (W1.setCell _ _).setCell _ _ = WZ at hP hN ⊢
    replace h0 := bel_put h0 (by omega) hP
    clear hP xr
    have xr := hN
    clear hN
    have e0 := xr.c0
    have e1 := xr.c1
    exact bodyPost_ret (v := .tuple #[fr (0) (0), .int .i64 (k)]) (by simp [results, Try.results78, go_sem, e0, e1]) rfl ⟨rfl, h0⟩
end Go.Proofs.Ytlhofholfgfphaa

