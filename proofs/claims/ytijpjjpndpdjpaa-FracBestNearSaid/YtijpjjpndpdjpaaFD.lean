/-
  The walk of the law FracBestNear.
  Conditions: the arguments are int64.
-/
import Derived.Test.YtijpjjpndpdjpaaFC
import Derived.Test.YtijpjjpndpdjpaaF6
import Derived.StillTailTactics
set_option linter.unusedVariables false
set_option linter.unusedSimpArgs false
namespace Go.Proofs.Ytijpjjpndpdjpaa
open Go.RowKit Go.Shelf Wd

theorem below_any (x n : Int) (x1 : -9223372036854775808 ≤ x) (x2 : x ≤ 9223372036854775807) (n1 : 1 ≤ n) (n2 : n ≤ 9223372036854775807) (w : World) :
    Calls Try.prog 86 #[.int .i64 x, .int .i64 n] w fun e w' => e = .returned (.int .i64 (x % n)) ∧ w = w' := by
  obtain ⟨t1, t2, t3, t4, t5⟩ := tdm (a := x) (b := n) n1
  obtain ⟨r, hr⟩ : ∃ r, x.tmod n = r := ⟨_, rfl⟩
  rw [hr] at t1 t2 t4 t5
  have n0 : ¬ n = 0 := by omega
  by_cases hn : r < 0
  · obtain ⟨g1, g2, g3, g4, g5⟩ := t1 hn
    have K := Lib.hid g3
    clear t1 t2 t3 g2 g3
    go_enter Try.func86, Try.ntmps86
    go_wp2
    go_ret
    exact ⟨ret_n K.out.symm, rfl⟩
  · obtain ⟨g1, g2⟩ := t2 (by omega)
    have K := Lib.hid g2
    clear t1 t2 t3 g1 g2
    go_enter Try.func86, Try.ntmps86
    go_wp2
    go_ret
    exact ⟨ret_n K.out.symm, rfl⟩
theorem put1 (w : World) (b o : Nat) (x : Value) : Put w b (w.setCell ⟨b, o, none⟩ x) where
  os := rfl
  tape := rfl
  output := rfl
  size := by simp [World.setCell]
  block := fun k hk => by rw [Below.heap_setCell _ _ _ _ hk]
theorem Bx.stored0 {w : World} {b : Nat} {T : TypeId} {x y : Value} (h : Bx w b T x y) (u : Value) : Bx (w.setCell ⟨b, 0, none⟩ u) b T u y := by
  unfold Bx at h ⊢
  simp [World.setCell, Array.getElem?_modify, h]
theorem max_abs (x : Int) : max x (-x) = (x.natAbs : Int) := by omega

set_option maxRecDepth 100000 in
set_option maxHeartbeats 8000000 in
theorem fracBestNear_any (n d most q off : Int) (a1 : -9223372036854775808 ≤ n) (a2 : n ≤ 9223372036854775807) (b1 : -9223372036854775808 ≤ d) (b2 : d ≤ 9223372036854775807) (m1 : -9223372036854775808 ≤ most) (m2 : most ≤ 9223372036854775807) (q1 : -9223372036854775808 ≤ q) (q2 : q ≤ 9223372036854775807) (o1 : -9223372036854775808 ≤ off) (o2 : off ≤ 9223372036854775807) (w : World) :
    Calls Try.prog 17 #[.int .i64 n, .int .i64 d, .int .i64 most, .int .i64 q, .int .i64 off] w fun e w' => e = .returned (.bool true) ∧ Below w.heap.size w w' := by
  obtain ⟨x, hx⟩ : ∃ v, mkA n d = v := ⟨_, rfl⟩
  obtain ⟨y, hy⟩ : ∃ v, mkB n d = v := ⟨_, rfl⟩
  obtain ⟨ex, hex⟩ : ∃ v, mkE n d = v := ⟨_, rfl⟩
  have Hex : Hid (mkA n d = x ∧ mkB n d = y ∧ mkE n d = ex) := ⟨hx, hy, hex⟩
  have bxy := mk_bd n d
  rw [hx, hy] at bxy
  clear hx hy hex
  by_cases g1 : ex = 0
  · by_cases g2 : x < -2147483648
    · subst g1
      go_enter Try.func17, Try.ntmps17
      have h0 := Below.refl w.heap.size w
      go_wp2_with fail
      go_at_call 61; (with_reducible refine (make_any n d a1 a2 b1 b2 _).mono ?_)
      rintro e W1 ⟨rfl, hb⟩
      replace h0 := bel_go h0 h0.size hb
      clear hb
      rw [Hex.out.1, Hex.out.2.1, Hex.out.2.2]
      go_upto_region 2 with fail
      have hal : Below W1.heap.size W1 (W1.alloc (.cells #[.int .i64 (x), .int .i64 (y)] 76)) := (Below.refl _ _).alloc (Nat.le_refl _) _
      have z1 := Bx.new W1 76 (.int .i64 (x)) (.int .i64 (y))
      replace h0 := bel_go h0 h0.size hal
      clear hal
      generalize W1.heap.size = Bz1 at z1 ⊢
      generalize W1.alloc (.cells #[.int .i64 (x), .int .i64 (y)] 76) = V1 at z1 h0 ⊢
      go_wp2_with fail
      go_at_call 96; (with_reducible refine (fracFact_any _).mono ?_)
      rintro e W2 ⟨rfl, hb⟩
      replace z1 := z1.go hb
      replace h0 := bel_go h0 h0.size hb
      clear hb
      have c_z1 := z1.c0
      have d_z1 := z1.c1
      have p_z1 := z1.f0
      have q_z1 := z1.f1
      go_wp2_with fail
      clear c_z1 d_z1 p_z1 q_z1
      go_at_call 96; (with_reducible refine (fracFact_any _).mono ?_)
      rintro e W3 ⟨rfl, hb⟩
      replace h0 := bel_go h0 h0.size hb
      clear hb
      go_wp2_with fail
      go_ret
      exact ⟨rfl, h0⟩
    · by_cases g3 : 2147483648 < x
      · subst g1
        go_enter Try.func17, Try.ntmps17
        have h0 := Below.refl w.heap.size w
        go_wp2_with fail
        go_at_call 61; (with_reducible refine (make_any n d a1 a2 b1 b2 _).mono ?_)
        rintro e W1 ⟨rfl, hb⟩
        replace h0 := bel_go h0 h0.size hb
        clear hb
        rw [Hex.out.1, Hex.out.2.1, Hex.out.2.2]
        go_upto_region 2 with fail
        have hal : Below W1.heap.size W1 (W1.alloc (.cells #[.int .i64 (x), .int .i64 (y)] 76)) := (Below.refl _ _).alloc (Nat.le_refl _) _
        have z1 := Bx.new W1 76 (.int .i64 (x)) (.int .i64 (y))
        replace h0 := bel_go h0 h0.size hal
        clear hal
        generalize W1.heap.size = Bz1 at z1 ⊢
        generalize W1.alloc (.cells #[.int .i64 (x), .int .i64 (y)] 76) = V1 at z1 h0 ⊢
        go_wp2_with fail
        go_at_call 96; (with_reducible refine (fracFact_any _).mono ?_)
        rintro e W2 ⟨rfl, hb⟩
        replace z1 := z1.go hb
        replace h0 := bel_go h0 h0.size hb
        clear hb
        have c_z1 := z1.c0
        have d_z1 := z1.c1
        have p_z1 := z1.f0
        have q_z1 := z1.f1
        go_wp2_with fail
        clear c_z1 d_z1 p_z1 q_z1
        go_at_call 96; (with_reducible refine (fracFact_any _).mono ?_)
        rintro e W3 ⟨rfl, hb⟩
        replace h0 := bel_go h0 h0.size hb
        clear hb
        go_wp2_with fail
        go_ret
        exact ⟨rfl, h0⟩
      · by_cases g4 : 2147483648 < y
        · subst g1
          go_enter Try.func17, Try.ntmps17
          have h0 := Below.refl w.heap.size w
          go_wp2_with fail
          go_at_call 61; (with_reducible refine (make_any n d a1 a2 b1 b2 _).mono ?_)
          rintro e W1 ⟨rfl, hb⟩
          replace h0 := bel_go h0 h0.size hb
          clear hb
          rw [Hex.out.1, Hex.out.2.1, Hex.out.2.2]
          go_upto_region 2 with fail
          have hal : Below W1.heap.size W1 (W1.alloc (.cells #[.int .i64 (x), .int .i64 (y)] 76)) := (Below.refl _ _).alloc (Nat.le_refl _) _
          have z1 := Bx.new W1 76 (.int .i64 (x)) (.int .i64 (y))
          replace h0 := bel_go h0 h0.size hal
          clear hal
          generalize W1.heap.size = Bz1 at z1 ⊢
          generalize W1.alloc (.cells #[.int .i64 (x), .int .i64 (y)] 76) = V1 at z1 h0 ⊢
          go_wp2_with fail
          go_at_call 96; (with_reducible refine (fracFact_any _).mono ?_)
          rintro e W2 ⟨rfl, hb⟩
          replace z1 := z1.go hb
          replace h0 := bel_go h0 h0.size hb
          clear hb
          have c_z1 := z1.c0
          have d_z1 := z1.c1
          have p_z1 := z1.f0
          have q_z1 := z1.f1
          go_wp2_with fail
          clear c_z1 d_z1 p_z1 q_z1
          go_at_call 96; (with_reducible refine (fracFact_any _).mono ?_)
          rintro e W3 ⟨rfl, hb⟩
          replace h0 := bel_go h0 h0.size hb
          clear hb
          go_wp2_with fail
          go_ret
          exact ⟨rfl, h0⟩
        · have v := (mk_ok (Hex.out.2.2.trans g1)).2.1
          rw [Hex.out.1, Hex.out.2.1] at v
          have vb_ := v.bd
          obtain ⟨m0, hm0⟩ : ∃ v, most % 4096 = v := ⟨_, rfl⟩
          have HM := Lib.hid hm0
          have mb : 0 ≤ m0 ∧ m0 < 4096 := by omega
          obtain ⟨k, hk⟩ : ∃ k, 1 + m0 = k := ⟨_, rfl⟩
          obtain ⟨t0, ts, R1, R2, hcf, ht0, hbl, r1, r2, ⟨rg, rb, rgp⟩, ropt⟩ := best_full (most := k) v (by omega) (by omega)
          obtain ⟨q0, hq0⟩ : ∃ v, q % k = v := ⟨_, rfl⟩
          have HQ := Lib.hid hq0
          have qb : 0 ≤ q0 ∧ q0 < k := by rw [← hq0]; exact ⟨Int.emod_nonneg _ (by omega), Int.emod_lt_of_pos _ (by omega)⟩
          obtain ⟨den, hden⟩ : ∃ v, 1 + q0 = v := ⟨_, rfl⟩
          obtain ⟨o, ho⟩ : ∃ v, off % 2 = v := ⟨_, rfl⟩
          have HO := Lib.hid ho
          have ob : 0 ≤ o ∧ o ≤ 1 := by omega
          obtain ⟨c1, c2, c3, c4, c5, c6⟩ := bestNear (den := den) (o := o) v (by omega) (by omega) (by omega) r1 r2 rg rb rgp ropt (by omega) (by omega) ob.1 ob.2
          have HD : Hid (divV (x * den) y = x * den / y ∧ divE (x * den) y = 0) := by
            unfold Hid divV divE
            rw [if_neg (by omega), if_neg (by omega), if_neg (by omega), if_neg (by omega)]
            exact ⟨rfl, rfl⟩
          obtain ⟨Tp, hTp⟩ : ∃ v, x * den / y = v := ⟨_, rfl⟩
          rw [hTp] at HD c1 c2 c3 c5 c6
          obtain ⟨To, hTo⟩ : ∃ v, Tp + o = v := ⟨_, rfl⟩
          rw [hTo] at c2 c3 c5 c6
          obtain ⟨Y1, hY1⟩ : ∃ v, mkA To den = v := ⟨_, rfl⟩
          obtain ⟨Y2, hY2⟩ : ∃ v, mkB To den = v := ⟨_, rfl⟩
          rw [hY1, hY2] at c3 c5 c6
          have HY : Hid (mkA To den = Y1 ∧ mkB To den = Y2 ∧ mkE To den = 0) := ⟨hY1, hY2, c2⟩
          have yb := c3.bd
          have ubd := add_bd R1 R2 (-x) y
          have vbd := add_bd Y1 Y2 (-x) y
          obtain ⟨ua, hua⟩ : ∃ v, addA R1 R2 (-x) y = v := ⟨_, rfl⟩
          obtain ⟨ub, hub⟩ : ∃ v, addB R1 R2 (-x) y = v := ⟨_, rfl⟩
          obtain ⟨va, hva⟩ : ∃ v, addA Y1 Y2 (-x) y = v := ⟨_, rfl⟩
          obtain ⟨vb, hvb⟩ : ∃ v, addB Y1 Y2 (-x) y = v := ⟨_, rfl⟩
          rw [hua, hub] at ubd
          rw [hva, hvb] at vbd
          rw [hua, hub, hva, hvb] at c6
          have HU : Hid (addA R1 R2 (-x) y = ua ∧ addB R1 R2 (-x) y = ub ∧ addE R1 R2 (-x) y = 0) := ⟨hua, hub, c4⟩
          have HV : Hid (addA Y1 Y2 (-x) y = va ∧ addB Y1 Y2 (-x) y = vb ∧ addE Y1 Y2 (-x) y = 0) := ⟨hva, hvb, c5⟩
          obtain ⟨cm, hcm⟩ : ∃ v, cmpfV (ua.natAbs : Int) ub (va.natAbs : Int) vb = v := ⟨_, rfl⟩
          rw [hcm] at c6
          have HC := Lib.hid hcm
          have HB : Hid ((-9223372036854775808 ≤ t0 ∧ t0 ≤ 9223372036854775807) ∧ chkV x y = 0 ∧ cf x y.toNat = t0 :: ts ∧ bestL x y k ts 1 0 t0 1 = some (R1, R2)) := ⟨ht0, chkV_zero.2 v, hcf, hbl⟩
          have nR : ¬ k < R2 := by omega
          have wu : Go.RowKit.wrap64 (-ua) = -ua := wrap_id64 (by omega) (by omega)
          have wv : Go.RowKit.wrap64 (-va) = -va := wrap_id64 (by omega) (by omega)
          have wu2 : IntKind.i64.wrap (-ua) = -ua := by rw [IntKind.wrap_i64]; omega
          have wv2 : IntKind.i64.wrap (-va) = -va := by rw [IntKind.wrap_i64]; omega
          have mu : max ua (-ua) = (ua.natAbs : Int) := max_abs ua
          have mv : max va (-va) = (va.natAbs : Int) := max_abs va
          have rb2 : -9223372036854775808 ≤ R1 ∧ R1 ≤ 9223372036854775807 := by omega
          clear hm0 hq0 ho hcf ht0 hbl rg rb rgp ropt c2 c3 c4 c5 hTp hY1 hY2 hua hub hva hvb hcm v
          subst g1
          go_enter Try.func17, Try.ntmps17
          have h0 := Below.refl w.heap.size w
          go_wp2_with fail
          go_at_call 61; (with_reducible refine (make_any n d a1 a2 b1 b2 _).mono ?_)
          rintro e W1 ⟨rfl, hb⟩
          replace h0 := bel_go h0 h0.size hb
          clear hb
          rw [Hex.out.1, Hex.out.2.1, Hex.out.2.2]
          go_upto_region 2 with fail
          have hal : Below W1.heap.size W1 (W1.alloc (.cells #[.int .i64 (x), .int .i64 (y)] 76)) := (Below.refl _ _).alloc (Nat.le_refl _) _
          have z1 := Bx.new W1 76 (.int .i64 (x)) (.int .i64 (y))
          replace h0 := bel_go h0 h0.size hal
          clear hal
          generalize W1.heap.size = Bz1 at z1 ⊢
          generalize W1.alloc (.cells #[.int .i64 (x), .int .i64 (y)] 76) = V1 at z1 h0 ⊢
          go_wp2_with fail
          go_at_call 96; (with_reducible refine (fracFact_any _).mono ?_)
          rintro e W2 ⟨rfl, hb⟩
          replace z1 := z1.go hb
          replace h0 := bel_go h0 h0.size hb
          clear hb
          have c_z1 := z1.c0
          have d_z1 := z1.c1
          have p_z1 := z1.f0
          have q_z1 := z1.f1
          go_wp2_with fail
          clear c_z1 d_z1 p_z1 q_z1
          go_at_call 86; (with_reducible refine (below_any most 4096 m1 m2 (by omega) (by omega) _).mono ?_)
          rw [HM.out]
          rintro e _ ⟨rfl, rfl⟩
          have c_z1 := z1.c0
          have d_z1 := z1.c1
          have p_z1 := z1.f0
          have q_z1 := z1.f1
          go_wp2_with fail
          clear c_z1 d_z1 p_z1 q_z1
          go_at_call 82; (with_reducible refine (best_ok x y k (by omega) (by omega) (by omega) (by omega) (by omega) (by omega) t0 ts R1 R2 HB.out.1 HB.out.2.1 HB.out.2.2.1 HB.out.2.2.2 _).mono ?_)
          rintro e W4 ⟨rfl, hb⟩
          replace z1 := z1.go hb
          replace h0 := bel_go h0 h0.size hb
          clear hb
          go_upto_region 6 with fail
          have hal : Below W4.heap.size W4 (W4.alloc (.cells #[.int .i64 (R1), .int .i64 (R2)] 76)) := (Below.refl _ _).alloc (Nat.le_refl _) _
          have zb := Bx.new W4 76 (.int .i64 (R1)) (.int .i64 (R2))
          replace z1 := z1.go hal
          replace h0 := bel_go h0 h0.size hal
          clear hal
          generalize W4.heap.size = Bzb at zb ⊢
          generalize W4.alloc (.cells #[.int .i64 (R1), .int .i64 (R2)] 76) = V4 at z1 zb h0 ⊢
          have c_zb := zb.c0
          have d_zb := zb.c1
          have p_zb := zb.f0
          have q_zb := zb.f1
          have c_z1 := z1.c0
          have d_z1 := z1.c1
          have p_z1 := z1.f0
          have q_z1 := z1.f1
          go_wp2_with fail
          clear c_zb d_zb p_zb q_zb c_z1 d_z1 p_z1 q_z1
          go_at_call 86; (with_reducible refine (below_any q k q1 q2 (by omega) (by omega) _).mono ?_)
          rw [HQ.out]
          rintro e _ ⟨rfl, rfl⟩
          have c_z1 := z1.c0
          have d_z1 := z1.c1
          have p_z1 := z1.f0
          have q_z1 := z1.f1
          go_wp2_with fail
          clear c_z1 d_z1 p_z1 q_z1
          go_at_call 97; (with_reducible refine (muldiv_any x den y (by omega) (by omega) (by omega) (by omega) (by omega) _).mono ?_)
          rintro e W5 ⟨rfl, hb⟩
          replace z1 := z1.go hb
          replace zb := zb.go hb
          replace h0 := bel_go h0 h0.size hb
          clear hb
          rw [HD.out.1, HD.out.2]
          have c_z1 := z1.c0
          have d_z1 := z1.c1
          have p_z1 := z1.f0
          have q_z1 := z1.f1
          go_wp2_with fail
          clear c_z1 d_z1 p_z1 q_z1
          go_at_call 86; (with_reducible refine (below_any off 2 o1 o2 (by omega) (by omega) _).mono ?_)
          rw [HO.out]
          rintro e _ ⟨rfl, rfl⟩
          go_wp2_with fail
          go_at_call 61; (with_reducible refine (make_any To den (by omega) (by omega) (by omega) (by omega) _).mono ?_)
          rintro e W6 ⟨rfl, hb⟩
          replace z1 := z1.go hb
          replace zb := zb.go hb
          replace h0 := bel_go h0 h0.size hb
          clear hb
          rw [HY.out.1, HY.out.2.1, HY.out.2.2]
          go_upto_region 11 with fail
          have hal : Below W6.heap.size W6 (W6.alloc (.cells #[.int .i64 (Y1), .int .i64 (Y2)] 76)) := (Below.refl _ _).alloc (Nat.le_refl _) _
          have zy := Bx.new W6 76 (.int .i64 (Y1)) (.int .i64 (Y2))
          replace z1 := z1.go hal
          replace zb := zb.go hal
          replace h0 := bel_go h0 h0.size hal
          clear hal
          generalize W6.heap.size = Bzy at zy ⊢
          generalize W6.alloc (.cells #[.int .i64 (Y1), .int .i64 (Y2)] 76) = V6 at z1 zb zy h0 ⊢
          have c_zb := zb.c0
          have d_zb := zb.c1
          have p_zb := zb.f0
          have q_zb := zb.f1
          have c_z1 := z1.c0
          have d_z1 := z1.c1
          have p_z1 := z1.f0
          have q_z1 := z1.f1
          go_wp2_with fail
          clear c_zb d_zb p_zb q_zb c_z1 d_z1 p_z1 q_z1
          go_at_call 67; (with_reducible refine (subf_any R1 R2 x y (by omega) (by omega) (by omega) (by omega) (by omega) (by omega) (by omega) (by omega) _).mono ?_)
          rintro e W7 ⟨rfl, hb⟩
          replace z1 := z1.go hb
          replace zb := zb.go hb
          replace zy := zy.go hb
          replace h0 := bel_go h0 h0.size hb
          clear hb
          rw [HU.out.1, HU.out.2.1, HU.out.2.2]
          have su := h0.size
          go_upto_region 12 with fail
          have hal : Below W7.heap.size W7 (W7.alloc (.cells #[.int .i64 (ua), .int .i64 (ub)] 76)) := (Below.refl _ _).alloc (Nat.le_refl _) _
          have zu := Bx.new W7 76 (.int .i64 (ua)) (.int .i64 (ub))
          replace z1 := z1.go hal
          replace zb := zb.go hal
          replace zy := zy.go hal
          replace h0 := bel_go h0 h0.size hal
          clear hal
          generalize W7.heap.size = Bzu at zu su ⊢
          generalize W7.alloc (.cells #[.int .i64 (ua), .int .i64 (ub)] 76) = V7 at z1 zb zy zu h0 ⊢
          have c_zy := zy.c0
          have d_zy := zy.c1
          have p_zy := zy.f0
          have q_zy := zy.f1
          have c_z1 := z1.c0
          have d_z1 := z1.c1
          have p_z1 := z1.f0
          have q_z1 := z1.f1
          go_wp2_with fail
          clear c_zy d_zy p_zy q_zy c_z1 d_z1 p_z1 q_z1
          go_at_call 67; (with_reducible refine (subf_any Y1 Y2 x y (by omega) (by omega) (by omega) (by omega) (by omega) (by omega) (by omega) (by omega) _).mono ?_)
          rintro e W8 ⟨rfl, hb⟩
          replace zu := zu.go hb
          replace h0 := bel_go h0 h0.size hb
          clear hb
          rw [HV.out.1, HV.out.2.1, HV.out.2.2]
          have lu := zu.lt
          have sv := h0.size
          go_upto_region 13 with fail
          have hal : Below W8.heap.size W8 (W8.alloc (.cells #[.int .i64 (va), .int .i64 (vb)] 76)) := (Below.refl _ _).alloc (Nat.le_refl _) _
          have zv := Bx.new W8 76 (.int .i64 (va)) (.int .i64 (vb))
          replace zu := zu.go hal
          replace h0 := bel_go h0 h0.size hal
          clear hal
          generalize W8.heap.size = Bzv at zv lu sv ⊢
          generalize W8.alloc (.cells #[.int .i64 (va), .int .i64 (vb)] 76) = V8 at zu zv h0 ⊢
          go_upto_region 15 with fail
          refine wp_region_last (S := fun W' => Bx W' (Bzv) 76 (.int .i64 (va)) (.int .i64 (vb))) (m := 15) (by kernel_rfl) (by kernel_rfl) (by kernel_rfl) (zv.drew) (fun _ => ?_)
          replace zu := zu.drew
          replace zv := zv.drew
          replace h0 := Below.drew h0
          generalize V8.drew = V8 at zu zv h0 ⊢
          refine wpAnyH_take (i := 0) (v := ?_) rfl (by kernel_rfl) (by kernel_rfl) (by kernel_rfl) (fun _ _ _ h => h) (Or.inl ⟨by kernel_rfl, ?_⟩) (zv) ?_
          rotate_left
          focus (intro W' hSw; have hx0 := hSw; (try dsimp only at hx0); have hc0 := hx0.c0; have hc1 := hx0.c1; clear hx0; go_simp; (try with_reducible rfl))
          (try simp only [Act.put, List.setIfInBounds_toArray, List.set_cons_zero, List.set_cons_succ, List.getElem_toArray, List.getElem_cons_zero, List.getElem_cons_succ])
          refine wpAnyH_take (i := 2) (v := ?_) rfl (by kernel_rfl) (by kernel_rfl) (by kernel_rfl) (fun _ _ _ h => h) (Or.inl ⟨by kernel_rfl, ?_⟩) (zv) ?_
          rotate_left
          focus (intro W' hSw; have hx0 := hSw; (try dsimp only at hx0); have hc0 := hx0.c0; have hc1 := hx0.c1; clear hx0; go_simp; (try with_reducible rfl))
          (try simp only [Act.put, List.setIfInBounds_toArray, List.set_cons_zero, List.set_cons_succ, List.getElem_toArray, List.getElem_cons_zero, List.getElem_cons_succ])
          refine wpAnyH_take (i := 6) (v := ?_) rfl (by kernel_rfl) (by kernel_rfl) (by kernel_rfl) (fun _ _ _ h => h) (Or.inl ⟨by kernel_rfl, ?_⟩) (zv) ?_
          rotate_left
          focus (intro W' hSw; have hx0 := hSw; (try dsimp only at hx0); have hc0 := hx0.c0; have hc1 := hx0.c1; clear hx0; go_simp; (try with_reducible rfl))
          (try simp only [Act.put, List.setIfInBounds_toArray, List.set_cons_zero, List.set_cons_succ, List.getElem_toArray, List.getElem_cons_zero, List.getElem_cons_succ])
          refine wpAnyH_take (i := 7) (v := ?_) rfl (by kernel_rfl) (by kernel_rfl) (by kernel_rfl) (fun _ _ _ h => h) (Or.inl ⟨by kernel_rfl, ?_⟩) (zv) ?_
          rotate_left
          focus (intro W' hSw; have hx0 := hSw; (try dsimp only at hx0); have hc0 := hx0.c0; have hc1 := hx0.c1; clear hx0; go_simp; (try with_reducible rfl))
          (try simp only [Act.put, List.setIfInBounds_toArray, List.set_cons_zero, List.set_cons_succ, List.getElem_toArray, List.getElem_cons_zero, List.getElem_cons_succ])
          refine wpAnyH_take (i := 8) (v := ?_) rfl (by kernel_rfl) (by kernel_rfl) (by kernel_rfl) (fun _ _ _ h => h) (Or.inl ⟨by kernel_rfl, ?_⟩) (zv) ?_
          rotate_left
          focus (intro W' hSw; have hx0 := hSw; (try dsimp only at hx0); have hc0 := hx0.c0; have hc1 := hx0.c1; clear hx0; go_simp; (try with_reducible rfl))
          (try simp only [Act.put, List.setIfInBounds_toArray, List.set_cons_zero, List.set_cons_succ, List.getElem_toArray, List.getElem_cons_zero, List.getElem_cons_succ])
          refine wpAnyH_take (i := 9) (v := ?_) rfl (by kernel_rfl) (by kernel_rfl) (by kernel_rfl) (fun _ _ _ h => h) (Or.inl ⟨by kernel_rfl, ?_⟩) (zv) ?_
          rotate_left
          focus (intro W' hSw; have hx0 := hSw; (try dsimp only at hx0); have hc0 := hx0.c0; have hc1 := hx0.c1; clear hx0; go_simp; (try with_reducible rfl))
          (try simp only [Act.put, List.setIfInBounds_toArray, List.set_cons_zero, List.set_cons_succ, List.getElem_toArray, List.getElem_cons_zero, List.getElem_cons_succ])
          refine wpAnyH_take (i := 10) (v := ?_) rfl (by kernel_rfl) (by kernel_rfl) (by kernel_rfl) (fun _ _ _ h => h) (Or.inl ⟨by kernel_rfl, ?_⟩) (zv) ?_
          rotate_left
          focus (intro W' hSw; have hx0 := hSw; (try dsimp only at hx0); have hc0 := hx0.c0; have hc1 := hx0.c1; clear hx0; go_simp; (try with_reducible rfl))
          (try simp only [Act.put, List.setIfInBounds_toArray, List.set_cons_zero, List.set_cons_succ, List.getElem_toArray, List.getElem_cons_zero, List.getElem_cons_succ])
          refine wpAnyH_take (i := 11) (v := ?_) rfl (by kernel_rfl) (by kernel_rfl) (by kernel_rfl) (fun _ _ _ h => h) (Or.inl ⟨by kernel_rfl, ?_⟩) (zv) ?_
          rotate_left
          focus (intro W' hSw; have hx0 := hSw; (try dsimp only at hx0); have hc0 := hx0.c0; have hc1 := hx0.c1; clear hx0; go_simp; (try with_reducible rfl))
          (try simp only [Act.put, List.setIfInBounds_toArray, List.set_cons_zero, List.set_cons_succ, List.getElem_toArray, List.getElem_cons_zero, List.getElem_cons_succ])
          refine wpAnyH_ready (rs := [1, 3]) (by kernel_rfl) (by simp) ?_
          refine AllReadyH.cons rfl (fun K hK => ?_) (AllReadyH.cons rfl (fun K hK => ?_) (AllReadyH.nil))
          · have hq0 := zu.c0
            have hq1 := zu.c1
            go_simp
            clear hq0 hq1
            refine hK.out _ _ (zv) (fun _ => ?_)
            clear hK K
            (try simp only [Act.put, List.setIfInBounds_toArray, List.set_cons_zero, List.set_cons_succ, List.getElem_toArray, List.getElem_cons_zero, List.getElem_cons_succ])
            refine wpAnyH_ready (rs := [3]) (by kernel_rfl) (by simp) ?_
            refine AllReadyH.cons rfl (fun K hK => ?_) (AllReadyH.nil)
            have hq0 := zu.c0
            have hq1 := zu.c1
            go_simp
            clear hq0 hq1
            refine hK.out _ _ (zv) (fun _ => ?_)
            clear hK K
            (try simp only [Act.put, List.setIfInBounds_toArray, List.set_cons_zero, List.set_cons_succ, List.getElem_toArray, List.getElem_cons_zero, List.getElem_cons_succ])
            refine wpAnyH_take (i := 4) (v := ?_) rfl (by kernel_rfl) (by kernel_rfl) (by kernel_rfl) (fun _ _ _ h => h) (Or.inl ⟨by kernel_rfl, ?_⟩) (zv) ?_
            rotate_left
            focus (intro W' hSw; have hx0 := hSw; (try dsimp only at hx0); have hc0 := hx0.c0; have hc1 := hx0.c1; clear hx0; go_simp; (try with_reducible rfl))
            (try simp only [Act.put, List.setIfInBounds_toArray, List.set_cons_zero, List.set_cons_succ, List.getElem_toArray, List.getElem_cons_zero, List.getElem_cons_succ])
            refine wpAnyH_take (i := 5) (v := ?_) rfl (by kernel_rfl) (by kernel_rfl) (by kernel_rfl) (fun _ _ _ h => h) (Or.inl ⟨by kernel_rfl, ?_⟩) (zv) ?_
            rotate_left
            focus (intro W' hSw; have hx0 := hSw; (try dsimp only at hx0); have hc0 := hx0.c0; have hc1 := hx0.c1; clear hx0; go_simp; (try with_reducible rfl))
            (try simp only [Act.put, List.setIfInBounds_toArray, List.set_cons_zero, List.set_cons_succ, List.getElem_toArray, List.getElem_cons_zero, List.getElem_cons_succ])
            refine wpAnyH_take (i := 12) (v := ?_) rfl (by kernel_rfl) (by kernel_rfl) (by kernel_rfl) (fun _ _ _ h => h) (Or.inl ⟨by kernel_rfl, ?_⟩) (zv) ?_
            rotate_left
            focus (intro W' hSw; have hx0 := hSw; (try dsimp only at hx0); have hc0 := hx0.c0; have hc1 := hx0.c1; clear hx0; go_simp; (try with_reducible rfl))
            (try simp only [Act.put, List.setIfInBounds_toArray, List.set_cons_zero, List.set_cons_succ, List.getElem_toArray, List.getElem_cons_zero, List.getElem_cons_succ])
            refine wpAnyH_ready (rs := [13]) (by kernel_rfl) (by simp) ?_
            refine AllReadyH.cons rfl (fun K hK => ?_) (AllReadyH.nil)
            have hq0 := zu.c0
            have hq1 := zu.c1
            have hr0 := zu.f0
            have hr1 := zu.f1
            go_simp
            clear hq0 hq1 hr0 hr1
            have hP := put1 V8 Bzu 0 (.int .i64 (ua.natAbs : Int))
            have hN := zu.stored0 (.int .i64 (ua.natAbs : Int))
            generalize V8.setCell ⟨Bzu, 0, none⟩ (.int .i64 (ua.natAbs : Int)) = V10 at hP hN ⊢
            replace zv := zv.put hP (by omega)
            replace h0 := bel_put h0 (by omega) hP
            clear hP zu
            have zu := hN
            clear hN
            refine hK.out _ _ (zv) (fun _ => ?_)
            clear hK K
            (try simp only [Act.put, List.setIfInBounds_toArray, List.set_cons_zero, List.set_cons_succ, List.getElem_toArray, List.getElem_cons_zero, List.getElem_cons_succ])
            refine wpAnyH_take (i := 14) (v := ?_) rfl (by kernel_rfl) (by kernel_rfl) (by kernel_rfl) (fun _ _ _ h => h) (Or.inl ⟨by kernel_rfl, ?_⟩) (zv) ?_
            rotate_left
            focus (intro W' hSw; have hx0 := hSw; (try dsimp only at hx0); have hc0 := hx0.c0; have hc1 := hx0.c1; clear hx0; go_simp; (try with_reducible rfl))
            (try simp only [Act.put, List.setIfInBounds_toArray, List.set_cons_zero, List.set_cons_succ, List.getElem_toArray, List.getElem_cons_zero, List.getElem_cons_succ])
            refine wpAnyH_done (by kernel_rfl) ?_ _
            refine still1_step rfl (fun K hK => ?_)
            have hq0 := zv.c0
            have hq1 := zv.c1
            have hr0 := zv.f0
            have hr1 := zv.f1
            go_simp
            clear hq0 hq1 hr0 hr1
            have hP := put1 V10 Bzv 0 (.int .i64 (va.natAbs : Int))
            have hN := zv.stored0 (.int .i64 (va.natAbs : Int))
            generalize V10.setCell ⟨Bzv, 0, none⟩ (.int .i64 (va.natAbs : Int)) = V11 at hP hN ⊢
            replace zu := zu.put hP (by omega)
            replace h0 := bel_put h0 (by omega) hP
            clear hP zv
            have zv := hN
            clear hN
            refine hK.out _ _ ?_
            clear hK K
            (try simp only [Act.put, List.setIfInBounds_toArray, List.set_cons_zero, List.set_cons_succ, List.getElem_toArray, List.getElem_cons_zero, List.getElem_cons_succ])
            have c_zu := zu.c0
            have d_zu := zu.c1
            have p_zu := zu.f0
            have q_zu := zu.f1
            have c_zv := zv.c0
            have d_zv := zv.c1
            have p_zv := zv.f0
            have q_zv := zv.f1
            go_wp2_with fail
            clear c_zu d_zu p_zu q_zu c_zv d_zv p_zv q_zv
            go_at_call 73; (with_reducible refine (cmpf_any (ua.natAbs : Int) ub (va.natAbs : Int) vb (by omega) (by omega) (by omega) (by omega) (by omega) (by omega) (by omega) (by omega) _).mono ?_)
            rintro e V12 ⟨rfl, hb⟩
            replace h0 := bel_go h0 h0.size hb
            clear hb
            rw [HC.out]
            go_wp2_with fail
            go_ret
            exact ⟨rfl, h0⟩
          · have hq0 := zu.c0
            have hq1 := zu.c1
            go_simp
            clear hq0 hq1
            refine hK.out _ _ (zv) (fun _ => ?_)
            clear hK K
            (try simp only [Act.put, List.setIfInBounds_toArray, List.set_cons_zero, List.set_cons_succ, List.getElem_toArray, List.getElem_cons_zero, List.getElem_cons_succ])
            refine wpAnyH_take (i := 4) (v := ?_) rfl (by kernel_rfl) (by kernel_rfl) (by kernel_rfl) (fun _ _ _ h => h) (Or.inl ⟨by kernel_rfl, ?_⟩) (zv) ?_
            rotate_left
            focus (intro W' hSw; have hx0 := hSw; (try dsimp only at hx0); have hc0 := hx0.c0; have hc1 := hx0.c1; clear hx0; go_simp; (try with_reducible rfl))
            (try simp only [Act.put, List.setIfInBounds_toArray, List.set_cons_zero, List.set_cons_succ, List.getElem_toArray, List.getElem_cons_zero, List.getElem_cons_succ])
            refine wpAnyH_ready (rs := [1]) (by kernel_rfl) (by simp) ?_
            refine AllReadyH.cons rfl (fun K hK => ?_) (AllReadyH.nil)
            have hq0 := zu.c0
            have hq1 := zu.c1
            go_simp
            clear hq0 hq1
            refine hK.out _ _ (zv) (fun _ => ?_)
            clear hK K
            (try simp only [Act.put, List.setIfInBounds_toArray, List.set_cons_zero, List.set_cons_succ, List.getElem_toArray, List.getElem_cons_zero, List.getElem_cons_succ])
            refine wpAnyH_take (i := 5) (v := ?_) rfl (by kernel_rfl) (by kernel_rfl) (by kernel_rfl) (fun _ _ _ h => h) (Or.inl ⟨by kernel_rfl, ?_⟩) (zv) ?_
            rotate_left
            focus (intro W' hSw; have hx0 := hSw; (try dsimp only at hx0); have hc0 := hx0.c0; have hc1 := hx0.c1; clear hx0; go_simp; (try with_reducible rfl))
            (try simp only [Act.put, List.setIfInBounds_toArray, List.set_cons_zero, List.set_cons_succ, List.getElem_toArray, List.getElem_cons_zero, List.getElem_cons_succ])
            refine wpAnyH_take (i := 12) (v := ?_) rfl (by kernel_rfl) (by kernel_rfl) (by kernel_rfl) (fun _ _ _ h => h) (Or.inl ⟨by kernel_rfl, ?_⟩) (zv) ?_
            rotate_left
            focus (intro W' hSw; have hx0 := hSw; (try dsimp only at hx0); have hc0 := hx0.c0; have hc1 := hx0.c1; clear hx0; go_simp; (try with_reducible rfl))
            (try simp only [Act.put, List.setIfInBounds_toArray, List.set_cons_zero, List.set_cons_succ, List.getElem_toArray, List.getElem_cons_zero, List.getElem_cons_succ])
            refine wpAnyH_ready (rs := [13]) (by kernel_rfl) (by simp) ?_
            refine AllReadyH.cons rfl (fun K hK => ?_) (AllReadyH.nil)
            have hq0 := zu.c0
            have hq1 := zu.c1
            have hr0 := zu.f0
            have hr1 := zu.f1
            go_simp
            clear hq0 hq1 hr0 hr1
            have hP := put1 V8 Bzu 0 (.int .i64 (ua.natAbs : Int))
            have hN := zu.stored0 (.int .i64 (ua.natAbs : Int))
            generalize V8.setCell ⟨Bzu, 0, none⟩ (.int .i64 (ua.natAbs : Int)) = V10 at hP hN ⊢
            replace zv := zv.put hP (by omega)
            replace h0 := bel_put h0 (by omega) hP
            clear hP zu
            have zu := hN
            clear hN
            refine hK.out _ _ (zv) (fun _ => ?_)
            clear hK K
            (try simp only [Act.put, List.setIfInBounds_toArray, List.set_cons_zero, List.set_cons_succ, List.getElem_toArray, List.getElem_cons_zero, List.getElem_cons_succ])
            refine wpAnyH_take (i := 14) (v := ?_) rfl (by kernel_rfl) (by kernel_rfl) (by kernel_rfl) (fun _ _ _ h => h) (Or.inl ⟨by kernel_rfl, ?_⟩) (zv) ?_
            rotate_left
            focus (intro W' hSw; have hx0 := hSw; (try dsimp only at hx0); have hc0 := hx0.c0; have hc1 := hx0.c1; clear hx0; go_simp; (try with_reducible rfl))
            (try simp only [Act.put, List.setIfInBounds_toArray, List.set_cons_zero, List.set_cons_succ, List.getElem_toArray, List.getElem_cons_zero, List.getElem_cons_succ])
            refine wpAnyH_done (by kernel_rfl) ?_ _
            refine still1_step rfl (fun K hK => ?_)
            have hq0 := zv.c0
            have hq1 := zv.c1
            have hr0 := zv.f0
            have hr1 := zv.f1
            go_simp
            clear hq0 hq1 hr0 hr1
            have hP := put1 V10 Bzv 0 (.int .i64 (va.natAbs : Int))
            have hN := zv.stored0 (.int .i64 (va.natAbs : Int))
            generalize V10.setCell ⟨Bzv, 0, none⟩ (.int .i64 (va.natAbs : Int)) = V11 at hP hN ⊢
            replace zu := zu.put hP (by omega)
            replace h0 := bel_put h0 (by omega) hP
            clear hP zv
            have zv := hN
            clear hN
            refine hK.out _ _ ?_
            clear hK K
            (try simp only [Act.put, List.setIfInBounds_toArray, List.set_cons_zero, List.set_cons_succ, List.getElem_toArray, List.getElem_cons_zero, List.getElem_cons_succ])
            have c_zu := zu.c0
            have d_zu := zu.c1
            have p_zu := zu.f0
            have q_zu := zu.f1
            have c_zv := zv.c0
            have d_zv := zv.c1
            have p_zv := zv.f0
            have q_zv := zv.f1
            go_wp2_with fail
            clear c_zu d_zu p_zu q_zu c_zv d_zv p_zv q_zv
            go_at_call 73; (with_reducible refine (cmpf_any (ua.natAbs : Int) ub (va.natAbs : Int) vb (by omega) (by omega) (by omega) (by omega) (by omega) (by omega) (by omega) (by omega) _).mono ?_)
            rintro e V12 ⟨rfl, hb⟩
            replace h0 := bel_go h0 h0.size hb
            clear hb
            rw [HC.out]
            go_wp2_with fail
            go_ret
            exact ⟨rfl, h0⟩
  · have gb := nz g1
    go_enter Try.func17, Try.ntmps17
    have h0 := Below.refl w.heap.size w
    go_wp2_with fail
    go_at_call 61; (with_reducible refine (make_any n d a1 a2 b1 b2 _).mono ?_)
    rintro e W1 ⟨rfl, hb⟩
    replace h0 := bel_go h0 h0.size hb
    clear hb
    rw [Hex.out.1, Hex.out.2.1, Hex.out.2.2]
    go_upto_region 2 with fail
    have hal : Below W1.heap.size W1 (W1.alloc (.cells #[.int .i64 (x), .int .i64 (y)] 76)) := (Below.refl _ _).alloc (Nat.le_refl _) _
    have z1 := Bx.new W1 76 (.int .i64 (x)) (.int .i64 (y))
    replace h0 := bel_go h0 h0.size hal
    clear hal
    generalize W1.heap.size = Bz1 at z1 ⊢
    generalize W1.alloc (.cells #[.int .i64 (x), .int .i64 (y)] 76) = V1 at z1 h0 ⊢
    go_wp2_with fail
    go_at_call 96; (with_reducible refine (fracFact_any _).mono ?_)
    rintro e W2 ⟨rfl, hb⟩
    replace z1 := z1.go hb
    replace h0 := bel_go h0 h0.size hb
    clear hb
    have c_z1 := z1.c0
    have d_z1 := z1.c1
    have p_z1 := z1.f0
    have q_z1 := z1.f1
    go_wp2_with fail
    clear c_z1 d_z1 p_z1 q_z1
    go_at_call 96; (with_reducible refine (fracFact_any _).mono ?_)
    rintro e W3 ⟨rfl, hb⟩
    replace h0 := bel_go h0 h0.size hb
    clear hb
    go_wp2_with fail
    go_ret
    exact ⟨rfl, h0⟩
theorem fracBestNear_law (n : Int) (a1 : -9223372036854775808 ≤ n) (a2 : n ≤ 9223372036854775807) (d : Int) (b1 : -9223372036854775808 ≤ d) (b2 : d ≤ 9223372036854775807) (most : Int) (m1 : -9223372036854775808 ≤ most) (m2 : most ≤ 9223372036854775807) (q : Int) (q1 : -9223372036854775808 ≤ q) (q2 : q ≤ 9223372036854775807) (off : Int) (o1 : -9223372036854775808 ≤ off) (o2 : off ≤ 9223372036854775807) (w : World) :
    Calls Try.prog 17 #[.int .i64 n, .int .i64 d, .int .i64 most, .int .i64 q, .int .i64 off] w fun e w' => e = .returned (.bool true) ∧ Below w.heap.size w w' :=
  fracBestNear_any n d most q off a1 a2 b1 b2 m1 m2 q1 q2 o1 o2 w
end Go.Proofs.Ytijpjjpndpdjpaa

