/-
  The walk of the law FracField.
  Conditions: the arguments are int64.
-/
import Derived.Test.YtijpjjpndpdjpaaF5
set_option linter.unusedVariables false
set_option linter.unusedSimpArgs false
namespace Go.Proofs.Ytijpjjpndpdjpaa
open Go.RowKit Go.Shelf Wd

theorem lim_bd (n d : Int) : (-1152921504606846976 ≤ limA n d ∧ limA n d ≤ 1152921504606846976) ∧ (0 ≤ limB n d ∧ limB n d ≤ 1152921504606846976) := by
  by_cases h : -1152921504606846976 ≤ n ∧ n ≤ 1152921504606846976 ∧ 1 ≤ d ∧ d ≤ 1152921504606846976
  · obtain ⟨e1, e2, _⟩ := lim_yes h
    omega
  · obtain ⟨e1, e2, _⟩ := lim_no h
    omega
theorem add_bd (a b c d : Int) : (-1152921504606846976 ≤ addA a b c d ∧ addA a b c d ≤ 1152921504606846976) ∧ (0 ≤ addB a b c d ∧ addB a b c d ≤ 1152921504606846976) := by
  unfold addA addB
  split
  · exact lim_bd _ _
  · omega
theorem mul_bdf (a b c d : Int) : (-1152921504606846976 ≤ mulA a b c d ∧ mulA a b c d ≤ 1152921504606846976) ∧ (0 ≤ mulB a b c d ∧ mulB a b c d ≤ 1152921504606846976) := by
  unfold mulA mulB
  split
  · exact lim_bd _ _
  · omega
theorem mk_bd (n d : Int) : (-1152921504606846976 ≤ mkA n d ∧ mkA n d ≤ 1152921504606846976) ∧ (0 ≤ mkB n d ∧ mkB n d ≤ 1152921504606846976) := by
  unfold mkA mkB
  split
  · omega
  · exact lim_bd _ _
theorem up60 {a b : Int} (h : (-1152921504606846976 ≤ a ∧ a ≤ 1152921504606846976) ∧ (0 ≤ b ∧ b ≤ 1152921504606846976)) : (-9223372036854775808 ≤ a ∧ a ≤ 9223372036854775807) ∧ (-9223372036854775808 ≤ b ∧ b ≤ 9223372036854775807) := by omega
theorem fact_add : addA 1 6 1 10 = 4 ∧ addB 1 6 1 10 = 15 ∧ addE 1 6 1 10 = 0 :=
  add_eq ⟨by omega, by decide⟩ ⟨by omega, by decide⟩ ⟨by omega, by decide⟩ (by omega)
set_option maxRecDepth 100000 in
theorem fracFact_any (w : World) : Calls Try.prog 96 #[] w fun e w' => e = .returned (.bool true) ∧ Below w.heap.size w w' := by
  have HK := Lib.hid fact_add
  go_enter Try.func96, Try.ntmps96
  go_wp2_with fail
  go_at_call 66; (with_reducible refine (addf_any 1 6 1 10 (by omega) (by omega) (by omega) (by omega) (by omega) (by omega) (by omega) (by omega) _).mono ?_)
  rw [HK.out.1, HK.out.2.1, HK.out.2.2]
  rintro e W1 ⟨rfl, h0⟩
  go_upto_region 2 with fail
  have hal : Below W1.heap.size W1 (W1.alloc (.cells #[.int .i64 4, .int .i64 15] 76)) := (Below.refl _ _).alloc (Nat.le_refl _) _
  have xa := Bx.new W1 76 (.int .i64 4) (.int .i64 15)
  replace h0 := bel_go h0 h0.size hal
  clear hal
  generalize W1.heap.size = Bxa at xa ⊢
  generalize W1.alloc (.cells #[.int .i64 4, .int .i64 15] 76) = W2 at xa h0 ⊢
  have c_xa := xa.c0
  have d_xa := xa.c1
  have p_xa := xa.f0
  have q_xa := xa.f1
  go_wp2_with fail
  clear c_xa d_xa p_xa q_xa
  go_ret
  exact ⟨rfl, h0⟩
theorem nz {x : Int} (h : ¬ x = 0) : (x != 0) = true := by simpa using h
set_option maxRecDepth 100000 in
set_option maxHeartbeats 8000000 in
theorem fracField_any (n1 d1 : Int) (p11 : -9223372036854775808 ≤ n1) (p12 : n1 ≤ 9223372036854775807) (q11 : -9223372036854775808 ≤ d1) (q12 : d1 ≤ 9223372036854775807) (n2 d2 : Int) (p21 : -9223372036854775808 ≤ n2) (p22 : n2 ≤ 9223372036854775807) (q21 : -9223372036854775808 ≤ d2) (q22 : d2 ≤ 9223372036854775807) (n3 d3 : Int) (p31 : -9223372036854775808 ≤ n3) (p32 : n3 ≤ 9223372036854775807) (q31 : -9223372036854775808 ≤ d3) (q32 : d3 ≤ 9223372036854775807) (w : World) : Calls Try.prog 16 #[.int .i64 n1, .int .i64 d1, .int .i64 n2, .int .i64 d2, .int .i64 n3, .int .i64 d3] w fun e w' => e = .returned (.bool true) ∧ Below w.heap.size w w' := by
  obtain ⟨x1, hx1⟩ : ∃ v, mkA n1 d1 = v := ⟨_, rfl⟩
  obtain ⟨y1, hy1⟩ : ∃ v, mkB n1 d1 = v := ⟨_, rfl⟩
  obtain ⟨e1, he1⟩ : ∃ v, mkE n1 d1 = v := ⟨_, rfl⟩
  have He1 : Hid (mkA n1 d1 = x1 ∧ mkB n1 d1 = y1 ∧ mkE n1 d1 = e1) := ⟨hx1, hy1, he1⟩
  have b1 : (-9223372036854775808 ≤ x1 ∧ x1 ≤ 9223372036854775807) ∧ (-9223372036854775808 ≤ y1 ∧ y1 ≤ 9223372036854775807) := by have := mk_bd n1 d1; rw [hx1, hy1] at this; exact up60 this
  clear hx1 hy1 he1
  obtain ⟨x2, hx2⟩ : ∃ v, mkA n2 d2 = v := ⟨_, rfl⟩
  obtain ⟨y2, hy2⟩ : ∃ v, mkB n2 d2 = v := ⟨_, rfl⟩
  obtain ⟨e2, he2⟩ : ∃ v, mkE n2 d2 = v := ⟨_, rfl⟩
  have He2 : Hid (mkA n2 d2 = x2 ∧ mkB n2 d2 = y2 ∧ mkE n2 d2 = e2) := ⟨hx2, hy2, he2⟩
  have b2 : (-9223372036854775808 ≤ x2 ∧ x2 ≤ 9223372036854775807) ∧ (-9223372036854775808 ≤ y2 ∧ y2 ≤ 9223372036854775807) := by have := mk_bd n2 d2; rw [hx2, hy2] at this; exact up60 this
  clear hx2 hy2 he2
  obtain ⟨x3, hx3⟩ : ∃ v, mkA n3 d3 = v := ⟨_, rfl⟩
  obtain ⟨y3, hy3⟩ : ∃ v, mkB n3 d3 = v := ⟨_, rfl⟩
  obtain ⟨e3, he3⟩ : ∃ v, mkE n3 d3 = v := ⟨_, rfl⟩
  have He3 : Hid (mkA n3 d3 = x3 ∧ mkB n3 d3 = y3 ∧ mkE n3 d3 = e3) := ⟨hx3, hy3, he3⟩
  have b3 : (-9223372036854775808 ≤ x3 ∧ x3 ≤ 9223372036854775807) ∧ (-9223372036854775808 ≤ y3 ∧ y3 ≤ 9223372036854775807) := by have := mk_bd n3 d3; rw [hx3, hy3] at this; exact up60 this
  clear hx3 hy3 he3
  by_cases g1 : e1 = 0
  · by_cases g2 : e2 = 0
    · by_cases g3 : e3 = 0
      · have v1 := (mk_ok (He1.out.2.2.trans g1)).2.1
        have v2 := (mk_ok (He2.out.2.2.trans g2)).2.1
        have v3 := (mk_ok (He3.out.2.2.trans g3)).2.1
        rw [He1.out.1, He1.out.2.1] at v1
        rw [He2.out.1, He2.out.2.1] at v2
        rw [He3.out.1, He3.out.2.1] at v3
        subst g1 g2 g3
        go_enter Try.func16, Try.ntmps16
        have h0 := Below.refl w.heap.size w
        go_wp2_with fail
        go_at_call 61; (with_reducible refine (make_any n1 d1 p11 p12 q11 q12 _).mono ?_)
        rintro e W1 ⟨rfl, hb⟩
        replace h0 := bel_go h0 h0.size hb
        clear hb
        rw [He1.out.1, He1.out.2.1, He1.out.2.2]
        go_upto_region 2 with fail
        have hal : Below W1.heap.size W1 (W1.alloc (.cells #[.int .i64 x1, .int .i64 y1] 76)) := (Below.refl _ _).alloc (Nat.le_refl _) _
        have z1 := Bx.new W1 76 (.int .i64 x1) (.int .i64 y1)
        replace h0 := bel_go h0 h0.size hal
        clear hal
        generalize W1.heap.size = Bz1 at z1 ⊢
        generalize W1.alloc (.cells #[.int .i64 x1, .int .i64 y1] 76) = V1 at z1 h0 ⊢
        go_wp2_with fail
        go_at_call 61; (with_reducible refine (make_any n2 d2 p21 p22 q21 q22 _).mono ?_)
        rintro e W2 ⟨rfl, hb⟩
        replace z1 := z1.go hb
        replace h0 := bel_go h0 h0.size hb
        clear hb
        rw [He2.out.1, He2.out.2.1, He2.out.2.2]
        go_upto_region 3 with fail
        have hal : Below W2.heap.size W2 (W2.alloc (.cells #[.int .i64 x2, .int .i64 y2] 76)) := (Below.refl _ _).alloc (Nat.le_refl _) _
        have z2 := Bx.new W2 76 (.int .i64 x2) (.int .i64 y2)
        replace z1 := z1.go hal
        replace h0 := bel_go h0 h0.size hal
        clear hal
        generalize W2.heap.size = Bz2 at z2 ⊢
        generalize W2.alloc (.cells #[.int .i64 x2, .int .i64 y2] 76) = V2 at z1 z2 h0 ⊢
        go_wp2_with fail
        go_at_call 61; (with_reducible refine (make_any n3 d3 p31 p32 q31 q32 _).mono ?_)
        rintro e W3 ⟨rfl, hb⟩
        replace z1 := z1.go hb
        replace z2 := z2.go hb
        replace h0 := bel_go h0 h0.size hb
        clear hb
        rw [He3.out.1, He3.out.2.1, He3.out.2.2]
        go_upto_region 4 with fail
        have hal : Below W3.heap.size W3 (W3.alloc (.cells #[.int .i64 x3, .int .i64 y3] 76)) := (Below.refl _ _).alloc (Nat.le_refl _) _
        have z3 := Bx.new W3 76 (.int .i64 x3) (.int .i64 y3)
        replace z1 := z1.go hal
        replace z2 := z2.go hal
        replace h0 := bel_go h0 h0.size hal
        clear hal
        generalize W3.heap.size = Bz3 at z3 ⊢
        generalize W3.alloc (.cells #[.int .i64 x3, .int .i64 y3] 76) = V3 at z1 z2 z3 h0 ⊢
        go_wp2_with fail
        go_at_call 96; (with_reducible refine (fracFact_any _).mono ?_)
        rintro e W4 ⟨rfl, hb⟩
        replace z1 := z1.go hb
        replace z2 := z2.go hb
        replace z3 := z3.go hb
        replace h0 := bel_go h0 h0.size hb
        clear hb
        obtain ⟨xs, hxs⟩ : ∃ v, addA x1 y1 x2 y2 = v := ⟨_, rfl⟩
        obtain ⟨ys, hys⟩ : ∃ v, addB x1 y1 x2 y2 = v := ⟨_, rfl⟩
        obtain ⟨es, hes⟩ : ∃ v, addE x1 y1 x2 y2 = v := ⟨_, rfl⟩
        have Hes : Hid (addA x1 y1 x2 y2 = xs ∧ addB x1 y1 x2 y2 = ys ∧ addE x1 y1 x2 y2 = es) := ⟨hxs, hys, hes⟩
        have bs := up60 (add_bd x1 y1 x2 y2)
        rw [hxs, hys] at bs
        clear hxs hys hes
        have c_z1 := z1.c0
        have d_z1 := z1.c1
        have p_z1 := z1.f0
        have q_z1 := z1.f1
        have c_z2 := z2.c0
        have d_z2 := z2.c1
        have p_z2 := z2.f0
        have q_z2 := z2.f1
        go_wp2_with fail
        clear c_z1 d_z1 p_z1 q_z1 c_z2 d_z2 p_z2 q_z2
        go_at_call 66; (with_reducible refine (addf_any x1 y1 x2 y2 b1.1.1 b1.1.2 b1.2.1 b1.2.2 b2.1.1 b2.1.2 b2.2.1 b2.2.2 _).mono ?_)
        rintro e W6 ⟨rfl, hb⟩
        replace z1 := z1.go hb
        replace z2 := z2.go hb
        replace z3 := z3.go hb
        replace h0 := bel_go h0 h0.size hb
        clear hb
        rw [Hes.out.1, Hes.out.2.1, Hes.out.2.2]
        go_upto_region 7 with fail
        have hal : Below W6.heap.size W6 (W6.alloc (.cells #[.int .i64 xs, .int .i64 ys] 76)) := (Below.refl _ _).alloc (Nat.le_refl _) _
        have zs := Bx.new W6 76 (.int .i64 xs) (.int .i64 ys)
        replace z1 := z1.go hal
        replace z2 := z2.go hal
        replace z3 := z3.go hal
        replace h0 := bel_go h0 h0.size hal
        clear hal
        generalize W6.heap.size = Bzs at zs ⊢
        generalize W6.alloc (.cells #[.int .i64 xs, .int .i64 ys] 76) = V6 at z1 z2 z3 zs h0 ⊢
        go_upto_if 73 with fail
        go_cut [14] from 20 (fun s14 wc => s14 = .int .i64 es ∧ Bx wc Bz1 76 (.int .i64 x1) (.int .i64 y1) ∧ Bx wc Bz2 76 (.int .i64 x2) (.int .i64 y2) ∧ Bx wc Bz3 76 (.int .i64 x3) (.int .i64 y3) ∧ Bx wc Bzs 76 (.int .i64 xs) (.int .i64 ys) ∧ Below w.heap.size w wc)
        case first =>
          as_aux_lemma =>
            by_cases hz : es = 0
            · have HS := Lib.hid (field_sub (a := x1) (b := y1) (c := x2) (d := y2) (by rw [Hes.out.2.2, hz]))
              rw [Hes.out.1, Hes.out.2.1] at HS
              have hzb : (es == 0) = true := by simpa using hz
              have c_zs := zs.c0
              have d_zs := zs.c1
              have p_zs := zs.f0
              have q_zs := zs.f1
              have c_z2 := z2.c0
              have d_z2 := z2.c1
              have p_z2 := z2.f0
              have q_z2 := z2.f1
              go_wp2_with fail
              clear c_zs d_zs p_zs q_zs c_z2 d_z2 p_z2 q_z2
              go_at_call 67; (with_reducible refine (subf_any xs ys x2 y2 bs.1.1 bs.1.2 bs.2.1 bs.2.2 b2.1.1 b2.1.2 b2.2.1 b2.2.2 _).mono ?_)
              rintro e W7 ⟨rfl, hb⟩
              replace z1 := z1.go hb
              replace z2 := z2.go hb
              replace z3 := z3.go hb
              replace zs := zs.go hb
              replace h0 := bel_go h0 h0.size hb
              clear hb
              rw [HS.out.1, HS.out.2.1, HS.out.2.2]
              go_upto_region 9 with fail
              have hal : Below W7.heap.size W7 (W7.alloc (.cells #[.int .i64 x1, .int .i64 y1] 76)) := (Below.refl _ _).alloc (Nat.le_refl _) _
              have zt := Bx.new W7 76 (.int .i64 x1) (.int .i64 y1)
              replace z1 := z1.go hal
              replace z2 := z2.go hal
              replace z3 := z3.go hal
              replace zs := zs.go hal
              replace h0 := bel_go h0 h0.size hal
              clear hal
              generalize W7.heap.size = Bzt at zt ⊢
              generalize W7.alloc (.cells #[.int .i64 x1, .int .i64 y1] 76) = V7 at z1 z2 z3 zs zt h0 ⊢
              have c_zt := zt.c0
              have d_zt := zt.c1
              have p_zt := zt.f0
              have q_zt := zt.f1
              have c_z1 := z1.c0
              have d_z1 := z1.c1
              have p_z1 := z1.f0
              have q_z1 := z1.f1
              go_wp2_with fail
              clear c_zt d_zt p_zt q_zt c_z1 d_z1 p_z1 q_z1
              go_meet
              case rel => exact ⟨by rw [hz], z1, z2, z3, zs, h0⟩
            · have hzb : (es == 0) = false := by simpa using hz
              go_wp2_with fail
              go_meet
              case rel => exact ⟨rfl, z1, z2, z3, zs, h0⟩
        case rest =>
          clear z1 z2 z3 zs h0
          obtain ⟨rfl, z1, z2, z3, zs, h0⟩ := hcut
          obtain ⟨xp, hxp⟩ : ∃ v, mulA x1 y1 x2 y2 = v := ⟨_, rfl⟩
          obtain ⟨yp, hyp⟩ : ∃ v, mulB x1 y1 x2 y2 = v := ⟨_, rfl⟩
          obtain ⟨ep, hep⟩ : ∃ v, mulE x1 y1 x2 y2 = v := ⟨_, rfl⟩
          have Hep : Hid (mulA x1 y1 x2 y2 = xp ∧ mulB x1 y1 x2 y2 = yp ∧ mulE x1 y1 x2 y2 = ep) := ⟨hxp, hyp, hep⟩
          have bp := up60 (mul_bdf x1 y1 x2 y2)
          rw [hxp, hyp] at bp
          clear hxp hyp hep
          have c_z1 := z1.c0
          have d_z1 := z1.c1
          have p_z1 := z1.f0
          have q_z1 := z1.f1
          have c_z2 := z2.c0
          have d_z2 := z2.c1
          have p_z2 := z2.f0
          have q_z2 := z2.f1
          go_wp2_with fail
          clear c_z1 d_z1 p_z1 q_z1 c_z2 d_z2 p_z2 q_z2
          go_at_call 68; (with_reducible refine (mulf_any x1 y1 x2 y2 b1.1.1 b1.1.2 b1.2.1 b1.2.2 b2.1.1 b2.1.2 b2.2.1 b2.2.2 _).mono ?_)
          rintro e W8 ⟨rfl, hb⟩
          replace z1 := z1.go hb
          replace z2 := z2.go hb
          replace z3 := z3.go hb
          replace zs := zs.go hb
          replace h0 := bel_go h0 h0.size hb
          clear hb
          rw [Hep.out.1, Hep.out.2.1, Hep.out.2.2]
          go_upto_region 12 with fail
          have hal : Below W8.heap.size W8 (W8.alloc (.cells #[.int .i64 xp, .int .i64 yp] 76)) := (Below.refl _ _).alloc (Nat.le_refl _) _
          have zp := Bx.new W8 76 (.int .i64 xp) (.int .i64 yp)
          replace z1 := z1.go hal
          replace z2 := z2.go hal
          replace z3 := z3.go hal
          replace zs := zs.go hal
          replace h0 := bel_go h0 h0.size hal
          clear hal
          generalize W8.heap.size = Bzp at zp ⊢
          generalize W8.alloc (.cells #[.int .i64 xp, .int .i64 yp] 76) = V8 at z1 z2 z3 zs zp h0 ⊢
          go_cut [99] from 23 (fun s99 wc => s99 = .bool (decide (ep = 0 ∧ x2 ≠ 0)) ∧ Bx wc Bzp 76 (.int .i64 xp) (.int .i64 yp) ∧ Bx wc Bz1 76 (.int .i64 x1) (.int .i64 y1) ∧ Bx wc Bz2 76 (.int .i64 x2) (.int .i64 y2) ∧ Bx wc Bz3 76 (.int .i64 x3) (.int .i64 y3) ∧ Bx wc Bzs 76 (.int .i64 xs) (.int .i64 ys) ∧ Below w.heap.size w wc)
          case first =>
            as_aux_lemma =>
              by_cases hz : ep = 0
              · have hzb : (ep == 0) = true := by simpa using hz
                have HZ := Lib.hid hz
                clear hz
                by_cases hc : x2 = 0
                · have hcb : (x2 != 0) = false := by simpa using hc
                  have HC := Lib.hid hc
                  clear hc
                  have c_z2 := z2.c0
                  have d_z2 := z2.c1
                  have p_z2 := z2.f0
                  have q_z2 := z2.f1
                  go_wp2_with fail
                  clear c_z2 d_z2 p_z2 q_z2
                  go_meet
                  case rel => exact ⟨by rw [decide_eq_false (fun h => h.2 HC.out)], zp, z1, z2, z3, zs, h0⟩
                · have hcb : (x2 != 0) = true := by simpa using hc
                  have HC := Lib.hid hc
                  clear hc
                  have c_z2 := z2.c0
                  have d_z2 := z2.c1
                  have p_z2 := z2.f0
                  have q_z2 := z2.f1
                  go_wp2_with fail
                  clear c_z2 d_z2 p_z2 q_z2
                  go_meet
                  case rel => exact ⟨by rw [decide_eq_true ⟨HZ.out, HC.out⟩], zp, z1, z2, z3, zs, h0⟩
              · have hzb : (ep == 0) = false := by simpa using hz
                have HZ := Lib.hid hz
                clear hz
                have c_z2 := z2.c0
                have d_z2 := z2.c1
                have p_z2 := z2.f0
                have q_z2 := z2.f1
                go_wp2_with fail
                clear c_z2 d_z2 p_z2 q_z2
                go_meet
                case rel => exact ⟨by rw [decide_eq_false (fun h => HZ.out h.1)], zp, z1, z2, z3, zs, h0⟩
          case rest =>
            clear zp z1 z2 z3 zs h0
            obtain ⟨rfl, zp, z1, z2, z3, zs, h0⟩ := hcut
            go_upto_if 99 with fail
            go_cut [16] from 20 (fun s16 wc => s16 = .int .i64 ep ∧ Bx wc Bz1 76 (.int .i64 x1) (.int .i64 y1) ∧ Bx wc Bz2 76 (.int .i64 x2) (.int .i64 y2) ∧ Bx wc Bz3 76 (.int .i64 x3) (.int .i64 y3) ∧ Bx wc Bzs 76 (.int .i64 xs) (.int .i64 ys) ∧ Below w.heap.size w wc)
            case first =>
              as_aux_lemma =>
                by_cases hz : ep = 0 ∧ x2 ≠ 0
                · have hd : decide (ep = 0 ∧ x2 ≠ 0) = true := decide_eq_true hz
                  rw [hd]
                  have HS := Lib.hid (field_div (a := x1) (b := y1) (c := x2) (d := y2) (by rw [Hep.out.2.2, hz.1]) hz.2)
                  rw [Hep.out.1, Hep.out.2.1] at HS
                  clear hd hz
                  have c_zp := zp.c0
                  have d_zp := zp.c1
                  have p_zp := zp.f0
                  have q_zp := zp.f1
                  have c_z2 := z2.c0
                  have d_z2 := z2.c1
                  have p_z2 := z2.f0
                  have q_z2 := z2.f1
                  go_wp2_with fail
                  clear c_zp d_zp p_zp q_zp c_z2 d_z2 p_z2 q_z2
                  go_at_call 69; (with_reducible refine (divf_any xp yp x2 y2 bp.1.1 bp.1.2 bp.2.1 bp.2.2 b2.1.1 b2.1.2 b2.2.1 b2.2.2 _).mono ?_)
                  rintro e W9 ⟨rfl, hb⟩
                  replace z1 := z1.go hb
                  replace z2 := z2.go hb
                  replace z3 := z3.go hb
                  replace zs := zs.go hb
                  replace zp := zp.go hb
                  replace h0 := bel_go h0 h0.size hb
                  clear hb
                  rw [HS.out.1, HS.out.2.1, HS.out.2.2]
                  go_upto_region 14 with fail
                  have hal : Below W9.heap.size W9 (W9.alloc (.cells #[.int .i64 x1, .int .i64 y1] 76)) := (Below.refl _ _).alloc (Nat.le_refl _) _
                  have zt := Bx.new W9 76 (.int .i64 x1) (.int .i64 y1)
                  replace z1 := z1.go hal
                  replace z2 := z2.go hal
                  replace z3 := z3.go hal
                  replace zs := zs.go hal
                  replace zp := zp.go hal
                  replace h0 := bel_go h0 h0.size hal
                  clear hal
                  generalize W9.heap.size = Bzt at zt ⊢
                  generalize W9.alloc (.cells #[.int .i64 x1, .int .i64 y1] 76) = V9 at z1 z2 z3 zs zp zt h0 ⊢
                  have c_zt := zt.c0
                  have d_zt := zt.c1
                  have p_zt := zt.f0
                  have q_zt := zt.f1
                  have c_z1 := z1.c0
                  have d_z1 := z1.c1
                  have p_z1 := z1.f0
                  have q_z1 := z1.f1
                  go_wp2_with fail
                  clear c_zt d_zt p_zt q_zt c_z1 d_z1 p_z1 q_z1
                  go_meet
                  case rel => exact ⟨rfl, z1, z2, z3, zs, h0⟩
                · have hd : decide (ep = 0 ∧ x2 ≠ 0) = false := decide_eq_false hz
                  rw [hd]
                  clear hd hz
                  go_wp2_with fail
                  go_meet
                  case rel => exact ⟨rfl, z1, z2, z3, zs, h0⟩
            case rest =>
              clear zp z1 z2 z3 zs h0
              obtain ⟨rfl, z1, z2, z3, zs, h0⟩ := hcut
              obtain ⟨xl, hxl⟩ : ∃ v, mulA xs ys x3 y3 = v := ⟨_, rfl⟩
              obtain ⟨yl, hyl⟩ : ∃ v, mulB xs ys x3 y3 = v := ⟨_, rfl⟩
              obtain ⟨el, hel⟩ : ∃ v, mulE xs ys x3 y3 = v := ⟨_, rfl⟩
              have Hel : Hid (mulA xs ys x3 y3 = xl ∧ mulB xs ys x3 y3 = yl ∧ mulE xs ys x3 y3 = el) := ⟨hxl, hyl, hel⟩
              have bel := up60 (mul_bdf xs ys x3 y3)
              rw [hxl, hyl] at bel
              clear hxl hyl hel
              have c_zs := zs.c0
              have d_zs := zs.c1
              have p_zs := zs.f0
              have q_zs := zs.f1
              have c_z3 := z3.c0
              have d_z3 := z3.c1
              have p_z3 := z3.f0
              have q_z3 := z3.f1
              go_wp2_with fail
              clear c_zs d_zs p_zs q_zs c_z3 d_z3 p_z3 q_z3
              go_at_call 68; (with_reducible refine (mulf_any xs ys x3 y3 bs.1.1 bs.1.2 bs.2.1 bs.2.2 b3.1.1 b3.1.2 b3.2.1 b3.2.2 _).mono ?_)
              rintro e U1 ⟨rfl, hb⟩
              replace z1 := z1.go hb
              replace z2 := z2.go hb
              replace z3 := z3.go hb
              replace zs := zs.go hb
              replace h0 := bel_go h0 h0.size hb
              clear hb
              rw [Hel.out.1, Hel.out.2.1, Hel.out.2.2]
              go_upto_region 17 with fail
              have hal : Below U1.heap.size U1 (U1.alloc (.cells #[.int .i64 xl, .int .i64 yl] 76)) := (Below.refl _ _).alloc (Nat.le_refl _) _
              have zl := Bx.new U1 76 (.int .i64 xl) (.int .i64 yl)
              replace z1 := z1.go hal
              replace z2 := z2.go hal
              replace z3 := z3.go hal
              replace zs := zs.go hal
              replace h0 := bel_go h0 h0.size hal
              clear hal
              generalize U1.heap.size = Bzl at zl ⊢
              generalize U1.alloc (.cells #[.int .i64 xl, .int .i64 yl] 76) = T1 at z1 z2 z3 zs zl h0 ⊢
              obtain ⟨xo, hxo⟩ : ∃ v, mulA x1 y1 x3 y3 = v := ⟨_, rfl⟩
              obtain ⟨yo, hyo⟩ : ∃ v, mulB x1 y1 x3 y3 = v := ⟨_, rfl⟩
              obtain ⟨eo, heo⟩ : ∃ v, mulE x1 y1 x3 y3 = v := ⟨_, rfl⟩
              have Heo : Hid (mulA x1 y1 x3 y3 = xo ∧ mulB x1 y1 x3 y3 = yo ∧ mulE x1 y1 x3 y3 = eo) := ⟨hxo, hyo, heo⟩
              have beo := up60 (mul_bdf x1 y1 x3 y3)
              rw [hxo, hyo] at beo
              clear hxo hyo heo
              have c_z1 := z1.c0
              have d_z1 := z1.c1
              have p_z1 := z1.f0
              have q_z1 := z1.f1
              have c_z3 := z3.c0
              have d_z3 := z3.c1
              have p_z3 := z3.f0
              have q_z3 := z3.f1
              go_wp2_with fail
              clear c_z1 d_z1 p_z1 q_z1 c_z3 d_z3 p_z3 q_z3
              go_at_call 68; (with_reducible refine (mulf_any x1 y1 x3 y3 b1.1.1 b1.1.2 b1.2.1 b1.2.2 b3.1.1 b3.1.2 b3.2.1 b3.2.2 _).mono ?_)
              rintro e U2 ⟨rfl, hb⟩
              replace z1 := z1.go hb
              replace z2 := z2.go hb
              replace z3 := z3.go hb
              replace zs := zs.go hb
              replace zl := zl.go hb
              replace h0 := bel_go h0 h0.size hb
              clear hb
              rw [Heo.out.1, Heo.out.2.1, Heo.out.2.2]
              go_upto_region 18 with fail
              have hal : Below U2.heap.size U2 (U2.alloc (.cells #[.int .i64 xo, .int .i64 yo] 76)) := (Below.refl _ _).alloc (Nat.le_refl _) _
              have zo := Bx.new U2 76 (.int .i64 xo) (.int .i64 yo)
              replace z1 := z1.go hal
              replace z2 := z2.go hal
              replace z3 := z3.go hal
              replace zs := zs.go hal
              replace zl := zl.go hal
              replace h0 := bel_go h0 h0.size hal
              clear hal
              generalize U2.heap.size = Bzo at zo ⊢
              generalize U2.alloc (.cells #[.int .i64 xo, .int .i64 yo] 76) = T2 at z1 z2 z3 zs zl zo h0 ⊢
              obtain ⟨xw, hxw⟩ : ∃ v, mulA x2 y2 x3 y3 = v := ⟨_, rfl⟩
              obtain ⟨yw, hyw⟩ : ∃ v, mulB x2 y2 x3 y3 = v := ⟨_, rfl⟩
              obtain ⟨ew, hew⟩ : ∃ v, mulE x2 y2 x3 y3 = v := ⟨_, rfl⟩
              have Hew : Hid (mulA x2 y2 x3 y3 = xw ∧ mulB x2 y2 x3 y3 = yw ∧ mulE x2 y2 x3 y3 = ew) := ⟨hxw, hyw, hew⟩
              have bew := up60 (mul_bdf x2 y2 x3 y3)
              rw [hxw, hyw] at bew
              clear hxw hyw hew
              have c_z2 := z2.c0
              have d_z2 := z2.c1
              have p_z2 := z2.f0
              have q_z2 := z2.f1
              have c_z3 := z3.c0
              have d_z3 := z3.c1
              have p_z3 := z3.f0
              have q_z3 := z3.f1
              go_wp2_with fail
              clear c_z2 d_z2 p_z2 q_z2 c_z3 d_z3 p_z3 q_z3
              go_at_call 68; (with_reducible refine (mulf_any x2 y2 x3 y3 b2.1.1 b2.1.2 b2.2.1 b2.2.2 b3.1.1 b3.1.2 b3.2.1 b3.2.2 _).mono ?_)
              rintro e U3 ⟨rfl, hb⟩
              replace z1 := z1.go hb
              replace z2 := z2.go hb
              replace z3 := z3.go hb
              replace zs := zs.go hb
              replace zl := zl.go hb
              replace zo := zo.go hb
              replace h0 := bel_go h0 h0.size hb
              clear hb
              rw [Hew.out.1, Hew.out.2.1, Hew.out.2.2]
              go_upto_region 19 with fail
              have hal : Below U3.heap.size U3 (U3.alloc (.cells #[.int .i64 xw, .int .i64 yw] 76)) := (Below.refl _ _).alloc (Nat.le_refl _) _
              have zw := Bx.new U3 76 (.int .i64 xw) (.int .i64 yw)
              replace z1 := z1.go hal
              replace z2 := z2.go hal
              replace z3 := z3.go hal
              replace zs := zs.go hal
              replace zl := zl.go hal
              replace zo := zo.go hal
              replace h0 := bel_go h0 h0.size hal
              clear hal
              generalize U3.heap.size = Bzw at zw ⊢
              generalize U3.alloc (.cells #[.int .i64 xw, .int .i64 yw] 76) = T3 at z1 z2 z3 zs zl zo zw h0 ⊢
              obtain ⟨xr, hxr⟩ : ∃ v, addA xo yo xw yw = v := ⟨_, rfl⟩
              obtain ⟨yr, hyr⟩ : ∃ v, addB xo yo xw yw = v := ⟨_, rfl⟩
              obtain ⟨er, her⟩ : ∃ v, addE xo yo xw yw = v := ⟨_, rfl⟩
              have Her : Hid (addA xo yo xw yw = xr ∧ addB xo yo xw yw = yr ∧ addE xo yo xw yw = er) := ⟨hxr, hyr, her⟩
              clear hxr hyr her
              have c_zo := zo.c0
              have d_zo := zo.c1
              have p_zo := zo.f0
              have q_zo := zo.f1
              have c_zw := zw.c0
              have d_zw := zw.c1
              have p_zw := zw.f0
              have q_zw := zw.f1
              go_wp2_with fail
              clear c_zo d_zo p_zo q_zo c_zw d_zw p_zw q_zw
              go_at_call 66; (with_reducible refine (addf_any xo yo xw yw beo.1.1 beo.1.2 beo.2.1 beo.2.2 bew.1.1 bew.1.2 bew.2.1 bew.2.2 _).mono ?_)
              rintro e U4 ⟨rfl, hb⟩
              replace z1 := z1.go hb
              replace z2 := z2.go hb
              replace z3 := z3.go hb
              replace zs := zs.go hb
              replace zl := zl.go hb
              replace zo := zo.go hb
              replace zw := zw.go hb
              replace h0 := bel_go h0 h0.size hb
              clear hb
              rw [Her.out.1, Her.out.2.1, Her.out.2.2]
              go_upto_region 20 with fail
              have hal : Below U4.heap.size U4 (U4.alloc (.cells #[.int .i64 xr, .int .i64 yr] 76)) := (Below.refl _ _).alloc (Nat.le_refl _) _
              have zr := Bx.new U4 76 (.int .i64 xr) (.int .i64 yr)
              replace z1 := z1.go hal
              replace z2 := z2.go hal
              replace z3 := z3.go hal
              replace zs := zs.go hal
              replace zl := zl.go hal
              replace zo := zo.go hal
              replace zw := zw.go hal
              replace h0 := bel_go h0 h0.size hal
              clear hal
              generalize U4.heap.size = Bzr at zr ⊢
              generalize U4.alloc (.cells #[.int .i64 xr, .int .i64 yr] 76) = T4 at z1 z2 z3 zs zl zo zw zr h0 ⊢
              go_cut [159] from 33 (fun s159 wc => s159 = .bool false ∧ Bx wc Bz1 76 (.int .i64 x1) (.int .i64 y1) ∧ Bx wc Bz2 76 (.int .i64 x2) (.int .i64 y2) ∧ Below w.heap.size w wc)
              case first =>
                as_aux_lemma =>
                  by_cases hzes : es = 0
                  rotate_left
                  · have hbes : (es == 0) = false := by simpa using hzes
                    have HZ := Lib.hid hzes
                    clear hzes
                    go_wp2_with fail
                    go_meet
                    case rel => exact ⟨rfl, z1, z2, h0⟩
                  have hbes : (es == 0) = true := by simpa using hzes
                  by_cases hzel : el = 0
                  rotate_left
                  · have hbel : (el == 0) = false := by simpa using hzel
                    have HZ := Lib.hid hzel
                    clear hzel
                    go_wp2_with fail
                    go_meet
                    case rel => exact ⟨rfl, z1, z2, h0⟩
                  have hbel : (el == 0) = true := by simpa using hzel
                  by_cases hzeo : eo = 0
                  rotate_left
                  · have hbeo : (eo == 0) = false := by simpa using hzeo
                    have HZ := Lib.hid hzeo
                    clear hzeo
                    go_wp2_with fail
                    go_meet
                    case rel => exact ⟨rfl, z1, z2, h0⟩
                  have hbeo : (eo == 0) = true := by simpa using hzeo
                  by_cases hzew : ew = 0
                  rotate_left
                  · have hbew : (ew == 0) = false := by simpa using hzew
                    have HZ := Lib.hid hzew
                    clear hzew
                    go_wp2_with fail
                    go_meet
                    case rel => exact ⟨rfl, z1, z2, h0⟩
                  have hbew : (ew == 0) = true := by simpa using hzew
                  obtain ⟨k1, k2, k3⟩ := field_dist (a := x1) (b := y1) (c := x2) (d := y2) (q := x3) (r := y3) (by rw [Hes.out.2.2, hzes]) (by rw [Hes.out.1, Hes.out.2.1, Hel.out.2.2, hzel]) (by rw [Heo.out.2.2, hzeo]) (by rw [Hew.out.2.2, hzew])
                  rw [Hes.out.1, Hes.out.2.1, Hel.out.1, Heo.out.1, Heo.out.2.1, Hew.out.1, Hew.out.2.1, Her.out.1] at k1
                  rw [Hes.out.1, Hes.out.2.1, Hel.out.2.1, Heo.out.1, Heo.out.2.1, Hew.out.1, Hew.out.2.1, Her.out.2.1] at k2
                  rw [Heo.out.1, Heo.out.2.1, Hew.out.1, Hew.out.2.1, Her.out.2.2] at k3
                  have hbr : (er != 0) = false := by simp [k3]
                  rw [k1, k2] at zr
                  clear hzes hzel hzeo hzew k1 k2 k3
                  have c_zl := zl.c0
                  have d_zl := zl.c1
                  have p_zl := zl.f0
                  have q_zl := zl.f1
                  have c_zr := zr.c0
                  have d_zr := zr.c1
                  have p_zr := zr.f0
                  have q_zr := zr.f1
                  go_wp2_with fail
                  clear c_zl d_zl p_zl q_zl c_zr d_zr p_zr q_zr
                  go_meet
                  case rel => exact ⟨rfl, z1, z2, h0⟩
              case rest =>
                clear zl zo zw zr z1 z2 z3 zs h0
                obtain ⟨rfl, z1, z2, h0⟩ := hcut
                obtain ⟨xd, hxd⟩ : ∃ v, addA x1 y1 (-x2) y2 = v := ⟨_, rfl⟩
                obtain ⟨yd, hyd⟩ : ∃ v, addB x1 y1 (-x2) y2 = v := ⟨_, rfl⟩
                obtain ⟨ed, hed⟩ : ∃ v, addE x1 y1 (-x2) y2 = v := ⟨_, rfl⟩
                have Hed : Hid (addA x1 y1 (-x2) y2 = xd ∧ addB x1 y1 (-x2) y2 = yd ∧ addE x1 y1 (-x2) y2 = ed) := ⟨hxd, hyd, hed⟩
                have bd := up60 (add_bd x1 y1 (-x2) y2)
                have b01 : (-9223372036854775808 ≤ (0 : Int) ∧ (0 : Int) ≤ 9223372036854775807) ∧ (-9223372036854775808 ≤ (1 : Int) ∧ (1 : Int) ≤ 9223372036854775807) := by omega
                rw [hxd, hyd] at bd
                clear hxd hyd hed
                have c_z1 := z1.c0
                have d_z1 := z1.c1
                have p_z1 := z1.f0
                have q_z1 := z1.f1
                have c_z2 := z2.c0
                have d_z2 := z2.c1
                have p_z2 := z2.f0
                have q_z2 := z2.f1
                go_wp2_with fail
                clear c_z1 d_z1 p_z1 q_z1 c_z2 d_z2 p_z2 q_z2
                go_at_call 67; (with_reducible refine (subf_any x1 y1 x2 y2 b1.1.1 b1.1.2 b1.2.1 b1.2.2 b2.1.1 b2.1.2 b2.2.1 b2.2.2 _).mono ?_)
                rintro e U5 ⟨rfl, hb⟩
                replace z1 := z1.go hb
                replace z2 := z2.go hb
                replace h0 := bel_go h0 h0.size hb
                clear hb
                rw [Hed.out.1, Hed.out.2.1, Hed.out.2.2]
                go_upto_region 23 with fail
                have hal : Below U5.heap.size U5 (U5.alloc (.cells #[.int .i64 xd, .int .i64 yd] 76)) := (Below.refl _ _).alloc (Nat.le_refl _) _
                have zd := Bx.new U5 76 (.int .i64 xd) (.int .i64 yd)
                replace z1 := z1.go hal
                replace z2 := z2.go hal
                replace h0 := bel_go h0 h0.size hal
                clear hal
                generalize U5.heap.size = Bzd at zd ⊢
                generalize U5.alloc (.cells #[.int .i64 xd, .int .i64 yd] 76) = T5 at z1 z2 zd h0 ⊢
                as_aux_lemma =>
                  by_cases hk : ed = 0
                  · have HM := Lib.hid (field_cmp (a := x1) (b := y1) (c := x2) (d := y2) (by rw [Hed.out.2.2, hk]))
                    rw [Hed.out.1, Hed.out.2.1] at HM
                    obtain ⟨cm, hcm⟩ : ∃ v, cmpfV x1 y1 x2 y2 = v := ⟨_, rfl⟩
                    have HM1 := Lib.hid hcm
                    have HM2 : Hid (cmpfV xd yd 0 1 = cm) := HM.out.symm.trans hcm
                    obtain ⟨fl, hfl⟩ : ∃ v, ffloorV x1 y1 = v := ⟨_, rfl⟩
                    obtain ⟨ro, hro⟩ : ∃ v, froundV x1 y1 = v := ⟨_, rfl⟩
                    obtain ⟨ce, hce⟩ : ∃ v, fceilV x1 y1 = v := ⟨_, rfl⟩
                    have HFL := Lib.hid hfl
                    have HRO := Lib.hid hro
                    have HCE := Lib.hid hce
                    have ho : fl ≤ ro ∧ ro ≤ ce := by
                      rw [← hfl, ← hro, ← hce]
                      unfold ffloorV froundV fceilV
                      have hv := chkV_zero.2 v1
                      rw [if_pos hv, if_pos hv, if_pos hv]
                      exact field_round v1.bd.2.2.1
                    obtain ⟨ho1, ho2⟩ := ho
                    clear hcm hfl hro hce
                    subst hk
                    as_aux_lemma =>
                      refine wp_region_held_drew (S := fun W' => Bx W' (Bz1) 76 (.int .i64 x1) (.int .i64 y1) ∧ Bx W' (Bz2) 76 (.int .i64 x2) (.int .i64 y2) ∧ Bx W' (Bzd) 76 (.int .i64 xd) (.int .i64 yd)) (by kernel_rfl) (⟨z1.drew, z2.drew, zd.drew⟩) (fun _ => ?_)
                      replace z1 := z1.drew
                      replace z2 := z2.drew
                      replace zd := zd.drew
                      replace h0 := Below.drew h0
                      generalize T5.drew = T5 at z1 z2 zd h0 ⊢
                      refine wpAnyH_take (i := 0) (v := ?_) rfl (by kernel_rfl) (by kernel_rfl) (by kernel_rfl) (fun _ _ _ h => h) (Or.inl ⟨by kernel_rfl, ?_⟩) (⟨z1, z2, zd⟩) ?_
                      rotate_left
                      focus (intro W' hSw; obtain ⟨hx0, hx1, hx2⟩ := hSw; have hc0 := hx0.c0; have hc1 := hx0.c1; have hc2 := hx1.c0; have hc3 := hx1.c1; have hc4 := hx2.c0; have hc5 := hx2.c1; clear hx0 hx1 hx2; go_simp; (try with_reducible rfl))
                      (try simp only [Act.put, List.setIfInBounds_toArray, List.set_cons_zero, List.set_cons_succ, List.getElem_toArray, List.getElem_cons_zero, List.getElem_cons_succ])
                      refine wpAnyH_take (i := 1) (v := ?_) rfl (by kernel_rfl) (by kernel_rfl) (by kernel_rfl) (fun _ _ _ h => h) (Or.inl ⟨by kernel_rfl, ?_⟩) (⟨z1, z2, zd⟩) ?_
                      rotate_left
                      focus (intro W' hSw; obtain ⟨hx0, hx1, hx2⟩ := hSw; have hc0 := hx0.c0; have hc1 := hx0.c1; have hc2 := hx1.c0; have hc3 := hx1.c1; have hc4 := hx2.c0; have hc5 := hx2.c1; clear hx0 hx1 hx2; go_simp; (try with_reducible rfl))
                      (try simp only [Act.put, List.setIfInBounds_toArray, List.set_cons_zero, List.set_cons_succ, List.getElem_toArray, List.getElem_cons_zero, List.getElem_cons_succ])
                      refine wpAnyH_take (i := 2) (v := ?_) rfl (by kernel_rfl) (by kernel_rfl) (by kernel_rfl) (fun _ _ _ h => h) (Or.inl ⟨by kernel_rfl, ?_⟩) (⟨z1, z2, zd⟩) ?_
                      rotate_left
                      focus (intro W' hSw; obtain ⟨hx0, hx1, hx2⟩ := hSw; have hc0 := hx0.c0; have hc1 := hx0.c1; have hc2 := hx1.c0; have hc3 := hx1.c1; have hc4 := hx2.c0; have hc5 := hx2.c1; clear hx0 hx1 hx2; go_simp; (try with_reducible rfl))
                      (try simp only [Act.put, List.setIfInBounds_toArray, List.set_cons_zero, List.set_cons_succ, List.getElem_toArray, List.getElem_cons_zero, List.getElem_cons_succ])
                      refine wpAnyH_take (i := 3) (v := ?_) rfl (by kernel_rfl) (by kernel_rfl) (by kernel_rfl) (fun _ _ _ h => h) (Or.inl ⟨by kernel_rfl, ?_⟩) (⟨z1, z2, zd⟩) ?_
                      rotate_left
                      focus (intro W' hSw; obtain ⟨hx0, hx1, hx2⟩ := hSw; have hc0 := hx0.c0; have hc1 := hx0.c1; have hc2 := hx1.c0; have hc3 := hx1.c1; have hc4 := hx2.c0; have hc5 := hx2.c1; clear hx0 hx1 hx2; go_simp; (try with_reducible rfl))
                      (try simp only [Act.put, List.setIfInBounds_toArray, List.set_cons_zero, List.set_cons_succ, List.getElem_toArray, List.getElem_cons_zero, List.getElem_cons_succ])
                      refine wpAnyH_take (i := 4) (v := ?_) rfl (by kernel_rfl) (by kernel_rfl) (by kernel_rfl) (fun _ _ _ h => h) (Or.inl ⟨by kernel_rfl, ?_⟩) (⟨z1, z2, zd⟩) ?_
                      rotate_left
                      focus (intro W' hSw; obtain ⟨hx0, hx1, hx2⟩ := hSw; have hc0 := hx0.c0; have hc1 := hx0.c1; have hc2 := hx1.c0; have hc3 := hx1.c1; have hc4 := hx2.c0; have hc5 := hx2.c1; clear hx0 hx1 hx2; go_simp; (try with_reducible rfl))
                      (try simp only [Act.put, List.setIfInBounds_toArray, List.set_cons_zero, List.set_cons_succ, List.getElem_toArray, List.getElem_cons_zero, List.getElem_cons_succ])
                      refine wpAnyH_take (i := 6) (v := ?_) rfl (by kernel_rfl) (by kernel_rfl) (by kernel_rfl) (fun _ _ _ h => h) (Or.inl ⟨by kernel_rfl, ?_⟩) (⟨z1, z2, zd⟩) ?_
                      rotate_left
                      focus (intro W' hSw; obtain ⟨hx0, hx1, hx2⟩ := hSw; have hc0 := hx0.c0; have hc1 := hx0.c1; have hc2 := hx1.c0; have hc3 := hx1.c1; have hc4 := hx2.c0; have hc5 := hx2.c1; clear hx0 hx1 hx2; go_simp; (try with_reducible rfl))
                      (try simp only [Act.put, List.setIfInBounds_toArray, List.set_cons_zero, List.set_cons_succ, List.getElem_toArray, List.getElem_cons_zero, List.getElem_cons_succ])
                      refine wpAnyH_take (i := 7) (v := ?_) rfl (by kernel_rfl) (by kernel_rfl) (by kernel_rfl) (fun _ _ _ h => h) (Or.inl ⟨by kernel_rfl, ?_⟩) (⟨z1, z2, zd⟩) ?_
                      rotate_left
                      focus (intro W' hSw; obtain ⟨hx0, hx1, hx2⟩ := hSw; have hc0 := hx0.c0; have hc1 := hx0.c1; have hc2 := hx1.c0; have hc3 := hx1.c1; have hc4 := hx2.c0; have hc5 := hx2.c1; clear hx0 hx1 hx2; go_simp; (try with_reducible rfl))
                      (try simp only [Act.put, List.setIfInBounds_toArray, List.set_cons_zero, List.set_cons_succ, List.getElem_toArray, List.getElem_cons_zero, List.getElem_cons_succ])
                      refine wpAnyH_ready (rs := [5]) (by kernel_rfl) (by simp) ?_
                      refine AllReadyH.cons rfl (fun K hK => ?_) (AllReadyH.nil)
                      go_simp
                      go_at_call 73; (with_reducible refine (cmpf_any x1 y1 x2 y2 b1.1.1 b1.1.2 b1.2.1 b1.2.2 b2.1.1 b2.1.2 b2.2.1 b2.2.2 _).mono ?_)
                      rw [HM1.out]
                      rintro e Y1 ⟨rfl, hb⟩
                      replace z1 := z1.go hb
                      replace z2 := z2.go hb
                      replace zd := zd.go hb
                      replace h0 := bel_go h0 h0.size hb
                      clear hb
                      refine hK.out _ _ (⟨z1, z2, zd⟩) (fun _ => ?_)
                      clear hK K
                      (try simp only [Act.put, List.setIfInBounds_toArray, List.set_cons_zero, List.set_cons_succ, List.getElem_toArray, List.getElem_cons_zero, List.getElem_cons_succ])
                      refine wpAnyH_ready (rs := [8]) (by kernel_rfl) (by simp) ?_
                      refine AllReadyH.cons rfl (fun K hK => ?_) (AllReadyH.nil)
                      go_simp
                      go_at_call 73; (with_reducible refine (cmpf_any xd yd 0 1 bd.1.1 bd.1.2 bd.2.1 bd.2.2 b01.1.1 b01.1.2 b01.2.1 b01.2.2 _).mono ?_)
                      rw [HM2.out]
                      rintro e Y2 ⟨rfl, hb⟩
                      replace z1 := z1.go hb
                      replace z2 := z2.go hb
                      replace zd := zd.go hb
                      replace h0 := bel_go h0 h0.size hb
                      clear hb
                      refine hK.out _ _ (⟨z1, z2, zd⟩) (fun _ => ?_)
                      clear hK K
                      (try simp only [Act.put, List.setIfInBounds_toArray, List.set_cons_zero, List.set_cons_succ, List.getElem_toArray, List.getElem_cons_zero, List.getElem_cons_succ])
                      refine wpAnyH_take (i := 9) (v := ?_) rfl (by kernel_rfl) (by kernel_rfl) (by kernel_rfl) (fun _ _ _ h => h) (Or.inl ⟨by kernel_rfl, ?_⟩) (⟨z1, z2, zd⟩) ?_
                      rotate_left
                      focus (intro W' hSw; obtain ⟨hx0, hx1, hx2⟩ := hSw; have hc0 := hx0.c0; have hc1 := hx0.c1; have hc2 := hx1.c0; have hc3 := hx1.c1; have hc4 := hx2.c0; have hc5 := hx2.c1; clear hx0 hx1 hx2; go_simp; (try with_reducible rfl))
                      (try simp only [Act.put, List.setIfInBounds_toArray, List.set_cons_zero, List.set_cons_succ, List.getElem_toArray, List.getElem_cons_zero, List.getElem_cons_succ])
                      refine wpAnyH_take (i := 10) (v := ?_) rfl (by kernel_rfl) (by kernel_rfl) (by kernel_rfl) (fun _ _ _ h => h) (Or.inl ⟨by kernel_rfl, ?_⟩) (⟨z1, z2, zd⟩) ?_
                      rotate_left
                      focus (intro W' hSw; obtain ⟨hx0, hx1, hx2⟩ := hSw; have hc0 := hx0.c0; have hc1 := hx0.c1; have hc2 := hx1.c0; have hc3 := hx1.c1; have hc4 := hx2.c0; have hc5 := hx2.c1; clear hx0 hx1 hx2; go_simp; (try with_reducible rfl))
                      (try simp only [Act.put, List.setIfInBounds_toArray, List.set_cons_zero, List.set_cons_succ, List.getElem_toArray, List.getElem_cons_zero, List.getElem_cons_succ])
                      refine wpAnyH_take (i := 11) (v := ?_) rfl (by kernel_rfl) (by kernel_rfl) (by kernel_rfl) (fun _ _ _ h => h) (Or.inl ⟨by kernel_rfl, ?_⟩) (⟨z1, z2, zd⟩) ?_
                      rotate_left
                      focus (intro W' hSw; obtain ⟨hx0, hx1, hx2⟩ := hSw; have hc0 := hx0.c0; have hc1 := hx0.c1; have hc2 := hx1.c0; have hc3 := hx1.c1; have hc4 := hx2.c0; have hc5 := hx2.c1; clear hx0 hx1 hx2; go_simp; (try with_reducible rfl))
                      (try simp only [Act.put, List.setIfInBounds_toArray, List.set_cons_zero, List.set_cons_succ, List.getElem_toArray, List.getElem_cons_zero, List.getElem_cons_succ])
                      refine wpAnyH_take (i := 13) (v := ?_) rfl (by kernel_rfl) (by kernel_rfl) (by kernel_rfl) (fun _ _ _ h => h) (Or.inl ⟨by kernel_rfl, ?_⟩) (⟨z1, z2, zd⟩) ?_
                      rotate_left
                      focus (intro W' hSw; obtain ⟨hx0, hx1, hx2⟩ := hSw; have hc0 := hx0.c0; have hc1 := hx0.c1; have hc2 := hx1.c0; have hc3 := hx1.c1; have hc4 := hx2.c0; have hc5 := hx2.c1; clear hx0 hx1 hx2; go_simp; (try with_reducible rfl))
                      (try simp only [Act.put, List.setIfInBounds_toArray, List.set_cons_zero, List.set_cons_succ, List.getElem_toArray, List.getElem_cons_zero, List.getElem_cons_succ])
                      refine wpAnyH_ready (rs := [12]) (by kernel_rfl) (by simp) ?_
                      refine AllReadyH.cons rfl (fun K hK => ?_) (AllReadyH.nil)
                      go_simp
                      go_at_call 74; (with_reducible refine (ffloor_any x1 y1 b1.1.1 b1.1.2 b1.2.1 b1.2.2 _).mono ?_)
                      rw [HFL.out]
                      rintro e Y3 ⟨rfl, hb⟩
                      replace z1 := z1.go hb
                      replace z2 := z2.go hb
                      replace zd := zd.go hb
                      replace h0 := bel_go h0 h0.size hb
                      clear hb
                      refine hK.out _ _ (⟨z1, z2, zd⟩) (fun _ => ?_)
                      clear hK K
                      (try simp only [Act.put, List.setIfInBounds_toArray, List.set_cons_zero, List.set_cons_succ, List.getElem_toArray, List.getElem_cons_zero, List.getElem_cons_succ])
                      refine wpAnyH_ready (rs := [14]) (by kernel_rfl) (by simp) ?_
                      refine AllReadyH.cons rfl (fun K hK => ?_) (AllReadyH.nil)
                      go_simp
                      go_at_call 76; (with_reducible refine (fround_any x1 y1 b1.1.1 b1.1.2 b1.2.1 b1.2.2 _).mono ?_)
                      rw [HRO.out]
                      rintro e Y4 ⟨rfl, hb⟩
                      replace z1 := z1.go hb
                      replace z2 := z2.go hb
                      replace zd := zd.go hb
                      replace h0 := bel_go h0 h0.size hb
                      clear hb
                      refine hK.out _ _ (⟨z1, z2, zd⟩) (fun _ => ?_)
                      clear hK K
                      (try simp only [Act.put, List.setIfInBounds_toArray, List.set_cons_zero, List.set_cons_succ, List.getElem_toArray, List.getElem_cons_zero, List.getElem_cons_succ])
                      refine wpAnyH_take (i := 15) (v := ?_) rfl (by kernel_rfl) (by kernel_rfl) (by kernel_rfl) (fun _ _ _ h => h) (Or.inl ⟨by kernel_rfl, ?_⟩) (⟨z1, z2, zd⟩) ?_
                      rotate_left
                      focus (intro W' hSw; obtain ⟨hx0, hx1, hx2⟩ := hSw; have hc0 := hx0.c0; have hc1 := hx0.c1; have hc2 := hx1.c0; have hc3 := hx1.c1; have hc4 := hx2.c0; have hc5 := hx2.c1; clear hx0 hx1 hx2; go_simp; (try with_reducible rfl))
                      (try simp only [Act.put, List.setIfInBounds_toArray, List.set_cons_zero, List.set_cons_succ, List.getElem_toArray, List.getElem_cons_zero, List.getElem_cons_succ])
                      refine wpAnyH_take (i := 16) (v := ?_) rfl (by kernel_rfl) (by kernel_rfl) (by kernel_rfl) (fun _ _ _ h => h) (Or.inl ⟨by kernel_rfl, ?_⟩) (⟨z1, z2, zd⟩) ?_
                      rotate_left
                      focus (intro W' hSw; obtain ⟨hx0, hx1, hx2⟩ := hSw; have hc0 := hx0.c0; have hc1 := hx0.c1; have hc2 := hx1.c0; have hc3 := hx1.c1; have hc4 := hx2.c0; have hc5 := hx2.c1; clear hx0 hx1 hx2; go_simp; (try with_reducible rfl))
                      (try simp only [Act.put, List.setIfInBounds_toArray, List.set_cons_zero, List.set_cons_succ, List.getElem_toArray, List.getElem_cons_zero, List.getElem_cons_succ])
                      refine wpAnyH_take (i := 17) (v := ?_) rfl (by kernel_rfl) (by kernel_rfl) (by kernel_rfl) (fun _ _ _ h => h) (Or.inl ⟨by kernel_rfl, ?_⟩) (⟨z1, z2, zd⟩) ?_
                      rotate_left
                      focus (intro W' hSw; obtain ⟨hx0, hx1, hx2⟩ := hSw; have hc0 := hx0.c0; have hc1 := hx0.c1; have hc2 := hx1.c0; have hc3 := hx1.c1; have hc4 := hx2.c0; have hc5 := hx2.c1; clear hx0 hx1 hx2; go_simp; (try with_reducible rfl))
                      (try simp only [Act.put, List.setIfInBounds_toArray, List.set_cons_zero, List.set_cons_succ, List.getElem_toArray, List.getElem_cons_zero, List.getElem_cons_succ])
                      refine wpAnyH_take (i := 18) (v := ?_) rfl (by kernel_rfl) (by kernel_rfl) (by kernel_rfl) (fun _ _ _ h => h) (Or.inl ⟨by kernel_rfl, ?_⟩) (⟨z1, z2, zd⟩) ?_
                      rotate_left
                      focus (intro W' hSw; obtain ⟨hx0, hx1, hx2⟩ := hSw; have hc0 := hx0.c0; have hc1 := hx0.c1; have hc2 := hx1.c0; have hc3 := hx1.c1; have hc4 := hx2.c0; have hc5 := hx2.c1; clear hx0 hx1 hx2; go_simp; (try with_reducible rfl))
                      (try simp only [Act.put, List.setIfInBounds_toArray, List.set_cons_zero, List.set_cons_succ, List.getElem_toArray, List.getElem_cons_zero, List.getElem_cons_succ])
                      refine wpAnyH_take (i := 20) (v := ?_) rfl (by kernel_rfl) (by kernel_rfl) (by kernel_rfl) (fun _ _ _ h => h) (Or.inl ⟨by kernel_rfl, ?_⟩) (⟨z1, z2, zd⟩) ?_
                      rotate_left
                      focus (intro W' hSw; obtain ⟨hx0, hx1, hx2⟩ := hSw; have hc0 := hx0.c0; have hc1 := hx0.c1; have hc2 := hx1.c0; have hc3 := hx1.c1; have hc4 := hx2.c0; have hc5 := hx2.c1; clear hx0 hx1 hx2; go_simp; (try with_reducible rfl))
                      (try simp only [Act.put, List.setIfInBounds_toArray, List.set_cons_zero, List.set_cons_succ, List.getElem_toArray, List.getElem_cons_zero, List.getElem_cons_succ])
                      refine wpAnyH_ready (rs := [19]) (by kernel_rfl) (by simp) ?_
                      refine AllReadyH.cons rfl (fun K hK => ?_) (AllReadyH.nil)
                      go_simp
                      go_at_call 76; (with_reducible refine (fround_any x1 y1 b1.1.1 b1.1.2 b1.2.1 b1.2.2 _).mono ?_)
                      rw [HRO.out]
                      rintro e Y5 ⟨rfl, hb⟩
                      replace z1 := z1.go hb
                      replace z2 := z2.go hb
                      replace zd := zd.go hb
                      replace h0 := bel_go h0 h0.size hb
                      clear hb
                      refine hK.out _ _ (⟨z1, z2, zd⟩) (fun _ => ?_)
                      clear hK K
                      (try simp only [Act.put, List.setIfInBounds_toArray, List.set_cons_zero, List.set_cons_succ, List.getElem_toArray, List.getElem_cons_zero, List.getElem_cons_succ])
                      refine wpAnyH_ready (rs := [21]) (by kernel_rfl) (by simp) ?_
                      refine AllReadyH.cons rfl (fun K hK => ?_) (AllReadyH.nil)
                      go_simp
                      go_at_call 75; (with_reducible refine (fceil_any x1 y1 b1.1.1 b1.1.2 b1.2.1 b1.2.2 _).mono ?_)
                      rw [HCE.out]
                      rintro e Y6 ⟨rfl, hb⟩
                      replace z1 := z1.go hb
                      replace z2 := z2.go hb
                      replace zd := zd.go hb
                      replace h0 := bel_go h0 h0.size hb
                      clear hb
                      refine hK.out _ _ (⟨z1, z2, zd⟩) (fun _ => ?_)
                      clear hK K
                      (try simp only [Act.put, List.setIfInBounds_toArray, List.set_cons_zero, List.set_cons_succ, List.getElem_toArray, List.getElem_cons_zero, List.getElem_cons_succ])
                      refine wpAnyH_take (i := 22) (v := ?_) rfl (by kernel_rfl) (by kernel_rfl) (by kernel_rfl) (fun _ _ _ h => h) (Or.inl ⟨by kernel_rfl, ?_⟩) (⟨z1, z2, zd⟩) ?_
                      rotate_left
                      focus (intro W' hSw; obtain ⟨hx0, hx1, hx2⟩ := hSw; have hc0 := hx0.c0; have hc1 := hx0.c1; have hc2 := hx1.c0; have hc3 := hx1.c1; have hc4 := hx2.c0; have hc5 := hx2.c1; clear hx0 hx1 hx2; go_simp; (try with_reducible rfl))
                      (try simp only [Act.put, List.setIfInBounds_toArray, List.set_cons_zero, List.set_cons_succ, List.getElem_toArray, List.getElem_cons_zero, List.getElem_cons_succ])
                      refine wpAnyH_take (i := 23) (v := ?_) rfl (by kernel_rfl) (by kernel_rfl) (by kernel_rfl) (fun _ _ _ h => h) (Or.inl ⟨by kernel_rfl, ?_⟩) (⟨z1, z2, zd⟩) ?_
                      rotate_left
                      focus (intro W' hSw; obtain ⟨hx0, hx1, hx2⟩ := hSw; have hc0 := hx0.c0; have hc1 := hx0.c1; have hc2 := hx1.c0; have hc3 := hx1.c1; have hc4 := hx2.c0; have hc5 := hx2.c1; clear hx0 hx1 hx2; go_simp; (try with_reducible rfl))
                      (try simp only [Act.put, List.setIfInBounds_toArray, List.set_cons_zero, List.set_cons_succ, List.getElem_toArray, List.getElem_cons_zero, List.getElem_cons_succ])
                      refine wpAnyH_take (i := 24) (v := ?_) rfl (by kernel_rfl) (by kernel_rfl) (by kernel_rfl) (fun _ _ _ h => h) (Or.inl ⟨by kernel_rfl, ?_⟩) (⟨z1, z2, zd⟩) ?_
                      rotate_left
                      focus (intro W' hSw; obtain ⟨hx0, hx1, hx2⟩ := hSw; have hc0 := hx0.c0; have hc1 := hx0.c1; have hc2 := hx1.c0; have hc3 := hx1.c1; have hc4 := hx2.c0; have hc5 := hx2.c1; clear hx0 hx1 hx2; go_simp; (try with_reducible rfl))
                      (try simp only [Act.put, List.setIfInBounds_toArray, List.set_cons_zero, List.set_cons_succ, List.getElem_toArray, List.getElem_cons_zero, List.getElem_cons_succ])
                      refine wpAnyH_take (i := 25) (v := ?_) rfl (by kernel_rfl) (by kernel_rfl) (by kernel_rfl) (fun _ _ _ h => h) (Or.inl ⟨by kernel_rfl, ?_⟩) (⟨z1, z2, zd⟩) ?_
                      rotate_left
                      focus (intro W' hSw; obtain ⟨hx0, hx1, hx2⟩ := hSw; have hc0 := hx0.c0; have hc1 := hx0.c1; have hc2 := hx1.c0; have hc3 := hx1.c1; have hc4 := hx2.c0; have hc5 := hx2.c1; clear hx0 hx1 hx2; go_simp; (try with_reducible rfl))
                      (try simp only [Act.put, List.setIfInBounds_toArray, List.set_cons_zero, List.set_cons_succ, List.getElem_toArray, List.getElem_cons_zero, List.getElem_cons_succ])
                      refine wpAnyH_done (by kernel_rfl) ?_ _
                      go_wp2_with fail
                      go_ret
                      exact ⟨rfl, h0⟩
                  · have hkb : (ed != 0) = true := by simpa using hk
                    clear hk
                    as_aux_lemma =>
                      refine wp_region_held_drew (S := fun W' => Bx W' (Bz1) 76 (.int .i64 x1) (.int .i64 y1) ∧ Bx W' (Bz2) 76 (.int .i64 x2) (.int .i64 y2) ∧ Bx W' (Bzd) 76 (.int .i64 xd) (.int .i64 yd)) (by kernel_rfl) (⟨z1.drew, z2.drew, zd.drew⟩) (fun _ => ?_)
                      replace z1 := z1.drew
                      replace z2 := z2.drew
                      replace zd := zd.drew
                      replace h0 := Below.drew h0
                      generalize T5.drew = T5 at z1 z2 zd h0 ⊢
                      refine wpAnyH_take (i := 0) (v := ?_) rfl (by kernel_rfl) (by kernel_rfl) (by kernel_rfl) (fun _ _ _ h => h) (Or.inl ⟨by kernel_rfl, ?_⟩) (⟨z1, z2, zd⟩) ?_
                      rotate_left
                      focus (intro W' hSw; obtain ⟨hx0, hx1, hx2⟩ := hSw; have hc0 := hx0.c0; have hc1 := hx0.c1; have hc2 := hx1.c0; have hc3 := hx1.c1; have hc4 := hx2.c0; have hc5 := hx2.c1; clear hx0 hx1 hx2; go_simp; (try with_reducible rfl))
                      (try simp only [Act.put, List.setIfInBounds_toArray, List.set_cons_zero, List.set_cons_succ, List.getElem_toArray, List.getElem_cons_zero, List.getElem_cons_succ])
                      refine wpAnyH_take (i := 1) (v := ?_) rfl (by kernel_rfl) (by kernel_rfl) (by kernel_rfl) (fun _ _ _ h => h) (Or.inl ⟨by kernel_rfl, ?_⟩) (⟨z1, z2, zd⟩) ?_
                      rotate_left
                      focus (intro W' hSw; obtain ⟨hx0, hx1, hx2⟩ := hSw; have hc0 := hx0.c0; have hc1 := hx0.c1; have hc2 := hx1.c0; have hc3 := hx1.c1; have hc4 := hx2.c0; have hc5 := hx2.c1; clear hx0 hx1 hx2; go_simp; (try with_reducible rfl))
                      (try simp only [Act.put, List.setIfInBounds_toArray, List.set_cons_zero, List.set_cons_succ, List.getElem_toArray, List.getElem_cons_zero, List.getElem_cons_succ])
                      refine wpAnyH_take (i := 2) (v := ?_) rfl (by kernel_rfl) (by kernel_rfl) (by kernel_rfl) (fun _ _ _ h => h) (Or.inl ⟨by kernel_rfl, ?_⟩) (⟨z1, z2, zd⟩) ?_
                      rotate_left
                      focus (intro W' hSw; obtain ⟨hx0, hx1, hx2⟩ := hSw; have hc0 := hx0.c0; have hc1 := hx0.c1; have hc2 := hx1.c0; have hc3 := hx1.c1; have hc4 := hx2.c0; have hc5 := hx2.c1; clear hx0 hx1 hx2; go_simp; (try with_reducible rfl))
                      (try simp only [Act.put, List.setIfInBounds_toArray, List.set_cons_zero, List.set_cons_succ, List.getElem_toArray, List.getElem_cons_zero, List.getElem_cons_succ])
                      refine wpAnyH_take (i := 3) (v := undef) rfl (by kernel_rfl) (by kernel_rfl) (by kernel_rfl) (fun _ _ _ h => h) (Or.inr ⟨by kernel_rfl, rfl⟩) (⟨z1, z2, zd⟩) ?_
                      (try simp only [Act.put, List.setIfInBounds_toArray, List.set_cons_zero, List.set_cons_succ, List.getElem_toArray, List.getElem_cons_zero, List.getElem_cons_succ])
                      refine wpAnyH_take (i := 4) (v := undef) rfl (by kernel_rfl) (by kernel_rfl) (by kernel_rfl) (fun _ _ _ h => h) (Or.inr ⟨by kernel_rfl, rfl⟩) (⟨z1, z2, zd⟩) ?_
                      (try simp only [Act.put, List.setIfInBounds_toArray, List.set_cons_zero, List.set_cons_succ, List.getElem_toArray, List.getElem_cons_zero, List.getElem_cons_succ])
                      refine wpAnyH_take (i := 5) (v := undef) rfl (by kernel_rfl) (by kernel_rfl) (by kernel_rfl) (fun _ _ _ h => h) (Or.inr ⟨by kernel_rfl, rfl⟩) (⟨z1, z2, zd⟩) ?_
                      (try simp only [Act.put, List.setIfInBounds_toArray, List.set_cons_zero, List.set_cons_succ, List.getElem_toArray, List.getElem_cons_zero, List.getElem_cons_succ])
                      refine wpAnyH_take (i := 6) (v := undef) rfl (by kernel_rfl) (by kernel_rfl) (by kernel_rfl) (fun _ _ _ h => h) (Or.inr ⟨by kernel_rfl, rfl⟩) (⟨z1, z2, zd⟩) ?_
                      (try simp only [Act.put, List.setIfInBounds_toArray, List.set_cons_zero, List.set_cons_succ, List.getElem_toArray, List.getElem_cons_zero, List.getElem_cons_succ])
                      refine wpAnyH_take (i := 7) (v := undef) rfl (by kernel_rfl) (by kernel_rfl) (by kernel_rfl) (fun _ _ _ h => h) (Or.inr ⟨by kernel_rfl, rfl⟩) (⟨z1, z2, zd⟩) ?_
                      (try simp only [Act.put, List.setIfInBounds_toArray, List.set_cons_zero, List.set_cons_succ, List.getElem_toArray, List.getElem_cons_zero, List.getElem_cons_succ])
                      refine wpAnyH_take (i := 8) (v := undef) rfl (by kernel_rfl) (by kernel_rfl) (by kernel_rfl) (fun _ _ _ h => h) (Or.inr ⟨by kernel_rfl, rfl⟩) (⟨z1, z2, zd⟩) ?_
                      (try simp only [Act.put, List.setIfInBounds_toArray, List.set_cons_zero, List.set_cons_succ, List.getElem_toArray, List.getElem_cons_zero, List.getElem_cons_succ])
                      refine wpAnyH_take (i := 9) (v := undef) rfl (by kernel_rfl) (by kernel_rfl) (by kernel_rfl) (fun _ _ _ h => h) (Or.inr ⟨by kernel_rfl, rfl⟩) (⟨z1, z2, zd⟩) ?_
                      (try simp only [Act.put, List.setIfInBounds_toArray, List.set_cons_zero, List.set_cons_succ, List.getElem_toArray, List.getElem_cons_zero, List.getElem_cons_succ])
                      refine wpAnyH_take (i := 10) (v := undef) rfl (by kernel_rfl) (by kernel_rfl) (by kernel_rfl) (fun _ _ _ h => h) (Or.inr ⟨by kernel_rfl, rfl⟩) (⟨z1, z2, zd⟩) ?_
                      (try simp only [Act.put, List.setIfInBounds_toArray, List.set_cons_zero, List.set_cons_succ, List.getElem_toArray, List.getElem_cons_zero, List.getElem_cons_succ])
                      refine wpAnyH_take (i := 11) (v := undef) rfl (by kernel_rfl) (by kernel_rfl) (by kernel_rfl) (fun _ _ _ h => h) (Or.inr ⟨by kernel_rfl, rfl⟩) (⟨z1, z2, zd⟩) ?_
                      (try simp only [Act.put, List.setIfInBounds_toArray, List.set_cons_zero, List.set_cons_succ, List.getElem_toArray, List.getElem_cons_zero, List.getElem_cons_succ])
                      refine wpAnyH_take (i := 12) (v := undef) rfl (by kernel_rfl) (by kernel_rfl) (by kernel_rfl) (fun _ _ _ h => h) (Or.inr ⟨by kernel_rfl, rfl⟩) (⟨z1, z2, zd⟩) ?_
                      (try simp only [Act.put, List.setIfInBounds_toArray, List.set_cons_zero, List.set_cons_succ, List.getElem_toArray, List.getElem_cons_zero, List.getElem_cons_succ])
                      refine wpAnyH_take (i := 13) (v := undef) rfl (by kernel_rfl) (by kernel_rfl) (by kernel_rfl) (fun _ _ _ h => h) (Or.inr ⟨by kernel_rfl, rfl⟩) (⟨z1, z2, zd⟩) ?_
                      (try simp only [Act.put, List.setIfInBounds_toArray, List.set_cons_zero, List.set_cons_succ, List.getElem_toArray, List.getElem_cons_zero, List.getElem_cons_succ])
                      refine wpAnyH_take (i := 14) (v := undef) rfl (by kernel_rfl) (by kernel_rfl) (by kernel_rfl) (fun _ _ _ h => h) (Or.inr ⟨by kernel_rfl, rfl⟩) (⟨z1, z2, zd⟩) ?_
                      (try simp only [Act.put, List.setIfInBounds_toArray, List.set_cons_zero, List.set_cons_succ, List.getElem_toArray, List.getElem_cons_zero, List.getElem_cons_succ])
                      refine wpAnyH_take (i := 15) (v := undef) rfl (by kernel_rfl) (by kernel_rfl) (by kernel_rfl) (fun _ _ _ h => h) (Or.inr ⟨by kernel_rfl, rfl⟩) (⟨z1, z2, zd⟩) ?_
                      (try simp only [Act.put, List.setIfInBounds_toArray, List.set_cons_zero, List.set_cons_succ, List.getElem_toArray, List.getElem_cons_zero, List.getElem_cons_succ])
                      refine wpAnyH_take (i := 16) (v := undef) rfl (by kernel_rfl) (by kernel_rfl) (by kernel_rfl) (fun _ _ _ h => h) (Or.inr ⟨by kernel_rfl, rfl⟩) (⟨z1, z2, zd⟩) ?_
                      (try simp only [Act.put, List.setIfInBounds_toArray, List.set_cons_zero, List.set_cons_succ, List.getElem_toArray, List.getElem_cons_zero, List.getElem_cons_succ])
                      refine wpAnyH_take (i := 17) (v := undef) rfl (by kernel_rfl) (by kernel_rfl) (by kernel_rfl) (fun _ _ _ h => h) (Or.inr ⟨by kernel_rfl, rfl⟩) (⟨z1, z2, zd⟩) ?_
                      (try simp only [Act.put, List.setIfInBounds_toArray, List.set_cons_zero, List.set_cons_succ, List.getElem_toArray, List.getElem_cons_zero, List.getElem_cons_succ])
                      refine wpAnyH_take (i := 18) (v := undef) rfl (by kernel_rfl) (by kernel_rfl) (by kernel_rfl) (fun _ _ _ h => h) (Or.inr ⟨by kernel_rfl, rfl⟩) (⟨z1, z2, zd⟩) ?_
                      (try simp only [Act.put, List.setIfInBounds_toArray, List.set_cons_zero, List.set_cons_succ, List.getElem_toArray, List.getElem_cons_zero, List.getElem_cons_succ])
                      refine wpAnyH_take (i := 19) (v := undef) rfl (by kernel_rfl) (by kernel_rfl) (by kernel_rfl) (fun _ _ _ h => h) (Or.inr ⟨by kernel_rfl, rfl⟩) (⟨z1, z2, zd⟩) ?_
                      (try simp only [Act.put, List.setIfInBounds_toArray, List.set_cons_zero, List.set_cons_succ, List.getElem_toArray, List.getElem_cons_zero, List.getElem_cons_succ])
                      refine wpAnyH_take (i := 20) (v := undef) rfl (by kernel_rfl) (by kernel_rfl) (by kernel_rfl) (fun _ _ _ h => h) (Or.inr ⟨by kernel_rfl, rfl⟩) (⟨z1, z2, zd⟩) ?_
                      (try simp only [Act.put, List.setIfInBounds_toArray, List.set_cons_zero, List.set_cons_succ, List.getElem_toArray, List.getElem_cons_zero, List.getElem_cons_succ])
                      refine wpAnyH_take (i := 21) (v := undef) rfl (by kernel_rfl) (by kernel_rfl) (by kernel_rfl) (fun _ _ _ h => h) (Or.inr ⟨by kernel_rfl, rfl⟩) (⟨z1, z2, zd⟩) ?_
                      (try simp only [Act.put, List.setIfInBounds_toArray, List.set_cons_zero, List.set_cons_succ, List.getElem_toArray, List.getElem_cons_zero, List.getElem_cons_succ])
                      refine wpAnyH_take (i := 22) (v := undef) rfl (by kernel_rfl) (by kernel_rfl) (by kernel_rfl) (fun _ _ _ h => h) (Or.inr ⟨by kernel_rfl, rfl⟩) (⟨z1, z2, zd⟩) ?_
                      (try simp only [Act.put, List.setIfInBounds_toArray, List.set_cons_zero, List.set_cons_succ, List.getElem_toArray, List.getElem_cons_zero, List.getElem_cons_succ])
                      refine wpAnyH_take (i := 23) (v := undef) rfl (by kernel_rfl) (by kernel_rfl) (by kernel_rfl) (fun _ _ _ h => h) (Or.inr ⟨by kernel_rfl, rfl⟩) (⟨z1, z2, zd⟩) ?_
                      (try simp only [Act.put, List.setIfInBounds_toArray, List.set_cons_zero, List.set_cons_succ, List.getElem_toArray, List.getElem_cons_zero, List.getElem_cons_succ])
                      refine wpAnyH_take (i := 24) (v := ?_) rfl (by kernel_rfl) (by kernel_rfl) (by kernel_rfl) (fun _ _ _ h => h) (Or.inl ⟨by kernel_rfl, ?_⟩) (⟨z1, z2, zd⟩) ?_
                      rotate_left
                      focus (intro W' hSw; obtain ⟨hx0, hx1, hx2⟩ := hSw; have hc0 := hx0.c0; have hc1 := hx0.c1; have hc2 := hx1.c0; have hc3 := hx1.c1; have hc4 := hx2.c0; have hc5 := hx2.c1; clear hx0 hx1 hx2; go_simp; (try with_reducible rfl))
                      (try simp only [Act.put, List.setIfInBounds_toArray, List.set_cons_zero, List.set_cons_succ, List.getElem_toArray, List.getElem_cons_zero, List.getElem_cons_succ])
                      refine wpAnyH_take (i := 25) (v := ?_) rfl (by kernel_rfl) (by kernel_rfl) (by kernel_rfl) (fun _ _ _ h => h) (Or.inl ⟨by kernel_rfl, ?_⟩) (⟨z1, z2, zd⟩) ?_
                      rotate_left
                      focus (intro W' hSw; obtain ⟨hx0, hx1, hx2⟩ := hSw; have hc0 := hx0.c0; have hc1 := hx0.c1; have hc2 := hx1.c0; have hc3 := hx1.c1; have hc4 := hx2.c0; have hc5 := hx2.c1; clear hx0 hx1 hx2; go_simp; (try with_reducible rfl))
                      (try simp only [Act.put, List.setIfInBounds_toArray, List.set_cons_zero, List.set_cons_succ, List.getElem_toArray, List.getElem_cons_zero, List.getElem_cons_succ])
                      refine wpAnyH_done (by kernel_rfl) ?_ _
                      go_wp2_with fail
                      go_ret
                      exact ⟨rfl, h0⟩
      · have gb := nz g3
        subst g1 g2
        as_aux_lemma =>
          go_enter Try.func16, Try.ntmps16
          have h0 := Below.refl w.heap.size w
          go_wp2_with fail
          go_at_call 61; (with_reducible refine (make_any n1 d1 p11 p12 q11 q12 _).mono ?_)
          rintro e W1 ⟨rfl, hb⟩
          replace h0 := bel_go h0 h0.size hb
          clear hb
          rw [He1.out.1, He1.out.2.1, He1.out.2.2]
          go_upto_region 2 with fail
          have hal : Below W1.heap.size W1 (W1.alloc (.cells #[.int .i64 x1, .int .i64 y1] 76)) := (Below.refl _ _).alloc (Nat.le_refl _) _
          have z1 := Bx.new W1 76 (.int .i64 x1) (.int .i64 y1)
          replace h0 := bel_go h0 h0.size hal
          clear hal
          generalize W1.heap.size = Bz1 at z1 ⊢
          generalize W1.alloc (.cells #[.int .i64 x1, .int .i64 y1] 76) = V1 at z1 h0 ⊢
          go_wp2_with fail
          go_at_call 61; (with_reducible refine (make_any n2 d2 p21 p22 q21 q22 _).mono ?_)
          rintro e W2 ⟨rfl, hb⟩
          replace z1 := z1.go hb
          replace h0 := bel_go h0 h0.size hb
          clear hb
          rw [He2.out.1, He2.out.2.1, He2.out.2.2]
          go_upto_region 3 with fail
          have hal : Below W2.heap.size W2 (W2.alloc (.cells #[.int .i64 x2, .int .i64 y2] 76)) := (Below.refl _ _).alloc (Nat.le_refl _) _
          have z2 := Bx.new W2 76 (.int .i64 x2) (.int .i64 y2)
          replace z1 := z1.go hal
          replace h0 := bel_go h0 h0.size hal
          clear hal
          generalize W2.heap.size = Bz2 at z2 ⊢
          generalize W2.alloc (.cells #[.int .i64 x2, .int .i64 y2] 76) = V2 at z1 z2 h0 ⊢
          go_wp2_with fail
          go_at_call 61; (with_reducible refine (make_any n3 d3 p31 p32 q31 q32 _).mono ?_)
          rintro e W3 ⟨rfl, hb⟩
          replace z1 := z1.go hb
          replace z2 := z2.go hb
          replace h0 := bel_go h0 h0.size hb
          clear hb
          rw [He3.out.1, He3.out.2.1, He3.out.2.2]
          go_upto_region 4 with fail
          have hal : Below W3.heap.size W3 (W3.alloc (.cells #[.int .i64 x3, .int .i64 y3] 76)) := (Below.refl _ _).alloc (Nat.le_refl _) _
          have z3 := Bx.new W3 76 (.int .i64 x3) (.int .i64 y3)
          replace z1 := z1.go hal
          replace z2 := z2.go hal
          replace h0 := bel_go h0 h0.size hal
          clear hal
          generalize W3.heap.size = Bz3 at z3 ⊢
          generalize W3.alloc (.cells #[.int .i64 x3, .int .i64 y3] 76) = V3 at z1 z2 z3 h0 ⊢
          go_wp2_with fail
          go_at_call 96; (with_reducible refine (fracFact_any _).mono ?_)
          rintro e W4 ⟨rfl, hb⟩
          replace z1 := z1.go hb
          replace z2 := z2.go hb
          replace z3 := z3.go hb
          replace h0 := bel_go h0 h0.size hb
          clear hb
          go_wp2_with fail
          go_at_call 96; (with_reducible refine (fracFact_any _).mono ?_)
          rintro e W5 ⟨rfl, hb⟩
          replace h0 := bel_go h0 h0.size hb
          clear hb
          go_wp2_with fail
          go_ret
          exact ⟨rfl, h0⟩
    · have gb := nz g2
      subst g1
      as_aux_lemma =>
        go_enter Try.func16, Try.ntmps16
        have h0 := Below.refl w.heap.size w
        go_wp2_with fail
        go_at_call 61; (with_reducible refine (make_any n1 d1 p11 p12 q11 q12 _).mono ?_)
        rintro e W1 ⟨rfl, hb⟩
        replace h0 := bel_go h0 h0.size hb
        clear hb
        rw [He1.out.1, He1.out.2.1, He1.out.2.2]
        go_upto_region 2 with fail
        have hal : Below W1.heap.size W1 (W1.alloc (.cells #[.int .i64 x1, .int .i64 y1] 76)) := (Below.refl _ _).alloc (Nat.le_refl _) _
        have z1 := Bx.new W1 76 (.int .i64 x1) (.int .i64 y1)
        replace h0 := bel_go h0 h0.size hal
        clear hal
        generalize W1.heap.size = Bz1 at z1 ⊢
        generalize W1.alloc (.cells #[.int .i64 x1, .int .i64 y1] 76) = V1 at z1 h0 ⊢
        go_wp2_with fail
        go_at_call 61; (with_reducible refine (make_any n2 d2 p21 p22 q21 q22 _).mono ?_)
        rintro e W2 ⟨rfl, hb⟩
        replace z1 := z1.go hb
        replace h0 := bel_go h0 h0.size hb
        clear hb
        rw [He2.out.1, He2.out.2.1, He2.out.2.2]
        go_upto_region 3 with fail
        have hal : Below W2.heap.size W2 (W2.alloc (.cells #[.int .i64 x2, .int .i64 y2] 76)) := (Below.refl _ _).alloc (Nat.le_refl _) _
        have z2 := Bx.new W2 76 (.int .i64 x2) (.int .i64 y2)
        replace z1 := z1.go hal
        replace h0 := bel_go h0 h0.size hal
        clear hal
        generalize W2.heap.size = Bz2 at z2 ⊢
        generalize W2.alloc (.cells #[.int .i64 x2, .int .i64 y2] 76) = V2 at z1 z2 h0 ⊢
        go_wp2_with fail
        go_at_call 61; (with_reducible refine (make_any n3 d3 p31 p32 q31 q32 _).mono ?_)
        rintro e W3 ⟨rfl, hb⟩
        replace z1 := z1.go hb
        replace z2 := z2.go hb
        replace h0 := bel_go h0 h0.size hb
        clear hb
        rw [He3.out.1, He3.out.2.1, He3.out.2.2]
        go_upto_region 4 with fail
        have hal : Below W3.heap.size W3 (W3.alloc (.cells #[.int .i64 x3, .int .i64 y3] 76)) := (Below.refl _ _).alloc (Nat.le_refl _) _
        have z3 := Bx.new W3 76 (.int .i64 x3) (.int .i64 y3)
        replace z1 := z1.go hal
        replace z2 := z2.go hal
        replace h0 := bel_go h0 h0.size hal
        clear hal
        generalize W3.heap.size = Bz3 at z3 ⊢
        generalize W3.alloc (.cells #[.int .i64 x3, .int .i64 y3] 76) = V3 at z1 z2 z3 h0 ⊢
        go_wp2_with fail
        go_at_call 96; (with_reducible refine (fracFact_any _).mono ?_)
        rintro e W4 ⟨rfl, hb⟩
        replace z1 := z1.go hb
        replace z2 := z2.go hb
        replace z3 := z3.go hb
        replace h0 := bel_go h0 h0.size hb
        clear hb
        go_wp2_with fail
        go_at_call 96; (with_reducible refine (fracFact_any _).mono ?_)
        rintro e W5 ⟨rfl, hb⟩
        replace h0 := bel_go h0 h0.size hb
        clear hb
        go_wp2_with fail
        go_ret
        exact ⟨rfl, h0⟩
  · have gb := nz g1
    as_aux_lemma =>
      go_enter Try.func16, Try.ntmps16
      have h0 := Below.refl w.heap.size w
      go_wp2_with fail
      go_at_call 61; (with_reducible refine (make_any n1 d1 p11 p12 q11 q12 _).mono ?_)
      rintro e W1 ⟨rfl, hb⟩
      replace h0 := bel_go h0 h0.size hb
      clear hb
      rw [He1.out.1, He1.out.2.1, He1.out.2.2]
      go_upto_region 2 with fail
      have hal : Below W1.heap.size W1 (W1.alloc (.cells #[.int .i64 x1, .int .i64 y1] 76)) := (Below.refl _ _).alloc (Nat.le_refl _) _
      have z1 := Bx.new W1 76 (.int .i64 x1) (.int .i64 y1)
      replace h0 := bel_go h0 h0.size hal
      clear hal
      generalize W1.heap.size = Bz1 at z1 ⊢
      generalize W1.alloc (.cells #[.int .i64 x1, .int .i64 y1] 76) = V1 at z1 h0 ⊢
      go_wp2_with fail
      go_at_call 61; (with_reducible refine (make_any n2 d2 p21 p22 q21 q22 _).mono ?_)
      rintro e W2 ⟨rfl, hb⟩
      replace z1 := z1.go hb
      replace h0 := bel_go h0 h0.size hb
      clear hb
      rw [He2.out.1, He2.out.2.1, He2.out.2.2]
      go_upto_region 3 with fail
      have hal : Below W2.heap.size W2 (W2.alloc (.cells #[.int .i64 x2, .int .i64 y2] 76)) := (Below.refl _ _).alloc (Nat.le_refl _) _
      have z2 := Bx.new W2 76 (.int .i64 x2) (.int .i64 y2)
      replace z1 := z1.go hal
      replace h0 := bel_go h0 h0.size hal
      clear hal
      generalize W2.heap.size = Bz2 at z2 ⊢
      generalize W2.alloc (.cells #[.int .i64 x2, .int .i64 y2] 76) = V2 at z1 z2 h0 ⊢
      go_wp2_with fail
      go_at_call 61; (with_reducible refine (make_any n3 d3 p31 p32 q31 q32 _).mono ?_)
      rintro e W3 ⟨rfl, hb⟩
      replace z1 := z1.go hb
      replace z2 := z2.go hb
      replace h0 := bel_go h0 h0.size hb
      clear hb
      rw [He3.out.1, He3.out.2.1, He3.out.2.2]
      go_upto_region 4 with fail
      have hal : Below W3.heap.size W3 (W3.alloc (.cells #[.int .i64 x3, .int .i64 y3] 76)) := (Below.refl _ _).alloc (Nat.le_refl _) _
      have z3 := Bx.new W3 76 (.int .i64 x3) (.int .i64 y3)
      replace z1 := z1.go hal
      replace z2 := z2.go hal
      replace h0 := bel_go h0 h0.size hal
      clear hal
      generalize W3.heap.size = Bz3 at z3 ⊢
      generalize W3.alloc (.cells #[.int .i64 x3, .int .i64 y3] 76) = V3 at z1 z2 z3 h0 ⊢
      go_wp2_with fail
      go_at_call 96; (with_reducible refine (fracFact_any _).mono ?_)
      rintro e W4 ⟨rfl, hb⟩
      replace z1 := z1.go hb
      replace z2 := z2.go hb
      replace z3 := z3.go hb
      replace h0 := bel_go h0 h0.size hb
      clear hb
      go_wp2_with fail
      go_at_call 96; (with_reducible refine (fracFact_any _).mono ?_)
      rintro e W5 ⟨rfl, hb⟩
      replace h0 := bel_go h0 h0.size hb
      clear hb
      go_wp2_with fail
      go_ret
      exact ⟨rfl, h0⟩
theorem fracField_law (n1 : Int) (p11 : -9223372036854775808 ≤ n1) (p12 : n1 ≤ 9223372036854775807) (d1 : Int) (q11 : -9223372036854775808 ≤ d1) (q12 : d1 ≤ 9223372036854775807) (n2 : Int) (p21 : -9223372036854775808 ≤ n2) (p22 : n2 ≤ 9223372036854775807) (d2 : Int) (q21 : -9223372036854775808 ≤ d2) (q22 : d2 ≤ 9223372036854775807) (n3 : Int) (p31 : -9223372036854775808 ≤ n3) (p32 : n3 ≤ 9223372036854775807) (d3 : Int) (q31 : -9223372036854775808 ≤ d3) (q32 : d3 ≤ 9223372036854775807) (w : World) : Calls Try.prog 16 #[.int .i64 n1, .int .i64 d1, .int .i64 n2, .int .i64 d2, .int .i64 n3, .int .i64 d3] w fun e w' => e = .returned (.bool true) ∧ Below w.heap.size w w' :=
  fracField_any n1 d1 p11 p12 q11 q12 n2 d2 p21 p22 q21 q22 n3 d3 p31 p32 q31 q32 w
end Go.Proofs.Ytijpjjpndpdjpaa

