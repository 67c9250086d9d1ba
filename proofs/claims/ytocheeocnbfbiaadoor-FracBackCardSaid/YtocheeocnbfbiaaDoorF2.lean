/-
  The contract of frac.Make: the number in lowest terms.
  Conditions: the arguments are int64.
-/
import Derived.Test.YtocheeocnbfbiaaDoorF1
import Derived.Deep.QuietTactic
import Derived.BigQuiet
set_option linter.unusedVariables false
set_option linter.unusedSimpArgs false
namespace Go.Proofs.YtocheeocnbfbiaaDoor
open Go.RowKit Go.Shelf Wd

theorem wrap_id64 {x : Int} (h1 : -9223372036854775808 ≤ x) (h2 : x ≤ 9223372036854775807) : Go.RowKit.wrap64 x = x := by rw [show Go.RowKit.wrap64 x = IntKind.i64.wrap x from (Go.IntWalk.i64_left _).symm, IntKind.wrap_i64]; omega
theorem tdiv_exact {g p : Int} (hg : 0 < g) : (g * p).tdiv g = p := Int.mul_tdiv_cancel_left _ (by omega)
/-- The parts of a pair of numbers: the greatest common divisor, and what is left. -/
theorem mk_parts (n d : Int) (a1 : -9223372036854775808 ≤ n) (a2 : n ≤ 9223372036854775807) (b1 : -9223372036854775808 ≤ d) (b2 : d ≤ 9223372036854775807) (hd : d ≠ 0) :
    (gcdV n d = 0 ∧ ∃ q : Int, n.tdiv d = q ∧ 0 ≤ q ∧ q ≤ 1 ∧ lowA n d = q ∧ lowB n d = 1 ∧ lowE n d = 0) ∨
    (∃ g p q : Int, 0 < g ∧ g ≤ 9223372036854775807 ∧ gcdV n d = g ∧ n.tdiv g = p ∧ d.tdiv g = q ∧ q ≠ 0 ∧ -9223372036854775808 ≤ p ∧ p ≤ 9223372036854775807 ∧ -9223372036854775808 ≤ q ∧ q ≤ 9223372036854775807 ∧
      (q < 0 → redN n d = -p ∧ redD n d = -q) ∧ (0 < q → redN n d = p ∧ redD n d = q)) := by
  have h0 : 0 < Int.gcd n d := Int.gcd_pos_of_ne_zero_right _ hd
  have hle : Int.gcd n d ≤ d.natAbs := Int.gcd_le_natAbs_right _ hd
  obtain ⟨p, hp⟩ := Int.gcd_dvd_left n d
  obtain ⟨q, hq⟩ := Int.gcd_dvd_right n d
  have eg : Nat.gcd n.natAbs d.natAbs = Int.gcd n d := rfl
  by_cases h : 9223372036854775807 < Int.gcd n d
  · left
    have e : Int.gcd n d = 9223372036854775808 := by omega
    refine ⟨by unfold gcdV; rw [eg, if_pos h], ?_⟩
    rw [e] at hp
    have hd' : d = -9223372036854775808 := by omega
    rcases (show n = 0 ∨ n = -9223372036854775808 by omega) with hn | hn
    · rw [hn, hd']
      exact ⟨0, by decide, by omega, by omega, low_eq (by omega) fv_zero (by omega)⟩
    · rw [hn, hd']
      exact ⟨1, by decide, by omega, by omega, low_eq (by omega) ⟨by omega, by decide⟩ (by omega)⟩
  · right
    have e : gcdV n d = (Int.gcd n d : Int) := by unfold gcdV; rw [eg, if_neg h]
    have hr : redN n d = d.sign * (n / Int.gcd n d) ∧ redD n d = d.sign * (d / Int.gcd n d) := ⟨rfl, rfl⟩
    have h0' : (0 : Int) < Int.gcd n d := by omega
    have h1' : (Int.gcd n d : Int) ≤ 9223372036854775807 := by omega
    clear h0 hle h eg
    generalize (Int.gcd n d : Int) = g at *
    have hg : 0 < g := h0'
    have hp2 : n.tdiv g = p := by rw [hp]; exact tdiv_exact hg
    have hq2 : d.tdiv g = q := by rw [hq]; exact tdiv_exact hg
    have hp3 : n / g = p := by rw [hp]; exact Int.mul_ediv_cancel_left _ (by omega)
    have hq3 : d / g = q := by rw [hq]; exact Int.mul_ediv_cancel_left _ (by omega)
    have e1 := Int.natAbs_tdiv_le_natAbs n g
    have e2 := Int.natAbs_tdiv_le_natAbs d g
    rw [hp3, hq3] at hr
    rw [hp2] at e1
    rw [hq2] at e2
    have q0 : q ≠ 0 := by intro hz; rw [hz] at hq; omega
    have hbd : (0 < p → p ≤ n) ∧ (0 < q → q ≤ d) := by
      constructor
      · intro hx
        rw [hp]
        have : 1 * p ≤ g * p := Int.mul_le_mul_of_nonneg_right (by omega) (by omega)
        omega
      · intro hx
        rw [hq]
        have : 1 * q ≤ g * q := Int.mul_le_mul_of_nonneg_right (by omega) (by omega)
        omega
    refine ⟨g, p, q, hg, h1', e, hp2, hq2, q0, by omega, by omega, by omega, by omega, fun hn => ?_, fun hn => ?_⟩
    · have hd0 : d < 0 := by
        rw [hq]
        exact Int.mul_neg_of_pos_of_neg hg hn
      rw [hr.1, hr.2, Int.sign_eq_neg_one_of_neg hd0]
      omega
    · have hd0 : 0 < d := by
        rw [hq]
        exact Int.mul_pos hg hn
      rw [hr.1, hr.2, Int.sign_eq_one_of_pos hd0]
      omega

set_option maxRecDepth 100000 in
set_option maxHeartbeats 1000000 in
theorem make_any (n d : Int) (a1 : -9223372036854775808 ≤ n) (a2 : n ≤ 9223372036854775807) (b1 : -9223372036854775808 ≤ d) (b2 : d ≤ 9223372036854775807) (w : World) : Calls Tryd.prog 5 #[.int .i64 n, .int .i64 d] w fun e w' => e = .returned (.tuple #[fr (mkA n d) (mkB n d), .int .i64 (mkE n d)]) ∧ Below w.heap.size w w' := by
  by_cases hd : d = 0
  · subst hd
    rw [show mkA n 0 = 0 from rfl, show mkB n 0 = 0 from rfl, show mkE n 0 = 1 from rfl]
    obtain ⟨W, hW, h0, x0⟩ := fbox1 w (.int .i64 0) (.int .i64 0)
    have HW := Lib.hid hW
    clear hW
    go_enter Tryd.func5, Tryd.ntmps5
    go_wp2_with fail
    rw [← HW.out]
    clear HW
    have c_x0 := x0.c0
    have d_x0 := x0.c1
    have p_x0 := x0.f0
    have q_x0 := x0.f1
    go_wp2_with fail
    clear c_x0 d_x0 p_x0 q_x0
    have e0 := x0.c0
    have e1 := x0.c1
    exact bodyPost_ret (v := .tuple #[fr (0) (0), .int .i64 (1)]) (by simp [results, Tryd.results5, go_sem, e0, e1]) rfl ⟨rfl, h0⟩
  · rw [show mkA n d = lowA n d from if_neg hd, show mkB n d = lowB n d from if_neg hd, show mkE n d = lowE n d from if_neg hd]
    have hdb : (d == 0) = false := by simpa using hd
    rcases mk_parts n d a1 a2 b1 b2 hd with ⟨hg, q, hq, q1, q2, e1, e2, e3⟩ | ⟨g, p, q, g0, g2, hg, hp, hq, q0, p1, p2, q1, q2, r1, r2⟩
    · rw [e1, e2, e3]
      have HG := Lib.hid hg
      replace hq : Go.RowKit.wrap64 (n.tdiv d) = q := by rw [hq]; exact wrap_id64 (by omega) (by omega)
      clear hg e1 e2 e3 hdb
      obtain ⟨W, hW, h0, x0⟩ := fbox1 w (.int .i64 0) (.int .i64 0)
      have HW := Lib.hid hW
      clear hW
      go_enter Tryd.func5, Tryd.ntmps5
      go_wp2_with fail
      rw [← HW.out]
      clear HW
      have c_x0 := x0.c0
      have d_x0 := x0.c1
      have p_x0 := x0.f0
      have q_x0 := x0.f1
      go_wp2_with fail
      clear c_x0 d_x0 p_x0 q_x0
      go_at_call 19; (with_reducible refine (gcd_any n d a1 a2 b1 b2 _).mono ?_)
      rintro e W1 ⟨rfl, hb⟩
      replace x0 := x0.go hb
      replace h0 := bel_go h0 h0.size hb
      clear hb
      rw [HG.out]
      have c_x0 := x0.c0
      have d_x0 := x0.c1
      have p_x0 := x0.f0
      have q_x0 := x0.f1
      go_wp2_with fail
      clear c_x0 d_x0 p_x0 q_x0
      have hP := put2 W1 (w.heap.size) (.int .i64 (q)) (.int .i64 (1))
      have hN := x0.stored (.int .i64 (q)) (.int .i64 (1))
      generalize (W1.setCell _ _).setCell _ _ = W2 at hP hN ⊢
      replace h0 := bel_put h0 (Nat.le_refl _) hP
      clear hP x0
      have x0 := hN
      clear hN
      have e0 := x0.c0
      have e1 := x0.c1
      exact bodyPost_ret (v := .tuple #[fr (q) (1), .int .i64 (0)]) (by simp [results, Tryd.results5, go_sem, e0, e1]) rfl ⟨rfl, h0⟩
    · have HG := Lib.hid hg
      have gb : ¬ g = 0 := by omega
      obtain ⟨A, hA⟩ : ∃ A, lowA n d = A := ⟨_, rfl⟩
      obtain ⟨B, hB⟩ : ∃ B, lowB n d = B := ⟨_, rfl⟩
      obtain ⟨E, hE⟩ : ∃ E, lowE n d = E := ⟨_, rfl⟩
      rw [hA, hB, hE]
      rcases Int.lt_or_gt_of_ne q0 with hq0 | hq0
      · obtain ⟨s1, s2⟩ := r1 hq0
        have hw : ∀ x : Int, -9223372036854775808 ≤ x → x ≤ 9223372036854775807 → Go.RowKit.wrap64 (-x) = -x ∨ x = -9223372036854775808 ∧ Go.RowKit.wrap64 (-x) = -9223372036854775808 := by
          intro x h1 h2
          rcases Int.lt_or_le (-9223372036854775808) x with h3 | h3
          · exact .inl (wrap_id64 (by omega) (by omega))
          · obtain rfl : x = -9223372036854775808 := by omega
            exact .inr ⟨rfl, by rw [show Go.RowKit.wrap64 (- -9223372036854775808) = IntKind.i64.wrap (- -9223372036854775808) from (Go.IntWalk.i64_left _).symm, IntKind.wrap_i64]; omega⟩
        have HK : Hid (limA (Go.RowKit.wrap64 (-p)) (Go.RowKit.wrap64 (-q)) = A ∧ limB (Go.RowKit.wrap64 (-p)) (Go.RowKit.wrap64 (-q)) = B ∧ limE (Go.RowKit.wrap64 (-p)) (Go.RowKit.wrap64 (-q)) = E) := by
          unfold Hid
          rw [← hA, ← hB, ← hE]
          unfold lowA lowB lowE
          rw [s1, s2]
          rcases hw p p1 p2 with h3 | ⟨h3, h4⟩
          · rcases hw q q1 q2 with h5 | ⟨h5, h6⟩
            · rw [h3, h5]; exact ⟨rfl, rfl, rfl⟩
            · rw [h6]
              obtain ⟨g1, g2, g3⟩ := lim_no (n := Go.RowKit.wrap64 (-p)) (d := -9223372036854775808) (by omega)
              obtain ⟨g4, g5, g6⟩ := lim_no (n := -p) (d := -q) (by omega)
              rw [g1, g2, g3, g4, g5, g6]; exact ⟨rfl, rfl, rfl⟩
          · rw [h4]
            obtain ⟨g1, g2, g3⟩ := lim_no (n := -9223372036854775808) (d := Go.RowKit.wrap64 (-q)) (by omega)
            obtain ⟨g4, g5, g6⟩ := lim_no (n := -p) (d := -q) (by omega)
            rw [g1, g2, g3, g4, g5, g6]; exact ⟨rfl, rfl, rfl⟩
        clear hg r1 r2 s1 s2 hA hB hE hw q0 hdb
        have hqb : ¬ q = 0 := by omega
        obtain ⟨W, hW, h0, x0⟩ := fbox1 w (.int .i64 0) (.int .i64 0)
        have HW := Lib.hid hW
        clear hW
        go_enter Tryd.func5, Tryd.ntmps5
        go_wp2_with fail
        rw [← HW.out]
        clear HW
        have c_x0 := x0.c0
        have d_x0 := x0.c1
        have p_x0 := x0.f0
        have q_x0 := x0.f1
        go_wp2_with fail
        clear c_x0 d_x0 p_x0 q_x0
        go_at_call 19; (with_reducible refine (gcd_any n d a1 a2 b1 b2 _).mono ?_)
        rintro e W1 ⟨rfl, hb⟩
        replace x0 := x0.go hb
        replace h0 := bel_go h0 h0.size hb
        clear hb
        rw [HG.out]
        have c_x0 := x0.c0
        have d_x0 := x0.c1
        have p_x0 := x0.f0
        have q_x0 := x0.f1
        go_wp2_with fail
        clear c_x0 d_x0 p_x0 q_x0
        have c_x0 := x0.c0
        have d_x0 := x0.c1
        have p_x0 := x0.f0
        have q_x0 := x0.f1
        go_quiet (fail)
        replace x0 := x0.drewN nq
        replace h0 := Below.drewN h0 nq
        clear c_x0 d_x0 p_x0 q_x0
        generalize W1.drewN nq = W2 at x0 h0 ⊢
        clear nq
        go_wp2_with fail
        clear hp hq
        go_at_call 20; (with_reducible refine (limited_any (Go.RowKit.wrap64 (-p)) (Go.RowKit.wrap64 (-q)) _).mono ?_)
        rintro e W3 ⟨rfl, hb⟩
        replace x0 := x0.go hb
        replace h0 := bel_go h0 h0.size hb
        clear hb
        rw [HK.out.1, HK.out.2.1, HK.out.2.2]
        have c_x0 := x0.c0
        have d_x0 := x0.c1
        have p_x0 := x0.f0
        have q_x0 := x0.f1
        go_wp2_with fail
        clear c_x0 d_x0 p_x0 q_x0
        have hP := put2 W3 (w.heap.size) (.int .i64 (A)) (.int .i64 (B))
        have hN := x0.stored (.int .i64 (A)) (.int .i64 (B))
        generalize (W3.setCell _ _).setCell _ _ = W4 at hP hN ⊢
        replace h0 := bel_put h0 (Nat.le_refl _) hP
        clear hP x0
        have x0 := hN
        clear hN
        have e0 := x0.c0
        have e1 := x0.c1
        exact bodyPost_ret (v := .tuple #[fr (A) (B), .int .i64 (E)]) (by simp [results, Tryd.results5, go_sem, e0, e1]) rfl ⟨rfl, h0⟩
      · obtain ⟨s1, s2⟩ := r2 hq0
        have HK : Hid (limA p q = A ∧ limB p q = B ∧ limE p q = E) := by
          unfold Hid
          rw [← hA, ← hB, ← hE]
          unfold lowA lowB lowE; rw [s1, s2]; exact ⟨rfl, rfl, rfl⟩
        clear hg r1 r2 s1 s2 hA hB hE q0 hdb
        obtain ⟨W, hW, h0, x0⟩ := fbox1 w (.int .i64 0) (.int .i64 0)
        have HW := Lib.hid hW
        clear hW
        go_enter Tryd.func5, Tryd.ntmps5
        go_wp2_with fail
        rw [← HW.out]
        clear HW
        have c_x0 := x0.c0
        have d_x0 := x0.c1
        have p_x0 := x0.f0
        have q_x0 := x0.f1
        go_wp2_with fail
        clear c_x0 d_x0 p_x0 q_x0
        go_at_call 19; (with_reducible refine (gcd_any n d a1 a2 b1 b2 _).mono ?_)
        rintro e W1 ⟨rfl, hb⟩
        replace x0 := x0.go hb
        replace h0 := bel_go h0 h0.size hb
        clear hb
        rw [HG.out]
        have c_x0 := x0.c0
        have d_x0 := x0.c1
        have p_x0 := x0.f0
        have q_x0 := x0.f1
        go_wp2_with fail
        clear c_x0 d_x0 p_x0 q_x0
        have c_x0 := x0.c0
        have d_x0 := x0.c1
        have p_x0 := x0.f0
        have q_x0 := x0.f1
        go_quiet (fail)
        replace x0 := x0.drewN nq
        replace h0 := Below.drewN h0 nq
        clear c_x0 d_x0 p_x0 q_x0
        generalize W1.drewN nq = W2 at x0 h0 ⊢
        clear nq
        go_wp2_with fail
        clear hp hq
        go_at_call 20; (with_reducible refine (limited_any p q _).mono ?_)
        rintro e W3 ⟨rfl, hb⟩
        replace x0 := x0.go hb
        replace h0 := bel_go h0 h0.size hb
        clear hb
        rw [HK.out.1, HK.out.2.1, HK.out.2.2]
        have c_x0 := x0.c0
        have d_x0 := x0.c1
        have p_x0 := x0.f0
        have q_x0 := x0.f1
        go_wp2_with fail
        clear c_x0 d_x0 p_x0 q_x0
        have hP := put2 W3 (w.heap.size) (.int .i64 (A)) (.int .i64 (B))
        have hN := x0.stored (.int .i64 (A)) (.int .i64 (B))
        generalize (W3.setCell _ _).setCell _ _ = W4 at hP hN ⊢
        replace h0 := bel_put h0 (Nat.le_refl _) hP
        clear hP x0
        have x0 := hN
        clear hN
        have e0 := x0.c0
        have e1 := x0.c1
        exact bodyPost_ret (v := .tuple #[fr (A) (B), .int .i64 (E)]) (by simp [results, Tryd.results5, go_sem, e0, e1]) rfl ⟨rfl, h0⟩
end Go.Proofs.YtocheeocnbfbiaaDoor

