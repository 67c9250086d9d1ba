/-
  The contracts of package frac's small functions: Check, inRange, checkBoth, limited, Floor, Ceil, Round.
  Conditions: the arguments are int64.
-/
import Derived.Test.YtocheeocnbfbiaaDoorFM
import Derived.Test.YtocheeocnbfbiaaDoorBx
set_option linter.unusedVariables false
set_option linter.unusedSimpArgs false
namespace Go.Proofs.YtocheeocnbfbiaaDoor
open Go.RowKit Go.Shelf Wd

abbrev fr (n d : Int) : Value := .agg #[.int .i64 n, .int .i64 d]

set_option maxRecDepth 100000 in
theorem inRange_any (n d : Int) (w : World) : Calls Tryd.prog 47 #[fr n d] w fun e w' => e = .returned (.bool (frOk n d)) ∧ Below w.heap.size w w' := by
  by_cases h : -1152921504606846976 ≤ n ∧ n ≤ 1152921504606846976 ∧ 1 ≤ d ∧ d ≤ 1152921504606846976
  · rw [frOk_iff.2 h]
    obtain ⟨h1, h2, h3, h4⟩ := h
    go_enter Tryd.func47, Tryd.ntmps47
    go_wp2
    go_ret
    exact ⟨rfl, by go_grown⟩
  · rw [show frOk n d = false from Bool.eq_false_iff.2 fun x => h (frOk_iff.1 x)]
    rcases Int.lt_or_le n (-1152921504606846976) with h1 | h1
    · clear h
      go_enter Tryd.func47, Tryd.ntmps47
      go_wp2
      go_ret
      exact ⟨rfl, by go_grown⟩
    · rcases Int.lt_or_le 1152921504606846976 n with h2 | h2
      · clear h
        go_enter Tryd.func47, Tryd.ntmps47
        go_wp2
        go_ret
        exact ⟨rfl, by go_grown⟩
      · rcases Int.lt_or_le d 1 with h3 | h3
        · clear h
          go_enter Tryd.func47, Tryd.ntmps47
          go_wp2
          go_ret
          exact ⟨rfl, by go_grown⟩
        · have h4 : decide (d ≤ 1152921504606846976) = false := by simp; omega
          clear h
          go_enter Tryd.func47, Tryd.ntmps47
          go_wp2
          go_ret
          exact ⟨rfl, by go_grown⟩

theorem fbox1 (w : World) (x1 y1 : Value) : ∃ W, W = w.alloc (.cells #[x1, y1] 23) ∧ Below w.heap.size w W ∧ Bx W w.heap.size 23 x1 y1 := ⟨_, rfl, by go_grown, Bx.new w _ _ _⟩
theorem fbox2 (w : World) (x1 y1 x2 y2 : Value) : ∃ W, W = (w.alloc (.cells #[x1, y1] 23)).alloc (.cells #[x2, y2] 23) ∧ Below w.heap.size w W ∧ Bx W w.heap.size 23 x1 y1 ∧ Bx W (w.heap.size + 1) 23 x2 y2 := by
  have e1 : (w.alloc (.cells #[x1, y1] 23)).heap.size = w.heap.size + 1 := by simp
  have h2 := Bx.new (w.alloc (.cells #[x1, y1] 23)) 23 x2 y2
  rw [e1] at h2
  exact ⟨_, rfl, by go_grown, (Bx.new w _ _ _).alloc _, h2⟩
theorem fbox3 (w : World) (x1 y1 x2 y2 x3 y3 : Value) : ∃ W, W = ((w.alloc (.cells #[x1, y1] 23)).alloc (.cells #[x2, y2] 23)).alloc (.cells #[x3, y3] 23) ∧ Below w.heap.size w W ∧ Bx W w.heap.size 23 x1 y1 ∧ Bx W (w.heap.size + 1) 23 x2 y2 ∧ Bx W (w.heap.size + 1 + 1) 23 x3 y3 := by
  obtain ⟨W, hW, h0, b1, b2⟩ := fbox2 w x1 y1 x2 y2
  have e1 : W.heap.size = w.heap.size + 1 + 1 := by rw [hW]; simp
  have h3 := Bx.new W 23 x3 y3
  rw [e1] at h3
  exact ⟨_, by rw [hW], h0.alloc (by omega) _, b1.alloc _, b2.alloc _, h3⟩

set_option maxRecDepth 100000 in
theorem limited_any (n d : Int) (w : World) : Calls Tryd.prog 20 #[.int .i64 n, .int .i64 d] w fun e w' => e = .returned (.tuple #[fr (limA n d) (limB n d), .int .i64 (limE n d)]) ∧ Below w.heap.size w w' := by
  by_cases h : -1152921504606846976 ≤ n ∧ n ≤ 1152921504606846976 ∧ 1 ≤ d ∧ d ≤ 1152921504606846976
  · have K := Lib.hid (frOk_iff.2 h)
    obtain ⟨e1, e2, e3⟩ := lim_yes h
    rw [e1, e2, e3]
    clear h e1 e2 e3
    obtain ⟨W, hW, h0, b0, b1⟩ := fbox2 w (.int .i64 0) (.int .i64 0) (.int .i64 n) (.int .i64 d)
    have HW := Lib.hid hW
    clear hW
    go_enter Tryd.func20, Tryd.ntmps20
    go_wp2_with fail
    rw [← HW.out]
    clear HW
    have c0 := b1.c0
    have c1 := b1.c1
    go_wp2_with fail
    clear c0 c1
    go_at_call 47; refine (inRange_any n d _).mono ?_
    rintro e W1 ⟨rfl, hb⟩
    rw [K.out]
    replace b0 := b0.go hb
    replace b1 := b1.go hb
    replace h0 := bel_go h0 h0.size hb
    clear hb
    have c0 := b1.c0
    have c1 := b1.c1
    have d0 := b0.c0
    have d1 := b0.c1
    have f0 := b0.f0
    have f1 := b0.f1
    go_wp2_with fail
    have hP := put2 W1 w.heap.size (.int .i64 n) (.int .i64 d)
    have hN := b0.stored (.int .i64 n) (.int .i64 d)
    generalize (W1.setCell _ _).setCell _ _ = W2 at hP hN ⊢
    have e0 := hN.c0
    have e1 := hN.c1
    clear d0 d1
    exact bodyPost_ret (v := .tuple #[fr n d, .int .i64 0]) (by simp [results, Tryd.results20, go_sem, e0, e1]) rfl ⟨rfl, bel_put h0 (Nat.le_refl _) hP⟩
  · have K := Lib.hid (show frOk n d = false from Bool.eq_false_iff.2 fun x => h (frOk_iff.1 x))
    obtain ⟨e1, e2, e3⟩ := lim_no h
    rw [e1, e2, e3]
    clear h e1 e2 e3
    obtain ⟨W, hW, h0, b0, b1⟩ := fbox2 w (.int .i64 0) (.int .i64 0) (.int .i64 n) (.int .i64 d)
    have HW := Lib.hid hW
    clear hW
    go_enter Tryd.func20, Tryd.ntmps20
    go_wp2_with fail
    rw [← HW.out]
    clear HW
    have c0 := b1.c0
    have c1 := b1.c1
    go_wp2_with fail
    clear c0 c1
    go_at_call 47; refine (inRange_any n d _).mono ?_
    rintro e W1 ⟨rfl, hb⟩
    rw [K.out]
    replace b0 := b0.go hb
    replace b1 := b1.go hb
    replace h0 := bel_go h0 h0.size hb
    clear hb
    have c0 := b1.c0
    have c1 := b1.c1
    have d0 := b0.c0
    have d1 := b0.c1
    have f0 := b0.f0
    have f1 := b0.f1
    go_wp2_with fail
    have hP := put2 W1 w.heap.size (.int .i64 0) (.int .i64 0)
    have hN := b0.stored (.int .i64 0) (.int .i64 0)
    generalize (W1.setCell _ _).setCell _ _ = W2 at hP hN ⊢
    have e0 := hN.c0
    have e1 := hN.c1
    clear d0 d1
    exact bodyPost_ret (v := .tuple #[fr 0 0, .int .i64 2]) (by simp [results, Tryd.results20, go_sem, e0, e1]) rfl ⟨rfl, bel_put h0 (Nat.le_refl _) hP⟩
theorem chkV_no {n d : Int} (h : frOk n d = false) : chkV n d = 4 := by unfold chkV; rw [h]; rfl
theorem gcdV_ok {n d : Int} (h : frOk n d = true) : gcdV n d = Int.gcd n d := by
  have h2 := frOk_iff.1 h
  have h3 : Int.gcd n d ≤ d.natAbs := Int.gcd_le_natAbs_right _ (by omega)
  unfold gcdV
  rw [if_neg (by unfold Int.gcd at h3; omega)]; rfl
set_option maxRecDepth 100000 in
theorem check_any (n d : Int) (a1 : -9223372036854775808 ≤ n) (a2 : n ≤ 9223372036854775807) (b1 : -9223372036854775808 ≤ d) (b2 : d ≤ 9223372036854775807) (w : World) : Calls Tryd.prog 22 #[fr n d] w fun e w' => e = .returned (.int .i64 (chkV n d)) ∧ Below w.heap.size w w' := by
  by_cases h : frOk n d = true
  · by_cases hg : 1 < Int.gcd n d
    · rw [show chkV n d = 3 by unfold chkV; rw [if_pos h, if_pos hg]]
      have K := Lib.hid h
      have KG := Lib.hid (gcdV_ok h)
      replace hg : (1 : Int) < (Int.gcd n d : Int) := by omega
      generalize (Int.gcd n d : Int) = g at hg KG
      clear h
      obtain ⟨W, hW, h0, b0⟩ := fbox1 w (.int .i64 n) (.int .i64 d)
      have HW := Lib.hid hW
      clear hW
      go_enter Tryd.func22, Tryd.ntmps22
      go_wp2_with fail
      rw [← HW.out]
      clear HW
      have c_b0 := b0.c0
      have d_b0 := b0.c1
      have p_b0 := b0.f0
      have q_b0 := b0.f1
      go_wp2_with fail
      clear c_b0 d_b0 p_b0 q_b0
      go_at_call 47; refine (inRange_any n d _).mono ?_
      rintro e W1 ⟨rfl, hb⟩
      replace b0 := b0.go hb
      replace h0 := bel_go h0 h0.size hb
      clear hb
      rw [K.out]
      have c_b0 := b0.c0
      have d_b0 := b0.c1
      have p_b0 := b0.f0
      have q_b0 := b0.f1
      go_wp2_with fail
      clear c_b0 d_b0 p_b0 q_b0
      go_at_call 19; refine (gcd_any n d a1 a2 b1 b2 _).mono ?_
      rintro e W2 ⟨rfl, hb⟩
      replace b0 := b0.go hb
      replace h0 := bel_go h0 h0.size hb
      clear hb
      rw [KG.out]
      go_wp2_with fail
      go_ret
      exact ⟨rfl, h0⟩
    · rw [show chkV n d = 0 by unfold chkV; rw [if_pos h, if_neg hg]]
      have K := Lib.hid h
      have KG := Lib.hid (gcdV_ok h)
      replace hg : ¬ (1 : Int) < (Int.gcd n d : Int) := by omega
      generalize (Int.gcd n d : Int) = g at hg KG
      clear h
      obtain ⟨W, hW, h0, b0⟩ := fbox1 w (.int .i64 n) (.int .i64 d)
      have HW := Lib.hid hW
      clear hW
      go_enter Tryd.func22, Tryd.ntmps22
      go_wp2_with fail
      rw [← HW.out]
      clear HW
      have c_b0 := b0.c0
      have d_b0 := b0.c1
      have p_b0 := b0.f0
      have q_b0 := b0.f1
      go_wp2_with fail
      clear c_b0 d_b0 p_b0 q_b0
      go_at_call 47; refine (inRange_any n d _).mono ?_
      rintro e W1 ⟨rfl, hb⟩
      replace b0 := b0.go hb
      replace h0 := bel_go h0 h0.size hb
      clear hb
      rw [K.out]
      have c_b0 := b0.c0
      have d_b0 := b0.c1
      have p_b0 := b0.f0
      have q_b0 := b0.f1
      go_wp2_with fail
      clear c_b0 d_b0 p_b0 q_b0
      go_at_call 19; refine (gcd_any n d a1 a2 b1 b2 _).mono ?_
      rintro e W2 ⟨rfl, hb⟩
      replace b0 := b0.go hb
      replace h0 := bel_go h0 h0.size hb
      clear hb
      rw [KG.out]
      go_wp2_with fail
      go_ret
      exact ⟨rfl, h0⟩
  · have K := Lib.hid (Bool.eq_false_iff.2 h)
    rw [chkV_no K.out]
    clear h
    obtain ⟨W, hW, h0, b0⟩ := fbox1 w (.int .i64 n) (.int .i64 d)
    have HW := Lib.hid hW
    clear hW
    go_enter Tryd.func22, Tryd.ntmps22
    go_wp2_with fail
    rw [← HW.out]
    clear HW
    have c_b0 := b0.c0
    have d_b0 := b0.c1
    have p_b0 := b0.f0
    have q_b0 := b0.f1
    go_wp2_with fail
    clear c_b0 d_b0 p_b0 q_b0
    go_at_call 47; refine (inRange_any n d _).mono ?_
    rintro e W1 ⟨rfl, hb⟩
    replace b0 := b0.go hb
    replace h0 := bel_go h0 h0.size hb
    clear hb
    rw [K.out]
    go_wp2_with fail
    go_ret
    exact ⟨rfl, h0⟩
set_option maxRecDepth 100000 in
theorem checkBoth_any (a b c d : Int) (a1 : -9223372036854775808 ≤ a) (a2 : a ≤ 9223372036854775807) (b1 : -9223372036854775808 ≤ b) (b2 : b ≤ 9223372036854775807) (c1 : -9223372036854775808 ≤ c) (c2 : c ≤ 9223372036854775807) (d1 : -9223372036854775808 ≤ d) (d2 : d ≤ 9223372036854775807) (w : World) : Calls Tryd.prog 48 #[fr a b, fr c d] w fun e w' => e = .returned (.int .i64 (chk2 a b c d)) ∧ Below w.heap.size w w' := by
  by_cases h : chkV a b = 0
  · rw [show chk2 a b c d = chkV c d from if_pos h]
    have K := Lib.hid h
    clear h
    obtain ⟨W, hW, h0, b0, bb⟩ := fbox2 w (.int .i64 a) (.int .i64 b) (.int .i64 c) (.int .i64 d)
    have HW := Lib.hid hW
    clear hW
    go_enter Tryd.func48, Tryd.ntmps48
    go_wp2_with fail
    rw [← HW.out]
    clear HW
    have c_b0 := b0.c0
    have d_b0 := b0.c1
    have p_b0 := b0.f0
    have q_b0 := b0.f1
    have c_bb := bb.c0
    have d_bb := bb.c1
    have p_bb := bb.f0
    have q_bb := bb.f1
    go_wp2_with fail
    clear c_b0 d_b0 p_b0 q_b0 c_bb d_bb p_bb q_bb
    go_at_call 22; refine (check_any a b a1 a2 b1 b2 _).mono ?_
    rintro e W1 ⟨rfl, hb⟩
    replace b0 := b0.go hb
    replace bb := bb.go hb
    replace h0 := bel_go h0 h0.size hb
    clear hb
    rw [K.out]
    have c_b0 := b0.c0
    have d_b0 := b0.c1
    have p_b0 := b0.f0
    have q_b0 := b0.f1
    have c_bb := bb.c0
    have d_bb := bb.c1
    have p_bb := bb.f0
    have q_bb := bb.f1
    go_wp2_with fail
    clear c_b0 d_b0 p_b0 q_b0 c_bb d_bb p_bb q_bb
    go_at_call 22; refine (check_any c d c1 c2 d1 d2 _).mono ?_
    rintro e W2 ⟨rfl, hb⟩
    replace b0 := b0.go hb
    replace bb := bb.go hb
    replace h0 := bel_go h0 h0.size hb
    clear hb
    go_wp2_with fail
    go_ret
    exact ⟨rfl, h0⟩
  · rw [show chk2 a b c d = chkV a b from if_neg h]
    generalize chkV_ : chkV a b = k at h
    have K := Lib.hid chkV_
    clear chkV_
    obtain ⟨W, hW, h0, b0, bb⟩ := fbox2 w (.int .i64 a) (.int .i64 b) (.int .i64 c) (.int .i64 d)
    have HW := Lib.hid hW
    clear hW
    go_enter Tryd.func48, Tryd.ntmps48
    go_wp2_with fail
    rw [← HW.out]
    clear HW
    have c_b0 := b0.c0
    have d_b0 := b0.c1
    have p_b0 := b0.f0
    have q_b0 := b0.f1
    have c_bb := bb.c0
    have d_bb := bb.c1
    have p_bb := bb.f0
    have q_bb := bb.f1
    go_wp2_with fail
    clear c_b0 d_b0 p_b0 q_b0 c_bb d_bb p_bb q_bb
    go_at_call 22; refine (check_any a b a1 a2 b1 b2 _).mono ?_
    rintro e W1 ⟨rfl, hb⟩
    replace b0 := b0.go hb
    replace bb := bb.go hb
    replace h0 := bel_go h0 h0.size hb
    clear hb
    rw [K.out]
    have hk : (k != 0) = true := by simpa using h
    go_wp2_with fail
    go_ret
    exact ⟨rfl, h0⟩
/-- What Floor returns. -/
def ffloorV (n d : Int) : Int := if chkV n d = 0 then fdV n d else 0
/-- What Ceil returns. -/
def fceilV (n d : Int) : Int := if chkV n d = 0 then cdV n d else 0
/-- What Round returns. -/
def froundV (n d : Int) : Int := if chkV n d = 0 then rdV n d else 0
end Go.Proofs.YtocheeocnbfbiaaDoor

