/-
  The walk of the law FracRounds.
  Conditions: the arguments are int64.
-/
import Derived.Test.YtijpjjpndpdjpaaFA
import Derived.Test.YtijpjjpndpdjpaaW3
set_option linter.unusedVariables false
set_option linter.unusedSimpArgs false
namespace Go.Proofs.Ytijpjjpndpdjpaa
open Go.RowKit Go.Shelf Zd Wd

theorem zero_zz (w : World) : IsZ w (.agg #[.bool false, .slice none 0 0]) 0 := ⟨_, rfl, ⟨none, 0, by simp [digs_zero], by simp [digs_zero], by unfold maxLen; omega, .inl (by simp [digs_zero])⟩⟩
theorem frb5 (w : World) (x1 y1 x2 y2 : Value) : ∃ W, W = ((((w.alloc (.cells #[x1, y1] 76)).alloc (.cells #[x2, y2] 76)).alloc (.cells #[.bool false, .slice none 0 0] 27)).alloc (.cells #[.bool false, .slice none 0 0] 27)).alloc (.cells #[.bool false, .slice none 0 0] 27) ∧
    Below w.heap.size w W ∧ Bx W w.heap.size 76 x1 y1 ∧ Bx W (w.heap.size + 1) 76 x2 y2 ∧ Bx W (w.heap.size + 1 + 1) 27 (.bool false) (.slice none 0 0) ∧ Bx W (w.heap.size + 1 + 1 + 1) 27 (.bool false) (.slice none 0 0) ∧ Bx W (w.heap.size + 1 + 1 + 1 + 1) 27 (.bool false) (.slice none 0 0) := by
  obtain ⟨W, hW, h0, b1, b2⟩ := fbox2 w x1 y1 x2 y2
  have e1 : W.heap.size = w.heap.size + 1 + 1 := by rw [hW]; simp
  have h3 := Bx.new W 27 (.bool false) (.slice none 0 0)
  rw [e1] at h3
  have e2 : (W.alloc (.cells #[.bool false, .slice none 0 0] 27)).heap.size = w.heap.size + 1 + 1 + 1 := by simp [e1]
  have h4 := Bx.new (W.alloc (.cells #[.bool false, .slice none 0 0] 27)) 27 (.bool false) (.slice none 0 0)
  rw [e2] at h4
  have e3 : ((W.alloc (.cells #[.bool false, .slice none 0 0] 27)).alloc (.cells #[.bool false, .slice none 0 0] 27)).heap.size = w.heap.size + 1 + 1 + 1 + 1 := by simp [e1]
  have h5 := Bx.new ((W.alloc (.cells #[.bool false, .slice none 0 0] 27)).alloc (.cells #[.bool false, .slice none 0 0] 27)) 27 (.bool false) (.slice none 0 0)
  rw [e3] at h5
  exact ⟨_, by rw [hW], ((h0.alloc (by omega) _).alloc (by omega) _).alloc (by omega) _, ((b1.alloc _).alloc _).alloc _, ((b2.alloc _).alloc _).alloc _, (h3.alloc _).alloc _, h4.alloc _, h5⟩
/-- What the three quotients are, and how great. -/
theorem quots (a b : Int) (a1 : -9223372036854775808 ≤ a) (a2 : a ≤ 9223372036854775807) : ((-9223372036854775808 ≤ ffloorV a b ∧ ffloorV a b ≤ 9223372036854775807) ∧ (-9223372036854775808 ≤ fceilV a b ∧ fceilV a b ≤ 9223372036854775807) ∧ (-9223372036854775808 ≤ froundV a b ∧ froundV a b ≤ 9223372036854775807)) ∧
    (chkV a b = 0 → 1 ≤ b ∧ a / b = ffloorV a b ∧ -(-a / b) = fceilV a b ∧ rdV a b = froundV a b) ∧ (¬ chkV a b = 0 → ffloorV a b = 0 ∧ fceilV a b = 0 ∧ froundV a b = 0) := by
  unfold ffloorV fceilV froundV
  by_cases h : chkV a b = 0
  · rw [if_pos h, if_pos h, if_pos h]
    have hb := (chkV_zero.1 h).bd
    obtain ⟨q1, q2, q3⟩ := quot_bounds a1 a2 (b := b) (by omega)
    unfold fdV cdV
    rw [if_neg (by omega), if_neg (by omega)]
    exact ⟨⟨q1, q2, q3⟩, fun _ => ⟨by omega, rfl, rfl, rfl⟩, fun h2 => absurd h h2⟩
  · rw [if_neg h, if_neg h, if_neg h]
    exact ⟨by omega, fun h2 => absurd h2 h, fun _ => ⟨rfl, rfl, rfl⟩⟩

set_option maxRecDepth 100000 in
set_option maxHeartbeats 8000000 in
theorem fracRounds_any (a b c d : Int) (a1 : -9223372036854775808 ≤ a) (a2 : a ≤ 9223372036854775807) (b1 : -9223372036854775808 ≤ b) (b2 : b ≤ 9223372036854775807) (c1 : -9223372036854775808 ≤ c) (c2 : c ≤ 9223372036854775807) (d1 : -9223372036854775808 ≤ d) (d2 : d ≤ 9223372036854775807) (w : World) : Calls Try.prog 10 #[fr a b, fr c d] w fun e w' => e = .returned (.bool true) ∧ Below w.heap.size w w' := by
  obtain ⟨qb, qy, qn⟩ := quots a b a1 a2
  obtain ⟨FL, hFL⟩ : ∃ v, ffloorV a b = v := ⟨_, rfl⟩
  obtain ⟨CE, hCE⟩ : ∃ v, fceilV a b = v := ⟨_, rfl⟩
  obtain ⟨RO, hRO⟩ : ∃ v, froundV a b = v := ⟨_, rfl⟩
  obtain ⟨EA, hEA⟩ : ∃ v, chkV a b = v := ⟨_, rfl⟩
  obtain ⟨EC, hEC⟩ : ∃ v, chkV c d = v := ⟨_, rfl⟩
  obtain ⟨ord, hord⟩ : ∃ v, cmpfV a b c d = v := ⟨_, rfl⟩
  rw [hFL, hCE, hRO] at qb
  rw [hFL, hCE, hRO, hEA] at qy qn
  have HV : Hid (ffloorV a b = FL ∧ fceilV a b = CE ∧ froundV a b = RO) := ⟨hFL, hCE, hRO⟩
  have HEA := Lib.hid hEA
  have HEC := Lib.hid hEC
  have HOR := Lib.hid hord
  have HB : Hid ((-9223372036854775808 ≤ FL ∧ FL ≤ 9223372036854775807 ∧ Sm FL) ∧ (-9223372036854775808 ≤ CE ∧ CE ≤ 9223372036854775807 ∧ Sm CE) ∧ (-9223372036854775808 ≤ RO ∧ RO ≤ 9223372036854775807 ∧ Sm RO)) :=
    ⟨⟨qb.1.1, qb.1.2, sm_le (dlen64 qb.1.1 qb.1.2) (by omega)⟩, ⟨qb.2.1.1, qb.2.1.2, sm_le (dlen64 qb.2.1.1 qb.2.1.2) (by omega)⟩, ⟨qb.2.2.1, qb.2.2.2, sm_le (dlen64 qb.2.2.1 qb.2.2.2) (by omega)⟩⟩
  have HQ0 : Hid ((EA = 0 → 1 ≤ b ∧ a / b = FL ∧ -(-a / b) = CE ∧ rdV a b = RO) ∧ True) := ⟨qy, trivial⟩
  have HO0 : Hid (EA = 0 → (EC = 0 → cmpI (a * d) (c * b) = ord) ∧ (¬ EC = 0 → (0 : Int) = ord)) := by
    intro h
    rw [← hord]
    unfold cmpfV chk2
    rw [hEA, hEC, if_pos h]
    exact ⟨fun h2 => by rw [if_pos h2], fun h2 => by rw [if_neg h2]⟩
  have HQ1 : Hid (¬ EA = 0 → 0 = FL ∧ 0 = CE ∧ 0 = RO ∧ 0 = ord) := by
    intro h
    obtain ⟨e1, e2, e3⟩ := qn h
    refine ⟨e1.symm, e2.symm, e3.symm, ?_⟩
    rw [← hord]
    unfold cmpfV chk2
    rw [hEA, if_neg h, if_neg h]
  have HS : Hid ((digs a.natAbs).length + (digs d.natAbs).length ≤ 1999999 ∧ (digs c.natAbs).length + (digs b.natAbs).length ≤ 1999999 ∧ Sm (a * d) ∧ Sm (c * b)) := by
    have e1 := dlen64 a1 a2
    have e2 := dlen64 b1 b2
    have e3 := dlen64 c1 c2
    have e4 := dlen64 d1 d2
    exact ⟨by omega, by omega, sm_le (dlen_mulI e1 e4) (by omega), sm_le (dlen_mulI e3 e2) (by omega)⟩
  clear qb qy qn hFL hCE hRO hEA hEC hord
  obtain ⟨W, hW, h0, x0, x1, zd, zu, zn⟩ := frb5 w (.int .i64 a) (.int .i64 b) (.int .i64 c) (.int .i64 d)
  have HW := Lib.hid hW
  clear hW
  go_enter Try.func10, Try.ntmps10
  go_upto_region 3 with fail
  rw [← HW.out]
  clear HW
  have c_x0 := x0.c0
  have d_x0 := x0.c1
  have p_x0 := x0.f0
  have q_x0 := x0.f1
  have c_x1 := x1.c0
  have d_x1 := x1.c1
  have p_x1 := x1.f0
  have q_x1 := x1.f1
  have c_zd := zd.c0
  have d_zd := zd.c1
  have p_zd := zd.f0
  have q_zd := zd.f1
  have c_zu := zu.c0
  have d_zu := zu.c1
  have p_zu := zu.f0
  have q_zu := zu.f1
  have c_zn := zn.c0
  have d_zn := zn.c1
  have p_zn := zn.f0
  have q_zn := zn.f1
  go_wp2_with fail
  clear c_x0 d_x0 p_x0 q_x0 c_x1 d_x1 p_x1 q_x1 c_zd d_zd p_zd q_zd c_zu d_zu p_zu q_zu c_zn d_zn p_zn q_zn
  go_at_call 65; (with_reducible refine (fracErr_any a b a1 a2 b1 b2 _).mono ?_)
  rintro e W1 ⟨rfl, hb⟩
  replace x0 := x0.go hb
  replace x1 := x1.go hb
  replace zd := zd.go hb
  replace zu := zu.go hb
  replace zn := zn.go hb
  replace h0 := bel_go h0 h0.size hb
  clear hb
  rw [HEA.out]
  go_upto_if 13 with fail
  go_cut [5] from 9 (fun s5 wc => s5 = .int .i64 ord ∧ Bx wc w.heap.size 76 (.int .i64 a) (.int .i64 b) ∧ Bx wc (w.heap.size + 1) 76 (.int .i64 c) (.int .i64 d) ∧ (∃ (g : Bool) (p : Option Addr) (n c : Nat), Bx wc (w.heap.size + 1 + 1) 27 (.bool g) (.slice p n c) ∧ IsZ wc (.agg #[.bool g, .slice p n c]) FL) ∧ (∃ (g : Bool) (p : Option Addr) (n c : Nat), Bx wc (w.heap.size + 1 + 1 + 1) 27 (.bool g) (.slice p n c) ∧ IsZ wc (.agg #[.bool g, .slice p n c]) CE) ∧ (∃ (g : Bool) (p : Option Addr) (n c : Nat), Bx wc (w.heap.size + 1 + 1 + 1 + 1) 27 (.bool g) (.slice p n c) ∧ IsZ wc (.agg #[.bool g, .slice p n c]) RO) ∧ Below w.heap.size w wc)
  case first =>
    by_cases ha : EA = 0
    · have hab : (EA == 0) = true := by simpa using ha
      have HQL := HQ0.out.1 ha
      have HQ : Hid (a / b = FL ∧ -(-a / b) = CE ∧ rdV a b = RO) := HQL.2
      have HL : Hid ((digs a.natAbs).length ≤ 400000 ∧ (digs b.natAbs).length ≤ 400000 ∧ b ≠ 0 ∧ 1 ≤ b ∧ (digs a.natAbs).length ≤ 100000 ∧ (digs b.natAbs).length ≤ 100000) := by
        have e1 := dlen64 a1 a2
        have e2 := dlen64 b1 b2
        have e3 := HQL.1
        exact ⟨by omega, by omega, by omega, e3, by omega, by omega⟩
      have HO : Hid ((EC = 0 → cmpI (a * d) (c * b) = ord) ∧ (¬ EC = 0 → (0 : Int) = ord)) := HO0.out ha
      clear HQL ha
      go_upto_region 4 with fail
      go_cut [9, 10] from 11 (fun s9 s10 wc => ∃ (Bi Bj : Nat) (gi : Bool) (pi : Option Addr) (ni ci : Nat) (gj : Bool) (pj : Option Addr) (nj cj : Nat), s9 = .pointer (some ⟨Bi, 0, none⟩) ∧ s10 = .pointer (some ⟨Bj, 0, none⟩) ∧ Bx wc Bi 27 (.bool gi) (.slice pi ni ci) ∧ Bx wc Bj 27 (.bool gj) (.slice pj nj cj) ∧ IsZ wc (.agg #[.bool gi, .slice pi ni ci]) a ∧ IsZ wc (.agg #[.bool gj, .slice pj nj cj]) b ∧ Bi ≠ Bj ∧ w.heap.size + 1 + 1 + 1 + 1 < Bi ∧ w.heap.size + 1 + 1 + 1 + 1 < Bj ∧ Bx wc w.heap.size 76 (.int .i64 a) (.int .i64 b) ∧ Bx wc (w.heap.size + 1) 76 (.int .i64 c) (.int .i64 d) ∧ Bx wc (w.heap.size + 1 + 1) 27 (.bool false) (.slice none 0 0) ∧ Bx wc (w.heap.size + 1 + 1 + 1) 27 (.bool false) (.slice none 0 0) ∧ Bx wc (w.heap.size + 1 + 1 + 1 + 1) 27 (.bool false) (.slice none 0 0) ∧ Below w.heap.size w wc)
      case first =>
        refine wp_region_last (S := fun W' => Bx W' (w.heap.size) 76 (.int .i64 a) (.int .i64 b)) (m := 9) (by kernel_rfl) (by kernel_rfl) (by kernel_rfl) (x0.drew) (fun _ => ?_)
        replace x0 := x0.drew
        replace x1 := x1.drew
        replace zd := zd.drew
        replace zu := zu.drew
        replace zn := zn.drew
        replace h0 := Below.drew h0
        generalize W1.drew = W1 at x0 x1 zd zu zn h0 ⊢
        refine wpAnyH_take (i := 0) (v := ?_) rfl (by kernel_rfl) (by kernel_rfl) (by kernel_rfl) (fun _ _ _ h => h) (Or.inl ⟨by kernel_rfl, ?_⟩) (x0) ?_
        rotate_left
        focus (intro W' hSw; have hx0 := hSw; (try dsimp only at hx0); have hc0 := hx0.c0; have hc1 := hx0.c1; clear hx0; go_simp; (try with_reducible rfl))
        (try simp only [Act.put, List.setIfInBounds_toArray, List.set_cons_zero, List.set_cons_succ, List.getElem_toArray, List.getElem_cons_zero, List.getElem_cons_succ])
        refine wpAnyH_take (i := 1) (v := ?_) rfl (by kernel_rfl) (by kernel_rfl) (by kernel_rfl) (fun _ _ _ h => h) (Or.inl ⟨by kernel_rfl, ?_⟩) (x0) ?_
        rotate_left
        focus (intro W' hSw; have hx0 := hSw; (try dsimp only at hx0); have hc0 := hx0.c0; have hc1 := hx0.c1; clear hx0; go_simp; (try with_reducible rfl))
        (try simp only [Act.put, List.setIfInBounds_toArray, List.set_cons_zero, List.set_cons_succ, List.getElem_toArray, List.getElem_cons_zero, List.getElem_cons_succ])
        refine wpAnyH_take (i := 3) (v := ?_) rfl (by kernel_rfl) (by kernel_rfl) (by kernel_rfl) (fun _ _ _ h => h) (Or.inl ⟨by kernel_rfl, ?_⟩) (x0) ?_
        rotate_left
        focus (intro W' hSw; have hx0 := hSw; (try dsimp only at hx0); have hc0 := hx0.c0; have hc1 := hx0.c1; clear hx0; go_simp; (try with_reducible rfl))
        (try simp only [Act.put, List.setIfInBounds_toArray, List.set_cons_zero, List.set_cons_succ, List.getElem_toArray, List.getElem_cons_zero, List.getElem_cons_succ])
        refine wpAnyH_take (i := 4) (v := ?_) rfl (by kernel_rfl) (by kernel_rfl) (by kernel_rfl) (fun _ _ _ h => h) (Or.inl ⟨by kernel_rfl, ?_⟩) (x0) ?_
        rotate_left
        focus (intro W' hSw; have hx0 := hSw; (try dsimp only at hx0); have hc0 := hx0.c0; have hc1 := hx0.c1; clear hx0; go_simp; (try with_reducible rfl))
        (try simp only [Act.put, List.setIfInBounds_toArray, List.set_cons_zero, List.set_cons_succ, List.getElem_toArray, List.getElem_cons_zero, List.getElem_cons_succ])
        refine wpAnyH_ready (rs := [2, 6, 7]) (by kernel_rfl) (by simp) ?_
        refine AllReadyH.cons rfl (fun K hK => ?_) (AllReadyH.cons rfl (fun K hK => ?_) (AllReadyH.cons rfl (fun K hK => ?_) (AllReadyH.nil)))
        · go_simp
          go_at_call 21; refine (i_any a a1 a2 _).mono ?_
          rintro e Wi ⟨u, rfl, hi, hb⟩
          obtain ⟨gi, pi, ni, ci, rfl⟩ := hi.shape
          replace x0 := x0.go hb
          replace x1 := x1.go hb
          replace zd := zd.go hb
          replace zu := zu.go hb
          replace zn := zn.go hb
          replace h0 := bel_go h0 h0.size hb
          clear hb
          refine hK.out _ _ (x0) (fun _ => ?_)
          clear hK K
          (try simp only [Act.put, List.setIfInBounds_toArray, List.set_cons_zero, List.set_cons_succ, List.getElem_toArray, List.getElem_cons_zero, List.getElem_cons_succ])
          refine wpAnyH_ready (rs := [5, 6, 7]) (by kernel_rfl) (by simp) ?_
          refine AllReadyH.cons rfl (fun K hK => ?_) (AllReadyH.cons rfl (fun K hK => ?_) (AllReadyH.cons rfl (fun K hK => ?_) (AllReadyH.nil)))
          · go_simp
            go_at_call 21; refine (i_any b b1 b2 _).mono ?_
            rintro e Wj ⟨u, rfl, hj, hb⟩
            obtain ⟨gj, pj, nj, cj, rfl⟩ := hj.shape
            replace x0 := x0.go hb
            replace x1 := x1.go hb
            replace zd := zd.go hb
            replace zu := zu.go hb
            replace zn := zn.go hb
            replace hi := hi.go hb
            replace h0 := bel_go h0 h0.size hb
            clear hb
            refine hK.out _ _ (x0) (fun _ => ?_)
            clear hK K
            (try simp only [Act.put, List.setIfInBounds_toArray, List.set_cons_zero, List.set_cons_succ, List.getElem_toArray, List.getElem_cons_zero, List.getElem_cons_succ])
            refine wpAnyH_ready (rs := [6, 7]) (by kernel_rfl) (by simp) ?_
            refine AllReadyH.cons rfl (fun K hK => ?_) (AllReadyH.cons rfl (fun K hK => ?_) (AllReadyH.nil))
            · go_simp
              have hal : Below Wj.heap.size Wj (Wj.alloc (.cells #[.bool false, .slice none 0 0] 27)) := (Below.refl _ _).alloc (Nat.le_refl _) _
              have zi := Bx.new Wj 27 (.bool false) (.slice none 0 0)
              have sl_zi := Lib.hid (show w.heap.size ≤ Wj.heap.size from h0.size)
              have l_zi_x0 := Lib.hid x0.lt
              have l_zi_x1 := Lib.hid x1.lt
              have l_zi_zd := Lib.hid zd.lt
              have l_zi_zu := Lib.hid zu.lt
              have l_zi_zn := Lib.hid zn.lt
              replace x0 := x0.go hal
              replace x1 := x1.go hal
              replace zd := zd.go hal
              replace zu := zu.go hal
              replace zn := zn.go hal
              replace hi := hi.go hal
              replace hj := hj.go hal
              replace h0 := bel_go h0 h0.size hal
              clear hal
              generalize Wj.heap.size = Bzi at zi sl_zi l_zi_x0 l_zi_x1 l_zi_zd l_zi_zu l_zi_zn ⊢
              generalize Wj.alloc (.cells #[.bool false, .slice none 0 0] 27) = Vzi at x0 x1 zd zu zn hi hj zi h0 ⊢
              refine hK.out _ _ (x0) (fun _ => ?_)
              clear hK K
              (try simp only [Act.put, List.setIfInBounds_toArray, List.set_cons_zero, List.set_cons_succ, List.getElem_toArray, List.getElem_cons_zero, List.getElem_cons_succ])
              refine wpAnyH_ready (rs := [7]) (by kernel_rfl) (by simp) ?_
              refine AllReadyH.cons rfl (fun K hK => ?_) (AllReadyH.nil)
              go_simp
              have hal : Below Vzi.heap.size Vzi (Vzi.alloc (.cells #[.bool false, .slice none 0 0] 27)) := (Below.refl _ _).alloc (Nat.le_refl _) _
              have zj := Bx.new Vzi 27 (.bool false) (.slice none 0 0)
              have sl_zj := Lib.hid (show w.heap.size ≤ Vzi.heap.size from h0.size)
              have l_zj_x0 := Lib.hid x0.lt
              have l_zj_x1 := Lib.hid x1.lt
              have l_zj_zd := Lib.hid zd.lt
              have l_zj_zu := Lib.hid zu.lt
              have l_zj_zn := Lib.hid zn.lt
              have l_zj_zi := Lib.hid zi.lt
              replace x0 := x0.go hal
              replace x1 := x1.go hal
              replace zd := zd.go hal
              replace zu := zu.go hal
              replace zn := zn.go hal
              replace zi := zi.go hal
              replace hi := hi.go hal
              replace hj := hj.go hal
              replace h0 := bel_go h0 h0.size hal
              clear hal
              generalize Vzi.heap.size = Bzj at zj sl_zj l_zj_x0 l_zj_x1 l_zj_zd l_zj_zu l_zj_zn l_zj_zi ⊢
              generalize Vzi.alloc (.cells #[.bool false, .slice none 0 0] 27) = Vzj at x0 x1 zd zu zn zi hi hj zj h0 ⊢
              refine hK.out _ _ (x0) (fun _ => ?_)
              clear hK K
              (try simp only [Act.put, List.setIfInBounds_toArray, List.set_cons_zero, List.set_cons_succ, List.getElem_toArray, List.getElem_cons_zero, List.getElem_cons_succ])
              refine wpAnyH_ready (rs := [8]) (by kernel_rfl) (by simp) ?_
              refine AllReadyH.cons rfl (fun K hK => ?_) (AllReadyH.nil)
              have hq0 := zi.c0
              have hq1 := zi.c1
              have hr0 := zi.f0
              have hr1 := zi.f1
              go_simp
              clear hq0 hq1 hr0 hr1
              have hP := put2 Vzj (Bzi) (.bool gi) (.slice pi ni ci)
              have hN := zi.stored (.bool gi) (.slice pi ni ci)
              generalize (Vzj.setCell ⟨Bzi, 0, none⟩ (.bool gi)).setCell ⟨Bzi, 1, none⟩ (.slice pi ni ci) = V8 at hP hN ⊢
              replace h0 := bel_put h0 (by have := sl_zi.out; omega) hP
              replace x0 := x0.put hP (by have := l_zi_x0.out; omega)
              replace x1 := x1.put hP (by have := l_zi_x1.out; omega)
              replace zd := zd.put hP (by have := l_zi_zd.out; omega)
              replace zu := zu.put hP (by have := l_zi_zu.out; omega)
              replace zn := zn.put hP (by have := l_zi_zn.out; omega)
              replace zj := zj.put hP (by have := l_zj_zi.out; omega)
              replace hi := hi.put zi (by decide) hP
              replace hj := hj.put zi (by decide) hP
              clear hP zi
              have zi := hN
              clear hN
              refine hK.out _ _ (x0) (fun _ => ?_)
              clear hK K
              (try simp only [Act.put, List.setIfInBounds_toArray, List.set_cons_zero, List.set_cons_succ, List.getElem_toArray, List.getElem_cons_zero, List.getElem_cons_succ])
              refine wpAnyH_done (by kernel_rfl) ?_ _
              refine still1_step rfl (fun K hK => ?_)
              have hq0 := zj.c0
              have hq1 := zj.c1
              have hr0 := zj.f0
              have hr1 := zj.f1
              go_simp
              clear hq0 hq1 hr0 hr1
              have hP := put2 V8 (Bzj) (.bool gj) (.slice pj nj cj)
              have hN := zj.stored (.bool gj) (.slice pj nj cj)
              generalize (V8.setCell ⟨Bzj, 0, none⟩ (.bool gj)).setCell ⟨Bzj, 1, none⟩ (.slice pj nj cj) = V9 at hP hN ⊢
              replace h0 := bel_put h0 (by have := sl_zj.out; omega) hP
              replace x0 := x0.put hP (by have := l_zj_x0.out; omega)
              replace x1 := x1.put hP (by have := l_zj_x1.out; omega)
              replace zd := zd.put hP (by have := l_zj_zd.out; omega)
              replace zu := zu.put hP (by have := l_zj_zu.out; omega)
              replace zn := zn.put hP (by have := l_zj_zn.out; omega)
              replace zi := zi.put hP (by have := l_zj_zi.out; omega)
              replace hi := hi.put zj (by decide) hP
              replace hj := hj.put zj (by decide) hP
              clear hP zj
              have zj := hN
              clear hN
              refine hK.out _ _ ?_
              clear hK K
              (try simp only [Act.put, List.setIfInBounds_toArray, List.set_cons_zero, List.set_cons_succ, List.getElem_toArray, List.getElem_cons_zero, List.getElem_cons_succ])
              go_wp2_with fail
              go_meet
              case rel => exact ⟨_, _, _, _, _, _, _, _, _, _, rfl, rfl, zi, zj, hi, hj, (by have := l_zj_zi.out; omega), (by have := l_zi_zn.out; omega), (by have := l_zj_zn.out; omega), x0, x1, zd, zu, zn, h0⟩
            · go_simp
              have hal : Below Wj.heap.size Wj (Wj.alloc (.cells #[.bool false, .slice none 0 0] 27)) := (Below.refl _ _).alloc (Nat.le_refl _) _
              have zj := Bx.new Wj 27 (.bool false) (.slice none 0 0)
              have sl_zj := Lib.hid (show w.heap.size ≤ Wj.heap.size from h0.size)
              have l_zj_x0 := Lib.hid x0.lt
              have l_zj_x1 := Lib.hid x1.lt
              have l_zj_zd := Lib.hid zd.lt
              have l_zj_zu := Lib.hid zu.lt
              have l_zj_zn := Lib.hid zn.lt
              replace x0 := x0.go hal
              replace x1 := x1.go hal
              replace zd := zd.go hal
              replace zu := zu.go hal
              replace zn := zn.go hal
              replace hi := hi.go hal
              replace hj := hj.go hal
              replace h0 := bel_go h0 h0.size hal
              clear hal
              generalize Wj.heap.size = Bzj at zj sl_zj l_zj_x0 l_zj_x1 l_zj_zd l_zj_zu l_zj_zn ⊢
              generalize Wj.alloc (.cells #[.bool false, .slice none 0 0] 27) = Vzj at x0 x1 zd zu zn hi hj zj h0 ⊢
              refine hK.out _ _ (x0) (fun _ => ?_)
              clear hK K
              (try simp only [Act.put, List.setIfInBounds_toArray, List.set_cons_zero, List.set_cons_succ, List.getElem_toArray, List.getElem_cons_zero, List.getElem_cons_succ])
              refine wpAnyH_ready (rs := [6]) (by kernel_rfl) (by simp) ?_
              refine AllReadyH.cons rfl (fun K hK => ?_) (AllReadyH.nil)
              go_simp
              have hal : Below Vzj.heap.size Vzj (Vzj.alloc (.cells #[.bool false, .slice none 0 0] 27)) := (Below.refl _ _).alloc (Nat.le_refl _) _
              have zi := Bx.new Vzj 27 (.bool false) (.slice none 0 0)
              have sl_zi := Lib.hid (show w.heap.size ≤ Vzj.heap.size from h0.size)
              have l_zi_x0 := Lib.hid x0.lt
              have l_zi_x1 := Lib.hid x1.lt
              have l_zi_zd := Lib.hid zd.lt
              have l_zi_zu := Lib.hid zu.lt
              have l_zi_zn := Lib.hid zn.lt
              have l_zi_zj := Lib.hid zj.lt
              replace x0 := x0.go hal
              replace x1 := x1.go hal
              replace zd := zd.go hal
              replace zu := zu.go hal
              replace zn := zn.go hal
              replace zj := zj.go hal
              replace hi := hi.go hal
              replace hj := hj.go hal
              replace h0 := bel_go h0 h0.size hal
              clear hal
              generalize Vzj.heap.size = Bzi at zi sl_zi l_zi_x0 l_zi_x1 l_zi_zd l_zi_zu l_zi_zn l_zi_zj ⊢
              generalize Vzj.alloc (.cells #[.bool false, .slice none 0 0] 27) = Vzi at x0 x1 zd zu zn zj hi hj zi h0 ⊢
              refine hK.out _ _ (x0) (fun _ => ?_)
              clear hK K
              (try simp only [Act.put, List.setIfInBounds_toArray, List.set_cons_zero, List.set_cons_succ, List.getElem_toArray, List.getElem_cons_zero, List.getElem_cons_succ])
              refine wpAnyH_ready (rs := [8]) (by kernel_rfl) (by simp) ?_
              refine AllReadyH.cons rfl (fun K hK => ?_) (AllReadyH.nil)
              have hq0 := zi.c0
              have hq1 := zi.c1
              have hr0 := zi.f0
              have hr1 := zi.f1
              go_simp
              clear hq0 hq1 hr0 hr1
              have hP := put2 Vzi (Bzi) (.bool gi) (.slice pi ni ci)
              have hN := zi.stored (.bool gi) (.slice pi ni ci)
              generalize (Vzi.setCell ⟨Bzi, 0, none⟩ (.bool gi)).setCell ⟨Bzi, 1, none⟩ (.slice pi ni ci) = V8 at hP hN ⊢
              replace h0 := bel_put h0 (by have := sl_zi.out; omega) hP
              replace x0 := x0.put hP (by have := l_zi_x0.out; omega)
              replace x1 := x1.put hP (by have := l_zi_x1.out; omega)
              replace zd := zd.put hP (by have := l_zi_zd.out; omega)
              replace zu := zu.put hP (by have := l_zi_zu.out; omega)
              replace zn := zn.put hP (by have := l_zi_zn.out; omega)
              replace zj := zj.put hP (by have := l_zi_zj.out; omega)
              replace hi := hi.put zi (by decide) hP
              replace hj := hj.put zi (by decide) hP
              clear hP zi
              have zi := hN
              clear hN
              refine hK.out _ _ (x0) (fun _ => ?_)
              clear hK K
              (try simp only [Act.put, List.setIfInBounds_toArray, List.set_cons_zero, List.set_cons_succ, List.getElem_toArray, List.getElem_cons_zero, List.getElem_cons_succ])
              refine wpAnyH_done (by kernel_rfl) ?_ _
              refine still1_step rfl (fun K hK => ?_)
              have hq0 := zj.c0
              have hq1 := zj.c1
              have hr0 := zj.f0
              have hr1 := zj.f1
              go_simp
              clear hq0 hq1 hr0 hr1
              have hP := put2 V8 (Bzj) (.bool gj) (.slice pj nj cj)
              have hN := zj.stored (.bool gj) (.slice pj nj cj)
              generalize (V8.setCell ⟨Bzj, 0, none⟩ (.bool gj)).setCell ⟨Bzj, 1, none⟩ (.slice pj nj cj) = V9 at hP hN ⊢
              replace h0 := bel_put h0 (by have := sl_zj.out; omega) hP
              replace x0 := x0.put hP (by have := l_zj_x0.out; omega)
              replace x1 := x1.put hP (by have := l_zj_x1.out; omega)
              replace zd := zd.put hP (by have := l_zj_zd.out; omega)
              replace zu := zu.put hP (by have := l_zj_zu.out; omega)
              replace zn := zn.put hP (by have := l_zj_zn.out; omega)
              replace zi := zi.put hP (by have := l_zi_zj.out; omega)
              replace hi := hi.put zj (by decide) hP
              replace hj := hj.put zj (by decide) hP
              clear hP zj
              have zj := hN
              clear hN
              refine hK.out _ _ ?_
              clear hK K
              (try simp only [Act.put, List.setIfInBounds_toArray, List.set_cons_zero, List.set_cons_succ, List.getElem_toArray, List.getElem_cons_zero, List.getElem_cons_succ])
              go_wp2_with fail
              go_meet
              case rel => exact ⟨_, _, _, _, _, _, _, _, _, _, rfl, rfl, zi, zj, hi, hj, (by have := l_zi_zj.out; omega), (by have := l_zi_zn.out; omega), (by have := l_zj_zn.out; omega), x0, x1, zd, zu, zn, h0⟩
          · go_simp
            have hal : Below Wi.heap.size Wi (Wi.alloc (.cells #[.bool false, .slice none 0 0] 27)) := (Below.refl _ _).alloc (Nat.le_refl _) _
            have zi := Bx.new Wi 27 (.bool false) (.slice none 0 0)
            have sl_zi := Lib.hid (show w.heap.size ≤ Wi.heap.size from h0.size)
            have l_zi_x0 := Lib.hid x0.lt
            have l_zi_x1 := Lib.hid x1.lt
            have l_zi_zd := Lib.hid zd.lt
            have l_zi_zu := Lib.hid zu.lt
            have l_zi_zn := Lib.hid zn.lt
            replace x0 := x0.go hal
            replace x1 := x1.go hal
            replace zd := zd.go hal
            replace zu := zu.go hal
            replace zn := zn.go hal
            replace hi := hi.go hal
            replace h0 := bel_go h0 h0.size hal
            clear hal
            generalize Wi.heap.size = Bzi at zi sl_zi l_zi_x0 l_zi_x1 l_zi_zd l_zi_zu l_zi_zn ⊢
            generalize Wi.alloc (.cells #[.bool false, .slice none 0 0] 27) = Vzi at x0 x1 zd zu zn hi zi h0 ⊢
            refine hK.out _ _ (x0) (fun _ => ?_)
            clear hK K
            (try simp only [Act.put, List.setIfInBounds_toArray, List.set_cons_zero, List.set_cons_succ, List.getElem_toArray, List.getElem_cons_zero, List.getElem_cons_succ])
            refine wpAnyH_ready (rs := [5, 7]) (by kernel_rfl) (by simp) ?_
            refine AllReadyH.cons rfl (fun K hK => ?_) (AllReadyH.cons rfl (fun K hK => ?_) (AllReadyH.nil))
            · go_simp
              go_at_call 21; refine (i_any b b1 b2 _).mono ?_
              rintro e Wj ⟨u, rfl, hj, hb⟩
              obtain ⟨gj, pj, nj, cj, rfl⟩ := hj.shape
              replace x0 := x0.go hb
              replace x1 := x1.go hb
              replace zd := zd.go hb
              replace zu := zu.go hb
              replace zn := zn.go hb
              replace zi := zi.go hb
              replace hi := hi.go hb
              replace h0 := bel_go h0 h0.size hb
              clear hb
              refine hK.out _ _ (x0) (fun _ => ?_)
              clear hK K
              (try simp only [Act.put, List.setIfInBounds_toArray, List.set_cons_zero, List.set_cons_succ, List.getElem_toArray, List.getElem_cons_zero, List.getElem_cons_succ])
              refine wpAnyH_ready (rs := [7]) (by kernel_rfl) (by simp) ?_
              refine AllReadyH.cons rfl (fun K hK => ?_) (AllReadyH.nil)
              go_simp
              have hal : Below Wj.heap.size Wj (Wj.alloc (.cells #[.bool false, .slice none 0 0] 27)) := (Below.refl _ _).alloc (Nat.le_refl _) _
              have zj := Bx.new Wj 27 (.bool false) (.slice none 0 0)
              have sl_zj := Lib.hid (show w.heap.size ≤ Wj.heap.size from h0.size)
              have l_zj_x0 := Lib.hid x0.lt
              have l_zj_x1 := Lib.hid x1.lt
              have l_zj_zd := Lib.hid zd.lt
              have l_zj_zu := Lib.hid zu.lt
              have l_zj_zn := Lib.hid zn.lt
              have l_zj_zi := Lib.hid zi.lt
              replace x0 := x0.go hal
              replace x1 := x1.go hal
              replace zd := zd.go hal
              replace zu := zu.go hal
              replace zn := zn.go hal
              replace zi := zi.go hal
              replace hi := hi.go hal
              replace hj := hj.go hal
              replace h0 := bel_go h0 h0.size hal
              clear hal
              generalize Wj.heap.size = Bzj at zj sl_zj l_zj_x0 l_zj_x1 l_zj_zd l_zj_zu l_zj_zn l_zj_zi ⊢
              generalize Wj.alloc (.cells #[.bool false, .slice none 0 0] 27) = Vzj at x0 x1 zd zu zn zi hi hj zj h0 ⊢
              refine hK.out _ _ (x0) (fun _ => ?_)
              clear hK K
              (try simp only [Act.put, List.setIfInBounds_toArray, List.set_cons_zero, List.set_cons_succ, List.getElem_toArray, List.getElem_cons_zero, List.getElem_cons_succ])
              refine wpAnyH_ready (rs := [8]) (by kernel_rfl) (by simp) ?_
              refine AllReadyH.cons rfl (fun K hK => ?_) (AllReadyH.nil)
              have hq0 := zi.c0
              have hq1 := zi.c1
              have hr0 := zi.f0
              have hr1 := zi.f1
              go_simp
              clear hq0 hq1 hr0 hr1
              have hP := put2 Vzj (Bzi) (.bool gi) (.slice pi ni ci)
              have hN := zi.stored (.bool gi) (.slice pi ni ci)
              generalize (Vzj.setCell ⟨Bzi, 0, none⟩ (.bool gi)).setCell ⟨Bzi, 1, none⟩ (.slice pi ni ci) = V8 at hP hN ⊢
              replace h0 := bel_put h0 (by have := sl_zi.out; omega) hP
              replace x0 := x0.put hP (by have := l_zi_x0.out; omega)
              replace x1 := x1.put hP (by have := l_zi_x1.out; omega)
              replace zd := zd.put hP (by have := l_zi_zd.out; omega)
              replace zu := zu.put hP (by have := l_zi_zu.out; omega)
              replace zn := zn.put hP (by have := l_zi_zn.out; omega)
              replace zj := zj.put hP (by have := l_zj_zi.out; omega)
              replace hi := hi.put zi (by decide) hP
              replace hj := hj.put zi (by decide) hP
              clear hP zi
              have zi := hN
              clear hN
              refine hK.out _ _ (x0) (fun _ => ?_)
              clear hK K
              (try simp only [Act.put, List.setIfInBounds_toArray, List.set_cons_zero, List.set_cons_succ, List.getElem_toArray, List.getElem_cons_zero, List.getElem_cons_succ])
              refine wpAnyH_done (by kernel_rfl) ?_ _
              refine still1_step rfl (fun K hK => ?_)
              have hq0 := zj.c0
              have hq1 := zj.c1
              have hr0 := zj.f0
              have hr1 := zj.f1
              go_simp
              clear hq0 hq1 hr0 hr1
              have hP := put2 V8 (Bzj) (.bool gj) (.slice pj nj cj)
              have hN := zj.stored (.bool gj) (.slice pj nj cj)
              generalize (V8.setCell ⟨Bzj, 0, none⟩ (.bool gj)).setCell ⟨Bzj, 1, none⟩ (.slice pj nj cj) = V9 at hP hN ⊢
              replace h0 := bel_put h0 (by have := sl_zj.out; omega) hP
              replace x0 := x0.put hP (by have := l_zj_x0.out; omega)
              replace x1 := x1.put hP (by have := l_zj_x1.out; omega)
              replace zd := zd.put hP (by have := l_zj_zd.out; omega)
              replace zu := zu.put hP (by have := l_zj_zu.out; omega)
              replace zn := zn.put hP (by have := l_zj_zn.out; omega)
              replace zi := zi.put hP (by have := l_zj_zi.out; omega)
              replace hi := hi.put zj (by decide) hP
              replace hj := hj.put zj (by decide) hP
              clear hP zj
              have zj := hN
              clear hN
              refine hK.out _ _ ?_
              clear hK K
              (try simp only [Act.put, List.setIfInBounds_toArray, List.set_cons_zero, List.set_cons_succ, List.getElem_toArray, List.getElem_cons_zero, List.getElem_cons_succ])
              go_wp2_with fail
              go_meet
              case rel => exact ⟨_, _, _, _, _, _, _, _, _, _, rfl, rfl, zi, zj, hi, hj, (by have := l_zj_zi.out; omega), (by have := l_zi_zn.out; omega), (by have := l_zj_zn.out; omega), x0, x1, zd, zu, zn, h0⟩
            · go_simp
              have hal : Below Vzi.heap.size Vzi (Vzi.alloc (.cells #[.bool false, .slice none 0 0] 27)) := (Below.refl _ _).alloc (Nat.le_refl _) _
              have zj := Bx.new Vzi 27 (.bool false) (.slice none 0 0)
              have sl_zj := Lib.hid (show w.heap.size ≤ Vzi.heap.size from h0.size)
              have l_zj_x0 := Lib.hid x0.lt
              have l_zj_x1 := Lib.hid x1.lt
              have l_zj_zd := Lib.hid zd.lt
              have l_zj_zu := Lib.hid zu.lt
              have l_zj_zn := Lib.hid zn.lt
              have l_zj_zi := Lib.hid zi.lt
              replace x0 := x0.go hal
              replace x1 := x1.go hal
              replace zd := zd.go hal
              replace zu := zu.go hal
              replace zn := zn.go hal
              replace zi := zi.go hal
              replace hi := hi.go hal
              replace h0 := bel_go h0 h0.size hal
              clear hal
              generalize Vzi.heap.size = Bzj at zj sl_zj l_zj_x0 l_zj_x1 l_zj_zd l_zj_zu l_zj_zn l_zj_zi ⊢
              generalize Vzi.alloc (.cells #[.bool false, .slice none 0 0] 27) = Vzj at x0 x1 zd zu zn zi hi zj h0 ⊢
              refine hK.out _ _ (x0) (fun _ => ?_)
              clear hK K
              (try simp only [Act.put, List.setIfInBounds_toArray, List.set_cons_zero, List.set_cons_succ, List.getElem_toArray, List.getElem_cons_zero, List.getElem_cons_succ])
              refine wpAnyH_ready (rs := [5]) (by kernel_rfl) (by simp) ?_
              refine AllReadyH.cons rfl (fun K hK => ?_) (AllReadyH.nil)
              go_simp
              go_at_call 21; refine (i_any b b1 b2 _).mono ?_
              rintro e Wj ⟨u, rfl, hj, hb⟩
              obtain ⟨gj, pj, nj, cj, rfl⟩ := hj.shape
              replace x0 := x0.go hb
              replace x1 := x1.go hb
              replace zd := zd.go hb
              replace zu := zu.go hb
              replace zn := zn.go hb
              replace zi := zi.go hb
              replace zj := zj.go hb
              replace hi := hi.go hb
              replace h0 := bel_go h0 h0.size hb
              clear hb
              refine hK.out _ _ (x0) (fun _ => ?_)
              clear hK K
              (try simp only [Act.put, List.setIfInBounds_toArray, List.set_cons_zero, List.set_cons_succ, List.getElem_toArray, List.getElem_cons_zero, List.getElem_cons_succ])
              refine wpAnyH_ready (rs := [8]) (by kernel_rfl) (by simp) ?_
              refine AllReadyH.cons rfl (fun K hK => ?_) (AllReadyH.nil)
              have hq0 := zi.c0
              have hq1 := zi.c1
              have hr0 := zi.f0
              have hr1 := zi.f1
              go_simp
              clear hq0 hq1 hr0 hr1
              have hP := put2 Wj (Bzi) (.bool gi) (.slice pi ni ci)
              have hN := zi.stored (.bool gi) (.slice pi ni ci)
              generalize (Wj.setCell ⟨Bzi, 0, none⟩ (.bool gi)).setCell ⟨Bzi, 1, none⟩ (.slice pi ni ci) = V8 at hP hN ⊢
              replace h0 := bel_put h0 (by have := sl_zi.out; omega) hP
              replace x0 := x0.put hP (by have := l_zi_x0.out; omega)
              replace x1 := x1.put hP (by have := l_zi_x1.out; omega)
              replace zd := zd.put hP (by have := l_zi_zd.out; omega)
              replace zu := zu.put hP (by have := l_zi_zu.out; omega)
              replace zn := zn.put hP (by have := l_zi_zn.out; omega)
              replace zj := zj.put hP (by have := l_zj_zi.out; omega)
              replace hi := hi.put zi (by decide) hP
              replace hj := hj.put zi (by decide) hP
              clear hP zi
              have zi := hN
              clear hN
              refine hK.out _ _ (x0) (fun _ => ?_)
              clear hK K
              (try simp only [Act.put, List.setIfInBounds_toArray, List.set_cons_zero, List.set_cons_succ, List.getElem_toArray, List.getElem_cons_zero, List.getElem_cons_succ])
              refine wpAnyH_done (by kernel_rfl) ?_ _
              refine still1_step rfl (fun K hK => ?_)
              have hq0 := zj.c0
              have hq1 := zj.c1
              have hr0 := zj.f0
              have hr1 := zj.f1
              go_simp
              clear hq0 hq1 hr0 hr1
              have hP := put2 V8 (Bzj) (.bool gj) (.slice pj nj cj)
              have hN := zj.stored (.bool gj) (.slice pj nj cj)
              generalize (V8.setCell ⟨Bzj, 0, none⟩ (.bool gj)).setCell ⟨Bzj, 1, none⟩ (.slice pj nj cj) = V9 at hP hN ⊢
              replace h0 := bel_put h0 (by have := sl_zj.out; omega) hP
              replace x0 := x0.put hP (by have := l_zj_x0.out; omega)
              replace x1 := x1.put hP (by have := l_zj_x1.out; omega)
              replace zd := zd.put hP (by have := l_zj_zd.out; omega)
              replace zu := zu.put hP (by have := l_zj_zu.out; omega)
              replace zn := zn.put hP (by have := l_zj_zn.out; omega)
              replace zi := zi.put hP (by have := l_zj_zi.out; omega)
              replace hi := hi.put zj (by decide) hP
              replace hj := hj.put zj (by decide) hP
              clear hP zj
              have zj := hN
              clear hN
              refine hK.out _ _ ?_
              clear hK K
              (try simp only [Act.put, List.setIfInBounds_toArray, List.set_cons_zero, List.set_cons_succ, List.getElem_toArray, List.getElem_cons_zero, List.getElem_cons_succ])
              go_wp2_with fail
              go_meet
              case rel => exact ⟨_, _, _, _, _, _, _, _, _, _, rfl, rfl, zi, zj, hi, hj, (by have := l_zj_zi.out; omega), (by have := l_zi_zn.out; omega), (by have := l_zj_zn.out; omega), x0, x1, zd, zu, zn, h0⟩
          · go_simp
            have hal : Below Wi.heap.size Wi (Wi.alloc (.cells #[.bool false, .slice none 0 0] 27)) := (Below.refl _ _).alloc (Nat.le_refl _) _
            have zj := Bx.new Wi 27 (.bool false) (.slice none 0 0)
            have sl_zj := Lib.hid (show w.heap.size ≤ Wi.heap.size from h0.size)
            have l_zj_x0 := Lib.hid x0.lt
            have l_zj_x1 := Lib.hid x1.lt
            have l_zj_zd := Lib.hid zd.lt
            have l_zj_zu := Lib.hid zu.lt
            have l_zj_zn := Lib.hid zn.lt
            replace x0 := x0.go hal
            replace x1 := x1.go hal
            replace zd := zd.go hal
            replace zu := zu.go hal
            replace zn := zn.go hal
            replace hi := hi.go hal
            replace h0 := bel_go h0 h0.size hal
            clear hal
            generalize Wi.heap.size = Bzj at zj sl_zj l_zj_x0 l_zj_x1 l_zj_zd l_zj_zu l_zj_zn ⊢
            generalize Wi.alloc (.cells #[.bool false, .slice none 0 0] 27) = Vzj at x0 x1 zd zu zn hi zj h0 ⊢
            refine hK.out _ _ (x0) (fun _ => ?_)
            clear hK K
            (try simp only [Act.put, List.setIfInBounds_toArray, List.set_cons_zero, List.set_cons_succ, List.getElem_toArray, List.getElem_cons_zero, List.getElem_cons_succ])
            refine wpAnyH_ready (rs := [5, 6]) (by kernel_rfl) (by simp) ?_
            refine AllReadyH.cons rfl (fun K hK => ?_) (AllReadyH.cons rfl (fun K hK => ?_) (AllReadyH.nil))
            · go_simp
              go_at_call 21; refine (i_any b b1 b2 _).mono ?_
              rintro e Wj ⟨u, rfl, hj, hb⟩
              obtain ⟨gj, pj, nj, cj, rfl⟩ := hj.shape
              replace x0 := x0.go hb
              replace x1 := x1.go hb
              replace zd := zd.go hb
              replace zu := zu.go hb
              replace zn := zn.go hb
              replace zj := zj.go hb
              replace hi := hi.go hb
              replace h0 := bel_go h0 h0.size hb
              clear hb
              refine hK.out _ _ (x0) (fun _ => ?_)
              clear hK K
              (try simp only [Act.put, List.setIfInBounds_toArray, List.set_cons_zero, List.set_cons_succ, List.getElem_toArray, List.getElem_cons_zero, List.getElem_cons_succ])
              refine wpAnyH_ready (rs := [6]) (by kernel_rfl) (by simp) ?_
              refine AllReadyH.cons rfl (fun K hK => ?_) (AllReadyH.nil)
              go_simp
              have hal : Below Wj.heap.size Wj (Wj.alloc (.cells #[.bool false, .slice none 0 0] 27)) := (Below.refl _ _).alloc (Nat.le_refl _) _
              have zi := Bx.new Wj 27 (.bool false) (.slice none 0 0)
              have sl_zi := Lib.hid (show w.heap.size ≤ Wj.heap.size from h0.size)
              have l_zi_x0 := Lib.hid x0.lt
              have l_zi_x1 := Lib.hid x1.lt
              have l_zi_zd := Lib.hid zd.lt
              have l_zi_zu := Lib.hid zu.lt
              have l_zi_zn := Lib.hid zn.lt
              have l_zi_zj := Lib.hid zj.lt
              replace x0 := x0.go hal
              replace x1 := x1.go hal
              replace zd := zd.go hal
              replace zu := zu.go hal
              replace zn := zn.go hal
              replace zj := zj.go hal
              replace hi := hi.go hal
              replace hj := hj.go hal
              replace h0 := bel_go h0 h0.size hal
              clear hal
              generalize Wj.heap.size = Bzi at zi sl_zi l_zi_x0 l_zi_x1 l_zi_zd l_zi_zu l_zi_zn l_zi_zj ⊢
              generalize Wj.alloc (.cells #[.bool false, .slice none 0 0] 27) = Vzi at x0 x1 zd zu zn zj hi hj zi h0 ⊢
              refine hK.out _ _ (x0) (fun _ => ?_)
              clear hK K
              (try simp only [Act.put, List.setIfInBounds_toArray, List.set_cons_zero, List.set_cons_succ, List.getElem_toArray, List.getElem_cons_zero, List.getElem_cons_succ])
              refine wpAnyH_ready (rs := [8]) (by kernel_rfl) (by simp) ?_
              refine AllReadyH.cons rfl (fun K hK => ?_) (AllReadyH.nil)
              have hq0 := zi.c0
              have hq1 := zi.c1
              have hr0 := zi.f0
              have hr1 := zi.f1
              go_simp
              clear hq0 hq1 hr0 hr1
              have hP := put2 Vzi (Bzi) (.bool gi) (.slice pi ni ci)
              have hN := zi.stored (.bool gi) (.slice pi ni ci)
              generalize (Vzi.setCell ⟨Bzi, 0, none⟩ (.bool gi)).setCell ⟨Bzi, 1, none⟩ (.slice pi ni ci) = V8 at hP hN ⊢
              replace h0 := bel_put h0 (by have := sl_zi.out; omega) hP
              replace x0 := x0.put hP (by have := l_zi_x0.out; omega)
              replace x1 := x1.put hP (by have := l_zi_x1.out; omega)
              replace zd := zd.put hP (by have := l_zi_zd.out; omega)
              replace zu := zu.put hP (by have := l_zi_zu.out; omega)
              replace zn := zn.put hP (by have := l_zi_zn.out; omega)
              replace zj := zj.put hP (by have := l_zi_zj.out; omega)
              replace hi := hi.put zi (by decide) hP
              replace hj := hj.put zi (by decide) hP
              clear hP zi
              have zi := hN
              clear hN
              refine hK.out _ _ (x0) (fun _ => ?_)
              clear hK K
              (try simp only [Act.put, List.setIfInBounds_toArray, List.set_cons_zero, List.set_cons_succ, List.getElem_toArray, List.getElem_cons_zero, List.getElem_cons_succ])
              refine wpAnyH_done (by kernel_rfl) ?_ _
              refine still1_step rfl (fun K hK => ?_)
              have hq0 := zj.c0
              have hq1 := zj.c1
              have hr0 := zj.f0
              have hr1 := zj.f1
              go_simp
              clear hq0 hq1 hr0 hr1
              have hP := put2 V8 (Bzj) (.bool gj) (.slice pj nj cj)
              have hN := zj.stored (.bool gj) (.slice pj nj cj)
              generalize (V8.setCell ⟨Bzj, 0, none⟩ (.bool gj)).setCell ⟨Bzj, 1, none⟩ (.slice pj nj cj) = V9 at hP hN ⊢
              replace h0 := bel_put h0 (by have := sl_zj.out; omega) hP
              replace x0 := x0.put hP (by have := l_zj_x0.out; omega)
              replace x1 := x1.put hP (by have := l_zj_x1.out; omega)
              replace zd := zd.put hP (by have := l_zj_zd.out; omega)
              replace zu := zu.put hP (by have := l_zj_zu.out; omega)
              replace zn := zn.put hP (by have := l_zj_zn.out; omega)
              replace zi := zi.put hP (by have := l_zi_zj.out; omega)
              replace hi := hi.put zj (by decide) hP
              replace hj := hj.put zj (by decide) hP
              clear hP zj
              have zj := hN
              clear hN
              refine hK.out _ _ ?_
              clear hK K
              (try simp only [Act.put, List.setIfInBounds_toArray, List.set_cons_zero, List.set_cons_succ, List.getElem_toArray, List.getElem_cons_zero, List.getElem_cons_succ])
              go_wp2_with fail
              go_meet
              case rel => exact ⟨_, _, _, _, _, _, _, _, _, _, rfl, rfl, zi, zj, hi, hj, (by have := l_zi_zj.out; omega), (by have := l_zi_zn.out; omega), (by have := l_zj_zn.out; omega), x0, x1, zd, zu, zn, h0⟩
            · go_simp
              have hal : Below Vzj.heap.size Vzj (Vzj.alloc (.cells #[.bool false, .slice none 0 0] 27)) := (Below.refl _ _).alloc (Nat.le_refl _) _
              have zi := Bx.new Vzj 27 (.bool false) (.slice none 0 0)
              have sl_zi := Lib.hid (show w.heap.size ≤ Vzj.heap.size from h0.size)
              have l_zi_x0 := Lib.hid x0.lt
              have l_zi_x1 := Lib.hid x1.lt
              have l_zi_zd := Lib.hid zd.lt
              have l_zi_zu := Lib.hid zu.lt
              have l_zi_zn := Lib.hid zn.lt
              have l_zi_zj := Lib.hid zj.lt
              replace x0 := x0.go hal
              replace x1 := x1.go hal
              replace zd := zd.go hal
              replace zu := zu.go hal
              replace zn := zn.go hal
              replace zj := zj.go hal
              replace hi := hi.go hal
              replace h0 := bel_go h0 h0.size hal
              clear hal
              generalize Vzj.heap.size = Bzi at zi sl_zi l_zi_x0 l_zi_x1 l_zi_zd l_zi_zu l_zi_zn l_zi_zj ⊢
              generalize Vzj.alloc (.cells #[.bool false, .slice none 0 0] 27) = Vzi at x0 x1 zd zu zn zj hi zi h0 ⊢
              refine hK.out _ _ (x0) (fun _ => ?_)
              clear hK K
              (try simp only [Act.put, List.setIfInBounds_toArray, List.set_cons_zero, List.set_cons_succ, List.getElem_toArray, List.getElem_cons_zero, List.getElem_cons_succ])
              refine wpAnyH_ready (rs := [5]) (by kernel_rfl) (by simp) ?_
              refine AllReadyH.cons rfl (fun K hK => ?_) (AllReadyH.nil)
              go_simp
              go_at_call 21; refine (i_any b b1 b2 _).mono ?_
              rintro e Wj ⟨u, rfl, hj, hb⟩
              obtain ⟨gj, pj, nj, cj, rfl⟩ := hj.shape
              replace x0 := x0.go hb
              replace x1 := x1.go hb
              replace zd := zd.go hb
              replace zu := zu.go hb
              replace zn := zn.go hb
              replace zj := zj.go hb
              replace zi := zi.go hb
              replace hi := hi.go hb
              replace h0 := bel_go h0 h0.size hb
              clear hb
              refine hK.out _ _ (x0) (fun _ => ?_)
              clear hK K
              (try simp only [Act.put, List.setIfInBounds_toArray, List.set_cons_zero, List.set_cons_succ, List.getElem_toArray, List.getElem_cons_zero, List.getElem_cons_succ])
              refine wpAnyH_ready (rs := [8]) (by kernel_rfl) (by simp) ?_
              refine AllReadyH.cons rfl (fun K hK => ?_) (AllReadyH.nil)
              have hq0 := zi.c0
              have hq1 := zi.c1
              have hr0 := zi.f0
              have hr1 := zi.f1
              go_simp
              clear hq0 hq1 hr0 hr1
              have hP := put2 Wj (Bzi) (.bool gi) (.slice pi ni ci)
              have hN := zi.stored (.bool gi) (.slice pi ni ci)
              generalize (Wj.setCell ⟨Bzi, 0, none⟩ (.bool gi)).setCell ⟨Bzi, 1, none⟩ (.slice pi ni ci) = V8 at hP hN ⊢
              replace h0 := bel_put h0 (by have := sl_zi.out; omega) hP
              replace x0 := x0.put hP (by have := l_zi_x0.out; omega)
              replace x1 := x1.put hP (by have := l_zi_x1.out; omega)
              replace zd := zd.put hP (by have := l_zi_zd.out; omega)
              replace zu := zu.put hP (by have := l_zi_zu.out; omega)
              replace zn := zn.put hP (by have := l_zi_zn.out; omega)
              replace zj := zj.put hP (by have := l_zi_zj.out; omega)
              replace hi := hi.put zi (by decide) hP
              replace hj := hj.put zi (by decide) hP
              clear hP zi
              have zi := hN
              clear hN
              refine hK.out _ _ (x0) (fun _ => ?_)
              clear hK K
              (try simp only [Act.put, List.setIfInBounds_toArray, List.set_cons_zero, List.set_cons_succ, List.getElem_toArray, List.getElem_cons_zero, List.getElem_cons_succ])
              refine wpAnyH_done (by kernel_rfl) ?_ _
              refine still1_step rfl (fun K hK => ?_)
              have hq0 := zj.c0
              have hq1 := zj.c1
              have hr0 := zj.f0
              have hr1 := zj.f1
              go_simp
              clear hq0 hq1 hr0 hr1
              have hP := put2 V8 (Bzj) (.bool gj) (.slice pj nj cj)
              have hN := zj.stored (.bool gj) (.slice pj nj cj)
              generalize (V8.setCell ⟨Bzj, 0, none⟩ (.bool gj)).setCell ⟨Bzj, 1, none⟩ (.slice pj nj cj) = V9 at hP hN ⊢
              replace h0 := bel_put h0 (by have := sl_zj.out; omega) hP
              replace x0 := x0.put hP (by have := l_zj_x0.out; omega)
              replace x1 := x1.put hP (by have := l_zj_x1.out; omega)
              replace zd := zd.put hP (by have := l_zj_zd.out; omega)
              replace zu := zu.put hP (by have := l_zj_zu.out; omega)
              replace zn := zn.put hP (by have := l_zj_zn.out; omega)
              replace zi := zi.put hP (by have := l_zi_zj.out; omega)
              replace hi := hi.put zj (by decide) hP
              replace hj := hj.put zj (by decide) hP
              clear hP zj
              have zj := hN
              clear hN
              refine hK.out _ _ ?_
              clear hK K
              (try simp only [Act.put, List.setIfInBounds_toArray, List.set_cons_zero, List.set_cons_succ, List.getElem_toArray, List.getElem_cons_zero, List.getElem_cons_succ])
              go_wp2_with fail
              go_meet
              case rel => exact ⟨_, _, _, _, _, _, _, _, _, _, rfl, rfl, zi, zj, hi, hj, (by have := l_zi_zj.out; omega), (by have := l_zi_zn.out; omega), (by have := l_zj_zn.out; omega), x0, x1, zd, zu, zn, h0⟩
        · go_simp
          have hal : Below W1.heap.size W1 (W1.alloc (.cells #[.bool false, .slice none 0 0] 27)) := (Below.refl _ _).alloc (Nat.le_refl _) _
          have zi := Bx.new W1 27 (.bool false) (.slice none 0 0)
          have sl_zi := Lib.hid (show w.heap.size ≤ W1.heap.size from h0.size)
          have l_zi_x0 := Lib.hid x0.lt
          have l_zi_x1 := Lib.hid x1.lt
          have l_zi_zd := Lib.hid zd.lt
          have l_zi_zu := Lib.hid zu.lt
          have l_zi_zn := Lib.hid zn.lt
          replace x0 := x0.go hal
          replace x1 := x1.go hal
          replace zd := zd.go hal
          replace zu := zu.go hal
          replace zn := zn.go hal
          replace h0 := bel_go h0 h0.size hal
          clear hal
          generalize W1.heap.size = Bzi at zi sl_zi l_zi_x0 l_zi_x1 l_zi_zd l_zi_zu l_zi_zn ⊢
          generalize W1.alloc (.cells #[.bool false, .slice none 0 0] 27) = Vzi at x0 x1 zd zu zn zi h0 ⊢
          refine hK.out _ _ (x0) (fun _ => ?_)
          clear hK K
          (try simp only [Act.put, List.setIfInBounds_toArray, List.set_cons_zero, List.set_cons_succ, List.getElem_toArray, List.getElem_cons_zero, List.getElem_cons_succ])
          refine wpAnyH_ready (rs := [2, 7]) (by kernel_rfl) (by simp) ?_
          refine AllReadyH.cons rfl (fun K hK => ?_) (AllReadyH.cons rfl (fun K hK => ?_) (AllReadyH.nil))
          · go_simp
            go_at_call 21; refine (i_any a a1 a2 _).mono ?_
            rintro e Wi ⟨u, rfl, hi, hb⟩
            obtain ⟨gi, pi, ni, ci, rfl⟩ := hi.shape
            replace x0 := x0.go hb
            replace x1 := x1.go hb
            replace zd := zd.go hb
            replace zu := zu.go hb
            replace zn := zn.go hb
            replace zi := zi.go hb
            replace h0 := bel_go h0 h0.size hb
            clear hb
            refine hK.out _ _ (x0) (fun _ => ?_)
            clear hK K
            (try simp only [Act.put, List.setIfInBounds_toArray, List.set_cons_zero, List.set_cons_succ, List.getElem_toArray, List.getElem_cons_zero, List.getElem_cons_succ])
            refine wpAnyH_ready (rs := [5, 7]) (by kernel_rfl) (by simp) ?_
            refine AllReadyH.cons rfl (fun K hK => ?_) (AllReadyH.cons rfl (fun K hK => ?_) (AllReadyH.nil))
            · go_simp
              go_at_call 21; refine (i_any b b1 b2 _).mono ?_
              rintro e Wj ⟨u, rfl, hj, hb⟩
              obtain ⟨gj, pj, nj, cj, rfl⟩ := hj.shape
              replace x0 := x0.go hb
              replace x1 := x1.go hb
              replace zd := zd.go hb
              replace zu := zu.go hb
              replace zn := zn.go hb
              replace zi := zi.go hb
              replace hi := hi.go hb
              replace h0 := bel_go h0 h0.size hb
              clear hb
              refine hK.out _ _ (x0) (fun _ => ?_)
              clear hK K
              (try simp only [Act.put, List.setIfInBounds_toArray, List.set_cons_zero, List.set_cons_succ, List.getElem_toArray, List.getElem_cons_zero, List.getElem_cons_succ])
              refine wpAnyH_ready (rs := [7]) (by kernel_rfl) (by simp) ?_
              refine AllReadyH.cons rfl (fun K hK => ?_) (AllReadyH.nil)
              go_simp
              have hal : Below Wj.heap.size Wj (Wj.alloc (.cells #[.bool false, .slice none 0 0] 27)) := (Below.refl _ _).alloc (Nat.le_refl _) _
              have zj := Bx.new Wj 27 (.bool false) (.slice none 0 0)
              have sl_zj := Lib.hid (show w.heap.size ≤ Wj.heap.size from h0.size)
              have l_zj_x0 := Lib.hid x0.lt
              have l_zj_x1 := Lib.hid x1.lt
              have l_zj_zd := Lib.hid zd.lt
              have l_zj_zu := Lib.hid zu.lt
              have l_zj_zn := Lib.hid zn.lt
              have l_zj_zi := Lib.hid zi.lt
              replace x0 := x0.go hal
              replace x1 := x1.go hal
              replace zd := zd.go hal
              replace zu := zu.go hal
              replace zn := zn.go hal
              replace zi := zi.go hal
              replace hi := hi.go hal
              replace hj := hj.go hal
              replace h0 := bel_go h0 h0.size hal
              clear hal
              generalize Wj.heap.size = Bzj at zj sl_zj l_zj_x0 l_zj_x1 l_zj_zd l_zj_zu l_zj_zn l_zj_zi ⊢
              generalize Wj.alloc (.cells #[.bool false, .slice none 0 0] 27) = Vzj at x0 x1 zd zu zn zi hi hj zj h0 ⊢
              refine hK.out _ _ (x0) (fun _ => ?_)
              clear hK K
              (try simp only [Act.put, List.setIfInBounds_toArray, List.set_cons_zero, List.set_cons_succ, List.getElem_toArray, List.getElem_cons_zero, List.getElem_cons_succ])
              refine wpAnyH_ready (rs := [8]) (by kernel_rfl) (by simp) ?_
              refine AllReadyH.cons rfl (fun K hK => ?_) (AllReadyH.nil)
              have hq0 := zi.c0
              have hq1 := zi.c1
              have hr0 := zi.f0
              have hr1 := zi.f1
              go_simp
              clear hq0 hq1 hr0 hr1
              have hP := put2 Vzj (Bzi) (.bool gi) (.slice pi ni ci)
              have hN := zi.stored (.bool gi) (.slice pi ni ci)
              generalize (Vzj.setCell ⟨Bzi, 0, none⟩ (.bool gi)).setCell ⟨Bzi, 1, none⟩ (.slice pi ni ci) = V8 at hP hN ⊢
              replace h0 := bel_put h0 (by have := sl_zi.out; omega) hP
              replace x0 := x0.put hP (by have := l_zi_x0.out; omega)
              replace x1 := x1.put hP (by have := l_zi_x1.out; omega)
              replace zd := zd.put hP (by have := l_zi_zd.out; omega)
              replace zu := zu.put hP (by have := l_zi_zu.out; omega)
              replace zn := zn.put hP (by have := l_zi_zn.out; omega)
              replace zj := zj.put hP (by have := l_zj_zi.out; omega)
              replace hi := hi.put zi (by decide) hP
              replace hj := hj.put zi (by decide) hP
              clear hP zi
              have zi := hN
              clear hN
              refine hK.out _ _ (x0) (fun _ => ?_)
              clear hK K
              (try simp only [Act.put, List.setIfInBounds_toArray, List.set_cons_zero, List.set_cons_succ, List.getElem_toArray, List.getElem_cons_zero, List.getElem_cons_succ])
              refine wpAnyH_done (by kernel_rfl) ?_ _
              refine still1_step rfl (fun K hK => ?_)
              have hq0 := zj.c0
              have hq1 := zj.c1
              have hr0 := zj.f0
              have hr1 := zj.f1
              go_simp
              clear hq0 hq1 hr0 hr1
              have hP := put2 V8 (Bzj) (.bool gj) (.slice pj nj cj)
              have hN := zj.stored (.bool gj) (.slice pj nj cj)
              generalize (V8.setCell ⟨Bzj, 0, none⟩ (.bool gj)).setCell ⟨Bzj, 1, none⟩ (.slice pj nj cj) = V9 at hP hN ⊢
              replace h0 := bel_put h0 (by have := sl_zj.out; omega) hP
              replace x0 := x0.put hP (by have := l_zj_x0.out; omega)
              replace x1 := x1.put hP (by have := l_zj_x1.out; omega)
              replace zd := zd.put hP (by have := l_zj_zd.out; omega)
              replace zu := zu.put hP (by have := l_zj_zu.out; omega)
              replace zn := zn.put hP (by have := l_zj_zn.out; omega)
              replace zi := zi.put hP (by have := l_zj_zi.out; omega)
              replace hi := hi.put zj (by decide) hP
              replace hj := hj.put zj (by decide) hP
              clear hP zj
              have zj := hN
              clear hN
              refine hK.out _ _ ?_
              clear hK K
              (try simp only [Act.put, List.setIfInBounds_toArray, List.set_cons_zero, List.set_cons_succ, List.getElem_toArray, List.getElem_cons_zero, List.getElem_cons_succ])
              go_wp2_with fail
              go_meet
              case rel => exact ⟨_, _, _, _, _, _, _, _, _, _, rfl, rfl, zi, zj, hi, hj, (by have := l_zj_zi.out; omega), (by have := l_zi_zn.out; omega), (by have := l_zj_zn.out; omega), x0, x1, zd, zu, zn, h0⟩
            · go_simp
              have hal : Below Wi.heap.size Wi (Wi.alloc (.cells #[.bool false, .slice none 0 0] 27)) := (Below.refl _ _).alloc (Nat.le_refl _) _
              have zj := Bx.new Wi 27 (.bool false) (.slice none 0 0)
              have sl_zj := Lib.hid (show w.heap.size ≤ Wi.heap.size from h0.size)
              have l_zj_x0 := Lib.hid x0.lt
              have l_zj_x1 := Lib.hid x1.lt
              have l_zj_zd := Lib.hid zd.lt
              have l_zj_zu := Lib.hid zu.lt
              have l_zj_zn := Lib.hid zn.lt
              have l_zj_zi := Lib.hid zi.lt
              replace x0 := x0.go hal
              replace x1 := x1.go hal
              replace zd := zd.go hal
              replace zu := zu.go hal
              replace zn := zn.go hal
              replace zi := zi.go hal
              replace hi := hi.go hal
              replace h0 := bel_go h0 h0.size hal
              clear hal
              generalize Wi.heap.size = Bzj at zj sl_zj l_zj_x0 l_zj_x1 l_zj_zd l_zj_zu l_zj_zn l_zj_zi ⊢
              generalize Wi.alloc (.cells #[.bool false, .slice none 0 0] 27) = Vzj at x0 x1 zd zu zn zi hi zj h0 ⊢
              refine hK.out _ _ (x0) (fun _ => ?_)
              clear hK K
              (try simp only [Act.put, List.setIfInBounds_toArray, List.set_cons_zero, List.set_cons_succ, List.getElem_toArray, List.getElem_cons_zero, List.getElem_cons_succ])
              refine wpAnyH_ready (rs := [5]) (by kernel_rfl) (by simp) ?_
              refine AllReadyH.cons rfl (fun K hK => ?_) (AllReadyH.nil)
              go_simp
              go_at_call 21; refine (i_any b b1 b2 _).mono ?_
              rintro e Wj ⟨u, rfl, hj, hb⟩
              obtain ⟨gj, pj, nj, cj, rfl⟩ := hj.shape
              replace x0 := x0.go hb
              replace x1 := x1.go hb
              replace zd := zd.go hb
              replace zu := zu.go hb
              replace zn := zn.go hb
              replace zi := zi.go hb
              replace zj := zj.go hb
              replace hi := hi.go hb
              replace h0 := bel_go h0 h0.size hb
              clear hb
              refine hK.out _ _ (x0) (fun _ => ?_)
              clear hK K
              (try simp only [Act.put, List.setIfInBounds_toArray, List.set_cons_zero, List.set_cons_succ, List.getElem_toArray, List.getElem_cons_zero, List.getElem_cons_succ])
              refine wpAnyH_ready (rs := [8]) (by kernel_rfl) (by simp) ?_
              refine AllReadyH.cons rfl (fun K hK => ?_) (AllReadyH.nil)
              have hq0 := zi.c0
              have hq1 := zi.c1
              have hr0 := zi.f0
              have hr1 := zi.f1
              go_simp
              clear hq0 hq1 hr0 hr1
              have hP := put2 Wj (Bzi) (.bool gi) (.slice pi ni ci)
              have hN := zi.stored (.bool gi) (.slice pi ni ci)
              generalize (Wj.setCell ⟨Bzi, 0, none⟩ (.bool gi)).setCell ⟨Bzi, 1, none⟩ (.slice pi ni ci) = V8 at hP hN ⊢
              replace h0 := bel_put h0 (by have := sl_zi.out; omega) hP
              replace x0 := x0.put hP (by have := l_zi_x0.out; omega)
              replace x1 := x1.put hP (by have := l_zi_x1.out; omega)
              replace zd := zd.put hP (by have := l_zi_zd.out; omega)
              replace zu := zu.put hP (by have := l_zi_zu.out; omega)
              replace zn := zn.put hP (by have := l_zi_zn.out; omega)
              replace zj := zj.put hP (by have := l_zj_zi.out; omega)
              replace hi := hi.put zi (by decide) hP
              replace hj := hj.put zi (by decide) hP
              clear hP zi
              have zi := hN
              clear hN
              refine hK.out _ _ (x0) (fun _ => ?_)
              clear hK K
              (try simp only [Act.put, List.setIfInBounds_toArray, List.set_cons_zero, List.set_cons_succ, List.getElem_toArray, List.getElem_cons_zero, List.getElem_cons_succ])
              refine wpAnyH_done (by kernel_rfl) ?_ _
              refine still1_step rfl (fun K hK => ?_)
              have hq0 := zj.c0
              have hq1 := zj.c1
              have hr0 := zj.f0
              have hr1 := zj.f1
              go_simp
              clear hq0 hq1 hr0 hr1
              have hP := put2 V8 (Bzj) (.bool gj) (.slice pj nj cj)
              have hN := zj.stored (.bool gj) (.slice pj nj cj)
              generalize (V8.setCell ⟨Bzj, 0, none⟩ (.bool gj)).setCell ⟨Bzj, 1, none⟩ (.slice pj nj cj) = V9 at hP hN ⊢
              replace h0 := bel_put h0 (by have := sl_zj.out; omega) hP
              replace x0 := x0.put hP (by have := l_zj_x0.out; omega)
              replace x1 := x1.put hP (by have := l_zj_x1.out; omega)
              replace zd := zd.put hP (by have := l_zj_zd.out; omega)
              replace zu := zu.put hP (by have := l_zj_zu.out; omega)
              replace zn := zn.put hP (by have := l_zj_zn.out; omega)
              replace zi := zi.put hP (by have := l_zj_zi.out; omega)
              replace hi := hi.put zj (by decide) hP
              replace hj := hj.put zj (by decide) hP
              clear hP zj
              have zj := hN
              clear hN
              refine hK.out _ _ ?_
              clear hK K
              (try simp only [Act.put, List.setIfInBounds_toArray, List.set_cons_zero, List.set_cons_succ, List.getElem_toArray, List.getElem_cons_zero, List.getElem_cons_succ])
              go_wp2_with fail
              go_meet
              case rel => exact ⟨_, _, _, _, _, _, _, _, _, _, rfl, rfl, zi, zj, hi, hj, (by have := l_zj_zi.out; omega), (by have := l_zi_zn.out; omega), (by have := l_zj_zn.out; omega), x0, x1, zd, zu, zn, h0⟩
          · go_simp
            have hal : Below Vzi.heap.size Vzi (Vzi.alloc (.cells #[.bool false, .slice none 0 0] 27)) := (Below.refl _ _).alloc (Nat.le_refl _) _
            have zj := Bx.new Vzi 27 (.bool false) (.slice none 0 0)
            have sl_zj := Lib.hid (show w.heap.size ≤ Vzi.heap.size from h0.size)
            have l_zj_x0 := Lib.hid x0.lt
            have l_zj_x1 := Lib.hid x1.lt
            have l_zj_zd := Lib.hid zd.lt
            have l_zj_zu := Lib.hid zu.lt
            have l_zj_zn := Lib.hid zn.lt
            have l_zj_zi := Lib.hid zi.lt
            replace x0 := x0.go hal
            replace x1 := x1.go hal
            replace zd := zd.go hal
            replace zu := zu.go hal
            replace zn := zn.go hal
            replace zi := zi.go hal
            replace h0 := bel_go h0 h0.size hal
            clear hal
            generalize Vzi.heap.size = Bzj at zj sl_zj l_zj_x0 l_zj_x1 l_zj_zd l_zj_zu l_zj_zn l_zj_zi ⊢
            generalize Vzi.alloc (.cells #[.bool false, .slice none 0 0] 27) = Vzj at x0 x1 zd zu zn zi zj h0 ⊢
            refine hK.out _ _ (x0) (fun _ => ?_)
            clear hK K
            (try simp only [Act.put, List.setIfInBounds_toArray, List.set_cons_zero, List.set_cons_succ, List.getElem_toArray, List.getElem_cons_zero, List.getElem_cons_succ])
            refine wpAnyH_ready (rs := [2]) (by kernel_rfl) (by simp) ?_
            refine AllReadyH.cons rfl (fun K hK => ?_) (AllReadyH.nil)
            go_simp
            go_at_call 21; refine (i_any a a1 a2 _).mono ?_
            rintro e Wi ⟨u, rfl, hi, hb⟩
            obtain ⟨gi, pi, ni, ci, rfl⟩ := hi.shape
            replace x0 := x0.go hb
            replace x1 := x1.go hb
            replace zd := zd.go hb
            replace zu := zu.go hb
            replace zn := zn.go hb
            replace zi := zi.go hb
            replace zj := zj.go hb
            replace h0 := bel_go h0 h0.size hb
            clear hb
            refine hK.out _ _ (x0) (fun _ => ?_)
            clear hK K
            (try simp only [Act.put, List.setIfInBounds_toArray, List.set_cons_zero, List.set_cons_succ, List.getElem_toArray, List.getElem_cons_zero, List.getElem_cons_succ])
            refine wpAnyH_ready (rs := [5]) (by kernel_rfl) (by simp) ?_
            refine AllReadyH.cons rfl (fun K hK => ?_) (AllReadyH.nil)
            go_simp
            go_at_call 21; refine (i_any b b1 b2 _).mono ?_
            rintro e Wj ⟨u, rfl, hj, hb⟩
            obtain ⟨gj, pj, nj, cj, rfl⟩ := hj.shape
            replace x0 := x0.go hb
            replace x1 := x1.go hb
            replace zd := zd.go hb
            replace zu := zu.go hb
            replace zn := zn.go hb
            replace zi := zi.go hb
            replace zj := zj.go hb
            replace hi := hi.go hb
            replace h0 := bel_go h0 h0.size hb
            clear hb
            refine hK.out _ _ (x0) (fun _ => ?_)
            clear hK K
            (try simp only [Act.put, List.setIfInBounds_toArray, List.set_cons_zero, List.set_cons_succ, List.getElem_toArray, List.getElem_cons_zero, List.getElem_cons_succ])
            refine wpAnyH_ready (rs := [8]) (by kernel_rfl) (by simp) ?_
            refine AllReadyH.cons rfl (fun K hK => ?_) (AllReadyH.nil)
            have hq0 := zi.c0
            have hq1 := zi.c1
            have hr0 := zi.f0
            have hr1 := zi.f1
            go_simp
            clear hq0 hq1 hr0 hr1
            have hP := put2 Wj (Bzi) (.bool gi) (.slice pi ni ci)
            have hN := zi.stored (.bool gi) (.slice pi ni ci)
            generalize (Wj.setCell ⟨Bzi, 0, none⟩ (.bool gi)).setCell ⟨Bzi, 1, none⟩ (.slice pi ni ci) = V8 at hP hN ⊢
            replace h0 := bel_put h0 (by have := sl_zi.out; omega) hP
            replace x0 := x0.put hP (by have := l_zi_x0.out; omega)
            replace x1 := x1.put hP (by have := l_zi_x1.out; omega)
            replace zd := zd.put hP (by have := l_zi_zd.out; omega)
            replace zu := zu.put hP (by have := l_zi_zu.out; omega)
            replace zn := zn.put hP (by have := l_zi_zn.out; omega)
            replace zj := zj.put hP (by have := l_zj_zi.out; omega)
            replace hi := hi.put zi (by decide) hP
            replace hj := hj.put zi (by decide) hP
            clear hP zi
            have zi := hN
            clear hN
            refine hK.out _ _ (x0) (fun _ => ?_)
            clear hK K
            (try simp only [Act.put, List.setIfInBounds_toArray, List.set_cons_zero, List.set_cons_succ, List.getElem_toArray, List.getElem_cons_zero, List.getElem_cons_succ])
            refine wpAnyH_done (by kernel_rfl) ?_ _
            refine still1_step rfl (fun K hK => ?_)
            have hq0 := zj.c0
            have hq1 := zj.c1
            have hr0 := zj.f0
            have hr1 := zj.f1
            go_simp
            clear hq0 hq1 hr0 hr1
            have hP := put2 V8 (Bzj) (.bool gj) (.slice pj nj cj)
            have hN := zj.stored (.bool gj) (.slice pj nj cj)
            generalize (V8.setCell ⟨Bzj, 0, none⟩ (.bool gj)).setCell ⟨Bzj, 1, none⟩ (.slice pj nj cj) = V9 at hP hN ⊢
            replace h0 := bel_put h0 (by have := sl_zj.out; omega) hP
            replace x0 := x0.put hP (by have := l_zj_x0.out; omega)
            replace x1 := x1.put hP (by have := l_zj_x1.out; omega)
            replace zd := zd.put hP (by have := l_zj_zd.out; omega)
            replace zu := zu.put hP (by have := l_zj_zu.out; omega)
            replace zn := zn.put hP (by have := l_zj_zn.out; omega)
            replace zi := zi.put hP (by have := l_zj_zi.out; omega)
            replace hi := hi.put zj (by decide) hP
            replace hj := hj.put zj (by decide) hP
            clear hP zj
            have zj := hN
            clear hN
            refine hK.out _ _ ?_
            clear hK K
            (try simp only [Act.put, List.setIfInBounds_toArray, List.set_cons_zero, List.set_cons_succ, List.getElem_toArray, List.getElem_cons_zero, List.getElem_cons_succ])
            go_wp2_with fail
            go_meet
            case rel => exact ⟨_, _, _, _, _, _, _, _, _, _, rfl, rfl, zi, zj, hi, hj, (by have := l_zj_zi.out; omega), (by have := l_zi_zn.out; omega), (by have := l_zj_zn.out; omega), x0, x1, zd, zu, zn, h0⟩
        · go_simp
          have hal : Below W1.heap.size W1 (W1.alloc (.cells #[.bool false, .slice none 0 0] 27)) := (Below.refl _ _).alloc (Nat.le_refl _) _
          have zj := Bx.new W1 27 (.bool false) (.slice none 0 0)
          have sl_zj := Lib.hid (show w.heap.size ≤ W1.heap.size from h0.size)
          have l_zj_x0 := Lib.hid x0.lt
          have l_zj_x1 := Lib.hid x1.lt
          have l_zj_zd := Lib.hid zd.lt
          have l_zj_zu := Lib.hid zu.lt
          have l_zj_zn := Lib.hid zn.lt
          replace x0 := x0.go hal
          replace x1 := x1.go hal
          replace zd := zd.go hal
          replace zu := zu.go hal
          replace zn := zn.go hal
          replace h0 := bel_go h0 h0.size hal
          clear hal
          generalize W1.heap.size = Bzj at zj sl_zj l_zj_x0 l_zj_x1 l_zj_zd l_zj_zu l_zj_zn ⊢
          generalize W1.alloc (.cells #[.bool false, .slice none 0 0] 27) = Vzj at x0 x1 zd zu zn zj h0 ⊢
          refine hK.out _ _ (x0) (fun _ => ?_)
          clear hK K
          (try simp only [Act.put, List.setIfInBounds_toArray, List.set_cons_zero, List.set_cons_succ, List.getElem_toArray, List.getElem_cons_zero, List.getElem_cons_succ])
          refine wpAnyH_ready (rs := [2, 6]) (by kernel_rfl) (by simp) ?_
          refine AllReadyH.cons rfl (fun K hK => ?_) (AllReadyH.cons rfl (fun K hK => ?_) (AllReadyH.nil))
          · go_simp
            go_at_call 21; refine (i_any a a1 a2 _).mono ?_
            rintro e Wi ⟨u, rfl, hi, hb⟩
            obtain ⟨gi, pi, ni, ci, rfl⟩ := hi.shape
            replace x0 := x0.go hb
            replace x1 := x1.go hb
            replace zd := zd.go hb
            replace zu := zu.go hb
            replace zn := zn.go hb
            replace zj := zj.go hb
            replace h0 := bel_go h0 h0.size hb
            clear hb
            refine hK.out _ _ (x0) (fun _ => ?_)
            clear hK K
            (try simp only [Act.put, List.setIfInBounds_toArray, List.set_cons_zero, List.set_cons_succ, List.getElem_toArray, List.getElem_cons_zero, List.getElem_cons_succ])
            refine wpAnyH_ready (rs := [5, 6]) (by kernel_rfl) (by simp) ?_
            refine AllReadyH.cons rfl (fun K hK => ?_) (AllReadyH.cons rfl (fun K hK => ?_) (AllReadyH.nil))
            · go_simp
              go_at_call 21; refine (i_any b b1 b2 _).mono ?_
              rintro e Wj ⟨u, rfl, hj, hb⟩
              obtain ⟨gj, pj, nj, cj, rfl⟩ := hj.shape
              replace x0 := x0.go hb
              replace x1 := x1.go hb
              replace zd := zd.go hb
              replace zu := zu.go hb
              replace zn := zn.go hb
              replace zj := zj.go hb
              replace hi := hi.go hb
              replace h0 := bel_go h0 h0.size hb
              clear hb
              refine hK.out _ _ (x0) (fun _ => ?_)
              clear hK K
              (try simp only [Act.put, List.setIfInBounds_toArray, List.set_cons_zero, List.set_cons_succ, List.getElem_toArray, List.getElem_cons_zero, List.getElem_cons_succ])
              refine wpAnyH_ready (rs := [6]) (by kernel_rfl) (by simp) ?_
              refine AllReadyH.cons rfl (fun K hK => ?_) (AllReadyH.nil)
              go_simp
              have hal : Below Wj.heap.size Wj (Wj.alloc (.cells #[.bool false, .slice none 0 0] 27)) := (Below.refl _ _).alloc (Nat.le_refl _) _
              have zi := Bx.new Wj 27 (.bool false) (.slice none 0 0)
              have sl_zi := Lib.hid (show w.heap.size ≤ Wj.heap.size from h0.size)
              have l_zi_x0 := Lib.hid x0.lt
              have l_zi_x1 := Lib.hid x1.lt
              have l_zi_zd := Lib.hid zd.lt
              have l_zi_zu := Lib.hid zu.lt
              have l_zi_zn := Lib.hid zn.lt
              have l_zi_zj := Lib.hid zj.lt
              replace x0 := x0.go hal
              replace x1 := x1.go hal
              replace zd := zd.go hal
              replace zu := zu.go hal
              replace zn := zn.go hal
              replace zj := zj.go hal
              replace hi := hi.go hal
              replace hj := hj.go hal
              replace h0 := bel_go h0 h0.size hal
              clear hal
              generalize Wj.heap.size = Bzi at zi sl_zi l_zi_x0 l_zi_x1 l_zi_zd l_zi_zu l_zi_zn l_zi_zj ⊢
              generalize Wj.alloc (.cells #[.bool false, .slice none 0 0] 27) = Vzi at x0 x1 zd zu zn zj hi hj zi h0 ⊢
              refine hK.out _ _ (x0) (fun _ => ?_)
              clear hK K
              (try simp only [Act.put, List.setIfInBounds_toArray, List.set_cons_zero, List.set_cons_succ, List.getElem_toArray, List.getElem_cons_zero, List.getElem_cons_succ])
              refine wpAnyH_ready (rs := [8]) (by kernel_rfl) (by simp) ?_
              refine AllReadyH.cons rfl (fun K hK => ?_) (AllReadyH.nil)
              have hq0 := zi.c0
              have hq1 := zi.c1
              have hr0 := zi.f0
              have hr1 := zi.f1
              go_simp
              clear hq0 hq1 hr0 hr1
              have hP := put2 Vzi (Bzi) (.bool gi) (.slice pi ni ci)
              have hN := zi.stored (.bool gi) (.slice pi ni ci)
              generalize (Vzi.setCell ⟨Bzi, 0, none⟩ (.bool gi)).setCell ⟨Bzi, 1, none⟩ (.slice pi ni ci) = V8 at hP hN ⊢
              replace h0 := bel_put h0 (by have := sl_zi.out; omega) hP
              replace x0 := x0.put hP (by have := l_zi_x0.out; omega)
              replace x1 := x1.put hP (by have := l_zi_x1.out; omega)
              replace zd := zd.put hP (by have := l_zi_zd.out; omega)
              replace zu := zu.put hP (by have := l_zi_zu.out; omega)
              replace zn := zn.put hP (by have := l_zi_zn.out; omega)
              replace zj := zj.put hP (by have := l_zi_zj.out; omega)
              replace hi := hi.put zi (by decide) hP
              replace hj := hj.put zi (by decide) hP
              clear hP zi
              have zi := hN
              clear hN
              refine hK.out _ _ (x0) (fun _ => ?_)
              clear hK K
              (try simp only [Act.put, List.setIfInBounds_toArray, List.set_cons_zero, List.set_cons_succ, List.getElem_toArray, List.getElem_cons_zero, List.getElem_cons_succ])
              refine wpAnyH_done (by kernel_rfl) ?_ _
              refine still1_step rfl (fun K hK => ?_)
              have hq0 := zj.c0
              have hq1 := zj.c1
              have hr0 := zj.f0
              have hr1 := zj.f1
              go_simp
              clear hq0 hq1 hr0 hr1
              have hP := put2 V8 (Bzj) (.bool gj) (.slice pj nj cj)
              have hN := zj.stored (.bool gj) (.slice pj nj cj)
              generalize (V8.setCell ⟨Bzj, 0, none⟩ (.bool gj)).setCell ⟨Bzj, 1, none⟩ (.slice pj nj cj) = V9 at hP hN ⊢
              replace h0 := bel_put h0 (by have := sl_zj.out; omega) hP
              replace x0 := x0.put hP (by have := l_zj_x0.out; omega)
              replace x1 := x1.put hP (by have := l_zj_x1.out; omega)
              replace zd := zd.put hP (by have := l_zj_zd.out; omega)
              replace zu := zu.put hP (by have := l_zj_zu.out; omega)
              replace zn := zn.put hP (by have := l_zj_zn.out; omega)
              replace zi := zi.put hP (by have := l_zi_zj.out; omega)
              replace hi := hi.put zj (by decide) hP
              replace hj := hj.put zj (by decide) hP
              clear hP zj
              have zj := hN
              clear hN
              refine hK.out _ _ ?_
              clear hK K
              (try simp only [Act.put, List.setIfInBounds_toArray, List.set_cons_zero, List.set_cons_succ, List.getElem_toArray, List.getElem_cons_zero, List.getElem_cons_succ])
              go_wp2_with fail
              go_meet
              case rel => exact ⟨_, _, _, _, _, _, _, _, _, _, rfl, rfl, zi, zj, hi, hj, (by have := l_zi_zj.out; omega), (by have := l_zi_zn.out; omega), (by have := l_zj_zn.out; omega), x0, x1, zd, zu, zn, h0⟩
            · go_simp
              have hal : Below Wi.heap.size Wi (Wi.alloc (.cells #[.bool false, .slice none 0 0] 27)) := (Below.refl _ _).alloc (Nat.le_refl _) _
              have zi := Bx.new Wi 27 (.bool false) (.slice none 0 0)
              have sl_zi := Lib.hid (show w.heap.size ≤ Wi.heap.size from h0.size)
              have l_zi_x0 := Lib.hid x0.lt
              have l_zi_x1 := Lib.hid x1.lt
              have l_zi_zd := Lib.hid zd.lt
              have l_zi_zu := Lib.hid zu.lt
              have l_zi_zn := Lib.hid zn.lt
              have l_zi_zj := Lib.hid zj.lt
              replace x0 := x0.go hal
              replace x1 := x1.go hal
              replace zd := zd.go hal
              replace zu := zu.go hal
              replace zn := zn.go hal
              replace zj := zj.go hal
              replace hi := hi.go hal
              replace h0 := bel_go h0 h0.size hal
              clear hal
              generalize Wi.heap.size = Bzi at zi sl_zi l_zi_x0 l_zi_x1 l_zi_zd l_zi_zu l_zi_zn l_zi_zj ⊢
              generalize Wi.alloc (.cells #[.bool false, .slice none 0 0] 27) = Vzi at x0 x1 zd zu zn zj hi zi h0 ⊢
              refine hK.out _ _ (x0) (fun _ => ?_)
              clear hK K
              (try simp only [Act.put, List.setIfInBounds_toArray, List.set_cons_zero, List.set_cons_succ, List.getElem_toArray, List.getElem_cons_zero, List.getElem_cons_succ])
              refine wpAnyH_ready (rs := [5]) (by kernel_rfl) (by simp) ?_
              refine AllReadyH.cons rfl (fun K hK => ?_) (AllReadyH.nil)
              go_simp
              go_at_call 21; refine (i_any b b1 b2 _).mono ?_
              rintro e Wj ⟨u, rfl, hj, hb⟩
              obtain ⟨gj, pj, nj, cj, rfl⟩ := hj.shape
              replace x0 := x0.go hb
              replace x1 := x1.go hb
              replace zd := zd.go hb
              replace zu := zu.go hb
              replace zn := zn.go hb
              replace zj := zj.go hb
              replace zi := zi.go hb
              replace hi := hi.go hb
              replace h0 := bel_go h0 h0.size hb
              clear hb
              refine hK.out _ _ (x0) (fun _ => ?_)
              clear hK K
              (try simp only [Act.put, List.setIfInBounds_toArray, List.set_cons_zero, List.set_cons_succ, List.getElem_toArray, List.getElem_cons_zero, List.getElem_cons_succ])
              refine wpAnyH_ready (rs := [8]) (by kernel_rfl) (by simp) ?_
              refine AllReadyH.cons rfl (fun K hK => ?_) (AllReadyH.nil)
              have hq0 := zi.c0
              have hq1 := zi.c1
              have hr0 := zi.f0
              have hr1 := zi.f1
              go_simp
              clear hq0 hq1 hr0 hr1
              have hP := put2 Wj (Bzi) (.bool gi) (.slice pi ni ci)
              have hN := zi.stored (.bool gi) (.slice pi ni ci)
              generalize (Wj.setCell ⟨Bzi, 0, none⟩ (.bool gi)).setCell ⟨Bzi, 1, none⟩ (.slice pi ni ci) = V8 at hP hN ⊢
              replace h0 := bel_put h0 (by have := sl_zi.out; omega) hP
              replace x0 := x0.put hP (by have := l_zi_x0.out; omega)
              replace x1 := x1.put hP (by have := l_zi_x1.out; omega)
              replace zd := zd.put hP (by have := l_zi_zd.out; omega)
              replace zu := zu.put hP (by have := l_zi_zu.out; omega)
              replace zn := zn.put hP (by have := l_zi_zn.out; omega)
              replace zj := zj.put hP (by have := l_zi_zj.out; omega)
              replace hi := hi.put zi (by decide) hP
              replace hj := hj.put zi (by decide) hP
              clear hP zi
              have zi := hN
              clear hN
              refine hK.out _ _ (x0) (fun _ => ?_)
              clear hK K
              (try simp only [Act.put, List.setIfInBounds_toArray, List.set_cons_zero, List.set_cons_succ, List.getElem_toArray, List.getElem_cons_zero, List.getElem_cons_succ])
              refine wpAnyH_done (by kernel_rfl) ?_ _
              refine still1_step rfl (fun K hK => ?_)
              have hq0 := zj.c0
              have hq1 := zj.c1
              have hr0 := zj.f0
              have hr1 := zj.f1
              go_simp
              clear hq0 hq1 hr0 hr1
              have hP := put2 V8 (Bzj) (.bool gj) (.slice pj nj cj)
              have hN := zj.stored (.bool gj) (.slice pj nj cj)
              generalize (V8.setCell ⟨Bzj, 0, none⟩ (.bool gj)).setCell ⟨Bzj, 1, none⟩ (.slice pj nj cj) = V9 at hP hN ⊢
              replace h0 := bel_put h0 (by have := sl_zj.out; omega) hP
              replace x0 := x0.put hP (by have := l_zj_x0.out; omega)
              replace x1 := x1.put hP (by have := l_zj_x1.out; omega)
              replace zd := zd.put hP (by have := l_zj_zd.out; omega)
              replace zu := zu.put hP (by have := l_zj_zu.out; omega)
              replace zn := zn.put hP (by have := l_zj_zn.out; omega)
              replace zi := zi.put hP (by have := l_zi_zj.out; omega)
              replace hi := hi.put zj (by decide) hP
              replace hj := hj.put zj (by decide) hP
              clear hP zj
              have zj := hN
              clear hN
              refine hK.out _ _ ?_
              clear hK K
              (try simp only [Act.put, List.setIfInBounds_toArray, List.set_cons_zero, List.set_cons_succ, List.getElem_toArray, List.getElem_cons_zero, List.getElem_cons_succ])
              go_wp2_with fail
              go_meet
              case rel => exact ⟨_, _, _, _, _, _, _, _, _, _, rfl, rfl, zi, zj, hi, hj, (by have := l_zi_zj.out; omega), (by have := l_zi_zn.out; omega), (by have := l_zj_zn.out; omega), x0, x1, zd, zu, zn, h0⟩
          · go_simp
            have hal : Below Vzj.heap.size Vzj (Vzj.alloc (.cells #[.bool false, .slice none 0 0] 27)) := (Below.refl _ _).alloc (Nat.le_refl _) _
            have zi := Bx.new Vzj 27 (.bool false) (.slice none 0 0)
            have sl_zi := Lib.hid (show w.heap.size ≤ Vzj.heap.size from h0.size)
            have l_zi_x0 := Lib.hid x0.lt
            have l_zi_x1 := Lib.hid x1.lt
            have l_zi_zd := Lib.hid zd.lt
            have l_zi_zu := Lib.hid zu.lt
            have l_zi_zn := Lib.hid zn.lt
            have l_zi_zj := Lib.hid zj.lt
            replace x0 := x0.go hal
            replace x1 := x1.go hal
            replace zd := zd.go hal
            replace zu := zu.go hal
            replace zn := zn.go hal
            replace zj := zj.go hal
            replace h0 := bel_go h0 h0.size hal
            clear hal
            generalize Vzj.heap.size = Bzi at zi sl_zi l_zi_x0 l_zi_x1 l_zi_zd l_zi_zu l_zi_zn l_zi_zj ⊢
            generalize Vzj.alloc (.cells #[.bool false, .slice none 0 0] 27) = Vzi at x0 x1 zd zu zn zj zi h0 ⊢
            refine hK.out _ _ (x0) (fun _ => ?_)
            clear hK K
            (try simp only [Act.put, List.setIfInBounds_toArray, List.set_cons_zero, List.set_cons_succ, List.getElem_toArray, List.getElem_cons_zero, List.getElem_cons_succ])
            refine wpAnyH_ready (rs := [2]) (by kernel_rfl) (by simp) ?_
            refine AllReadyH.cons rfl (fun K hK => ?_) (AllReadyH.nil)
            go_simp
            go_at_call 21; refine (i_any a a1 a2 _).mono ?_
            rintro e Wi ⟨u, rfl, hi, hb⟩
            obtain ⟨gi, pi, ni, ci, rfl⟩ := hi.shape
            replace x0 := x0.go hb
            replace x1 := x1.go hb
            replace zd := zd.go hb
            replace zu := zu.go hb
            replace zn := zn.go hb
            replace zj := zj.go hb
            replace zi := zi.go hb
            replace h0 := bel_go h0 h0.size hb
            clear hb
            refine hK.out _ _ (x0) (fun _ => ?_)
            clear hK K
            (try simp only [Act.put, List.setIfInBounds_toArray, List.set_cons_zero, List.set_cons_succ, List.getElem_toArray, List.getElem_cons_zero, List.getElem_cons_succ])
            refine wpAnyH_ready (rs := [5]) (by kernel_rfl) (by simp) ?_
            refine AllReadyH.cons rfl (fun K hK => ?_) (AllReadyH.nil)
            go_simp
            go_at_call 21; refine (i_any b b1 b2 _).mono ?_
            rintro e Wj ⟨u, rfl, hj, hb⟩
            obtain ⟨gj, pj, nj, cj, rfl⟩ := hj.shape
            replace x0 := x0.go hb
            replace x1 := x1.go hb
            replace zd := zd.go hb
            replace zu := zu.go hb
            replace zn := zn.go hb
            replace zj := zj.go hb
            replace zi := zi.go hb
            replace hi := hi.go hb
            replace h0 := bel_go h0 h0.size hb
            clear hb
            refine hK.out _ _ (x0) (fun _ => ?_)
            clear hK K
            (try simp only [Act.put, List.setIfInBounds_toArray, List.set_cons_zero, List.set_cons_succ, List.getElem_toArray, List.getElem_cons_zero, List.getElem_cons_succ])
            refine wpAnyH_ready (rs := [8]) (by kernel_rfl) (by simp) ?_
            refine AllReadyH.cons rfl (fun K hK => ?_) (AllReadyH.nil)
            have hq0 := zi.c0
            have hq1 := zi.c1
            have hr0 := zi.f0
            have hr1 := zi.f1
            go_simp
            clear hq0 hq1 hr0 hr1
            have hP := put2 Wj (Bzi) (.bool gi) (.slice pi ni ci)
            have hN := zi.stored (.bool gi) (.slice pi ni ci)
            generalize (Wj.setCell ⟨Bzi, 0, none⟩ (.bool gi)).setCell ⟨Bzi, 1, none⟩ (.slice pi ni ci) = V8 at hP hN ⊢
            replace h0 := bel_put h0 (by have := sl_zi.out; omega) hP
            replace x0 := x0.put hP (by have := l_zi_x0.out; omega)
            replace x1 := x1.put hP (by have := l_zi_x1.out; omega)
            replace zd := zd.put hP (by have := l_zi_zd.out; omega)
            replace zu := zu.put hP (by have := l_zi_zu.out; omega)
            replace zn := zn.put hP (by have := l_zi_zn.out; omega)
            replace zj := zj.put hP (by have := l_zi_zj.out; omega)
            replace hi := hi.put zi (by decide) hP
            replace hj := hj.put zi (by decide) hP
            clear hP zi
            have zi := hN
            clear hN
            refine hK.out _ _ (x0) (fun _ => ?_)
            clear hK K
            (try simp only [Act.put, List.setIfInBounds_toArray, List.set_cons_zero, List.set_cons_succ, List.getElem_toArray, List.getElem_cons_zero, List.getElem_cons_succ])
            refine wpAnyH_done (by kernel_rfl) ?_ _
            refine still1_step rfl (fun K hK => ?_)
            have hq0 := zj.c0
            have hq1 := zj.c1
            have hr0 := zj.f0
            have hr1 := zj.f1
            go_simp
            clear hq0 hq1 hr0 hr1
            have hP := put2 V8 (Bzj) (.bool gj) (.slice pj nj cj)
            have hN := zj.stored (.bool gj) (.slice pj nj cj)
            generalize (V8.setCell ⟨Bzj, 0, none⟩ (.bool gj)).setCell ⟨Bzj, 1, none⟩ (.slice pj nj cj) = V9 at hP hN ⊢
            replace h0 := bel_put h0 (by have := sl_zj.out; omega) hP
            replace x0 := x0.put hP (by have := l_zj_x0.out; omega)
            replace x1 := x1.put hP (by have := l_zj_x1.out; omega)
            replace zd := zd.put hP (by have := l_zj_zd.out; omega)
            replace zu := zu.put hP (by have := l_zj_zu.out; omega)
            replace zn := zn.put hP (by have := l_zj_zn.out; omega)
            replace zi := zi.put hP (by have := l_zi_zj.out; omega)
            replace hi := hi.put zj (by decide) hP
            replace hj := hj.put zj (by decide) hP
            clear hP zj
            have zj := hN
            clear hN
            refine hK.out _ _ ?_
            clear hK K
            (try simp only [Act.put, List.setIfInBounds_toArray, List.set_cons_zero, List.set_cons_succ, List.getElem_toArray, List.getElem_cons_zero, List.getElem_cons_succ])
            go_wp2_with fail
            go_meet
            case rel => exact ⟨_, _, _, _, _, _, _, _, _, _, rfl, rfl, zi, zj, hi, hj, (by have := l_zi_zj.out; omega), (by have := l_zi_zn.out; omega), (by have := l_zj_zn.out; omega), x0, x1, zd, zu, zn, h0⟩
      case rest =>
        clear x0 x1 zd zu zn h0
        obtain ⟨Bi, Bj, gi, pi, ni, ci, gj, pj, nj, cj, rfl, rfl, zi, zj, hi, hj, hij, hBi, hBj, x0, x1, zd, zu, zn, h0⟩ := hcut
        go_wp2_with fail
        refine wp_region_last (S := fun W' => Bx W' Bi 27 (.bool gi) (.slice pi ni ci) ∧ Bx W' Bj 27 (.bool gj) (.slice pj nj cj)) (m := 11) (by kernel_rfl) (by kernel_rfl) (by kernel_rfl) (⟨zi.drew, zj.drew⟩) (fun _ => ?_)
        replace zi := zi.drew
        replace zj := zj.drew
        replace x0 := x0.drew
        replace x1 := x1.drew
        replace zd := zd.drew
        replace zu := zu.drew
        replace zn := zn.drew
        replace hi := hi.drew
        replace hj := hj.drew
        replace h0 := Below.drew h0
        generalize wc.drew = wc at zi zj x0 x1 zd zu zn hi hj h0 ⊢
        refine wpAnyH_take (i := 0) (v := ?_) rfl (by kernel_rfl) (by kernel_rfl) (by kernel_rfl) (fun _ _ _ h => h) (Or.inl ⟨by kernel_rfl, ?_⟩) (⟨zi, zj⟩) ?_
        rotate_left
        focus (intro W' hSw; obtain ⟨hx0, hx1⟩ := hSw; have hc0 := hx0.c0; have hc1 := hx0.c1; have hc2 := hx1.c0; have hc3 := hx1.c1; clear hx0 hx1; go_simp; (try with_reducible rfl))
        (try simp only [Act.put, List.setIfInBounds_toArray, List.set_cons_zero, List.set_cons_succ, List.getElem_toArray, List.getElem_cons_zero, List.getElem_cons_succ])
        refine wpAnyH_take (i := 1) (v := ?_) rfl (by kernel_rfl) (by kernel_rfl) (by kernel_rfl) (fun _ _ _ h => h) (Or.inl ⟨by kernel_rfl, ?_⟩) (⟨zi, zj⟩) ?_
        rotate_left
        focus (intro W' hSw; obtain ⟨hx0, hx1⟩ := hSw; have hc0 := hx0.c0; have hc1 := hx0.c1; have hc2 := hx1.c0; have hc3 := hx1.c1; clear hx0 hx1; go_simp; (try with_reducible rfl))
        (try simp only [Act.put, List.setIfInBounds_toArray, List.set_cons_zero, List.set_cons_succ, List.getElem_toArray, List.getElem_cons_zero, List.getElem_cons_succ])
        refine wpAnyH_take (i := 3) (v := ?_) rfl (by kernel_rfl) (by kernel_rfl) (by kernel_rfl) (fun _ _ _ h => h) (Or.inl ⟨by kernel_rfl, ?_⟩) (⟨zi, zj⟩) ?_
        rotate_left
        focus (intro W' hSw; obtain ⟨hx0, hx1⟩ := hSw; have hc0 := hx0.c0; have hc1 := hx0.c1; have hc2 := hx1.c0; have hc3 := hx1.c1; clear hx0 hx1; go_simp; (try with_reducible rfl))
        (try simp only [Act.put, List.setIfInBounds_toArray, List.set_cons_zero, List.set_cons_succ, List.getElem_toArray, List.getElem_cons_zero, List.getElem_cons_succ])
        refine wpAnyH_take (i := 4) (v := ?_) rfl (by kernel_rfl) (by kernel_rfl) (by kernel_rfl) (fun _ _ _ h => h) (Or.inl ⟨by kernel_rfl, ?_⟩) (⟨zi, zj⟩) ?_
        rotate_left
        focus (intro W' hSw; obtain ⟨hx0, hx1⟩ := hSw; have hc0 := hx0.c0; have hc1 := hx0.c1; have hc2 := hx1.c0; have hc3 := hx1.c1; clear hx0 hx1; go_simp; (try with_reducible rfl))
        (try simp only [Act.put, List.setIfInBounds_toArray, List.set_cons_zero, List.set_cons_succ, List.getElem_toArray, List.getElem_cons_zero, List.getElem_cons_succ])
        refine wpAnyH_take (i := 6) (v := ?_) rfl (by kernel_rfl) (by kernel_rfl) (by kernel_rfl) (fun _ _ _ h => h) (Or.inl ⟨by kernel_rfl, ?_⟩) (⟨zi, zj⟩) ?_
        rotate_left
        focus (intro W' hSw; obtain ⟨hx0, hx1⟩ := hSw; have hc0 := hx0.c0; have hc1 := hx0.c1; have hc2 := hx1.c0; have hc3 := hx1.c1; clear hx0 hx1; go_simp; (try with_reducible rfl))
        (try simp only [Act.put, List.setIfInBounds_toArray, List.set_cons_zero, List.set_cons_succ, List.getElem_toArray, List.getElem_cons_zero, List.getElem_cons_succ])
        refine wpAnyH_take (i := 7) (v := ?_) rfl (by kernel_rfl) (by kernel_rfl) (by kernel_rfl) (fun _ _ _ h => h) (Or.inl ⟨by kernel_rfl, ?_⟩) (⟨zi, zj⟩) ?_
        rotate_left
        focus (intro W' hSw; obtain ⟨hx0, hx1⟩ := hSw; have hc0 := hx0.c0; have hc1 := hx0.c1; have hc2 := hx1.c0; have hc3 := hx1.c1; clear hx0 hx1; go_simp; (try with_reducible rfl))
        (try simp only [Act.put, List.setIfInBounds_toArray, List.set_cons_zero, List.set_cons_succ, List.getElem_toArray, List.getElem_cons_zero, List.getElem_cons_succ])
        refine wpAnyH_ready (rs := [2]) (by kernel_rfl) (by simp) ?_
        refine AllReadyH.cons rfl (fun K hK => ?_) (AllReadyH.nil)
        go_simp
        go_at_call 70; refine (zfloor_any _ _ a b HL.out.2.2.1 HL.out.1 HL.out.2.1 _ hi hj).mono ?_
        rintro e Wq ⟨u, rfl, hq, hb⟩
        obtain ⟨gq, pq, nq, cq, rfl⟩ := hq.shape
        rw [HQ.out.1] at hq
        replace zi := zi.go hb
        replace zj := zj.go hb
        replace x0 := x0.go hb
        replace x1 := x1.go hb
        replace zd := zd.go hb
        replace zu := zu.go hb
        replace zn := zn.go hb
        replace hi := hi.go hb
        replace hj := hj.go hb
        replace h0 := bel_go h0 h0.size hb
        clear hb
        refine hK.out _ _ (⟨zi, zj⟩) (fun _ => ?_)
        clear hK K
        (try simp only [Act.put, List.setIfInBounds_toArray, List.set_cons_zero, List.set_cons_succ, List.getElem_toArray, List.getElem_cons_zero, List.getElem_cons_succ])
        refine wpAnyH_ready (rs := [5]) (by kernel_rfl) (by simp) ?_
        refine AllReadyH.cons rfl (fun K hK => ?_) (AllReadyH.nil)
        go_simp
        go_at_call 71; refine (zceil_any _ _ a b HL.out.2.2.1 HL.out.1 HL.out.2.1 _ hi hj).mono ?_
        rintro e Wr ⟨u, rfl, hr, hb⟩
        obtain ⟨gr, pr, nr, cr, rfl⟩ := hr.shape
        rw [HQ.out.2.1] at hr
        replace zi := zi.go hb
        replace zj := zj.go hb
        replace x0 := x0.go hb
        replace x1 := x1.go hb
        replace zd := zd.go hb
        replace zu := zu.go hb
        replace zn := zn.go hb
        replace hi := hi.go hb
        replace hj := hj.go hb
        replace hq := hq.go hb
        replace h0 := bel_go h0 h0.size hb
        clear hb
        refine hK.out _ _ (⟨zi, zj⟩) (fun _ => ?_)
        clear hK K
        (try simp only [Act.put, List.setIfInBounds_toArray, List.set_cons_zero, List.set_cons_succ, List.getElem_toArray, List.getElem_cons_zero, List.getElem_cons_succ])
        refine wpAnyH_ready (rs := [8]) (by kernel_rfl) (by simp) ?_
        refine AllReadyH.cons rfl (fun K hK => ?_) (AllReadyH.nil)
        go_simp
        go_at_call 72; refine (round_any _ _ a b HL.out.2.2.2.1 HL.out.2.2.2.2.1 HL.out.2.2.2.2.2 _ hi hj).mono ?_
        rintro e Wt ⟨u, rfl, ht, hb⟩
        obtain ⟨gt, pt, nt, ct, rfl⟩ := ht.shape
        rw [HQ.out.2.2] at ht
        replace zi := zi.go hb
        replace zj := zj.go hb
        replace x0 := x0.go hb
        replace x1 := x1.go hb
        replace zd := zd.go hb
        replace zu := zu.go hb
        replace zn := zn.go hb
        replace hi := hi.go hb
        replace hj := hj.go hb
        replace hq := hq.go hb
        replace hr := hr.go hb
        replace h0 := bel_go h0 h0.size hb
        clear hb
        refine hK.out _ _ (⟨zi, zj⟩) (fun _ => ?_)
        clear hK K
        (try simp only [Act.put, List.setIfInBounds_toArray, List.set_cons_zero, List.set_cons_succ, List.getElem_toArray, List.getElem_cons_zero, List.getElem_cons_succ])
        refine wpAnyH_ready (rs := [9]) (by kernel_rfl) (by simp) ?_
        refine AllReadyH.cons rfl (fun K hK => ?_) (AllReadyH.nil)
        have hq0 := zd.c0
        have hq1 := zd.c1
        have hr0 := zd.f0
        have hr1 := zd.f1
        go_simp
        clear hq0 hq1 hr0 hr1
        have hP := put2 Wt (w.heap.size + 1 + 1) (.bool gq) (.slice pq nq cq)
        have hN := zd.stored (.bool gq) (.slice pq nq cq)
        generalize (Wt.setCell ⟨w.heap.size + 1 + 1, 0, none⟩ (.bool gq)).setCell ⟨w.heap.size + 1 + 1, 1, none⟩ (.slice pq nq cq) = V1 at hP hN ⊢
        replace h0 := bel_put h0 (by omega) hP
        replace zi := zi.put hP (by omega)
        replace zj := zj.put hP (by omega)
        replace x0 := x0.put hP (by omega)
        replace x1 := x1.put hP (by omega)
        replace zu := zu.put hP (by omega)
        replace zn := zn.put hP (by omega)
        replace hi := hi.put zd (by decide) hP
        replace hj := hj.put zd (by decide) hP
        replace hq := hq.put zd (by decide) hP
        replace hr := hr.put zd (by decide) hP
        replace ht := ht.put zd (by decide) hP
        clear hP zd
        have zd := hN
        clear hN
        refine hK.out _ _ (⟨zi, zj⟩) (fun _ => ?_)
        clear hK K
        (try simp only [Act.put, List.setIfInBounds_toArray, List.set_cons_zero, List.set_cons_succ, List.getElem_toArray, List.getElem_cons_zero, List.getElem_cons_succ])
        refine wpAnyH_ready (rs := [10]) (by kernel_rfl) (by simp) ?_
        refine AllReadyH.cons rfl (fun K hK => ?_) (AllReadyH.nil)
        have hq0 := zu.c0
        have hq1 := zu.c1
        have hr0 := zu.f0
        have hr1 := zu.f1
        go_simp
        clear hq0 hq1 hr0 hr1
        have hP := put2 V1 (w.heap.size + 1 + 1 + 1) (.bool gr) (.slice pr nr cr)
        have hN := zu.stored (.bool gr) (.slice pr nr cr)
        generalize (V1.setCell ⟨w.heap.size + 1 + 1 + 1, 0, none⟩ (.bool gr)).setCell ⟨w.heap.size + 1 + 1 + 1, 1, none⟩ (.slice pr nr cr) = V2 at hP hN ⊢
        replace h0 := bel_put h0 (by omega) hP
        replace zi := zi.put hP (by omega)
        replace zj := zj.put hP (by omega)
        replace x0 := x0.put hP (by omega)
        replace x1 := x1.put hP (by omega)
        replace zd := zd.put hP (by omega)
        replace zn := zn.put hP (by omega)
        replace hi := hi.put zu (by decide) hP
        replace hj := hj.put zu (by decide) hP
        replace hq := hq.put zu (by decide) hP
        replace hr := hr.put zu (by decide) hP
        replace ht := ht.put zu (by decide) hP
        clear hP zu
        have zu := hN
        clear hN
        refine hK.out _ _ (⟨zi, zj⟩) (fun _ => ?_)
        clear hK K
        (try simp only [Act.put, List.setIfInBounds_toArray, List.set_cons_zero, List.set_cons_succ, List.getElem_toArray, List.getElem_cons_zero, List.getElem_cons_succ])
        refine wpAnyH_done (by kernel_rfl) ?_ _
        refine still1_step rfl (fun K hK => ?_)
        have hq0 := zn.c0
        have hq1 := zn.c1
        have hr0 := zn.f0
        have hr1 := zn.f1
        go_simp
        clear hq0 hq1 hr0 hr1
        have hP := put2 V2 (w.heap.size + 1 + 1 + 1 + 1) (.bool gt) (.slice pt nt ct)
        have hN := zn.stored (.bool gt) (.slice pt nt ct)
        generalize (V2.setCell ⟨w.heap.size + 1 + 1 + 1 + 1, 0, none⟩ (.bool gt)).setCell ⟨w.heap.size + 1 + 1 + 1 + 1, 1, none⟩ (.slice pt nt ct) = V3 at hP hN ⊢
        replace h0 := bel_put h0 (by omega) hP
        replace zi := zi.put hP (by omega)
        replace zj := zj.put hP (by omega)
        replace x0 := x0.put hP (by omega)
        replace x1 := x1.put hP (by omega)
        replace zd := zd.put hP (by omega)
        replace zu := zu.put hP (by omega)
        replace hi := hi.put zn (by decide) hP
        replace hj := hj.put zn (by decide) hP
        replace hq := hq.put zn (by decide) hP
        replace hr := hr.put zn (by decide) hP
        replace ht := ht.put zn (by decide) hP
        clear hP zn
        have zn := hN
        clear hN
        refine hK.out _ _ ?_
        clear hK K
        (try simp only [Act.put, List.setIfInBounds_toArray, List.set_cons_zero, List.set_cons_succ, List.getElem_toArray, List.getElem_cons_zero, List.getElem_cons_succ])
        have c_x1 := x1.c0
        have d_x1 := x1.c1
        have p_x1 := x1.f0
        have q_x1 := x1.f1
        go_wp2_with fail
        clear c_x1 d_x1 p_x1 q_x1
        go_at_call 65; (with_reducible refine (fracErr_any c d c1 c2 d1 d2 _).mono ?_)
        rintro e W6 ⟨rfl, hb⟩
        replace zi := zi.go hb
        replace zj := zj.go hb
        replace x0 := x0.go hb
        replace x1 := x1.go hb
        replace zd := zd.go hb
        replace zu := zu.go hb
        replace zn := zn.go hb
        replace h0 := bel_go h0 h0.size hb
        replace hi := hi.go hb
        replace hj := hj.go hb
        replace hq := hq.go hb
        replace hr := hr.go hb
        replace ht := ht.go hb
        rw [HEC.out]
        clear hb
        by_cases hc : EC = 0
        · have hcb : (EC == 0) = true := by simpa using hc
          have HOC := Lib.hid (HO.out.1 hc)
          clear hc
          go_wp2_with fail
          refine wp_region_held_drew (S := fun W' => Bx W' Bi 27 (.bool gi) (.slice pi ni ci) ∧ Bx W' Bj 27 (.bool gj) (.slice pj nj cj) ∧ Bx W' (w.heap.size + 1) 76 (.int .i64 c) (.int .i64 d)) (by kernel_rfl) (⟨zi.drew, zj.drew, x1.drew⟩) (fun _ => ?_)
          replace zi := zi.drew
          replace zj := zj.drew
          replace x0 := x0.drew
          replace x1 := x1.drew
          replace zd := zd.drew
          replace zu := zu.drew
          replace zn := zn.drew
          replace hi := hi.drew
          replace hj := hj.drew
          replace hq := hq.drew
          replace hr := hr.drew
          replace ht := ht.drew
          replace h0 := Below.drew h0
          generalize W6.drew = W6 at zi zj x0 x1 zd zu zn hi hj hq hr ht h0 ⊢
          refine wpAnyH_take (i := 0) (v := ?_) rfl (by kernel_rfl) (by kernel_rfl) (by kernel_rfl) (fun _ _ _ h => h) (Or.inl ⟨by kernel_rfl, ?_⟩) (⟨zi, zj, x1⟩) ?_
          rotate_left
          focus (intro W' hSw; obtain ⟨hx0, hx1, hx2⟩ := hSw; have hc0 := hx0.c0; have hc1 := hx0.c1; have hc2 := hx1.c0; have hc3 := hx1.c1; have hc4 := hx2.c0; have hc5 := hx2.c1; clear hx0 hx1 hx2; go_simp; (try with_reducible rfl))
          (try simp only [Act.put, List.setIfInBounds_toArray, List.set_cons_zero, List.set_cons_succ, List.getElem_toArray, List.getElem_cons_zero, List.getElem_cons_succ])
          refine wpAnyH_take (i := 1) (v := ?_) rfl (by kernel_rfl) (by kernel_rfl) (by kernel_rfl) (fun _ _ _ h => h) (Or.inl ⟨by kernel_rfl, ?_⟩) (⟨zi, zj, x1⟩) ?_
          rotate_left
          focus (intro W' hSw; obtain ⟨hx0, hx1, hx2⟩ := hSw; have hc0 := hx0.c0; have hc1 := hx0.c1; have hc2 := hx1.c0; have hc3 := hx1.c1; have hc4 := hx2.c0; have hc5 := hx2.c1; clear hx0 hx1 hx2; go_simp; (try with_reducible rfl))
          (try simp only [Act.put, List.setIfInBounds_toArray, List.set_cons_zero, List.set_cons_succ, List.getElem_toArray, List.getElem_cons_zero, List.getElem_cons_succ])
          refine wpAnyH_take (i := 2) (v := ?_) rfl (by kernel_rfl) (by kernel_rfl) (by kernel_rfl) (fun _ _ _ h => h) (Or.inl ⟨by kernel_rfl, ?_⟩) (⟨zi, zj, x1⟩) ?_
          rotate_left
          focus (intro W' hSw; obtain ⟨hx0, hx1, hx2⟩ := hSw; have hc0 := hx0.c0; have hc1 := hx0.c1; have hc2 := hx1.c0; have hc3 := hx1.c1; have hc4 := hx2.c0; have hc5 := hx2.c1; clear hx0 hx1 hx2; go_simp; (try with_reducible rfl))
          (try simp only [Act.put, List.setIfInBounds_toArray, List.set_cons_zero, List.set_cons_succ, List.getElem_toArray, List.getElem_cons_zero, List.getElem_cons_succ])
          refine wpAnyH_take (i := 5) (v := ?_) rfl (by kernel_rfl) (by kernel_rfl) (by kernel_rfl) (fun _ _ _ h => h) (Or.inl ⟨by kernel_rfl, ?_⟩) (⟨zi, zj, x1⟩) ?_
          rotate_left
          focus (intro W' hSw; obtain ⟨hx0, hx1, hx2⟩ := hSw; have hc0 := hx0.c0; have hc1 := hx0.c1; have hc2 := hx1.c0; have hc3 := hx1.c1; have hc4 := hx2.c0; have hc5 := hx2.c1; clear hx0 hx1 hx2; go_simp; (try with_reducible rfl))
          (try simp only [Act.put, List.setIfInBounds_toArray, List.set_cons_zero, List.set_cons_succ, List.getElem_toArray, List.getElem_cons_zero, List.getElem_cons_succ])
          refine wpAnyH_take (i := 6) (v := ?_) rfl (by kernel_rfl) (by kernel_rfl) (by kernel_rfl) (fun _ _ _ h => h) (Or.inl ⟨by kernel_rfl, ?_⟩) (⟨zi, zj, x1⟩) ?_
          rotate_left
          focus (intro W' hSw; obtain ⟨hx0, hx1, hx2⟩ := hSw; have hc0 := hx0.c0; have hc1 := hx0.c1; have hc2 := hx1.c0; have hc3 := hx1.c1; have hc4 := hx2.c0; have hc5 := hx2.c1; clear hx0 hx1 hx2; go_simp; (try with_reducible rfl))
          (try simp only [Act.put, List.setIfInBounds_toArray, List.set_cons_zero, List.set_cons_succ, List.getElem_toArray, List.getElem_cons_zero, List.getElem_cons_succ])
          refine wpAnyH_take (i := 8) (v := ?_) rfl (by kernel_rfl) (by kernel_rfl) (by kernel_rfl) (fun _ _ _ h => h) (Or.inl ⟨by kernel_rfl, ?_⟩) (⟨zi, zj, x1⟩) ?_
          rotate_left
          focus (intro W' hSw; obtain ⟨hx0, hx1, hx2⟩ := hSw; have hc0 := hx0.c0; have hc1 := hx0.c1; have hc2 := hx1.c0; have hc3 := hx1.c1; have hc4 := hx2.c0; have hc5 := hx2.c1; clear hx0 hx1 hx2; go_simp; (try with_reducible rfl))
          (try simp only [Act.put, List.setIfInBounds_toArray, List.set_cons_zero, List.set_cons_succ, List.getElem_toArray, List.getElem_cons_zero, List.getElem_cons_succ])
          refine wpAnyH_ready (rs := [3]) (by kernel_rfl) (by simp) ?_
          refine AllReadyH.cons rfl (fun K hK => ?_) (AllReadyH.nil)
          go_simp
          go_at_call 21; refine (i_any d d1 d2 _).mono ?_
          rintro e Wk ⟨u, rfl, hk, hb⟩
          obtain ⟨gk, pk, nk, ck, rfl⟩ := hk.shape
          replace zi := zi.go hb
          replace zj := zj.go hb
          replace x0 := x0.go hb
          replace x1 := x1.go hb
          replace zd := zd.go hb
          replace zu := zu.go hb
          replace zn := zn.go hb
          replace hi := hi.go hb
          replace hj := hj.go hb
          replace hq := hq.go hb
          replace hr := hr.go hb
          replace ht := ht.go hb
          replace h0 := bel_go h0 h0.size hb
          clear hb
          refine hK.out _ _ (⟨zi, zj, x1⟩) (fun _ => ?_)
          clear hK K
          (try simp only [Act.put, List.setIfInBounds_toArray, List.set_cons_zero, List.set_cons_succ, List.getElem_toArray, List.getElem_cons_zero, List.getElem_cons_succ])
          refine wpAnyH_ready (rs := [4]) (by kernel_rfl) (by simp) ?_
          refine AllReadyH.cons rfl (fun K hK => ?_) (AllReadyH.nil)
          go_simp
          go_at_call 52; refine (ztimes_any _ _ a d HS.out.1 _ hi hk).mono ?_
          rintro e Wm ⟨u, rfl, hm, hb⟩
          obtain ⟨gm, pm, nm, cm, rfl⟩ := hm.shape
          replace zi := zi.go hb
          replace zj := zj.go hb
          replace x0 := x0.go hb
          replace x1 := x1.go hb
          replace zd := zd.go hb
          replace zu := zu.go hb
          replace zn := zn.go hb
          replace hi := hi.go hb
          replace hj := hj.go hb
          replace hq := hq.go hb
          replace hr := hr.go hb
          replace ht := ht.go hb
          replace hk := hk.go hb
          replace h0 := bel_go h0 h0.size hb
          clear hb
          refine hK.out _ _ (⟨zi, zj, x1⟩) (fun _ => ?_)
          clear hK K
          (try simp only [Act.put, List.setIfInBounds_toArray, List.set_cons_zero, List.set_cons_succ, List.getElem_toArray, List.getElem_cons_zero, List.getElem_cons_succ])
          refine wpAnyH_ready (rs := [7]) (by kernel_rfl) (by simp) ?_
          refine AllReadyH.cons rfl (fun K hK => ?_) (AllReadyH.nil)
          go_simp
          go_at_call 21; refine (i_any c c1 c2 _).mono ?_
          rintro e Wo ⟨u, rfl, ho, hb⟩
          obtain ⟨go, po, no, co, rfl⟩ := ho.shape
          replace zi := zi.go hb
          replace zj := zj.go hb
          replace x0 := x0.go hb
          replace x1 := x1.go hb
          replace zd := zd.go hb
          replace zu := zu.go hb
          replace zn := zn.go hb
          replace hi := hi.go hb
          replace hj := hj.go hb
          replace hq := hq.go hb
          replace hr := hr.go hb
          replace ht := ht.go hb
          replace hk := hk.go hb
          replace hm := hm.go hb
          replace h0 := bel_go h0 h0.size hb
          clear hb
          refine hK.out _ _ (⟨zi, zj, x1⟩) (fun _ => ?_)
          clear hK K
          (try simp only [Act.put, List.setIfInBounds_toArray, List.set_cons_zero, List.set_cons_succ, List.getElem_toArray, List.getElem_cons_zero, List.getElem_cons_succ])
          refine wpAnyH_ready (rs := [9]) (by kernel_rfl) (by simp) ?_
          refine AllReadyH.cons rfl (fun K hK => ?_) (AllReadyH.nil)
          go_simp
          go_at_call 52; refine (ztimes_any _ _ c b HS.out.2.1 _ ho hj).mono ?_
          rintro e Ws ⟨u, rfl, hs, hb⟩
          obtain ⟨gs, ps, ns, cs, rfl⟩ := hs.shape
          replace zi := zi.go hb
          replace zj := zj.go hb
          replace x0 := x0.go hb
          replace x1 := x1.go hb
          replace zd := zd.go hb
          replace zu := zu.go hb
          replace zn := zn.go hb
          replace hi := hi.go hb
          replace hj := hj.go hb
          replace hq := hq.go hb
          replace hr := hr.go hb
          replace ht := ht.go hb
          replace hk := hk.go hb
          replace hm := hm.go hb
          replace ho := ho.go hb
          replace h0 := bel_go h0 h0.size hb
          clear hb
          refine hK.out _ _ (⟨zi, zj, x1⟩) (fun _ => ?_)
          clear hK K
          (try simp only [Act.put, List.setIfInBounds_toArray, List.set_cons_zero, List.set_cons_succ, List.getElem_toArray, List.getElem_cons_zero, List.getElem_cons_succ])
          refine wpAnyH_ready (rs := [10]) (by kernel_rfl) (by simp) ?_
          refine AllReadyH.cons rfl (fun K hK => ?_) (AllReadyH.nil)
          go_simp
          go_at_call 19; (with_reducible refine (zcmp_any _ _ (a * d) (c * b) HS.out.2.2.1 HS.out.2.2.2 _ hm hs).mono ?_)
          rw [HOC.out]
          rintro e Wc ⟨rfl, hb⟩
          replace zi := zi.go hb
          replace zj := zj.go hb
          replace x0 := x0.go hb
          replace x1 := x1.go hb
          replace zd := zd.go hb
          replace zu := zu.go hb
          replace zn := zn.go hb
          replace hi := hi.go hb
          replace hj := hj.go hb
          replace hq := hq.go hb
          replace hr := hr.go hb
          replace ht := ht.go hb
          replace hk := hk.go hb
          replace hm := hm.go hb
          replace ho := ho.go hb
          replace hs := hs.go hb
          replace h0 := bel_go h0 h0.size hb
          clear hb
          refine hK.out _ _ (⟨zi, zj, x1⟩) (fun _ => ?_)
          clear hK K
          (try simp only [Act.put, List.setIfInBounds_toArray, List.set_cons_zero, List.set_cons_succ, List.getElem_toArray, List.getElem_cons_zero, List.getElem_cons_succ])
          refine wpAnyH_take (i := 11) (v := ?_) rfl (by kernel_rfl) (by kernel_rfl) (by kernel_rfl) (fun _ _ _ h => h) (Or.inl ⟨by kernel_rfl, ?_⟩) (⟨zi, zj, x1⟩) ?_
          rotate_left
          focus (intro W' hSw; obtain ⟨hx0, hx1, hx2⟩ := hSw; have hc0 := hx0.c0; have hc1 := hx0.c1; have hc2 := hx1.c0; have hc3 := hx1.c1; have hc4 := hx2.c0; have hc5 := hx2.c1; clear hx0 hx1 hx2; go_simp; (try with_reducible rfl))
          (try simp only [Act.put, List.setIfInBounds_toArray, List.set_cons_zero, List.set_cons_succ, List.getElem_toArray, List.getElem_cons_zero, List.getElem_cons_succ])
          refine wpAnyH_done (by kernel_rfl) ?_ _
          go_wp2_with fail
          go_meet
          case rel => exact ⟨rfl, x0, x1, ⟨_, _, _, _, zd, hq⟩, ⟨_, _, _, _, zu, hr⟩, ⟨_, _, _, _, zn, ht⟩, h0⟩
        · have hcb : (EC == 0) = false := by simpa using hc
          have HOC := Lib.hid (HO.out.2 hc)
          clear hc
          go_wp2_with fail
          go_meet
          case rel => exact ⟨(by first | rfl | rw [HOC.out]), x0, x1, ⟨_, _, _, _, zd, hq⟩, ⟨_, _, _, _, zu, hr⟩, ⟨_, _, _, _, zn, ht⟩, h0⟩
    · have hab : (EA == 0) = false := by simpa using ha
      obtain ⟨e1, e2, e3, e4⟩ := HQ1.out ha
      subst e1 e2 e3 e4
      clear ha
      go_wp2_with fail
      go_meet
      case rel => exact ⟨rfl, x0, x1, ⟨_, _, _, _, zd, zero_zz _⟩, ⟨_, _, _, _, zu, zero_zz _⟩, ⟨_, _, _, _, zn, zero_zz _⟩, h0⟩
  case rest =>
    clear x0 x1 zd zu zn h0
    obtain ⟨rfl, x0, x1, ⟨gq, pq, nq, cq, zd, hq⟩, ⟨gr, pr, nr, cr, zu, hr⟩, ⟨gt, pt, nt, ct, zn, ht⟩, h0⟩ := hcut
    go_wp2_with fail
    refine wp_region_held_drew (S := fun W' => Bx W' (w.heap.size) 76 (.int .i64 a) (.int .i64 b) ∧ Bx W' (w.heap.size + 1) 76 (.int .i64 c) (.int .i64 d) ∧ Bx W' (w.heap.size + 1 + 1) 27 (.bool gq) (.slice pq nq cq) ∧ Bx W' (w.heap.size + 1 + 1 + 1) 27 (.bool gr) (.slice pr nr cr) ∧ Bx W' (w.heap.size + 1 + 1 + 1 + 1) 27 (.bool gt) (.slice pt nt ct)) (by kernel_rfl) (⟨x0.drew, x1.drew, zd.drew, zu.drew, zn.drew⟩) (fun _ => ?_)
    replace x0 := x0.drew
    replace x1 := x1.drew
    replace zd := zd.drew
    replace zu := zu.drew
    replace zn := zn.drew
    replace hq := hq.drew
    replace hr := hr.drew
    replace ht := ht.drew
    replace h0 := Below.drew h0
    generalize wc.drew = wc at x0 x1 zd zu zn hq hr ht h0 ⊢
    refine wpAnyH_ready (rs := [0]) (by kernel_rfl) (by simp) ?_
    refine AllReadyH.cons rfl (fun K hK => ?_) (AllReadyH.nil)
    go_simp
    go_at_call 63; (with_reducible refine (fracs_any _).mono ?_)

    rintro e Wf ⟨rfl, hb⟩
    replace x0 := x0.go hb
    replace x1 := x1.go hb
    replace zd := zd.go hb
    replace zu := zu.go hb
    replace zn := zn.go hb
    replace hq := hq.go hb
    replace hr := hr.go hb
    replace ht := ht.go hb
    replace h0 := bel_go h0 h0.size hb
    clear hb
    refine hK.out _ _ (⟨x0, x1, zd, zu, zn⟩) (fun _ => ?_)
    clear hK K
    (try simp only [Act.put, List.setIfInBounds_toArray, List.set_cons_zero, List.set_cons_succ, List.getElem_toArray, List.getElem_cons_zero, List.getElem_cons_succ])
    refine wpAnyH_take (i := 1) (v := ?_) rfl (by kernel_rfl) (by kernel_rfl) (by kernel_rfl) (fun _ _ _ h => h) (Or.inl ⟨by kernel_rfl, ?_⟩) (⟨x0, x1, zd, zu, zn⟩) ?_
    rotate_left
    focus (intro W' hSw; obtain ⟨hx0, hx1, hx2, hx3, hx4⟩ := hSw; have hc0 := hx0.c0; have hc1 := hx0.c1; have hc2 := hx1.c0; have hc3 := hx1.c1; have hc4 := hx2.c0; have hc5 := hx2.c1; have hc6 := hx3.c0; have hc7 := hx3.c1; have hc8 := hx4.c0; have hc9 := hx4.c1; clear hx0 hx1 hx2 hx3 hx4; go_simp; (try with_reducible rfl))
    (try simp only [Act.put, List.setIfInBounds_toArray, List.set_cons_zero, List.set_cons_succ, List.getElem_toArray, List.getElem_cons_zero, List.getElem_cons_succ])
    refine wpAnyH_take (i := 2) (v := ?_) rfl (by kernel_rfl) (by kernel_rfl) (by kernel_rfl) (fun _ _ _ h => h) (Or.inl ⟨by kernel_rfl, ?_⟩) (⟨x0, x1, zd, zu, zn⟩) ?_
    rotate_left
    focus (intro W' hSw; obtain ⟨hx0, hx1, hx2, hx3, hx4⟩ := hSw; have hc0 := hx0.c0; have hc1 := hx0.c1; have hc2 := hx1.c0; have hc3 := hx1.c1; have hc4 := hx2.c0; have hc5 := hx2.c1; have hc6 := hx3.c0; have hc7 := hx3.c1; have hc8 := hx4.c0; have hc9 := hx4.c1; clear hx0 hx1 hx2 hx3 hx4; go_simp; (try with_reducible rfl))
    (try simp only [Act.put, List.setIfInBounds_toArray, List.set_cons_zero, List.set_cons_succ, List.getElem_toArray, List.getElem_cons_zero, List.getElem_cons_succ])
    refine wpAnyH_take (i := 3) (v := ?_) rfl (by kernel_rfl) (by kernel_rfl) (by kernel_rfl) (fun _ _ _ h => h) (Or.inl ⟨by kernel_rfl, ?_⟩) (⟨x0, x1, zd, zu, zn⟩) ?_
    rotate_left
    focus (intro W' hSw; obtain ⟨hx0, hx1, hx2, hx3, hx4⟩ := hSw; have hc0 := hx0.c0; have hc1 := hx0.c1; have hc2 := hx1.c0; have hc3 := hx1.c1; have hc4 := hx2.c0; have hc5 := hx2.c1; have hc6 := hx3.c0; have hc7 := hx3.c1; have hc8 := hx4.c0; have hc9 := hx4.c1; clear hx0 hx1 hx2 hx3 hx4; go_simp; (try with_reducible rfl))
    (try simp only [Act.put, List.setIfInBounds_toArray, List.set_cons_zero, List.set_cons_succ, List.getElem_toArray, List.getElem_cons_zero, List.getElem_cons_succ])
    refine wpAnyH_take (i := 5) (v := ?_) rfl (by kernel_rfl) (by kernel_rfl) (by kernel_rfl) (fun _ _ _ h => h) (Or.inl ⟨by kernel_rfl, ?_⟩) (⟨x0, x1, zd, zu, zn⟩) ?_
    rotate_left
    focus (intro W' hSw; obtain ⟨hx0, hx1, hx2, hx3, hx4⟩ := hSw; have hc0 := hx0.c0; have hc1 := hx0.c1; have hc2 := hx1.c0; have hc3 := hx1.c1; have hc4 := hx2.c0; have hc5 := hx2.c1; have hc6 := hx3.c0; have hc7 := hx3.c1; have hc8 := hx4.c0; have hc9 := hx4.c1; clear hx0 hx1 hx2 hx3 hx4; go_simp; (try with_reducible rfl))
    (try simp only [Act.put, List.setIfInBounds_toArray, List.set_cons_zero, List.set_cons_succ, List.getElem_toArray, List.getElem_cons_zero, List.getElem_cons_succ])
    refine wpAnyH_ready (rs := [4]) (by kernel_rfl) (by simp) ?_
    refine AllReadyH.cons rfl (fun K hK => ?_) (AllReadyH.nil)
    go_simp
    go_at_call 73; (with_reducible refine (cmpf_any a b c d a1 a2 b1 b2 c1 c2 d1 d2 _).mono ?_)
    rw [HOR.out]
    rintro e Wg ⟨rfl, hb⟩
    replace x0 := x0.go hb
    replace x1 := x1.go hb
    replace zd := zd.go hb
    replace zu := zu.go hb
    replace zn := zn.go hb
    replace hq := hq.go hb
    replace hr := hr.go hb
    replace ht := ht.go hb
    replace h0 := bel_go h0 h0.size hb
    clear hb
    refine hK.out _ _ (⟨x0, x1, zd, zu, zn⟩) (fun _ => ?_)
    clear hK K
    (try simp only [Act.put, List.setIfInBounds_toArray, List.set_cons_zero, List.set_cons_succ, List.getElem_toArray, List.getElem_cons_zero, List.getElem_cons_succ])
    refine wpAnyH_take (i := 6) (v := ?_) rfl (by kernel_rfl) (by kernel_rfl) (by kernel_rfl) (fun _ _ _ h => h) (Or.inl ⟨by kernel_rfl, ?_⟩) (⟨x0, x1, zd, zu, zn⟩) ?_
    rotate_left
    focus (intro W' hSw; obtain ⟨hx0, hx1, hx2, hx3, hx4⟩ := hSw; have hc0 := hx0.c0; have hc1 := hx0.c1; have hc2 := hx1.c0; have hc3 := hx1.c1; have hc4 := hx2.c0; have hc5 := hx2.c1; have hc6 := hx3.c0; have hc7 := hx3.c1; have hc8 := hx4.c0; have hc9 := hx4.c1; clear hx0 hx1 hx2 hx3 hx4; go_simp; (try with_reducible rfl))
    (try simp only [Act.put, List.setIfInBounds_toArray, List.set_cons_zero, List.set_cons_succ, List.getElem_toArray, List.getElem_cons_zero, List.getElem_cons_succ])
    refine wpAnyH_take (i := 7) (v := ?_) rfl (by kernel_rfl) (by kernel_rfl) (by kernel_rfl) (fun _ _ _ h => h) (Or.inl ⟨by kernel_rfl, ?_⟩) (⟨x0, x1, zd, zu, zn⟩) ?_
    rotate_left
    focus (intro W' hSw; obtain ⟨hx0, hx1, hx2, hx3, hx4⟩ := hSw; have hc0 := hx0.c0; have hc1 := hx0.c1; have hc2 := hx1.c0; have hc3 := hx1.c1; have hc4 := hx2.c0; have hc5 := hx2.c1; have hc6 := hx3.c0; have hc7 := hx3.c1; have hc8 := hx4.c0; have hc9 := hx4.c1; clear hx0 hx1 hx2 hx3 hx4; go_simp; (try with_reducible rfl))
    (try simp only [Act.put, List.setIfInBounds_toArray, List.set_cons_zero, List.set_cons_succ, List.getElem_toArray, List.getElem_cons_zero, List.getElem_cons_succ])
    refine wpAnyH_take (i := 8) (v := ?_) rfl (by kernel_rfl) (by kernel_rfl) (by kernel_rfl) (fun _ _ _ h => h) (Or.inl ⟨by kernel_rfl, ?_⟩) (⟨x0, x1, zd, zu, zn⟩) ?_
    rotate_left
    focus (intro W' hSw; obtain ⟨hx0, hx1, hx2, hx3, hx4⟩ := hSw; have hc0 := hx0.c0; have hc1 := hx0.c1; have hc2 := hx1.c0; have hc3 := hx1.c1; have hc4 := hx2.c0; have hc5 := hx2.c1; have hc6 := hx3.c0; have hc7 := hx3.c1; have hc8 := hx4.c0; have hc9 := hx4.c1; clear hx0 hx1 hx2 hx3 hx4; go_simp; (try with_reducible rfl))
    (try simp only [Act.put, List.setIfInBounds_toArray, List.set_cons_zero, List.set_cons_succ, List.getElem_toArray, List.getElem_cons_zero, List.getElem_cons_succ])
    refine wpAnyH_take (i := 9) (v := ?_) rfl (by kernel_rfl) (by kernel_rfl) (by kernel_rfl) (fun _ _ _ h => h) (Or.inl ⟨by kernel_rfl, ?_⟩) (⟨x0, x1, zd, zu, zn⟩) ?_
    rotate_left
    focus (intro W' hSw; obtain ⟨hx0, hx1, hx2, hx3, hx4⟩ := hSw; have hc0 := hx0.c0; have hc1 := hx0.c1; have hc2 := hx1.c0; have hc3 := hx1.c1; have hc4 := hx2.c0; have hc5 := hx2.c1; have hc6 := hx3.c0; have hc7 := hx3.c1; have hc8 := hx4.c0; have hc9 := hx4.c1; clear hx0 hx1 hx2 hx3 hx4; go_simp; (try with_reducible rfl))
    (try simp only [Act.put, List.setIfInBounds_toArray, List.set_cons_zero, List.set_cons_succ, List.getElem_toArray, List.getElem_cons_zero, List.getElem_cons_succ])
    refine wpAnyH_take (i := 10) (v := ?_) rfl (by kernel_rfl) (by kernel_rfl) (by kernel_rfl) (fun _ _ _ h => h) (Or.inl ⟨by kernel_rfl, ?_⟩) (⟨x0, x1, zd, zu, zn⟩) ?_
    rotate_left
    focus (intro W' hSw; obtain ⟨hx0, hx1, hx2, hx3, hx4⟩ := hSw; have hc0 := hx0.c0; have hc1 := hx0.c1; have hc2 := hx1.c0; have hc3 := hx1.c1; have hc4 := hx2.c0; have hc5 := hx2.c1; have hc6 := hx3.c0; have hc7 := hx3.c1; have hc8 := hx4.c0; have hc9 := hx4.c1; clear hx0 hx1 hx2 hx3 hx4; go_simp; (try with_reducible rfl))
    (try simp only [Act.put, List.setIfInBounds_toArray, List.set_cons_zero, List.set_cons_succ, List.getElem_toArray, List.getElem_cons_zero, List.getElem_cons_succ])
    refine wpAnyH_ready (rs := [11]) (by kernel_rfl) (by simp) ?_
    refine AllReadyH.cons rfl (fun K hK => ?_) (AllReadyH.nil)
    go_simp
    go_at_call 74; (with_reducible refine (ffloor_any a b a1 a2 b1 b2 _).mono ?_)
    rw [HV.out.1]
    rintro e Wh ⟨rfl, hb⟩
    replace x0 := x0.go hb
    replace x1 := x1.go hb
    replace zd := zd.go hb
    replace zu := zu.go hb
    replace zn := zn.go hb
    replace hq := hq.go hb
    replace hr := hr.go hb
    replace ht := ht.go hb
    replace h0 := bel_go h0 h0.size hb
    clear hb
    refine hK.out _ _ (⟨x0, x1, zd, zu, zn⟩) (fun _ => ?_)
    clear hK K
    (try simp only [Act.put, List.setIfInBounds_toArray, List.set_cons_zero, List.set_cons_succ, List.getElem_toArray, List.getElem_cons_zero, List.getElem_cons_succ])
    refine wpAnyH_ready (rs := [12]) (by kernel_rfl) (by simp) ?_
    refine AllReadyH.cons rfl (fun K hK => ?_) (AllReadyH.nil)
    go_simp
    go_at_call 21; refine (i_any FL HB.out.1.1 HB.out.1.2.1 _).mono ?_
    rintro e Wu ⟨u, rfl, hu, hb⟩
    obtain ⟨gu, pu, nu, cu, rfl⟩ := hu.shape
    replace x0 := x0.go hb
    replace x1 := x1.go hb
    replace zd := zd.go hb
    replace zu := zu.go hb
    replace zn := zn.go hb
    replace hq := hq.go hb
    replace hr := hr.go hb
    replace ht := ht.go hb
    replace h0 := bel_go h0 h0.size hb
    clear hb
    refine hK.out _ _ (⟨x0, x1, zd, zu, zn⟩) (fun _ => ?_)
    clear hK K
    (try simp only [Act.put, List.setIfInBounds_toArray, List.set_cons_zero, List.set_cons_succ, List.getElem_toArray, List.getElem_cons_zero, List.getElem_cons_succ])
    refine wpAnyH_ready (rs := [13]) (by kernel_rfl) (by simp) ?_
    refine AllReadyH.cons rfl (fun K hK => ?_) (AllReadyH.nil)
    go_simp
    go_at_call 19; (with_reducible refine (zcmp_any _ _ FL FL HB.out.1.2.2 HB.out.1.2.2 _ hq hu).mono ?_)
    rw [cmpI_eq rfl]
    rintro e Wcu ⟨rfl, hb⟩
    replace x0 := x0.go hb
    replace x1 := x1.go hb
    replace zd := zd.go hb
    replace zu := zu.go hb
    replace zn := zn.go hb
    replace hq := hq.go hb
    replace hr := hr.go hb
    replace ht := ht.go hb
    replace hu := hu.go hb
    replace h0 := bel_go h0 h0.size hb
    clear hb
    refine hK.out _ _ (⟨x0, x1, zd, zu, zn⟩) (fun _ => ?_)
    clear hK K
    (try simp only [Act.put, List.setIfInBounds_toArray, List.set_cons_zero, List.set_cons_succ, List.getElem_toArray, List.getElem_cons_zero, List.getElem_cons_succ])
    refine wpAnyH_take (i := 14) (v := ?_) rfl (by kernel_rfl) (by kernel_rfl) (by kernel_rfl) (fun _ _ _ h => h) (Or.inl ⟨by kernel_rfl, ?_⟩) (⟨x0, x1, zd, zu, zn⟩) ?_
    rotate_left
    focus (intro W' hSw; obtain ⟨hx0, hx1, hx2, hx3, hx4⟩ := hSw; have hc0 := hx0.c0; have hc1 := hx0.c1; have hc2 := hx1.c0; have hc3 := hx1.c1; have hc4 := hx2.c0; have hc5 := hx2.c1; have hc6 := hx3.c0; have hc7 := hx3.c1; have hc8 := hx4.c0; have hc9 := hx4.c1; clear hx0 hx1 hx2 hx3 hx4; go_simp; (try with_reducible rfl))
    (try simp only [Act.put, List.setIfInBounds_toArray, List.set_cons_zero, List.set_cons_succ, List.getElem_toArray, List.getElem_cons_zero, List.getElem_cons_succ])
    refine wpAnyH_take (i := 15) (v := ?_) rfl (by kernel_rfl) (by kernel_rfl) (by kernel_rfl) (fun _ _ _ h => h) (Or.inl ⟨by kernel_rfl, ?_⟩) (⟨x0, x1, zd, zu, zn⟩) ?_
    rotate_left
    focus (intro W' hSw; obtain ⟨hx0, hx1, hx2, hx3, hx4⟩ := hSw; have hc0 := hx0.c0; have hc1 := hx0.c1; have hc2 := hx1.c0; have hc3 := hx1.c1; have hc4 := hx2.c0; have hc5 := hx2.c1; have hc6 := hx3.c0; have hc7 := hx3.c1; have hc8 := hx4.c0; have hc9 := hx4.c1; clear hx0 hx1 hx2 hx3 hx4; go_simp; (try with_reducible rfl))
    (try simp only [Act.put, List.setIfInBounds_toArray, List.set_cons_zero, List.set_cons_succ, List.getElem_toArray, List.getElem_cons_zero, List.getElem_cons_succ])
    refine wpAnyH_take (i := 16) (v := ?_) rfl (by kernel_rfl) (by kernel_rfl) (by kernel_rfl) (fun _ _ _ h => h) (Or.inl ⟨by kernel_rfl, ?_⟩) (⟨x0, x1, zd, zu, zn⟩) ?_
    rotate_left
    focus (intro W' hSw; obtain ⟨hx0, hx1, hx2, hx3, hx4⟩ := hSw; have hc0 := hx0.c0; have hc1 := hx0.c1; have hc2 := hx1.c0; have hc3 := hx1.c1; have hc4 := hx2.c0; have hc5 := hx2.c1; have hc6 := hx3.c0; have hc7 := hx3.c1; have hc8 := hx4.c0; have hc9 := hx4.c1; clear hx0 hx1 hx2 hx3 hx4; go_simp; (try with_reducible rfl))
    (try simp only [Act.put, List.setIfInBounds_toArray, List.set_cons_zero, List.set_cons_succ, List.getElem_toArray, List.getElem_cons_zero, List.getElem_cons_succ])
    refine wpAnyH_take (i := 17) (v := ?_) rfl (by kernel_rfl) (by kernel_rfl) (by kernel_rfl) (fun _ _ _ h => h) (Or.inl ⟨by kernel_rfl, ?_⟩) (⟨x0, x1, zd, zu, zn⟩) ?_
    rotate_left
    focus (intro W' hSw; obtain ⟨hx0, hx1, hx2, hx3, hx4⟩ := hSw; have hc0 := hx0.c0; have hc1 := hx0.c1; have hc2 := hx1.c0; have hc3 := hx1.c1; have hc4 := hx2.c0; have hc5 := hx2.c1; have hc6 := hx3.c0; have hc7 := hx3.c1; have hc8 := hx4.c0; have hc9 := hx4.c1; clear hx0 hx1 hx2 hx3 hx4; go_simp; (try with_reducible rfl))
    (try simp only [Act.put, List.setIfInBounds_toArray, List.set_cons_zero, List.set_cons_succ, List.getElem_toArray, List.getElem_cons_zero, List.getElem_cons_succ])
    refine wpAnyH_take (i := 18) (v := ?_) rfl (by kernel_rfl) (by kernel_rfl) (by kernel_rfl) (fun _ _ _ h => h) (Or.inl ⟨by kernel_rfl, ?_⟩) (⟨x0, x1, zd, zu, zn⟩) ?_
    rotate_left
    focus (intro W' hSw; obtain ⟨hx0, hx1, hx2, hx3, hx4⟩ := hSw; have hc0 := hx0.c0; have hc1 := hx0.c1; have hc2 := hx1.c0; have hc3 := hx1.c1; have hc4 := hx2.c0; have hc5 := hx2.c1; have hc6 := hx3.c0; have hc7 := hx3.c1; have hc8 := hx4.c0; have hc9 := hx4.c1; clear hx0 hx1 hx2 hx3 hx4; go_simp; (try with_reducible rfl))
    (try simp only [Act.put, List.setIfInBounds_toArray, List.set_cons_zero, List.set_cons_succ, List.getElem_toArray, List.getElem_cons_zero, List.getElem_cons_succ])
    refine wpAnyH_ready (rs := [19]) (by kernel_rfl) (by simp) ?_
    refine AllReadyH.cons rfl (fun K hK => ?_) (AllReadyH.nil)
    go_simp
    go_at_call 75; (with_reducible refine (fceil_any a b a1 a2 b1 b2 _).mono ?_)
    rw [HV.out.2.1]
    rintro e Wi ⟨rfl, hb⟩
    replace x0 := x0.go hb
    replace x1 := x1.go hb
    replace zd := zd.go hb
    replace zu := zu.go hb
    replace zn := zn.go hb
    replace hq := hq.go hb
    replace hr := hr.go hb
    replace ht := ht.go hb
    replace hu := hu.go hb
    replace h0 := bel_go h0 h0.size hb
    clear hb
    refine hK.out _ _ (⟨x0, x1, zd, zu, zn⟩) (fun _ => ?_)
    clear hK K
    (try simp only [Act.put, List.setIfInBounds_toArray, List.set_cons_zero, List.set_cons_succ, List.getElem_toArray, List.getElem_cons_zero, List.getElem_cons_succ])
    refine wpAnyH_ready (rs := [20]) (by kernel_rfl) (by simp) ?_
    refine AllReadyH.cons rfl (fun K hK => ?_) (AllReadyH.nil)
    go_simp
    go_at_call 21; refine (i_any CE HB.out.2.1.1 HB.out.2.1.2.1 _).mono ?_
    rintro e Wv ⟨u, rfl, hv, hb⟩
    obtain ⟨gv, pv, nv, cv, rfl⟩ := hv.shape
    replace x0 := x0.go hb
    replace x1 := x1.go hb
    replace zd := zd.go hb
    replace zu := zu.go hb
    replace zn := zn.go hb
    replace hq := hq.go hb
    replace hr := hr.go hb
    replace ht := ht.go hb
    replace hu := hu.go hb
    replace h0 := bel_go h0 h0.size hb
    clear hb
    refine hK.out _ _ (⟨x0, x1, zd, zu, zn⟩) (fun _ => ?_)
    clear hK K
    (try simp only [Act.put, List.setIfInBounds_toArray, List.set_cons_zero, List.set_cons_succ, List.getElem_toArray, List.getElem_cons_zero, List.getElem_cons_succ])
    refine wpAnyH_ready (rs := [21]) (by kernel_rfl) (by simp) ?_
    refine AllReadyH.cons rfl (fun K hK => ?_) (AllReadyH.nil)
    go_simp
    go_at_call 19; (with_reducible refine (zcmp_any _ _ CE CE HB.out.2.1.2.2 HB.out.2.1.2.2 _ hr hv).mono ?_)
    rw [cmpI_eq rfl]
    rintro e Wcv ⟨rfl, hb⟩
    replace x0 := x0.go hb
    replace x1 := x1.go hb
    replace zd := zd.go hb
    replace zu := zu.go hb
    replace zn := zn.go hb
    replace hq := hq.go hb
    replace hr := hr.go hb
    replace ht := ht.go hb
    replace hu := hu.go hb
    replace hv := hv.go hb
    replace h0 := bel_go h0 h0.size hb
    clear hb
    refine hK.out _ _ (⟨x0, x1, zd, zu, zn⟩) (fun _ => ?_)
    clear hK K
    (try simp only [Act.put, List.setIfInBounds_toArray, List.set_cons_zero, List.set_cons_succ, List.getElem_toArray, List.getElem_cons_zero, List.getElem_cons_succ])
    refine wpAnyH_take (i := 22) (v := ?_) rfl (by kernel_rfl) (by kernel_rfl) (by kernel_rfl) (fun _ _ _ h => h) (Or.inl ⟨by kernel_rfl, ?_⟩) (⟨x0, x1, zd, zu, zn⟩) ?_
    rotate_left
    focus (intro W' hSw; obtain ⟨hx0, hx1, hx2, hx3, hx4⟩ := hSw; have hc0 := hx0.c0; have hc1 := hx0.c1; have hc2 := hx1.c0; have hc3 := hx1.c1; have hc4 := hx2.c0; have hc5 := hx2.c1; have hc6 := hx3.c0; have hc7 := hx3.c1; have hc8 := hx4.c0; have hc9 := hx4.c1; clear hx0 hx1 hx2 hx3 hx4; go_simp; (try with_reducible rfl))
    (try simp only [Act.put, List.setIfInBounds_toArray, List.set_cons_zero, List.set_cons_succ, List.getElem_toArray, List.getElem_cons_zero, List.getElem_cons_succ])
    refine wpAnyH_take (i := 23) (v := ?_) rfl (by kernel_rfl) (by kernel_rfl) (by kernel_rfl) (fun _ _ _ h => h) (Or.inl ⟨by kernel_rfl, ?_⟩) (⟨x0, x1, zd, zu, zn⟩) ?_
    rotate_left
    focus (intro W' hSw; obtain ⟨hx0, hx1, hx2, hx3, hx4⟩ := hSw; have hc0 := hx0.c0; have hc1 := hx0.c1; have hc2 := hx1.c0; have hc3 := hx1.c1; have hc4 := hx2.c0; have hc5 := hx2.c1; have hc6 := hx3.c0; have hc7 := hx3.c1; have hc8 := hx4.c0; have hc9 := hx4.c1; clear hx0 hx1 hx2 hx3 hx4; go_simp; (try with_reducible rfl))
    (try simp only [Act.put, List.setIfInBounds_toArray, List.set_cons_zero, List.set_cons_succ, List.getElem_toArray, List.getElem_cons_zero, List.getElem_cons_succ])
    refine wpAnyH_take (i := 24) (v := ?_) rfl (by kernel_rfl) (by kernel_rfl) (by kernel_rfl) (fun _ _ _ h => h) (Or.inl ⟨by kernel_rfl, ?_⟩) (⟨x0, x1, zd, zu, zn⟩) ?_
    rotate_left
    focus (intro W' hSw; obtain ⟨hx0, hx1, hx2, hx3, hx4⟩ := hSw; have hc0 := hx0.c0; have hc1 := hx0.c1; have hc2 := hx1.c0; have hc3 := hx1.c1; have hc4 := hx2.c0; have hc5 := hx2.c1; have hc6 := hx3.c0; have hc7 := hx3.c1; have hc8 := hx4.c0; have hc9 := hx4.c1; clear hx0 hx1 hx2 hx3 hx4; go_simp; (try with_reducible rfl))
    (try simp only [Act.put, List.setIfInBounds_toArray, List.set_cons_zero, List.set_cons_succ, List.getElem_toArray, List.getElem_cons_zero, List.getElem_cons_succ])
    refine wpAnyH_take (i := 25) (v := ?_) rfl (by kernel_rfl) (by kernel_rfl) (by kernel_rfl) (fun _ _ _ h => h) (Or.inl ⟨by kernel_rfl, ?_⟩) (⟨x0, x1, zd, zu, zn⟩) ?_
    rotate_left
    focus (intro W' hSw; obtain ⟨hx0, hx1, hx2, hx3, hx4⟩ := hSw; have hc0 := hx0.c0; have hc1 := hx0.c1; have hc2 := hx1.c0; have hc3 := hx1.c1; have hc4 := hx2.c0; have hc5 := hx2.c1; have hc6 := hx3.c0; have hc7 := hx3.c1; have hc8 := hx4.c0; have hc9 := hx4.c1; clear hx0 hx1 hx2 hx3 hx4; go_simp; (try with_reducible rfl))
    (try simp only [Act.put, List.setIfInBounds_toArray, List.set_cons_zero, List.set_cons_succ, List.getElem_toArray, List.getElem_cons_zero, List.getElem_cons_succ])
    refine wpAnyH_take (i := 26) (v := ?_) rfl (by kernel_rfl) (by kernel_rfl) (by kernel_rfl) (fun _ _ _ h => h) (Or.inl ⟨by kernel_rfl, ?_⟩) (⟨x0, x1, zd, zu, zn⟩) ?_
    rotate_left
    focus (intro W' hSw; obtain ⟨hx0, hx1, hx2, hx3, hx4⟩ := hSw; have hc0 := hx0.c0; have hc1 := hx0.c1; have hc2 := hx1.c0; have hc3 := hx1.c1; have hc4 := hx2.c0; have hc5 := hx2.c1; have hc6 := hx3.c0; have hc7 := hx3.c1; have hc8 := hx4.c0; have hc9 := hx4.c1; clear hx0 hx1 hx2 hx3 hx4; go_simp; (try with_reducible rfl))
    (try simp only [Act.put, List.setIfInBounds_toArray, List.set_cons_zero, List.set_cons_succ, List.getElem_toArray, List.getElem_cons_zero, List.getElem_cons_succ])
    refine wpAnyH_ready (rs := [27]) (by kernel_rfl) (by simp) ?_
    refine AllReadyH.cons rfl (fun K hK => ?_) (AllReadyH.nil)
    go_simp
    go_at_call 76; (with_reducible refine (fround_any a b a1 a2 b1 b2 _).mono ?_)
    rw [HV.out.2.2]
    rintro e Wj ⟨rfl, hb⟩
    replace x0 := x0.go hb
    replace x1 := x1.go hb
    replace zd := zd.go hb
    replace zu := zu.go hb
    replace zn := zn.go hb
    replace hq := hq.go hb
    replace hr := hr.go hb
    replace ht := ht.go hb
    replace hu := hu.go hb
    replace hv := hv.go hb
    replace h0 := bel_go h0 h0.size hb
    clear hb
    refine hK.out _ _ (⟨x0, x1, zd, zu, zn⟩) (fun _ => ?_)
    clear hK K
    (try simp only [Act.put, List.setIfInBounds_toArray, List.set_cons_zero, List.set_cons_succ, List.getElem_toArray, List.getElem_cons_zero, List.getElem_cons_succ])
    refine wpAnyH_ready (rs := [28]) (by kernel_rfl) (by simp) ?_
    refine AllReadyH.cons rfl (fun K hK => ?_) (AllReadyH.nil)
    go_simp
    go_at_call 21; refine (i_any RO HB.out.2.2.1 HB.out.2.2.2.1 _).mono ?_
    rintro e Wx ⟨u, rfl, hx, hb⟩
    obtain ⟨gx, px, nx, cx, rfl⟩ := hx.shape
    replace x0 := x0.go hb
    replace x1 := x1.go hb
    replace zd := zd.go hb
    replace zu := zu.go hb
    replace zn := zn.go hb
    replace hq := hq.go hb
    replace hr := hr.go hb
    replace ht := ht.go hb
    replace hu := hu.go hb
    replace hv := hv.go hb
    replace h0 := bel_go h0 h0.size hb
    clear hb
    refine hK.out _ _ (⟨x0, x1, zd, zu, zn⟩) (fun _ => ?_)
    clear hK K
    (try simp only [Act.put, List.setIfInBounds_toArray, List.set_cons_zero, List.set_cons_succ, List.getElem_toArray, List.getElem_cons_zero, List.getElem_cons_succ])
    refine wpAnyH_ready (rs := [29]) (by kernel_rfl) (by simp) ?_
    refine AllReadyH.cons rfl (fun K hK => ?_) (AllReadyH.nil)
    go_simp
    go_at_call 19; (with_reducible refine (zcmp_any _ _ RO RO HB.out.2.2.2.2 HB.out.2.2.2.2 _ ht hx).mono ?_)
    rw [cmpI_eq rfl]
    rintro e Wcx ⟨rfl, hb⟩
    replace x0 := x0.go hb
    replace x1 := x1.go hb
    replace zd := zd.go hb
    replace zu := zu.go hb
    replace zn := zn.go hb
    replace hq := hq.go hb
    replace hr := hr.go hb
    replace ht := ht.go hb
    replace hu := hu.go hb
    replace hv := hv.go hb
    replace hx := hx.go hb
    replace h0 := bel_go h0 h0.size hb
    clear hb
    refine hK.out _ _ (⟨x0, x1, zd, zu, zn⟩) (fun _ => ?_)
    clear hK K
    (try simp only [Act.put, List.setIfInBounds_toArray, List.set_cons_zero, List.set_cons_succ, List.getElem_toArray, List.getElem_cons_zero, List.getElem_cons_succ])
    refine wpAnyH_take (i := 30) (v := ?_) rfl (by kernel_rfl) (by kernel_rfl) (by kernel_rfl) (fun _ _ _ h => h) (Or.inl ⟨by kernel_rfl, ?_⟩) (⟨x0, x1, zd, zu, zn⟩) ?_
    rotate_left
    focus (intro W' hSw; obtain ⟨hx0, hx1, hx2, hx3, hx4⟩ := hSw; have hc0 := hx0.c0; have hc1 := hx0.c1; have hc2 := hx1.c0; have hc3 := hx1.c1; have hc4 := hx2.c0; have hc5 := hx2.c1; have hc6 := hx3.c0; have hc7 := hx3.c1; have hc8 := hx4.c0; have hc9 := hx4.c1; clear hx0 hx1 hx2 hx3 hx4; go_simp; (try with_reducible rfl))
    (try simp only [Act.put, List.setIfInBounds_toArray, List.set_cons_zero, List.set_cons_succ, List.getElem_toArray, List.getElem_cons_zero, List.getElem_cons_succ])
    refine wpAnyH_take (i := 31) (v := ?_) rfl (by kernel_rfl) (by kernel_rfl) (by kernel_rfl) (fun _ _ _ h => h) (Or.inl ⟨by kernel_rfl, ?_⟩) (⟨x0, x1, zd, zu, zn⟩) ?_
    rotate_left
    focus (intro W' hSw; obtain ⟨hx0, hx1, hx2, hx3, hx4⟩ := hSw; have hc0 := hx0.c0; have hc1 := hx0.c1; have hc2 := hx1.c0; have hc3 := hx1.c1; have hc4 := hx2.c0; have hc5 := hx2.c1; have hc6 := hx3.c0; have hc7 := hx3.c1; have hc8 := hx4.c0; have hc9 := hx4.c1; clear hx0 hx1 hx2 hx3 hx4; go_simp; (try with_reducible rfl))
    (try simp only [Act.put, List.setIfInBounds_toArray, List.set_cons_zero, List.set_cons_succ, List.getElem_toArray, List.getElem_cons_zero, List.getElem_cons_succ])
    refine wpAnyH_take (i := 32) (v := ?_) rfl (by kernel_rfl) (by kernel_rfl) (by kernel_rfl) (fun _ _ _ h => h) (Or.inl ⟨by kernel_rfl, ?_⟩) (⟨x0, x1, zd, zu, zn⟩) ?_
    rotate_left
    focus (intro W' hSw; obtain ⟨hx0, hx1, hx2, hx3, hx4⟩ := hSw; have hc0 := hx0.c0; have hc1 := hx0.c1; have hc2 := hx1.c0; have hc3 := hx1.c1; have hc4 := hx2.c0; have hc5 := hx2.c1; have hc6 := hx3.c0; have hc7 := hx3.c1; have hc8 := hx4.c0; have hc9 := hx4.c1; clear hx0 hx1 hx2 hx3 hx4; go_simp; (try with_reducible rfl))
    (try simp only [Act.put, List.setIfInBounds_toArray, List.set_cons_zero, List.set_cons_succ, List.getElem_toArray, List.getElem_cons_zero, List.getElem_cons_succ])
    refine wpAnyH_done (by kernel_rfl) ?_ _
    go_wp2_with fail
    go_ret
    exact ⟨rfl, h0⟩
theorem fracRounds_law (a : Int) (a1 : -9223372036854775808 ≤ a) (a2 : a ≤ 9223372036854775807) (b : Int) (b1 : -9223372036854775808 ≤ b) (b2 : b ≤ 9223372036854775807) (c : Int) (c1 : -9223372036854775808 ≤ c) (c2 : c ≤ 9223372036854775807) (d : Int) (d1 : -9223372036854775808 ≤ d) (d2 : d ≤ 9223372036854775807) (w : World) :
    Calls Try.prog 10 #[.agg #[.int .i64 a, .int .i64 b], .agg #[.int .i64 c, .int .i64 d]] w fun e w' => e = .returned (.bool true) ∧ Below w.heap.size w w' :=
  fracRounds_any a b c d a1 a2 b1 b2 c1 c2 d1 d2 w
end Go.Proofs.Ytijpjjpndpdjpaa

