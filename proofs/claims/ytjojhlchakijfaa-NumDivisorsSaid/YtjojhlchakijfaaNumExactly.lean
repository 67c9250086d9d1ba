/-
  NumExactly returns true for all its arguments: the walk of the law's text.
  Conditions: the arguments are int64.
-/
import Derived.Test.YtjojhlchakijfaaNum
import Derived.Deep.RegionHeld3
namespace Go.Proofs.Ytjojhlchakijfaa
open Go.RowKit Go.Shelf Wd

theorem numFact_any (w : World) : Calls Try.prog 51 #[] w fun e w' => e = .returned (.bool true) ∧ Below w.heap.size w w' := by
  have e1 : divV (4611686018427387904 * 6) 8 = 3458764513820540928 := by decide
  have e2 : divE (4611686018427387904 * 6) 8 = 0 := by decide
  go_enter Try.func51, Try.ntmps51
  go_wp2_with (go_at_call 33; (with_reducible refine (muldiv_any _ _ _ (by omega) (by omega) (by omega) (by omega) (by omega) _).mono ?_); rw [e1, e2]; rintro e w1 ⟨rfl, hb1⟩)
  go_ret
  exact ⟨rfl, hb1⟩

theorem exact_low {p c n : Int} (hc : 1 ≤ c) (hn : n = p / c) : n * c ≤ p ∧ p < n * c + c := by
  subst hn
  have h1 := Int.mul_ediv_add_emod p c
  have h2 := mod_bd p hc
  rw [Int.mul_comm] at h1
  omega
theorem exact_high {p c n : Int} (hc : 1 ≤ c) (hn : n = (p + (c - 1)) / c) : p ≤ n * c ∧ n * c + -c < p := by
  subst hn
  have h1 := Int.mul_ediv_add_emod (p + (c - 1)) c
  have h2 := mod_bd (p + (c - 1)) hc
  rw [Int.mul_comm] at h1
  omega

set_option maxHeartbeats 1000000 in
theorem numExactly_low (a b c : Int) (a1 : -9223372036854775808 ≤ a) (a2 : a ≤ 9223372036854775807) (b1 : -9223372036854775808 ≤ b) (b2 : b ≤ 9223372036854775807) (c2 : c ≤ 9223372036854775807) (hc : c < 1) (w : World) :
    Calls Try.prog 10 #[.int .i64 a, .int .i64 b, .int .i64 c] w fun e w' => e = .returned (.bool true) ∧ Below w.heap.size w w' := by
  have e1 : divV (a * b) c = 0 := by unfold divV; rw [if_pos hc]
  have e2 : divE (a * b) c = 1 := by unfold divE; rw [if_pos hc]
  have hd : decide (c < 1) = true := by simpa using hc
  go_enter Try.func10, Try.ntmps10
  go_wp2_with (first
    | (go_at_call 44; (with_reducible refine (prod_any a b a1 a2 b1 b2 _).mono ?_); rintro e w1 ⟨rfl, hb1⟩
       obtain ⟨hB1, hs1, hc1, hf1⟩ := Below.after hb1 (B := w.heap.size) (w0 := w) (by go_grown) (by simp))
    | (go_at_call 33; (with_reducible refine (muldiv_any a b c a1 a2 b1 b2 c2 _).mono ?_); rw [e1, e2]; rintro e w2 ⟨rfl, hb2⟩
       obtain ⟨hB2, hs2, hc2, hf2⟩ := Below.after hb2 (B := w.heap.size) (w0 := w) (by go_grown) (by go_size))
    | (go_at_call 34; (with_reducible refine (muldivup_low a b c hc _).mono ?_); rintro e w3 ⟨rfl, hb3⟩
       obtain ⟨hB3, hs3, hc3, hf3⟩ := Below.after hb3 (B := w.heap.size) (w0 := w) hB2 hB2.size)
    | (go_at_call 51; (with_reducible refine (numFact_any _).mono ?_); rintro e w4 ⟨rfl, hb4⟩
       obtain ⟨hB4, hs4, hc4, hf4⟩ := Below.after hb4 (B := w.heap.size) (w0 := w) hB3 hB3.size))
  go_ret
  exact ⟨rfl, hB4⟩

set_option maxHeartbeats 1000000 in
theorem numExactly_kl (a b c n m : Int) (a1 : -9223372036854775808 ≤ a) (a2 : a ≤ 9223372036854775807) (b1 : -9223372036854775808 ≤ b) (b2 : b ≤ 9223372036854775807) (c2 : c ≤ 9223372036854775807) (hc : 1 ≤ c)
    (HN : Hid (divV (a * b) c = n)) (HK : Hid (divE (a * b) c = 0)) (HM : Hid (divV (a * b + (c - 1)) c = m)) (HL : Hid (divE (a * b + (c - 1)) c = 0)) (n1 : -9223372036854775808 ≤ n) (n2 : n ≤ 9223372036854775807) (n3 : n * c ≤ a * b) (n4 : a * b < n * c + c) (m1 : -9223372036854775808 ≤ m) (m2 : m ≤ 9223372036854775807) (m3 : a * b ≤ m * c) (m4 : m * c + -c < a * b) (w : World) :
    Calls Try.prog 10 #[.int .i64 a, .int .i64 b, .int .i64 c] w fun e w' => e = .returned (.bool true) ∧ Below w.heap.size w w' := by
  have hp := mul_bd a1 a2 b1 b2
  have hd : decide (c < 1) = false := decide_eq_false (by omega)
  have hnc := mul_in n1 n2 (show -9223372036854775808 ≤ c by omega) c2
  have En := Lib.hid (w128_id (n := n * c + c) (by unfold InW; omega))
  have hmc := mul_in m1 m2 (show -9223372036854775808 ≤ c by omega) c2
  have Em := Lib.hid (w128_id (n := m * c + -c) (by unfold InW; omega))
  go_enter Try.func10, Try.ntmps10
  go_wp2_with (first
    | (go_at_call 44; (with_reducible refine (prod_any a b a1 a2 b1 b2 _).mono ?_); rintro e w1 ⟨rfl, hb1⟩
       obtain ⟨hB1, hs1, hc1, hf1⟩ := Below.after hb1 (B := w.heap.size) (w0 := w) (by go_grown) (by simp))
    | (go_at_call 33; (with_reducible refine (muldiv_any a b c a1 a2 b1 b2 c2 _).mono ?_); rw [HN.out, HK.out]; rintro e w2 ⟨rfl, hb2⟩
       obtain ⟨hB2, hs2, hc2, hf2⟩ := Below.after hb2 (B := w.heap.size) (w0 := w) (by go_grown) (by go_size)
       have hz2 : w1.heap.size < w2.heap.size := by simp at hs2; omega)
    | (go_at_call 34; (with_reducible refine (muldivup_ok a b c a1 a2 b1 b2 hc c2 _).mono ?_); rw [HM.out, HL.out]; rintro e w3 ⟨rfl, hb3⟩
       obtain ⟨hB3, hs3, hc3, hf3⟩ := Below.after hb3 (B := w.heap.size) (w0 := w) hB2 hB2.size
       have hz3 : w1.heap.size < w3.heap.size := by omega)
    | (go_at_call 51; (with_reducible refine (numFact_any _).mono ?_); rintro e w4 ⟨rfl, hb4⟩
       obtain ⟨hB4, hs4, hc4, hf4⟩ := Below.after hb4 (B := w.heap.size) (w0 := w) hB3 hB3.size
       have hz4 : w1.heap.size < w4.heap.size := by omega
       have p0 : w4.cell? ⟨w1.heap.size, 0, none⟩ = some (.int .i64 (a * b / 18446744073709551616)) := by simp [go_sem, *]
       have p1 : w4.cell? ⟨w1.heap.size, 1, none⟩ = some (.int .u64 (a * b % 18446744073709551616)) := by simp [go_sem, *]
       clear hc1 hc2 hc3 hc4 hf1 hf2 hf3 hf4 hs1 hs2 hs3 hs4 hz2 hz3))
  have q1 : decide (0 < cmpI (n * c) (a * b)) = false := by have := cmpI_pos (a := n * c) (b := a * b); exact decide_eq_false (by omega)
  have q2 : decide (cmpI (n * c + c) (a * b) ≤ 0) = false := by have := cmpI_pos (a := n * c + c) (b := a * b); exact decide_eq_false (by omega)
  go_wp2_with (first
    | (go_at_call 44; (with_reducible refine (prod_any n c n1 n2 (by omega) c2 _).mono ?_); rintro e w5 ⟨rfl, hb5⟩
       obtain ⟨hB5, hs5, hc5, hf5⟩ := Below.after hb5 (B := w.heap.size) (w0 := w) hB4 hB4.size
       have hz5 : w1.heap.size < w5.heap.size := by omega))
  generalize hW : (w5.alloc (.cells #[.int .i64 (n * c / 18446744073709551616), .int .u64 (n * c % 18446744073709551616)] 49)) = W
  have hWs : W.heap.size = w5.heap.size + 1 := by rw [← hW]; simp
  have HBW : Hid (Below w.heap.size w W) := by rw [← hW]; exact hB5.alloc hB5.size _
  obtain ⟨B1, hB1'⟩ : ∃ B1, w5.heap.size = B1 := ⟨_, rfl⟩
  have KL : Hid (∀ w', Below W.heap.size W w' → (Below W.heap.size W w' ∧ w'.cell? ⟨w1.heap.size, 0, none⟩ = some (.int .i64 (a * b / 18446744073709551616)) ∧ w'.cell? ⟨w1.heap.size, 1, none⟩ = some (.int .u64 (a * b % 18446744073709551616)) ∧ w'.cell? ⟨B1, 0, none⟩ = some (.int .i64 (n * c / 18446744073709551616)) ∧ w'.cell? ⟨B1, 1, none⟩ = some (.int .u64 (n * c % 18446744073709551616)))) := by
    have r0 : W.cell? ⟨w1.heap.size, 0, none⟩ = some (.int .i64 (a * b / 18446744073709551616)) := by rw [← hW, ((Below.refl w5.heap.size w5).alloc (Nat.le_refl _) _).cell hz5, hc5 _ _ hz4, p0]
    have r1 : W.cell? ⟨w1.heap.size, 1, none⟩ = some (.int .u64 (a * b % 18446744073709551616)) := by rw [← hW, ((Below.refl w5.heap.size w5).alloc (Nat.le_refl _) _).cell hz5, hc5 _ _ hz4, p1]
    have r2 : W.cell? ⟨B1, 0, none⟩ = some (.int .i64 (n * c / 18446744073709551616)) := by rw [← hW, ← hB1']; simp [go_sem]
    have r3 : W.cell? ⟨B1, 1, none⟩ = some (.int .u64 (n * c % 18446744073709551616)) := by rw [← hW, ← hB1']; simp [go_sem]
    intro w' h
    exact ⟨h, (h.cell (by simp; omega)).trans r0, (h.cell (by simp; omega)).trans r1, (h.cell (by simp; omega)).trans r2, (h.cell (by simp; omega)).trans r3⟩
  clear hc5 hf5 hs5 p0 p1 hB5
  rw [hB1'] at *
  clear hW hB1'
  go_region_held3 (fun w' => Below W.heap.size W w' ∧ w'.cell? ⟨w1.heap.size, 0, none⟩ = some (.int .i64 (a * b / 18446744073709551616)) ∧ w'.cell? ⟨w1.heap.size, 1, none⟩ = some (.int .u64 (a * b % 18446744073709551616)) ∧ w'.cell? ⟨B1, 0, none⟩ = some (.int .i64 (n * c / 18446744073709551616)) ∧ w'.cell? ⟨B1, 1, none⟩ = some (.int .u64 (n * c % 18446744073709551616)))
    ((first | exact KL.out _ ((Below.refl _ _).drew) | exact KL.out _ (Below.go (by assumption) (And.left (by assumption)))))
    (first
      | (go_at_call 48; (with_reducible refine (wcmp_any (n * c) (a * b) _).mono ?_); rintro e w6 ⟨rfl, hb6⟩)
      | (go_at_call 44; (with_reducible refine (prod_any c 1 (by omega) (by omega) (by omega) (by omega) _).mono ?_); rw [Int.mul_one]; rintro e w6 ⟨rfl, hb6⟩)
      | (go_at_call 47; (with_reducible refine (plus_any (n * c) c hnc (by unfold InW; omega) _).mono ?_); rw [En.out]; rintro e w6 ⟨rfl, hb6⟩)
      | (go_at_call 48; (with_reducible refine (wcmp_any (n * c + c) (a * b) _).mono ?_); rintro e w6 ⟨rfl, hb6⟩))
  rename_i w6 hb6 hHeld
  obtain ⟨hBw, p0, p1, _, _⟩ := hHeld
  have hB6 : Below w.heap.size w w6 := HBW.out.trans (hBw.mono HBW.out.size)
  have hz6 : w1.heap.size < w6.heap.size := by have := hBw.size; omega
  clear hBw HBW KL hWs hb6 q1 q2
  have hneg : IntKind.i64.wrap (-c) = -c := IntWalk.i64_in _ (by omega)
  have q1 : decide (cmpI (m * c) (a * b) < 0) = false := by have := cmpI_neg (a := m * c) (b := a * b); exact decide_eq_false (by omega)
  have q2 : decide (0 ≤ cmpI (m * c + -c) (a * b)) = false := by have := cmpI_neg (a := m * c + -c) (b := a * b); exact decide_eq_false (by omega)
  go_wp2_with (first
    | (go_at_call 44; (with_reducible refine (prod_any m c m1 m2 (by omega) c2 _).mono ?_); rintro e w7 ⟨rfl, hb5⟩
       obtain ⟨hB5, hs5, hc5, hf5⟩ := Below.after hb5 (B := w.heap.size) (w0 := w) hB6 hB6.size
       have hz5 : w1.heap.size < w7.heap.size := by omega))
  generalize hW : (w7.alloc (.cells #[.int .i64 (m * c / 18446744073709551616), .int .u64 (m * c % 18446744073709551616)] 49)) = W
  have hWs : W.heap.size = w7.heap.size + 1 := by rw [← hW]; simp
  have HBW : Hid (Below w.heap.size w W) := by rw [← hW]; exact hB5.alloc hB5.size _
  obtain ⟨B1, hB1'⟩ : ∃ B1, w7.heap.size = B1 := ⟨_, rfl⟩
  have KL : Hid (∀ w', Below W.heap.size W w' → (Below W.heap.size W w' ∧ w'.cell? ⟨w1.heap.size, 0, none⟩ = some (.int .i64 (a * b / 18446744073709551616)) ∧ w'.cell? ⟨w1.heap.size, 1, none⟩ = some (.int .u64 (a * b % 18446744073709551616)) ∧ w'.cell? ⟨B1, 0, none⟩ = some (.int .i64 (m * c / 18446744073709551616)) ∧ w'.cell? ⟨B1, 1, none⟩ = some (.int .u64 (m * c % 18446744073709551616)))) := by
    have r0 : W.cell? ⟨w1.heap.size, 0, none⟩ = some (.int .i64 (a * b / 18446744073709551616)) := by rw [← hW, ((Below.refl w7.heap.size w7).alloc (Nat.le_refl _) _).cell hz5, hc5 _ _ hz6, p0]
    have r1 : W.cell? ⟨w1.heap.size, 1, none⟩ = some (.int .u64 (a * b % 18446744073709551616)) := by rw [← hW, ((Below.refl w7.heap.size w7).alloc (Nat.le_refl _) _).cell hz5, hc5 _ _ hz6, p1]
    have r2 : W.cell? ⟨B1, 0, none⟩ = some (.int .i64 (m * c / 18446744073709551616)) := by rw [← hW, ← hB1']; simp [go_sem]
    have r3 : W.cell? ⟨B1, 1, none⟩ = some (.int .u64 (m * c % 18446744073709551616)) := by rw [← hW, ← hB1']; simp [go_sem]
    intro w' h
    exact ⟨h, (h.cell (by simp; omega)).trans r0, (h.cell (by simp; omega)).trans r1, (h.cell (by simp; omega)).trans r2, (h.cell (by simp; omega)).trans r3⟩
  clear hc5 hf5 hs5 p0 p1 hB5
  rw [hB1'] at *
  clear hW hB1'
  go_region_held3 (fun w' => Below W.heap.size W w' ∧ w'.cell? ⟨w1.heap.size, 0, none⟩ = some (.int .i64 (a * b / 18446744073709551616)) ∧ w'.cell? ⟨w1.heap.size, 1, none⟩ = some (.int .u64 (a * b % 18446744073709551616)) ∧ w'.cell? ⟨B1, 0, none⟩ = some (.int .i64 (m * c / 18446744073709551616)) ∧ w'.cell? ⟨B1, 1, none⟩ = some (.int .u64 (m * c % 18446744073709551616)))
    ((first | exact KL.out _ ((Below.refl _ _).drew) | exact KL.out _ (Below.go (by assumption) (And.left (by assumption)))))
    (first
      | (go_at_call 48; (with_reducible refine (wcmp_any (m * c) (a * b) _).mono ?_); rintro e w8 ⟨rfl, hb6⟩)
      | (go_at_call 44; (with_reducible refine (prod_any (-c) 1 (by omega) (by omega) (by omega) (by omega) _).mono ?_); rw [Int.mul_one]; rintro e w8 ⟨rfl, hb6⟩)
      | (go_at_call 47; (with_reducible refine (plus_any (m * c) (-c) hmc (by unfold InW; omega) _).mono ?_); rw [Em.out]; rintro e w8 ⟨rfl, hb6⟩)
      | (go_at_call 48; (with_reducible refine (wcmp_any (m * c + (-c)) (a * b) _).mono ?_); rintro e w8 ⟨rfl, hb6⟩))
  rename_i w8 hb6 hHeld
  obtain ⟨hBw, p0, p1, _, _⟩ := hHeld
  have hB8 : Below w.heap.size w w8 := HBW.out.trans (hBw.mono HBW.out.size)
  have hz8 : w1.heap.size < w8.heap.size := by have := hBw.size; omega
  clear hBw HBW KL hWs hb6 q1 q2
  go_wp2
  go_ret
  exact ⟨rfl, hB8⟩

set_option maxHeartbeats 1000000 in
theorem numExactly_k (a b c n m : Int) (a1 : -9223372036854775808 ≤ a) (a2 : a ≤ 9223372036854775807) (b1 : -9223372036854775808 ≤ b) (b2 : b ≤ 9223372036854775807) (c2 : c ≤ 9223372036854775807) (hc : 1 ≤ c)
    (HN : Hid (divV (a * b) c = n)) (HK : Hid (divE (a * b) c = 0)) (HM : Hid (divV (a * b + (c - 1)) c = m)) (HL : Hid (divE (a * b + (c - 1)) c = 2)) (n1 : -9223372036854775808 ≤ n) (n2 : n ≤ 9223372036854775807) (n3 : n * c ≤ a * b) (n4 : a * b < n * c + c)  (w : World) :
    Calls Try.prog 10 #[.int .i64 a, .int .i64 b, .int .i64 c] w fun e w' => e = .returned (.bool true) ∧ Below w.heap.size w w' := by
  have hp := mul_bd a1 a2 b1 b2
  have hd : decide (c < 1) = false := decide_eq_false (by omega)
  have hnc := mul_in n1 n2 (show -9223372036854775808 ≤ c by omega) c2
  have En := Lib.hid (w128_id (n := n * c + c) (by unfold InW; omega))
  go_enter Try.func10, Try.ntmps10
  go_wp2_with (first
    | (go_at_call 44; (with_reducible refine (prod_any a b a1 a2 b1 b2 _).mono ?_); rintro e w1 ⟨rfl, hb1⟩
       obtain ⟨hB1, hs1, hc1, hf1⟩ := Below.after hb1 (B := w.heap.size) (w0 := w) (by go_grown) (by simp))
    | (go_at_call 33; (with_reducible refine (muldiv_any a b c a1 a2 b1 b2 c2 _).mono ?_); rw [HN.out, HK.out]; rintro e w2 ⟨rfl, hb2⟩
       obtain ⟨hB2, hs2, hc2, hf2⟩ := Below.after hb2 (B := w.heap.size) (w0 := w) (by go_grown) (by go_size)
       have hz2 : w1.heap.size < w2.heap.size := by simp at hs2; omega)
    | (go_at_call 34; (with_reducible refine (muldivup_ok a b c a1 a2 b1 b2 hc c2 _).mono ?_); rw [HM.out, HL.out]; rintro e w3 ⟨rfl, hb3⟩
       obtain ⟨hB3, hs3, hc3, hf3⟩ := Below.after hb3 (B := w.heap.size) (w0 := w) hB2 hB2.size
       have hz3 : w1.heap.size < w3.heap.size := by omega)
    | (go_at_call 51; (with_reducible refine (numFact_any _).mono ?_); rintro e w4 ⟨rfl, hb4⟩
       obtain ⟨hB4, hs4, hc4, hf4⟩ := Below.after hb4 (B := w.heap.size) (w0 := w) hB3 hB3.size
       have hz4 : w1.heap.size < w4.heap.size := by omega
       have p0 : w4.cell? ⟨w1.heap.size, 0, none⟩ = some (.int .i64 (a * b / 18446744073709551616)) := by simp [go_sem, *]
       have p1 : w4.cell? ⟨w1.heap.size, 1, none⟩ = some (.int .u64 (a * b % 18446744073709551616)) := by simp [go_sem, *]
       clear hc1 hc2 hc3 hc4 hf1 hf2 hf3 hf4 hs1 hs2 hs3 hs4 hz2 hz3))
  have q1 : decide (0 < cmpI (n * c) (a * b)) = false := by have := cmpI_pos (a := n * c) (b := a * b); exact decide_eq_false (by omega)
  have q2 : decide (cmpI (n * c + c) (a * b) ≤ 0) = false := by have := cmpI_pos (a := n * c + c) (b := a * b); exact decide_eq_false (by omega)
  go_wp2_with (first
    | (go_at_call 44; (with_reducible refine (prod_any n c n1 n2 (by omega) c2 _).mono ?_); rintro e w5 ⟨rfl, hb5⟩
       obtain ⟨hB5, hs5, hc5, hf5⟩ := Below.after hb5 (B := w.heap.size) (w0 := w) hB4 hB4.size
       have hz5 : w1.heap.size < w5.heap.size := by omega))
  generalize hW : (w5.alloc (.cells #[.int .i64 (n * c / 18446744073709551616), .int .u64 (n * c % 18446744073709551616)] 49)) = W
  have hWs : W.heap.size = w5.heap.size + 1 := by rw [← hW]; simp
  have HBW : Hid (Below w.heap.size w W) := by rw [← hW]; exact hB5.alloc hB5.size _
  obtain ⟨B1, hB1'⟩ : ∃ B1, w5.heap.size = B1 := ⟨_, rfl⟩
  have KL : Hid (∀ w', Below W.heap.size W w' → (Below W.heap.size W w' ∧ w'.cell? ⟨w1.heap.size, 0, none⟩ = some (.int .i64 (a * b / 18446744073709551616)) ∧ w'.cell? ⟨w1.heap.size, 1, none⟩ = some (.int .u64 (a * b % 18446744073709551616)) ∧ w'.cell? ⟨B1, 0, none⟩ = some (.int .i64 (n * c / 18446744073709551616)) ∧ w'.cell? ⟨B1, 1, none⟩ = some (.int .u64 (n * c % 18446744073709551616)))) := by
    have r0 : W.cell? ⟨w1.heap.size, 0, none⟩ = some (.int .i64 (a * b / 18446744073709551616)) := by rw [← hW, ((Below.refl w5.heap.size w5).alloc (Nat.le_refl _) _).cell hz5, hc5 _ _ hz4, p0]
    have r1 : W.cell? ⟨w1.heap.size, 1, none⟩ = some (.int .u64 (a * b % 18446744073709551616)) := by rw [← hW, ((Below.refl w5.heap.size w5).alloc (Nat.le_refl _) _).cell hz5, hc5 _ _ hz4, p1]
    have r2 : W.cell? ⟨B1, 0, none⟩ = some (.int .i64 (n * c / 18446744073709551616)) := by rw [← hW, ← hB1']; simp [go_sem]
    have r3 : W.cell? ⟨B1, 1, none⟩ = some (.int .u64 (n * c % 18446744073709551616)) := by rw [← hW, ← hB1']; simp [go_sem]
    intro w' h
    exact ⟨h, (h.cell (by simp; omega)).trans r0, (h.cell (by simp; omega)).trans r1, (h.cell (by simp; omega)).trans r2, (h.cell (by simp; omega)).trans r3⟩
  clear hc5 hf5 hs5 p0 p1 hB5
  rw [hB1'] at *
  clear hW hB1'
  go_region_held3 (fun w' => Below W.heap.size W w' ∧ w'.cell? ⟨w1.heap.size, 0, none⟩ = some (.int .i64 (a * b / 18446744073709551616)) ∧ w'.cell? ⟨w1.heap.size, 1, none⟩ = some (.int .u64 (a * b % 18446744073709551616)) ∧ w'.cell? ⟨B1, 0, none⟩ = some (.int .i64 (n * c / 18446744073709551616)) ∧ w'.cell? ⟨B1, 1, none⟩ = some (.int .u64 (n * c % 18446744073709551616)))
    ((first | exact KL.out _ ((Below.refl _ _).drew) | exact KL.out _ (Below.go (by assumption) (And.left (by assumption)))))
    (first
      | (go_at_call 48; (with_reducible refine (wcmp_any (n * c) (a * b) _).mono ?_); rintro e w6 ⟨rfl, hb6⟩)
      | (go_at_call 44; (with_reducible refine (prod_any c 1 (by omega) (by omega) (by omega) (by omega) _).mono ?_); rw [Int.mul_one]; rintro e w6 ⟨rfl, hb6⟩)
      | (go_at_call 47; (with_reducible refine (plus_any (n * c) c hnc (by unfold InW; omega) _).mono ?_); rw [En.out]; rintro e w6 ⟨rfl, hb6⟩)
      | (go_at_call 48; (with_reducible refine (wcmp_any (n * c + c) (a * b) _).mono ?_); rintro e w6 ⟨rfl, hb6⟩))
  rename_i w6 hb6 hHeld
  obtain ⟨hBw, p0, p1, _, _⟩ := hHeld
  have hB6 : Below w.heap.size w w6 := HBW.out.trans (hBw.mono HBW.out.size)
  have hz6 : w1.heap.size < w6.heap.size := by have := hBw.size; omega
  clear hBw HBW KL hWs hb6 q1 q2
  go_wp2
  go_ret
  exact ⟨rfl, hB6⟩

set_option maxHeartbeats 1000000 in
theorem numExactly_l (a b c n m : Int) (a1 : -9223372036854775808 ≤ a) (a2 : a ≤ 9223372036854775807) (b1 : -9223372036854775808 ≤ b) (b2 : b ≤ 9223372036854775807) (c2 : c ≤ 9223372036854775807) (hc : 1 ≤ c)
    (HN : Hid (divV (a * b) c = n)) (HK : Hid (divE (a * b) c = 2)) (HM : Hid (divV (a * b + (c - 1)) c = m)) (HL : Hid (divE (a * b + (c - 1)) c = 0))  (m1 : -9223372036854775808 ≤ m) (m2 : m ≤ 9223372036854775807) (m3 : a * b ≤ m * c) (m4 : m * c + -c < a * b) (w : World) :
    Calls Try.prog 10 #[.int .i64 a, .int .i64 b, .int .i64 c] w fun e w' => e = .returned (.bool true) ∧ Below w.heap.size w w' := by
  have hp := mul_bd a1 a2 b1 b2
  have hd : decide (c < 1) = false := decide_eq_false (by omega)
  have hmc := mul_in m1 m2 (show -9223372036854775808 ≤ c by omega) c2
  have Em := Lib.hid (w128_id (n := m * c + -c) (by unfold InW; omega))
  go_enter Try.func10, Try.ntmps10
  go_wp2_with (first
    | (go_at_call 44; (with_reducible refine (prod_any a b a1 a2 b1 b2 _).mono ?_); rintro e w1 ⟨rfl, hb1⟩
       obtain ⟨hB1, hs1, hc1, hf1⟩ := Below.after hb1 (B := w.heap.size) (w0 := w) (by go_grown) (by simp))
    | (go_at_call 33; (with_reducible refine (muldiv_any a b c a1 a2 b1 b2 c2 _).mono ?_); rw [HN.out, HK.out]; rintro e w2 ⟨rfl, hb2⟩
       obtain ⟨hB2, hs2, hc2, hf2⟩ := Below.after hb2 (B := w.heap.size) (w0 := w) (by go_grown) (by go_size)
       have hz2 : w1.heap.size < w2.heap.size := by simp at hs2; omega)
    | (go_at_call 34; (with_reducible refine (muldivup_ok a b c a1 a2 b1 b2 hc c2 _).mono ?_); rw [HM.out, HL.out]; rintro e w3 ⟨rfl, hb3⟩
       obtain ⟨hB3, hs3, hc3, hf3⟩ := Below.after hb3 (B := w.heap.size) (w0 := w) hB2 hB2.size
       have hz3 : w1.heap.size < w3.heap.size := by omega)
    | (go_at_call 51; (with_reducible refine (numFact_any _).mono ?_); rintro e w4 ⟨rfl, hb4⟩
       obtain ⟨hB4, hs4, hc4, hf4⟩ := Below.after hb4 (B := w.heap.size) (w0 := w) hB3 hB3.size
       have hz4 : w1.heap.size < w4.heap.size := by omega
       have p0 : w4.cell? ⟨w1.heap.size, 0, none⟩ = some (.int .i64 (a * b / 18446744073709551616)) := by simp [go_sem, *]
       have p1 : w4.cell? ⟨w1.heap.size, 1, none⟩ = some (.int .u64 (a * b % 18446744073709551616)) := by simp [go_sem, *]
       clear hc1 hc2 hc3 hc4 hf1 hf2 hf3 hf4 hs1 hs2 hs3 hs4 hz2 hz3))
  have hneg : IntKind.i64.wrap (-c) = -c := IntWalk.i64_in _ (by omega)
  have q1 : decide (cmpI (m * c) (a * b) < 0) = false := by have := cmpI_neg (a := m * c) (b := a * b); exact decide_eq_false (by omega)
  have q2 : decide (0 ≤ cmpI (m * c + -c) (a * b)) = false := by have := cmpI_neg (a := m * c + -c) (b := a * b); exact decide_eq_false (by omega)
  go_wp2_with (first
    | (go_at_call 44; (with_reducible refine (prod_any m c m1 m2 (by omega) c2 _).mono ?_); rintro e w5 ⟨rfl, hb5⟩
       obtain ⟨hB5, hs5, hc5, hf5⟩ := Below.after hb5 (B := w.heap.size) (w0 := w) hB4 hB4.size
       have hz5 : w1.heap.size < w5.heap.size := by omega))
  generalize hW : (w5.alloc (.cells #[.int .i64 (m * c / 18446744073709551616), .int .u64 (m * c % 18446744073709551616)] 49)) = W
  have hWs : W.heap.size = w5.heap.size + 1 := by rw [← hW]; simp
  have HBW : Hid (Below w.heap.size w W) := by rw [← hW]; exact hB5.alloc hB5.size _
  obtain ⟨B1, hB1'⟩ : ∃ B1, w5.heap.size = B1 := ⟨_, rfl⟩
  have KL : Hid (∀ w', Below W.heap.size W w' → (Below W.heap.size W w' ∧ w'.cell? ⟨w1.heap.size, 0, none⟩ = some (.int .i64 (a * b / 18446744073709551616)) ∧ w'.cell? ⟨w1.heap.size, 1, none⟩ = some (.int .u64 (a * b % 18446744073709551616)) ∧ w'.cell? ⟨B1, 0, none⟩ = some (.int .i64 (m * c / 18446744073709551616)) ∧ w'.cell? ⟨B1, 1, none⟩ = some (.int .u64 (m * c % 18446744073709551616)))) := by
    have r0 : W.cell? ⟨w1.heap.size, 0, none⟩ = some (.int .i64 (a * b / 18446744073709551616)) := by rw [← hW, ((Below.refl w5.heap.size w5).alloc (Nat.le_refl _) _).cell hz5, hc5 _ _ hz4, p0]
    have r1 : W.cell? ⟨w1.heap.size, 1, none⟩ = some (.int .u64 (a * b % 18446744073709551616)) := by rw [← hW, ((Below.refl w5.heap.size w5).alloc (Nat.le_refl _) _).cell hz5, hc5 _ _ hz4, p1]
    have r2 : W.cell? ⟨B1, 0, none⟩ = some (.int .i64 (m * c / 18446744073709551616)) := by rw [← hW, ← hB1']; simp [go_sem]
    have r3 : W.cell? ⟨B1, 1, none⟩ = some (.int .u64 (m * c % 18446744073709551616)) := by rw [← hW, ← hB1']; simp [go_sem]
    intro w' h
    exact ⟨h, (h.cell (by simp; omega)).trans r0, (h.cell (by simp; omega)).trans r1, (h.cell (by simp; omega)).trans r2, (h.cell (by simp; omega)).trans r3⟩
  clear hc5 hf5 hs5 p0 p1 hB5
  rw [hB1'] at *
  clear hW hB1'
  go_region_held3 (fun w' => Below W.heap.size W w' ∧ w'.cell? ⟨w1.heap.size, 0, none⟩ = some (.int .i64 (a * b / 18446744073709551616)) ∧ w'.cell? ⟨w1.heap.size, 1, none⟩ = some (.int .u64 (a * b % 18446744073709551616)) ∧ w'.cell? ⟨B1, 0, none⟩ = some (.int .i64 (m * c / 18446744073709551616)) ∧ w'.cell? ⟨B1, 1, none⟩ = some (.int .u64 (m * c % 18446744073709551616)))
    ((first | exact KL.out _ ((Below.refl _ _).drew) | exact KL.out _ (Below.go (by assumption) (And.left (by assumption)))))
    (first
      | (go_at_call 48; (with_reducible refine (wcmp_any (m * c) (a * b) _).mono ?_); rintro e w6 ⟨rfl, hb6⟩)
      | (go_at_call 44; (with_reducible refine (prod_any (-c) 1 (by omega) (by omega) (by omega) (by omega) _).mono ?_); rw [Int.mul_one]; rintro e w6 ⟨rfl, hb6⟩)
      | (go_at_call 47; (with_reducible refine (plus_any (m * c) (-c) hmc (by unfold InW; omega) _).mono ?_); rw [Em.out]; rintro e w6 ⟨rfl, hb6⟩)
      | (go_at_call 48; (with_reducible refine (wcmp_any (m * c + (-c)) (a * b) _).mono ?_); rintro e w6 ⟨rfl, hb6⟩))
  rename_i w6 hb6 hHeld
  obtain ⟨hBw, p0, p1, _, _⟩ := hHeld
  have hB6 : Below w.heap.size w w6 := HBW.out.trans (hBw.mono HBW.out.size)
  have hz6 : w1.heap.size < w6.heap.size := by have := hBw.size; omega
  clear hBw HBW KL hWs hb6 q1 q2
  go_wp2
  go_ret
  exact ⟨rfl, hB6⟩

set_option maxHeartbeats 1000000 in
theorem numExactly_no (a b c n m : Int) (a1 : -9223372036854775808 ≤ a) (a2 : a ≤ 9223372036854775807) (b1 : -9223372036854775808 ≤ b) (b2 : b ≤ 9223372036854775807) (c2 : c ≤ 9223372036854775807) (hc : 1 ≤ c)
    (HN : Hid (divV (a * b) c = n)) (HK : Hid (divE (a * b) c = 2)) (HM : Hid (divV (a * b + (c - 1)) c = m)) (HL : Hid (divE (a * b + (c - 1)) c = 2))   (w : World) :
    Calls Try.prog 10 #[.int .i64 a, .int .i64 b, .int .i64 c] w fun e w' => e = .returned (.bool true) ∧ Below w.heap.size w w' := by
  have hp := mul_bd a1 a2 b1 b2
  have hd : decide (c < 1) = false := decide_eq_false (by omega)
  go_enter Try.func10, Try.ntmps10
  go_wp2_with (first
    | (go_at_call 44; (with_reducible refine (prod_any a b a1 a2 b1 b2 _).mono ?_); rintro e w1 ⟨rfl, hb1⟩
       obtain ⟨hB1, hs1, hc1, hf1⟩ := Below.after hb1 (B := w.heap.size) (w0 := w) (by go_grown) (by simp))
    | (go_at_call 33; (with_reducible refine (muldiv_any a b c a1 a2 b1 b2 c2 _).mono ?_); rw [HN.out, HK.out]; rintro e w2 ⟨rfl, hb2⟩
       obtain ⟨hB2, hs2, hc2, hf2⟩ := Below.after hb2 (B := w.heap.size) (w0 := w) (by go_grown) (by go_size)
       have hz2 : w1.heap.size < w2.heap.size := by simp at hs2; omega)
    | (go_at_call 34; (with_reducible refine (muldivup_ok a b c a1 a2 b1 b2 hc c2 _).mono ?_); rw [HM.out, HL.out]; rintro e w3 ⟨rfl, hb3⟩
       obtain ⟨hB3, hs3, hc3, hf3⟩ := Below.after hb3 (B := w.heap.size) (w0 := w) hB2 hB2.size
       have hz3 : w1.heap.size < w3.heap.size := by omega)
    | (go_at_call 51; (with_reducible refine (numFact_any _).mono ?_); rintro e w4 ⟨rfl, hb4⟩
       obtain ⟨hB4, hs4, hc4, hf4⟩ := Below.after hb4 (B := w.heap.size) (w0 := w) hB3 hB3.size
       have hz4 : w1.heap.size < w4.heap.size := by omega
       have p0 : w4.cell? ⟨w1.heap.size, 0, none⟩ = some (.int .i64 (a * b / 18446744073709551616)) := by simp [go_sem, *]
       have p1 : w4.cell? ⟨w1.heap.size, 1, none⟩ = some (.int .u64 (a * b % 18446744073709551616)) := by simp [go_sem, *]
       clear hc1 hc2 hc3 hc4 hf1 hf2 hf3 hf4 hs1 hs2 hs3 hs4 hz2 hz3))
  go_wp2
  go_ret
  exact ⟨rfl, hB4⟩

theorem numExactly_ok (a b c : Int) (a1 : -9223372036854775808 ≤ a) (a2 : a ≤ 9223372036854775807) (b1 : -9223372036854775808 ≤ b) (b2 : b ≤ 9223372036854775807) (c2 : c ≤ 9223372036854775807) (w : World) :
    Calls Try.prog 10 #[.int .i64 a, .int .i64 b, .int .i64 c] w fun e w' => e = .returned (.bool true) ∧ Below w.heap.size w w' := by
  by_cases hc : c < 1
  · exact numExactly_low a b c a1 a2 b1 b2 c2 hc w
  obtain ⟨n, hn⟩ : ∃ n, divV (a * b) c = n := ⟨_, rfl⟩
  obtain ⟨k, hk⟩ : ∃ k, divE (a * b) c = k := ⟨_, rfl⟩
  obtain ⟨m, hm⟩ : ∃ m, divV (a * b + (c - 1)) c = m := ⟨_, rfl⟩
  obtain ⟨l, hl⟩ : ∃ l, divE (a * b + (c - 1)) c = l := ⟨_, rfl⟩
  have hk1 : (k = 2) ∨ (k = 0 ∧ -9223372036854775808 ≤ n ∧ n ≤ 9223372036854775807 ∧ n * c ≤ a * b ∧ a * b < n * c + c) := by
    have hn' := hn
    have hk' := hk
    unfold divV at hn'; unfold divE at hk'
    rw [if_neg hc] at hn' hk'
    by_cases h : a * b / c < -9223372036854775808 ∨ 9223372036854775807 < a * b / c
    · rw [if_pos h] at hk'; exact .inl hk'.symm
    · rw [if_neg h] at hk' hn'; obtain ⟨g1, g2⟩ := exact_low (by omega) hn'.symm; exact .inr ⟨hk'.symm, by omega, by omega, g1, g2⟩
  have hl1 : (l = 2) ∨ (l = 0 ∧ -9223372036854775808 ≤ m ∧ m ≤ 9223372036854775807 ∧ a * b ≤ m * c ∧ m * c + -c < a * b) := by
    have hm' := hm
    have hl' := hl
    unfold divV at hm'; unfold divE at hl'
    rw [if_neg hc] at hm' hl'
    by_cases h : (a * b + (c - 1)) / c < -9223372036854775808 ∨ 9223372036854775807 < (a * b + (c - 1)) / c
    · rw [if_pos h] at hl'; exact .inl hl'.symm
    · rw [if_neg h] at hl' hm'; obtain ⟨g1, g2⟩ := exact_high (by omega) hm'.symm; exact .inr ⟨hl'.symm, by omega, by omega, g1, g2⟩
  rcases hk1 with rfl | ⟨rfl, n1, n2, n3, n4⟩ <;> rcases hl1 with rfl | ⟨rfl, m1, m2, m3, m4⟩
  · exact numExactly_no a b c n m a1 a2 b1 b2 c2 (by omega) (Lib.hid hn) (Lib.hid hk) (Lib.hid hm) (Lib.hid hl) w
  · exact numExactly_l a b c n m a1 a2 b1 b2 c2 (by omega) (Lib.hid hn) (Lib.hid hk) (Lib.hid hm) (Lib.hid hl) m1 m2 m3 m4 w
  · exact numExactly_k a b c n m a1 a2 b1 b2 c2 (by omega) (Lib.hid hn) (Lib.hid hk) (Lib.hid hm) (Lib.hid hl) n1 n2 n3 n4 w
  · exact numExactly_kl a b c n m a1 a2 b1 b2 c2 (by omega) (Lib.hid hn) (Lib.hid hk) (Lib.hid hm) (Lib.hid hl) n1 n2 n3 n4 m1 m2 m3 m4 w

theorem numExactly_law (a : Int) (a1 : -9223372036854775808 ≤ a) (a2 : a ≤ 9223372036854775807) (b : Int) (b1 : -9223372036854775808 ≤ b) (b2 : b ≤ 9223372036854775807) (c : Int) (_ : -9223372036854775808 ≤ c) (c2 : c ≤ 9223372036854775807) (w : World) :
    Calls Try.prog 10 #[.int .i64 a, .int .i64 b, .int .i64 c] w fun e w' => e = .returned (.bool true) ∧ Below w.heap.size w w' :=
  numExactly_ok a b c a1 a2 b1 b2 c2 w
end Go.Proofs.Ytjojhlchakijfaa
