/-
  NumWideBack returns true for all its arguments: the walk of the law's text.
  Conditions: the two numbers fit two words, the divisor is an int64.
-/
import Derived.Test.YtjojhlchakijfaaNumExactly
namespace Go.Proofs.Ytjojhlchakijfaa
open Go.RowKit Go.Shelf Wd

theorem back_eq {n m : Int} (hn : InW n) : w128 (w128 (n + m) + w128 (-m)) = n := by
  obtain ⟨_, _⟩ := hn
  unfold w128; omega
theorem back_zero (n : Int) : w128 (n + w128 (-n)) = 0 := by unfold w128; omega
theorem back_div (n d : Int) : n / d * d + n % d * 1 = n := by
  have := Int.mul_ediv_add_emod n d
  rw [Int.mul_comm] at this
  omega
theorem divE_zero {n d : Int} (h : divE n d = 0) : 1 ≤ d ∧ divV n d = n / d ∧ -9223372036854775808 ≤ n / d ∧ n / d ≤ 9223372036854775807 := by
  unfold divE at h
  unfold divV
  by_cases h1 : d < 1
  · rw [if_pos h1] at h; omega
  · rw [if_neg h1] at h ⊢
    by_cases h2 : n / d < -9223372036854775808 ∨ 9223372036854775807 < n / d
    · rw [if_pos h2] at h; omega
    · rw [if_neg h2]; exact ⟨by omega, rfl, by omega, by omega⟩

set_option maxHeartbeats 1000000 in
theorem numWideBack_any (n : Int) (hn : InW n) (m : Int) (hm : InW m) (d : Int) (d0 : -9223372036854775808 ≤ d) (d2 : d ≤ 9223372036854775807) (w : World) :
    Calls Try.prog 11 #[wide n, wide m, .int .i64 d] w fun e w' => e = .returned (.bool true) ∧ Below w.heap.size w w' := by
  have E1 := Lib.hid (back_eq (m := m) hn)
  have E2 := Lib.hid (back_zero n)
  obtain ⟨v, hv⟩ : ∃ v, divV n d = v := ⟨_, rfl⟩
  obtain ⟨k, hk⟩ : ∃ k, divE n d = k := ⟨_, rfl⟩
  have HV := Lib.hid hv; have HK := Lib.hid hk
  have hS1 : ∀ w' : World, Below (w.heap.size + 1 + 1) ((w.alloc (.cells #[.int .i64 (n / 18446744073709551616), .int .u64 (n % 18446744073709551616)] 49)).alloc (.cells #[.int .i64 (m / 18446744073709551616), .int .u64 (m % 18446744073709551616)] 49)) w' →
      (w'.cell? ⟨w.heap.size, 0, none⟩ = some (.int .i64 (n / 18446744073709551616)) ∧ w'.cell? ⟨w.heap.size, 1, none⟩ = some (.int .u64 (n % 18446744073709551616)) ∧
       w'.cell? ⟨w.heap.size + 1, 0, none⟩ = some (.int .i64 (m / 18446744073709551616)) ∧ w'.cell? ⟨w.heap.size + 1, 1, none⟩ = some (.int .u64 (m % 18446744073709551616))) := by
    intro w' h
    refine ⟨?_, ?_, ?_, ?_⟩
    · rw [h.cell (by simp; omega)]; simp [go_sem, World.cell?_alloc_past]
    · rw [h.cell (by simp; omega)]; simp [go_sem, World.cell?_alloc_past]
    · rw [h.cell (by simp)]; simp [go_sem]
    · rw [h.cell (by simp)]; simp [go_sem]
  have HS1 := Lib.hid hS1
  clear hS1 hv hk
  go_enter Try.func11, Try.ntmps11
  go_wp2
  generalize hW : ((w.alloc (.cells #[.int .i64 (n / 18446744073709551616), .int .u64 (n % 18446744073709551616)] 49)).alloc (.cells #[.int .i64 (m / 18446744073709551616), .int .u64 (m % 18446744073709551616)] 49)) = W at HS1 ⊢
  have hWs : W.heap.size = w.heap.size + 1 + 1 := by rw [← hW]; simp
  rw [← hWs] at HS1
  have HBW : Hid (Below w.heap.size w W) := by rw [← hW]; exact ((Below.refl _ _).alloc (Nat.le_refl _) _).alloc (by simp) _
  clear hW
  have KL : Hid (∀ w', Below W.heap.size W w' → (Below W.heap.size W w' ∧ w'.cell? ⟨w.heap.size, 0, none⟩ = some (.int .i64 (n / 18446744073709551616)) ∧ w'.cell? ⟨w.heap.size, 1, none⟩ = some (.int .u64 (n % 18446744073709551616)) ∧
       w'.cell? ⟨w.heap.size + 1, 0, none⟩ = some (.int .i64 (m / 18446744073709551616)) ∧ w'.cell? ⟨w.heap.size + 1, 1, none⟩ = some (.int .u64 (m % 18446744073709551616)))) := fun w' h => ⟨h, HS1.out w' h⟩
  go_region_held3 (fun w' => Below W.heap.size W w' ∧ w'.cell? ⟨w.heap.size, 0, none⟩ = some (.int .i64 (n / 18446744073709551616)) ∧ w'.cell? ⟨w.heap.size, 1, none⟩ = some (.int .u64 (n % 18446744073709551616)) ∧
       w'.cell? ⟨w.heap.size + 1, 0, none⟩ = some (.int .i64 (m / 18446744073709551616)) ∧ w'.cell? ⟨w.heap.size + 1, 1, none⟩ = some (.int .u64 (m % 18446744073709551616)))
    ((first | exact KL.out _ ((Below.refl _ _).drew) | exact KL.out _ (Below.go (by assumption) (And.left (by assumption)))))
    (first
      | (go_at_call 51; (with_reducible refine (numFact_any _).mono ?_); rintro e w6 ⟨rfl, hb6⟩)
      | (go_at_call 47; (with_reducible refine (plus_any n m hn hm _).mono ?_); rintro e w6 ⟨rfl, hb6⟩)
      | (go_at_call 45; (with_reducible refine (neg_any m hm _).mono ?_); rintro e w6 ⟨rfl, hb6⟩)
      | (go_at_call 47; (with_reducible refine (plus_any (w128 (n + m)) (w128 (-m)) (w128_in _) (w128_in _) _).mono ?_); rw [E1.out]; rintro e w6 ⟨rfl, hb6⟩)
      | (go_at_call 45; (with_reducible refine (neg_any n hn _).mono ?_); rintro e w6 ⟨rfl, hb6⟩)
      | (go_at_call 47; (with_reducible refine (plus_any n (w128 (-n)) hn (w128_in _) _).mono ?_); rw [E2.out]; rintro e w6 ⟨rfl, hb6⟩))
  rename_i w6 hb6 hH
  have HH := Lib.hid hH.1
  obtain ⟨_, c0, c1, c2, c3⟩ := hH
  by_cases hk0 : k = 0
  · subst hk0
    obtain ⟨d1, v1, v2, v3⟩ := divE_zero HK.out
    rw [HV.out] at v1
    have hvd := mul_in (a := v) (b := d) (by omega) (by omega) (by omega) d2
    have hmd := mod_bd n d1
    have e3 : w128 (v * d + n % d) = n := by
      have := back_div n d
      rw [v1]
      rw [show n / d * d + n % d = n by omega]
      exact w128_id hn
    have E3 := Lib.hid e3
    have HV1 := Lib.hid v1
    have q0 : -9223372036854775808 ≤ v ∧ v ≤ 9223372036854775807 := by omega
    clear v1 v2 v3 e3
    go_wp2_with (first
      | (go_at_call 49; (with_reducible refine (wdiv_any n d hn d2 _).mono ?_); rw [HV.out, HK.out]; rintro e w7 ⟨rfl, hb7⟩
         obtain ⟨hB7, hs7, hc7, hf7⟩ := Below.after hb7 (B := W.heap.size) (w0 := W) HH.out HH.out.size))
    have HB7 := Lib.hid hB7
    clear c0 c1 c2 c3 hc7 hf7 hb7 hB7 hs7
    go_region_held3 (fun w' => Below W.heap.size W w' ∧ w'.cell? ⟨w.heap.size, 0, none⟩ = some (.int .i64 (n / 18446744073709551616)) ∧ w'.cell? ⟨w.heap.size, 1, none⟩ = some (.int .u64 (n % 18446744073709551616)) ∧
       w'.cell? ⟨w.heap.size + 1, 0, none⟩ = some (.int .i64 (m / 18446744073709551616)) ∧ w'.cell? ⟨w.heap.size + 1, 1, none⟩ = some (.int .u64 (m % 18446744073709551616)))
      ((first | exact KL.out _ (HB7.out.drew) | exact KL.out _ (Below.go (by assumption) (And.left (by assumption)))))
      (first
        | (go_at_call 44; (with_reducible refine (prod_any v d q0.1 q0.2 (by omega) d2 _).mono ?_); rintro e w8 ⟨rfl, hb8⟩)
        | (go_at_call 50; (with_reducible refine (wmod_any n d hn d1 d2 _).mono ?_); rintro e w8 ⟨rfl, hb8⟩)
        | (go_at_call 44; (with_reducible refine (prod_any (n % d) 1 (by omega) (by omega) (by omega) (by omega) _).mono ?_); rw [Int.mul_one]; rintro e w8 ⟨rfl, hb8⟩)
        | (go_at_call 47; (with_reducible refine (plus_any (v * d) (n % d) hvd (by unfold InW; omega) _).mono ?_); rw [E3.out]; rintro e w8 ⟨rfl, hb8⟩))
    rename_i w8 hb8 hH8
    have HB8 := Lib.hid hH8.1
    go_wp2
    go_ret
    exact ⟨rfl, HBW.out.trans (HB8.out.mono HBW.out.size)⟩
  · have hk12 : k = 1 ∨ k = 2 := by
      have h := HK.out
      unfold divE at h
      split at h
      · exact .inl h.symm
      · split at h
        · exact .inr h.symm
        · exact absurd h.symm hk0
    clear hk0
    rcases hk12 with rfl | rfl
    · go_wp2_with (first
        | (go_at_call 49; (with_reducible refine (wdiv_any n d hn d2 _).mono ?_); rw [HV.out, HK.out]; rintro e w7 ⟨rfl, hb7⟩
           obtain ⟨hB7, hs7, hc7, hf7⟩ := Below.after hb7 (B := W.heap.size) (w0 := W) HH.out HH.out.size))
      have HB7 := Lib.hid hB7
      clear c0 c1 c2 c3 hc7 hf7 hb7 hB7 hs7
      go_quiet (fail)
      go_wp2
      go_ret
      exact ⟨rfl, Below.drewN (HBW.out.trans (HB7.out.mono HBW.out.size)) _⟩
    · go_wp2_with (first
        | (go_at_call 49; (with_reducible refine (wdiv_any n d hn d2 _).mono ?_); rw [HV.out, HK.out]; rintro e w7 ⟨rfl, hb7⟩
           obtain ⟨hB7, hs7, hc7, hf7⟩ := Below.after hb7 (B := W.heap.size) (w0 := W) HH.out HH.out.size))
      have HB7 := Lib.hid hB7
      clear c0 c1 c2 c3 hc7 hf7 hb7 hB7 hs7
      go_quiet (fail)
      go_wp2
      go_ret
      exact ⟨rfl, Below.drewN (HBW.out.trans (HB7.out.mono HBW.out.size)) _⟩
end Go.Proofs.Ytjojhlchakijfaa
