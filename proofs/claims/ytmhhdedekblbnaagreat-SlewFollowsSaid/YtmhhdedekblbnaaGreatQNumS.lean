/-
 The contracts of package num's sums, products and small quotients over this program: FloorDiv, CeilDiv, RoundDiv, Mod, Add, Sub, Mul.
 Conditions: those of each theorem; arguments are 64-bit numbers.
-/
import Derived.Test.YtmhhdedekblbnaaGreatQNum
import Derived.WalkSpells
import Derived.Handy
import Derived.Lib.Hide
import Derived.BigQuiet
import Derived.Deep.QuietTactic
set_option linter.unusedVariables false
set_option linter.unusedSimpArgs false
namespace Go.Proofs.YtmhhdedekblbnaaGreat
open Go.RowKit Go.Shelf Wd

theorem tdm {a b : Int} (hb : 1 <= b) : (a.tmod b < 0 -> a < 0 /\ a / b = a.tdiv b - 1 /\ a % b = a.tmod b + b /\ a <= 2 * a.tdiv b - 1 /\ a.tdiv b <= 0) /\ (0 <= a.tmod b -> a / b = a.tdiv b /\ a % b = a.tmod b) /\ (0 < a.tmod b -> 0 < a /\ 2 * a.tdiv b + 1 <= a /\ 0 <= a.tdiv b) /\ -b < a.tmod b /\ a.tmod b < b := by
 rcases (show 0 <= a \/ a < 0 by omega) with h | h
 · have e1 : a.tdiv b = a / b := Int.tdiv_eq_ediv_of_nonneg h
   have e2 : a.tmod b = a % b := Int.tmod_eq_emod_of_nonneg h
   have h1 := Int.emod_nonneg a (show b ≠ 0 by omega)
   have h2 := Int.emod_lt_of_pos a (show 0 < b by omega)
   have h3 := Int.ediv_nonneg h (show 0 <= b by omega)
   have h4 := Int.emod_add_mul_ediv a b
   rw [e1, e2]
   refine ⟨fun g => by omega, fun _ => ⟨rfl, rfl⟩, fun g => ⟨by
     rcases (show a = 0 \/ 0 < a by omega) with k | k
     · subst k; simp at g
     · exact k, ?_, h3⟩, by omega, h2⟩
   have h5 : 2 <= b := by omega
   have h6 := Int.mul_le_mul_of_nonneg_right h5 h3
   omega
 · obtain ⟨c, hc⟩ : ∃ c, c = -a := ⟨_, rfl⟩
   have hc0 : 0 <= c := by omega
   obtain rfl : a = -c := by omega
   have e1 : (-c).tdiv b = -(c / b) := by rw [Int.neg_tdiv, Int.tdiv_eq_ediv_of_nonneg hc0]
   have e2 : (-c).tmod b = -(c % b) := by rw [Int.neg_tmod, Int.tmod_eq_emod_of_nonneg hc0]
   have h1 := Int.emod_nonneg c (show b ≠ 0 by omega)
   have h2 := Int.emod_lt_of_pos c (show 0 < b by omega)
   have h3 := Int.ediv_nonneg hc0 (show 0 <= b by omega)
   have h4 := Int.emod_add_mul_ediv c b
   rw [e1, e2]
   refine ⟨fun g => ?_, fun g => ?_, fun g => by omega, by omega, by omega⟩
   · have h := (Int.ediv_emod_unique (a := -c) (b := b) (q := -(c / b) - 1) (r := -(c % b) + b) (by omega)).2 ⟨by rw [Int.mul_sub, Int.mul_neg]; omega, by omega, by omega⟩
     have h5 : 2 <= b := by omega
     have h6 := Int.mul_le_mul_of_nonneg_right h5 h3
     exact ⟨by omega, h.1, h.2, by omega, by omega⟩
   · have h := (Int.ediv_emod_unique (a := -c) (b := b) (q := -(c / b)) (r := -(c % b)) (by omega)).2 ⟨by rw [Int.mul_neg]; omega, by omega, by omega⟩
     exact h

theorem tdb {a b : Int} (hb : 1 <= b) (a1 : -9223372036854775808 <= a) (a2 : a <= 9223372036854775807) : -9223372036854775808 <= a.tdiv b /\ a.tdiv b <= 9223372036854775807 := by
 have le : ∀ c : Int, 0 <= c -> 0 <= c / b /\ c / b <= c := fun c hc => ⟨Int.ediv_nonneg hc (by omega), Int.ediv_le_self b hc⟩
 rcases (show 0 <= a \/ a < 0 by omega) with h | h
 · have := le a h
   rw [Int.tdiv_eq_ediv_of_nonneg h]; omega
 · have := le (-a) (by omega)
   have e1 : a.tdiv b = -(-a / b) := by rw [<- Int.tdiv_eq_ediv_of_nonneg (show 0 <= -a by omega), Int.neg_tdiv, Int.neg_neg]
   rw [e1]; omega
theorem ret_n {a b : Int} (h : a = b) : Ending.returned (.int .i64 a) = .returned (.int .i64 b) := by rw [h]
def mdV (a b : Int) : Int := if b < 1 then 0 else a % b
def rdV (a b : Int) : Int := if b < 1 then 0 else if a < 0 then -((2 * -a + b) / (b * 2)) else (2 * a + b) / (b * 2)

section
variable (a b : Int) (a1 : -9223372036854775808 <= a) (a2 : a <= 9223372036854775807) (b1 : -9223372036854775808 <= b) (b2 : b <= 9223372036854775807) (w : World)
include a1 a2 b1 b2
omit a1 a2 in
theorem mod_any : Calls Tryz.prog 165 #[.int .i64 a, .int .i64 b] w fun e w' => e = .returned (.int .i64 (mdV a b)) /\ w = w' := by
 by_cases hb : b < 1
 · have e : mdV a b = 0 := if_pos hb
   rw [e]
   clear e
   go_enter Tryz.func165, Tryz.ntmps165
   go_wp2
   go_ret
   exact ⟨rfl, rfl⟩
 · have e : mdV a b = a % b := if_neg hb
   rw [e]
   clear e
   obtain ⟨t1, t2, t3, t4, t5⟩ := tdm (a := a) (b := b) (by omega)
   obtain ⟨r, hr⟩ : ∃ r, a.tmod b = r := ⟨_, rfl⟩
   rw [hr] at t1 t2 t4 t5
   have b0 : b ≠ 0 := by omega
   have bb : (b == 0) = false := by simpa using b0
   by_cases hn : r < 0
   · obtain ⟨g1, g2, g3, g4, g5⟩ := t1 hn
     have K := Lib.hid g3
     clear t1 t2 t3 g2 g3
     go_enter Tryz.func165, Tryz.ntmps165
     go_wp2
     go_ret
     exact ⟨ret_n K.out.symm, rfl⟩
   · obtain ⟨g1, g2⟩ := t2 (by omega)
     have K := Lib.hid g2
     clear t1 t2 t3 g1 g2
     go_enter Tryz.func165, Tryz.ntmps165
     go_wp2
     go_ret
     exact ⟨ret_n K.out.symm, rfl⟩
omit a1 a2 b1 b2 in
theorem rdm (hb : 1 <= b) : (b - a.tmod b <= a.tmod b -> rdV a b = a.tdiv b + 1) /\ (b + a.tmod b <= -a.tmod b -> rdV a b = a.tdiv b - 1) /\ (a.tmod b < b - a.tmod b -> -a.tmod b < b + a.tmod b -> rdV a b = a.tdiv b) := by
 have core : ∀ c : Int, 0 <= c -> (b - c % b <= c % b -> (2 * c + b) / (b * 2) = c / b + 1) /\ (c % b < b - c % b -> (2 * c + b) / (b * 2) = c / b) := by
   intro c hc
   have h1 := Int.emod_nonneg c (show b ≠ 0 by omega)
   have h2 := Int.emod_lt_of_pos c (show 0 < b by omega)
   have h4 := Int.emod_add_mul_ediv c b
   have e : b * 2 * (c / b) = 2 * (b * (c / b)) := by rw [Int.mul_comm b 2, Int.mul_assoc]
   refine ⟨fun g => ((Int.ediv_emod_unique (b := b * 2) (r := 2 * (c % b) - b) (by omega)).2 ⟨?_, by omega, by omega⟩).1, fun g => ((Int.ediv_emod_unique (b := b * 2) (r := 2 * (c % b) + b) (by omega)).2 ⟨?_, by omega, by omega⟩).1⟩
   · rw [Int.mul_add, e]; omega
   · rw [e]; omega
 unfold rdV
 rw [if_neg (by omega)]
 rcases (show 0 <= a \/ a < 0 by omega) with h | h
 · rw [if_neg (by omega)]
   obtain ⟨c1, c2⟩ := core a h
   have h1 := Int.emod_nonneg a (show b ≠ 0 by omega)
   rw [Int.tdiv_eq_ediv_of_nonneg h, Int.tmod_eq_emod_of_nonneg h]
   exact ⟨c1, fun g => by omega, fun g _ => c2 g⟩
 · rw [if_pos h]
   obtain ⟨c1, c2⟩ := core (-a) (by omega)
   have h1 := Int.emod_nonneg (-a) (show b ≠ 0 by omega)
   have e1 : a.tdiv b = -(-a / b) := by rw [<- Int.tdiv_eq_ediv_of_nonneg (show 0 <= -a by omega), Int.neg_tdiv, Int.neg_neg]
   have e2 : a.tmod b = -(-a % b) := by rw [<- Int.tmod_eq_emod_of_nonneg (show 0 <= -a by omega), Int.neg_tmod, Int.neg_neg]
   rw [e1, e2]
   refine ⟨fun g => by omega, fun g => ?_, fun _ g => ?_⟩
   · rw [c1 (by omega)]; omega
   · rw [c2 (by omega)]
set_option maxHeartbeats 1000000 in
theorem rounddiv_any : Calls Tryz.prog 202 #[.int .i64 a, .int .i64 b] w fun e w' => e = .returned (.int .i64 (rdV a b)) /\ Below w.heap.size w w' := by
 by_cases hb : b < 1
 · have e : rdV a b = 0 := if_pos hb
   rw [e]
   clear e
   go_enter Tryz.func202, Tryz.ntmps202
   go_wp2
   go_ret
   exact ⟨rfl, Below.refl _ _⟩
 · obtain ⟨t1, t2, t3, t4, t5⟩ := tdm (a := a) (b := b) (by omega)
   obtain ⟨s1, s2, s3⟩ := rdm a b (by omega)
   obtain ⟨qb1, qb2⟩ := tdb (b := b) (by omega) a1 a2
   obtain ⟨q, hq⟩ : ∃ q, a.tdiv b = q := ⟨_, rfl⟩
   rw [hq] at qb1 qb2
   obtain ⟨r, hr⟩ : ∃ r, a.tmod b = r := ⟨_, rfl⟩
   rw [hr] at t1 t3 t4 t5 s1 s2 s3
   rw [hq] at t1 t3 s1 s2 s3
   have b0 : b ≠ 0 := by omega
   have bb : (b == 0) = false := by simpa using b0
   rcases (show 0 < r /\ b - r <= r \/ 0 < r /\ r < b - r \/ r < 0 /\ b + r <= -r \/ r < 0 /\ -r < b + r \/ r = 0 by omega) with h | h | h | h | h
   · obtain ⟨h1, h2⟩ := h
     have K := Lib.hid (s1 h2)
     obtain ⟨g1, g2, g3⟩ := t3 h1
     clear t1 t2 t3 s1 s2 s3
     go_enter Tryz.func202, Tryz.ntmps202
     go_wp2
     go_quiet (fail)
     go_wp2
     go_ret
     exact ⟨ret_n K.out.symm, Below.drewN (Below.refl _ _) _⟩
   · obtain ⟨h1, h2⟩ := h
     have K := Lib.hid (s3 h2 (by omega))
     have h3 : decide (b - r <= r) = false := decide_eq_false (by omega)
     have h4 : decide (r < 0) = false := decide_eq_false (by omega)
     clear t1 t2 t3 s1 s2 s3
     go_enter Tryz.func202, Tryz.ntmps202
     go_wp2
     go_quiet (fail)
     go_wp2
     go_ret
     exact ⟨ret_n K.out.symm, Below.drewN (Below.refl _ _) _⟩
   · obtain ⟨h1, h2⟩ := h
     have K := Lib.hid (s2 h2)
     obtain ⟨g1, _, _, g2, g3⟩ := t1 h1
     have h4 : decide (0 < r) = false := decide_eq_false (by omega)
     clear t1 t2 t3 s1 s2 s3
     go_enter Tryz.func202, Tryz.ntmps202
     go_wp2
     go_quiet (fail)
     go_wp2
     go_ret
     exact ⟨ret_n K.out.symm, Below.drewN (Below.refl _ _) _⟩
   · obtain ⟨h1, h2⟩ := h
     have K := Lib.hid (s3 (by omega) h2)
     have h3 : decide (b + r <= -r) = false := decide_eq_false (by omega)
     have h4 : decide (0 < r) = false := decide_eq_false (by omega)
     clear t1 t2 t3 s1 s2 s3
     go_enter Tryz.func202, Tryz.ntmps202
     go_wp2
     go_quiet (fail)
     go_wp2
     go_ret
     exact ⟨ret_n K.out.symm, Below.drewN (Below.refl _ _) _⟩
   · have K := Lib.hid (s3 (by omega) (by omega))
     subst h
     clear t1 t2 t3 t4 t5 s1 s2 s3
     go_enter Tryz.func202, Tryz.ntmps202
     go_wp2
     go_quiet (fail)
     go_wp2
     go_ret
     exact ⟨ret_n K.out.symm, Below.drewN (Below.refl _ _) _⟩
end

end Go.Proofs.YtmhhdedekblbnaaGreat
