/-
  Digits in base 10^6, more: one digit replaced, zeros, what the long multiplication keeps: no program in sight.
  Conditions: those of each lemma.
-/
import Derived.Test.YtokkaeaciigapaaDoorZ2
namespace Go.Proofs.YtokkaeaciigapaaDoor.Zd
open Go.Proofs.YtokkaeaciigapaaDoor

theorem getD_set {ds : List Int} {k t : Nat} (v : Int) (h : k < ds.length) : (ds.set k v).getD t 0 = if t = k then v else ds.getD t 0 := by
  simp only [List.getD_eq_getElem?_getD, List.getElem?_set]
  by_cases e : t = k
  · subst e; simp [h]
  · rw [if_neg (fun x => e x.symm), if_neg e]
theorem val_set {ds : List Int} {k : Nat} (v : Int) (h : k < ds.length) : val (ds.set k v) = val ds + 1000000 ^ k * (v - ds.getD k 0) := by
  induction ds generalizing k with
  | nil => simp at h
  | cons d t ih =>
    cases k with
    | zero => simp [val]; omega
    | succ k =>
      have hk : k < t.length := by simpa using h
      rw [List.set_cons_succ, val, val, ih hk, Int.pow_succ]
      have e : (d :: t).getD (k + 1) 0 = t.getD k 0 := by simp
      rw [e, Int.mul_add]
      rw [show (1000000 : Int) ^ k * 1000000 * (v - t.getD k 0) = 1000000 * (1000000 ^ k * (v - t.getD k 0)) by rw [Int.mul_comm (1000000 ^ k) 1000000, Int.mul_assoc]]
      omega
theorem Ok.set {ds : List Int} (h : Ok ds) (k : Nat) {v : Int} (h0 : 0 ≤ v) (h1 : v < 1000000) : Ok (ds.set k v) := fun x hx => by
  rcases List.mem_or_eq_of_mem_set hx with g | g
  · exact h x g
  · rw [g]; exact ⟨h0, h1⟩
theorem zeros_val (n : Nat) : val (List.replicate n 0) = 0 := by
  induction n with
  | zero => rfl
  | succ n ih => rw [List.replicate_succ, val, ih]; rfl
theorem zeros_ok (n : Nat) : Ok (List.replicate n 0) := fun x hx => by
  have := List.eq_of_mem_replicate hx; omega
theorem zeros_getD (n t : Nat) : (List.replicate n (0 : Int)).getD t 0 = 0 := by
  simp only [List.getD_eq_getElem?_getD, List.getElem?_replicate]
  split <;> rfl

/-- One step of a row of the long multiplication. -/
theorem times_step {ds qs : List Int} {i j : Nat} {c x y d t V : Int} (h : val ds + 1000000 ^ (i + j) * c = V + 1000000 ^ i * (x * val (qs.take j))) (hj : j < qs.length) (hd : i + j < ds.length)
    (hy : qs.getD j 0 = y) (hD : ds.getD (i + j) 0 = d) (ht : t = c + (d + x * y)) :
    val (ds.set (i + j) (t % 1000000)) + 1000000 ^ (i + (j + 1)) * (t / 1000000) = V + 1000000 ^ i * (x * val (qs.take (j + 1))) := by
  rw [val_set _ hd, hD, take_val, if_pos hj, hy, ← Nat.add_assoc, Int.pow_succ]
  have e1 : t % 1000000 + 1000000 * (t / 1000000) = t := Int.emod_add_mul_ediv t 1000000
  have e2 : (1000000 : Int) ^ (i + j) * (t % 1000000 - d) + 1000000 ^ (i + j) * 1000000 * (t / 1000000) = 1000000 ^ (i + j) * (c + x * y) := by
    rw [Int.mul_assoc, ← Int.mul_add]
    congr 1
    omega
  have e3 : (1000000 : Int) ^ i * (x * (val (qs.take j) + 1000000 ^ j * y)) = 1000000 ^ i * (x * val (qs.take j)) + 1000000 ^ (i + j) * (x * y) := by
    rw [Int.mul_add, Int.mul_add, Int.pow_add, Int.mul_assoc (1000000 ^ i) (1000000 ^ j) (x * y), Int.mul_left_comm x (1000000 ^ j) y]
  rw [e3]
  rw [Int.mul_add] at e2
  omega
/-- The end of a row: the carry is laid into the next place, which was 0. -/
theorem times_end {ds ps qs : List Int} {i m : Nat} {c x V B : Int} (h : val ds + 1000000 ^ (i + m) * c = V + 1000000 ^ i * (x * val (qs.take m))) (hm : qs.length = m) (hi : i < ps.length) (hd : i + m < ds.length)
    (hx : ps.getD i 0 = x) (hD : ds.getD (i + m) 0 = 0) (hV : V = val (ps.take i) * B) (hB : B = val qs) :
    val (ds.set (i + m) (0 + c)) = val (ps.take (i + 1)) * B := by
  rw [val_set _ hd, hD, take_val, if_pos hi, hx, Int.add_mul, ← hV]
  rw [take_all (by omega), ← hB] at h
  rw [Int.mul_assoc]
  have e : (0 + c - 0 : Int) = c := by omega
  rw [e]
  omega
theorem mul_digit {x y : Int} (hx : 0 ≤ x) (hx1 : x < 1000000) (hy : 0 ≤ y) (hy1 : y < 1000000) : 0 ≤ x * y ∧ x * y ≤ 999998000001 := by
  refine ⟨Int.mul_nonneg hx hy, ?_⟩
  have h1 : x * y ≤ 999999 * y := Int.mul_le_mul_of_nonneg_right (by omega) hy
  omega
end Go.Proofs.YtokkaeaciigapaaDoor.Zd

