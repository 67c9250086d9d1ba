/-
  The contracts of the reference's numbers, second part: the sum and the difference of digits.
  Conditions: those of each theorem; at most a million digits; what is subtracted is not greater.
-/
import Derived.Test.YtfhidjldmopbgaaZ
namespace Go.Proofs.Ytfhidjldmopbgaa
open Go.RowKit Go.Shelf Zd Wd

theorem take_val {ps : List Int} (k : Nat) : val (ps.take (k + 1)) = val (ps.take k) + 1000000 ^ k * (if k < ps.length then ps.getD k 0 else 0) := by
  by_cases h : k < ps.length
  · have e : ps.getD k 0 = ps[k] := by simp [List.getD, h]
    have l : (ps.take k).length = k := by rw [List.length_take]; omega
    rw [if_pos h, List.take_succ_eq_append_getElem h, val_append, l, e]
    simp [val]
  · rw [if_neg h, List.take_of_length_le (by omega), List.take_of_length_le (by omega)]; simp
theorem take_all {ps : List Int} {k : Nat} (h : ps.length ≤ k) : val (ps.take k) = val ps := by rw [List.take_of_length_le h]
/-- One place of the sum. -/
theorem sum_step {ds ps qs : List Int} {k : Nat} {c s d c' A B : Int} (h : val ds + 1000000 ^ k * c = val (ps.take k) + s * val (qs.take k)) (hl : ds.length = k)
    (hA : A = if k < ps.length then ps.getD k 0 else 0) (hB : B = if k < qs.length then qs.getD k 0 else 0) (hx : c + A + s * B = d + 1000000 * c') :
    val (ds ++ [d]) + 1000000 ^ (k + 1) * c' = val (ps.take (k + 1)) + s * val (qs.take (k + 1)) := by
  rw [take_val, take_val, ← hA, ← hB, val_append, hl, Int.pow_succ]
  simp only [val]
  have e1 : (1000000 : Int) ^ k * (c + A + s * B) = 1000000 ^ k * (d + 1000000 * c') := by rw [hx]
  simp only [Int.mul_add] at e1 ⊢
  rw [Int.mul_assoc, ← Int.mul_assoc s, Int.mul_comm s (1000000 ^ k), Int.mul_assoc (1000000 ^ k) s]
  simp only [Int.mul_zero, Int.add_zero]
  omega
theorem Zd.Ok.snoc {ds : List Int} {d : Int} (h : Ok ds) (h0 : 0 ≤ d) (h1 : d < 1000000) : Ok (ds ++ [d]) := h.append (Ok.cons h0 h1 Ok.nil)

set_option maxRecDepth 100000 in
set_option maxHeartbeats 4000000 in
theorem sum_add (ps qs : List Int) (n m : Nat) (hn : n ≤ 1000000) (hm : m ≤ 1000000) (ha : Ok ps) (hb : Ok qs) (hle : 0 ≤ val ps + 1 * val qs) (w : World) (p q : Option Addr) (c1 c2 : Nat) (LA : Hid (ps.length = n)) (LB : Hid (qs.length = m))
    (hp : n = 0 ∨ ∃ b off, p = some ⟨b, off, none⟩ ∧ b < w.heap.size ∧ Hid (∀ j, j < n → w.cell? ⟨b, off + j, none⟩ = some (.int .i64 (ps.getD j 0))))
    (hq : m = 0 ∨ ∃ b off, q = some ⟨b, off, none⟩ ∧ b < w.heap.size ∧ Hid (∀ j, j < m → w.cell? ⟨b, off + j, none⟩ = some (.int .i64 (qs.getD j 0)))) :
    Calls Try.prog 28 #[.slice p n c1, .slice q m c2, .int .i64 1] w fun e w' => ∃ s ds, e = .returned s ∧ Rd w' s ds ∧ Ok ds ∧ val ds = val ps + 1 * val qs ∧ ds.length ≤ 1000001 ∧ Below w.heap.size w w' := by
  obtain ⟨i0, hi, hz0, hz1, hz2⟩ := info_parts (show (Try.prog.info? 3).map (fun i => (i.zero, i.size, i.bytes)) = some (some (.int .i64 0), 1, 8) by kernel_rfl)
  have HLE := Lib.hid hle
  obtain ⟨M, hM⟩ : ∃ M : Nat, M = 1000001 := ⟨_, rfl⟩
  have hM1 : 1000001 ≤ M := by omega
  have HM := Lib.hid hM
  clear hM
  have HP := Lib.hid hp
  have HQ := Lib.hid hq
  clear hle hp hq
  go_enter Try.func28, Try.ntmps28
  go_wp2
  go_loopw [7, 8, 9] (fun v c i wr => ∃ (k : Nat) (ds : List Int) (cy : Int), i = .int .i64 k ∧ c = .int .i64 cy ∧ k ≤ M ∧ 0 ≤ cy ∧ cy ≤ 1 ∧ Hid (Ok ds) ∧ ds.length = k ∧ Hid (k ≤ n ∨ k ≤ m ∨ cy ≤ 0) ∧ Hid (val ds + 1000000 ^ k * cy = val (ps.take k) + 1 * val (qs.take k)) ∧
      wr.ownsRow w.heap.size 3 1 v ds.length (ds.map (Value.int .i64)) ∧ Below w.heap.size w wr) (fun _ _ i _ => M - (intOf i).toNat)
  case atStart => exact ⟨0, [], 0, rfl, rfl, by omega, by omega, by omega, Lib.hid Ok.nil, rfl, Lib.hid (by omega), Lib.hid (by simp [val]), World.ownsRow_nil _ _ _ _, Below.refl _ _⟩
  case round =>
    obtain ⟨k, ds, cy, rfl, rfl, hk, hc1, hc2, hok, hlen, hkm, hinv, hown, hbel⟩ := hrel
    have HOK := hok
    have HL := Lib.hid hlen
    have hB := Lib.hid hbel
    have hsz := hbel.size
    by_cases ex : n ≤ k ∧ m ≤ k ∧ cy ≤ 0
    · obtain ⟨x1, x2, x3⟩ := ex
      have hd : decide ((k : Int) < max n m) = false := decide_eq_false (by omega)
      have hd2 : decide (0 < cy) = false := decide_eq_false (by omega)
      have hfin : Hid (val ds = val ps + 1 * val qs) := by
        unfold Hid
        have h := hinv.out
        rw [take_all (by have := LA.out; omega), take_all (by have := LB.out; omega)] at h
        have hlt := val_lt hok.out
        rw [hlen] at hlt
        have hle := HLE.out
        rcases (show cy = 0 ∨ cy = -1 by omega) with h0 | h0
        · rw [h0] at h; omega
        · rw [h0] at h; omega
      have HR := Lib.hid (Rd.of_own hown)
      have hl6 : Hid (ds.length ≤ 1000001) := by unfold Hid; have := HM.out; omega
      clear hown hbel hinv hkm hlen
      go_wp2
      go_ret
      exact ⟨_, ds, rfl, HR.out, HOK.out, hfin.out, hl6.out, hB.out⟩
    · have hk1 : k ≤ 1000000 := by have := hkm.out; omega
      obtain ⟨A, hA⟩ : ∃ A, (if k < ps.length then ps.getD k 0 else 0) = A := ⟨_, rfl⟩
      obtain ⟨B, hB'⟩ : ∃ B, (if k < qs.length then qs.getD k 0 else 0) = B := ⟨_, rfl⟩
      have hAb : 0 ≤ A ∧ A < 1000000 := by
        rw [← hA]; split
        · exact ha.getD (by assumption)
        · omega
      have hBb : 0 ≤ B ∧ B < 1000000 := by
        rw [← hB']; split
        · exact hb.getD (by assumption)
        · omega
      obtain ⟨hA0, hA1⟩ := hAb
      obtain ⟨hB0, hB1⟩ := hBb
      obtain ⟨X, hX⟩ : ∃ X, cy + A + 1 * B = X := ⟨_, rfl⟩
      obtain ⟨d, c', hx, hd0, hd1, hcc⟩ : ∃ d c', X = d + 1000000 * c' ∧ 0 ≤ d ∧ d < 1000000 ∧ (1000000 ≤ X ∧ X - 1000000 = d ∧ c' = 1 ∨ 0 ≤ X ∧ X < 1000000 ∧ X = d ∧ c' = 0) := by
        by_cases g1 : 1000000 ≤ X
        · exact ⟨X - 1000000, 1, by omega, by omega, by omega, .inl ⟨g1, rfl, rfl⟩⟩
        · exact ⟨X, 0, by omega, by omega, by omega, .inr ⟨by omega, by omega, rfl, rfl⟩⟩
      have hstep := Lib.hid (sum_step (s := 1) hinv.out hlen hA.symm hB'.symm (by rw [hX]; exact hx))
      have hokd := Lib.hid (Zd.Ok.snoc hok.out hd0 hd1)
      have HA := Lib.hid hA
      have HB := Lib.hid hB'
      have hc'b : 0 ≤ c' ∧ c' ≤ 1 := by omega
      clear hA hB' hinv hx
      by_cases ka : k < n
      · by_cases kb : k < m
        · have t1 : decide ((k : Int) < n) = true := decide_eq_true (by omega)
          obtain ⟨b1, o1, rfl, g1, G1⟩ := HP.out.resolve_left (by omega)
          have hcA : wr.cell? ⟨b1, o1 + k, none⟩ = some (.int .i64 A) := by rw [hbel.cell g1, G1.out k ka, ← HA.out, if_pos (by have := LA.out; omega)]
          clear G1
          have t2 : decide ((k : Int) < m) = true := decide_eq_true (by omega)
          obtain ⟨b2, o2, rfl, g2, G2⟩ := HQ.out.resolve_left (by omega)
          have hcB : wr.cell? ⟨b2, o2 + k, none⟩ = some (.int .i64 B) := by rw [hbel.cell g2, G2.out k kb, ← HB.out, if_pos (by have := LB.out; omega)]
          clear G2
          have t3 : decide ((k : Int) < max n m) = true := decide_eq_true (by omega)
          rcases hcc with hcc | hcc
          · obtain ⟨y1, y2, rfl⟩ := hcc
            have hXe : cy + A + B = X := by omega
            clear hX
            have t5 : decide (1000000 ≤ X) = true := decide_eq_true (by omega)
            have t6 : decide (d < 0) = false := decide_eq_false (by omega)
            go_wp2_with (first
              | (at_builtin; refine wpList_append_own _ rfl _ _ 26 rfl w.heap.size 3 i0 (.int .i64 0) 1 8 Try.underlying26 hi hz0 hz1 hz2 rfl (by decide) _ _ _ rfl (hown.alloc _) ⟨wr.heap.size, 0, none⟩ 1 1 [.int .i64 d] rfl rfl ?c1n1 ?c2n1 ?c3n1 ?c4n1 ?c5n1 ?_))
            case c2n1 => first | rfl | (intro u hu; simp at hu; subst hu; rfl)
            case c3n1 => unfold maxLen; omega
            case c4n1 => omega
            case c5n1 => first | omega | (simp; omega)
            · intro v' w1 hown' hgrow _
              have hO := Lib.hid (show w1.ownsRow w.heap.size 3 1 v' (ds ++ [d]).length ((ds ++ [d]).map (Value.int .i64)) by simpa [hlen] using hown')
              have HB1 := Lib.hid ((hbel.alloc hsz _).grown hgrow (by simp; omega) (fun k hk => (hown.lt k hk).1))
              clear hown' hgrow hown hbel
              go_wp2
              have hkM : k + 1 ≤ M := by omega
              have hcb : 0 ≤ (1 : Int) ∧ (1 : Int) ≤ 1 := by omega
              have hkm2 : k + 1 ≤ n ∨ k + 1 ≤ m ∨ 1 ≤ (0 : Int) := by omega
              go_roundw
              case rel => exact ⟨k + 1, ds ++ [d], 1, by go_num, rfl, hkM, hcb.1, hcb.2, hokd, by simp; omega, Lib.hid hkm2, hstep, hO.out, HB1.out⟩
              case measure => simp [intOf]; omega
          · obtain ⟨y1, y2, y3, rfl⟩ := hcc
            subst y3
            have hXe : cy + A + B = X := by omega
            clear hX
            have t5 : decide (1000000 ≤ X) = false := decide_eq_false (by omega)
            have t6 : decide (X < 0) = false := decide_eq_false (by omega)
            go_wp2_with (first
              | (at_builtin; refine wpList_append_own _ rfl _ _ 26 rfl w.heap.size 3 i0 (.int .i64 0) 1 8 Try.underlying26 hi hz0 hz1 hz2 rfl (by decide) _ _ _ rfl (hown.alloc _) ⟨wr.heap.size, 0, none⟩ 1 1 [.int .i64 X] rfl rfl ?c1n2 ?c2n2 ?c3n2 ?c4n2 ?c5n2 ?_))
            case c2n2 => first | rfl | (intro u hu; simp at hu; subst hu; rfl)
            case c3n2 => unfold maxLen; omega
            case c4n2 => omega
            case c5n2 => first | omega | (simp; omega)
            · intro v' w1 hown' hgrow _
              have hO := Lib.hid (show w1.ownsRow w.heap.size 3 1 v' (ds ++ [X]).length ((ds ++ [X]).map (Value.int .i64)) by simpa [hlen] using hown')
              have HB1 := Lib.hid ((hbel.alloc hsz _).grown hgrow (by simp; omega) (fun k hk => (hown.lt k hk).1))
              clear hown' hgrow hown hbel
              go_wp2
              have hkM : k + 1 ≤ M := by omega
              have hcb : 0 ≤ (0 : Int) ∧ (0 : Int) ≤ 1 := by omega
              have hkm2 : k + 1 ≤ n ∨ k + 1 ≤ m ∨ 0 ≤ (0 : Int) := by omega
              go_roundw
              case rel => exact ⟨k + 1, ds ++ [X], 0, by go_num, rfl, hkM, hcb.1, hcb.2, hokd, by simp; omega, Lib.hid hkm2, hstep, hO.out, HB1.out⟩
              case measure => simp [intOf]; omega
        · have t1 : decide ((k : Int) < n) = true := decide_eq_true (by omega)
          obtain ⟨b1, o1, rfl, g1, G1⟩ := HP.out.resolve_left (by omega)
          have hcA : wr.cell? ⟨b1, o1 + k, none⟩ = some (.int .i64 A) := by rw [hbel.cell g1, G1.out k ka, ← HA.out, if_pos (by have := LA.out; omega)]
          clear G1
          have t2 : decide ((k : Int) < m) = false := decide_eq_false (by omega)
          obtain rfl : B = 0 := by rw [← HB.out, if_neg (by have := LB.out; omega)]
          have t3 : decide ((k : Int) < max n m) = true := decide_eq_true (by omega)
          rcases hcc with hcc | hcc
          · obtain ⟨y1, y2, rfl⟩ := hcc
            have hXe : cy + A = X := by omega
            clear hX
            have t5 : decide (1000000 ≤ X) = true := decide_eq_true (by omega)
            have t6 : decide (d < 0) = false := decide_eq_false (by omega)
            go_wp2_with (first
              | (at_builtin; refine wpList_append_own _ rfl _ _ 26 rfl w.heap.size 3 i0 (.int .i64 0) 1 8 Try.underlying26 hi hz0 hz1 hz2 rfl (by decide) _ _ _ rfl (hown.alloc _) ⟨wr.heap.size, 0, none⟩ 1 1 [.int .i64 d] rfl rfl ?c1n3 ?c2n3 ?c3n3 ?c4n3 ?c5n3 ?_))
            case c2n3 => first | rfl | (intro u hu; simp at hu; subst hu; rfl)
            case c3n3 => unfold maxLen; omega
            case c4n3 => omega
            case c5n3 => first | omega | (simp; omega)
            · intro v' w1 hown' hgrow _
              have hO := Lib.hid (show w1.ownsRow w.heap.size 3 1 v' (ds ++ [d]).length ((ds ++ [d]).map (Value.int .i64)) by simpa [hlen] using hown')
              have HB1 := Lib.hid ((hbel.alloc hsz _).grown hgrow (by simp; omega) (fun k hk => (hown.lt k hk).1))
              clear hown' hgrow hown hbel
              go_wp2
              have hkM : k + 1 ≤ M := by omega
              have hcb : 0 ≤ (1 : Int) ∧ (1 : Int) ≤ 1 := by omega
              have hkm2 : k + 1 ≤ n ∨ k + 1 ≤ m ∨ 1 ≤ (0 : Int) := by omega
              go_roundw
              case rel => exact ⟨k + 1, ds ++ [d], 1, by go_num, rfl, hkM, hcb.1, hcb.2, hokd, by simp; omega, Lib.hid hkm2, hstep, hO.out, HB1.out⟩
              case measure => simp [intOf]; omega
          · obtain ⟨y1, y2, y3, rfl⟩ := hcc
            subst y3
            have hXe : cy + A = X := by omega
            clear hX
            have t5 : decide (1000000 ≤ X) = false := decide_eq_false (by omega)
            have t6 : decide (X < 0) = false := decide_eq_false (by omega)
            go_wp2_with (first
              | (at_builtin; refine wpList_append_own _ rfl _ _ 26 rfl w.heap.size 3 i0 (.int .i64 0) 1 8 Try.underlying26 hi hz0 hz1 hz2 rfl (by decide) _ _ _ rfl (hown.alloc _) ⟨wr.heap.size, 0, none⟩ 1 1 [.int .i64 X] rfl rfl ?c1n4 ?c2n4 ?c3n4 ?c4n4 ?c5n4 ?_))
            case c2n4 => first | rfl | (intro u hu; simp at hu; subst hu; rfl)
            case c3n4 => unfold maxLen; omega
            case c4n4 => omega
            case c5n4 => first | omega | (simp; omega)
            · intro v' w1 hown' hgrow _
              have hO := Lib.hid (show w1.ownsRow w.heap.size 3 1 v' (ds ++ [X]).length ((ds ++ [X]).map (Value.int .i64)) by simpa [hlen] using hown')
              have HB1 := Lib.hid ((hbel.alloc hsz _).grown hgrow (by simp; omega) (fun k hk => (hown.lt k hk).1))
              clear hown' hgrow hown hbel
              go_wp2
              have hkM : k + 1 ≤ M := by omega
              have hcb : 0 ≤ (0 : Int) ∧ (0 : Int) ≤ 1 := by omega
              have hkm2 : k + 1 ≤ n ∨ k + 1 ≤ m ∨ 0 ≤ (0 : Int) := by omega
              go_roundw
              case rel => exact ⟨k + 1, ds ++ [X], 0, by go_num, rfl, hkM, hcb.1, hcb.2, hokd, by simp; omega, Lib.hid hkm2, hstep, hO.out, HB1.out⟩
              case measure => simp [intOf]; omega
      · by_cases kb : k < m
        · have t1 : decide ((k : Int) < n) = false := decide_eq_false (by omega)
          obtain rfl : A = 0 := by rw [← HA.out, if_neg (by have := LA.out; omega)]
          have t2 : decide ((k : Int) < m) = true := decide_eq_true (by omega)
          obtain ⟨b2, o2, rfl, g2, G2⟩ := HQ.out.resolve_left (by omega)
          have hcB : wr.cell? ⟨b2, o2 + k, none⟩ = some (.int .i64 B) := by rw [hbel.cell g2, G2.out k kb, ← HB.out, if_pos (by have := LB.out; omega)]
          clear G2
          have t3 : decide ((k : Int) < max n m) = true := decide_eq_true (by omega)
          rcases hcc with hcc | hcc
          · obtain ⟨y1, y2, rfl⟩ := hcc
            have hXe : cy + B = X := by omega
            clear hX
            have t5 : decide (1000000 ≤ X) = true := decide_eq_true (by omega)
            have t6 : decide (d < 0) = false := decide_eq_false (by omega)
            go_wp2_with (first
              | (at_builtin; refine wpList_append_own _ rfl _ _ 26 rfl w.heap.size 3 i0 (.int .i64 0) 1 8 Try.underlying26 hi hz0 hz1 hz2 rfl (by decide) _ _ _ rfl (hown.alloc _) ⟨wr.heap.size, 0, none⟩ 1 1 [.int .i64 d] rfl rfl ?c1n5 ?c2n5 ?c3n5 ?c4n5 ?c5n5 ?_))
            case c2n5 => first | rfl | (intro u hu; simp at hu; subst hu; rfl)
            case c3n5 => unfold maxLen; omega
            case c4n5 => omega
            case c5n5 => first | omega | (simp; omega)
            · intro v' w1 hown' hgrow _
              have hO := Lib.hid (show w1.ownsRow w.heap.size 3 1 v' (ds ++ [d]).length ((ds ++ [d]).map (Value.int .i64)) by simpa [hlen] using hown')
              have HB1 := Lib.hid ((hbel.alloc hsz _).grown hgrow (by simp; omega) (fun k hk => (hown.lt k hk).1))
              clear hown' hgrow hown hbel
              go_wp2
              have hkM : k + 1 ≤ M := by omega
              have hcb : 0 ≤ (1 : Int) ∧ (1 : Int) ≤ 1 := by omega
              have hkm2 : k + 1 ≤ n ∨ k + 1 ≤ m ∨ 1 ≤ (0 : Int) := by omega
              go_roundw
              case rel => exact ⟨k + 1, ds ++ [d], 1, by go_num, rfl, hkM, hcb.1, hcb.2, hokd, by simp; omega, Lib.hid hkm2, hstep, hO.out, HB1.out⟩
              case measure => simp [intOf]; omega
          · obtain ⟨y1, y2, y3, rfl⟩ := hcc
            subst y3
            have hXe : cy + B = X := by omega
            clear hX
            have t5 : decide (1000000 ≤ X) = false := decide_eq_false (by omega)
            have t6 : decide (X < 0) = false := decide_eq_false (by omega)
            go_wp2_with (first
              | (at_builtin; refine wpList_append_own _ rfl _ _ 26 rfl w.heap.size 3 i0 (.int .i64 0) 1 8 Try.underlying26 hi hz0 hz1 hz2 rfl (by decide) _ _ _ rfl (hown.alloc _) ⟨wr.heap.size, 0, none⟩ 1 1 [.int .i64 X] rfl rfl ?c1n6 ?c2n6 ?c3n6 ?c4n6 ?c5n6 ?_))
            case c2n6 => first | rfl | (intro u hu; simp at hu; subst hu; rfl)
            case c3n6 => unfold maxLen; omega
            case c4n6 => omega
            case c5n6 => first | omega | (simp; omega)
            · intro v' w1 hown' hgrow _
              have hO := Lib.hid (show w1.ownsRow w.heap.size 3 1 v' (ds ++ [X]).length ((ds ++ [X]).map (Value.int .i64)) by simpa [hlen] using hown')
              have HB1 := Lib.hid ((hbel.alloc hsz _).grown hgrow (by simp; omega) (fun k hk => (hown.lt k hk).1))
              clear hown' hgrow hown hbel
              go_wp2
              have hkM : k + 1 ≤ M := by omega
              have hcb : 0 ≤ (0 : Int) ∧ (0 : Int) ≤ 1 := by omega
              have hkm2 : k + 1 ≤ n ∨ k + 1 ≤ m ∨ 0 ≤ (0 : Int) := by omega
              go_roundw
              case rel => exact ⟨k + 1, ds ++ [X], 0, by go_num, rfl, hkM, hcb.1, hcb.2, hokd, by simp; omega, Lib.hid hkm2, hstep, hO.out, HB1.out⟩
              case measure => simp [intOf]; omega
        · have t1 : decide ((k : Int) < n) = false := decide_eq_false (by omega)
          obtain rfl : A = 0 := by rw [← HA.out, if_neg (by have := LA.out; omega)]
          have t2 : decide ((k : Int) < m) = false := decide_eq_false (by omega)
          obtain rfl : B = 0 := by rw [← HB.out, if_neg (by have := LB.out; omega)]
          have t3 : decide ((k : Int) < max n m) = false := decide_eq_false (by omega)
          have t4 : decide (0 < cy) = true := decide_eq_true (by omega)
          replace hcc := hcc.resolve_left (by omega)
          · obtain ⟨y1, y2, y3, rfl⟩ := hcc
            subst y3
            obtain rfl : X = cy := by omega
            clear hX
            have t5 : decide (1000000 ≤ X) = false := decide_eq_false (by omega)
            have t6 : decide (X < 0) = false := decide_eq_false (by omega)
            go_wp2_with (first
              | (at_builtin; refine wpList_append_own _ rfl _ _ 26 rfl w.heap.size 3 i0 (.int .i64 0) 1 8 Try.underlying26 hi hz0 hz1 hz2 rfl (by decide) _ _ _ rfl (hown.alloc _) ⟨wr.heap.size, 0, none⟩ 1 1 [.int .i64 X] rfl rfl ?c1n7 ?c2n7 ?c3n7 ?c4n7 ?c5n7 ?_))
            case c1n7 => intro j u hj; match j, hj with
              | 0, hj => simp at hj; subst hj; simp [Addr.add]
            case c2n7 => first | rfl | (intro u hu; simp at hu; subst hu; rfl)
            case c3n7 => unfold maxLen; omega
            case c4n7 => omega
            case c5n7 => first | omega | (simp; omega)
            · intro v' w1 hown' hgrow _
              have hO := Lib.hid (show w1.ownsRow w.heap.size 3 1 v' (ds ++ [X]).length ((ds ++ [X]).map (Value.int .i64)) by simpa [hlen] using hown')
              have HB1 := Lib.hid ((hbel.alloc hsz _).grown hgrow (by simp; omega) (fun k hk => (hown.lt k hk).1))
              clear hown' hgrow hown hbel
              go_wp2
              have hkM : k + 1 ≤ M := by omega
              have hcb : 0 ≤ (0 : Int) ∧ (0 : Int) ≤ 1 := by omega
              have hkm2 : k + 1 ≤ n ∨ k + 1 ≤ m ∨ 0 ≤ (0 : Int) := by omega
              go_roundw
              case rel => exact ⟨k + 1, ds ++ [X], 0, by go_num, rfl, hkM, hcb.1, hcb.2, hokd, by simp; omega, Lib.hid hkm2, hstep, hO.out, HB1.out⟩
              case measure => simp [intOf]; omega

set_option maxRecDepth 100000 in
set_option maxHeartbeats 4000000 in
theorem sum_sub (ps qs : List Int) (n m : Nat) (hn : n ≤ 1000000) (hm : m ≤ 1000000) (ha : Ok ps) (hb : Ok qs) (hle : 0 ≤ val ps + -1 * val qs) (w : World) (p q : Option Addr) (c1 c2 : Nat) (LA : Hid (ps.length = n)) (LB : Hid (qs.length = m))
    (hp : n = 0 ∨ ∃ b off, p = some ⟨b, off, none⟩ ∧ b < w.heap.size ∧ Hid (∀ j, j < n → w.cell? ⟨b, off + j, none⟩ = some (.int .i64 (ps.getD j 0))))
    (hq : m = 0 ∨ ∃ b off, q = some ⟨b, off, none⟩ ∧ b < w.heap.size ∧ Hid (∀ j, j < m → w.cell? ⟨b, off + j, none⟩ = some (.int .i64 (qs.getD j 0)))) :
    Calls Try.prog 28 #[.slice p n c1, .slice q m c2, .int .i64 (-1)] w fun e w' => ∃ s ds, e = .returned s ∧ Rd w' s ds ∧ Ok ds ∧ val ds = val ps + -1 * val qs ∧ ds.length ≤ 1000001 ∧ Below w.heap.size w w' := by
  obtain ⟨i0, hi, hz0, hz1, hz2⟩ := info_parts (show (Try.prog.info? 3).map (fun i => (i.zero, i.size, i.bytes)) = some (some (.int .i64 0), 1, 8) by kernel_rfl)
  have HLE := Lib.hid hle
  obtain ⟨M, hM⟩ : ∃ M : Nat, M = 1000001 := ⟨_, rfl⟩
  have hM1 : 1000001 ≤ M := by omega
  have HM := Lib.hid hM
  clear hM
  have HP := Lib.hid hp
  have HQ := Lib.hid hq
  clear hle hp hq
  go_enter Try.func28, Try.ntmps28
  go_wp2
  go_loopw [7, 8, 9] (fun v c i wr => ∃ (k : Nat) (ds : List Int) (cy : Int), i = .int .i64 k ∧ c = .int .i64 cy ∧ k ≤ M ∧ -1 ≤ cy ∧ cy ≤ 0 ∧ Hid (Ok ds) ∧ ds.length = k ∧ Hid (k ≤ n ∨ k ≤ m ∨ cy ≤ 0) ∧ Hid (val ds + 1000000 ^ k * cy = val (ps.take k) + -1 * val (qs.take k)) ∧
      wr.ownsRow w.heap.size 3 1 v ds.length (ds.map (Value.int .i64)) ∧ Below w.heap.size w wr) (fun _ _ i _ => M - (intOf i).toNat)
  case atStart => exact ⟨0, [], 0, rfl, rfl, by omega, by omega, by omega, Lib.hid Ok.nil, rfl, Lib.hid (by omega), Lib.hid (by simp [val]), World.ownsRow_nil _ _ _ _, Below.refl _ _⟩
  case round =>
    obtain ⟨k, ds, cy, rfl, rfl, hk, hc1, hc2, hok, hlen, hkm, hinv, hown, hbel⟩ := hrel
    have HOK := hok
    have HL := Lib.hid hlen
    have hB := Lib.hid hbel
    have hsz := hbel.size
    by_cases ex : n ≤ k ∧ m ≤ k ∧ cy ≤ 0
    · obtain ⟨x1, x2, x3⟩ := ex
      have hd : decide ((k : Int) < max n m) = false := decide_eq_false (by omega)
      have hd2 : decide (0 < cy) = false := decide_eq_false (by omega)
      have hfin : Hid (val ds = val ps + -1 * val qs) := by
        unfold Hid
        have h := hinv.out
        rw [take_all (by have := LA.out; omega), take_all (by have := LB.out; omega)] at h
        have hlt := val_lt hok.out
        rw [hlen] at hlt
        have hle := HLE.out
        rcases (show cy = 0 ∨ cy = -1 by omega) with h0 | h0
        · rw [h0] at h; omega
        · rw [h0] at h; omega
      have HR := Lib.hid (Rd.of_own hown)
      have hl6 : Hid (ds.length ≤ 1000001) := by unfold Hid; have := HM.out; omega
      clear hown hbel hinv hkm hlen
      go_wp2
      go_ret
      exact ⟨_, ds, rfl, HR.out, HOK.out, hfin.out, hl6.out, hB.out⟩
    · have hk1 : k ≤ 1000000 := by have := hkm.out; omega
      obtain ⟨A, hA⟩ : ∃ A, (if k < ps.length then ps.getD k 0 else 0) = A := ⟨_, rfl⟩
      obtain ⟨B, hB'⟩ : ∃ B, (if k < qs.length then qs.getD k 0 else 0) = B := ⟨_, rfl⟩
      have hAb : 0 ≤ A ∧ A < 1000000 := by
        rw [← hA]; split
        · exact ha.getD (by assumption)
        · omega
      have hBb : 0 ≤ B ∧ B < 1000000 := by
        rw [← hB']; split
        · exact hb.getD (by assumption)
        · omega
      obtain ⟨hA0, hA1⟩ := hAb
      obtain ⟨hB0, hB1⟩ := hBb
      obtain ⟨X, hX⟩ : ∃ X, cy + A + -1 * B = X := ⟨_, rfl⟩
      obtain ⟨d, c', hx, hd0, hd1, hcc⟩ : ∃ d c', X = d + 1000000 * c' ∧ 0 ≤ d ∧ d < 1000000 ∧ (X < 0 ∧ X + 1000000 = d ∧ c' = -1 ∨ 0 ≤ X ∧ X < 1000000 ∧ X = d ∧ c' = 0) := by
        by_cases g1 : X < 0
        · exact ⟨X + 1000000, -1, by omega, by omega, by omega, .inl ⟨g1, rfl, rfl⟩⟩
        · exact ⟨X, 0, by omega, by omega, by omega, .inr ⟨by omega, by omega, rfl, rfl⟩⟩
      have hstep := Lib.hid (sum_step (s := -1) hinv.out hlen hA.symm hB'.symm (by rw [hX]; exact hx))
      have hokd := Lib.hid (Zd.Ok.snoc hok.out hd0 hd1)
      have HA := Lib.hid hA
      have HB := Lib.hid hB'
      have hc'b : -1 ≤ c' ∧ c' ≤ 0 := by omega
      clear hA hB' hinv hx
      by_cases ka : k < n
      · by_cases kb : k < m
        · have t1 : decide ((k : Int) < n) = true := decide_eq_true (by omega)
          obtain ⟨b1, o1, rfl, g1, G1⟩ := HP.out.resolve_left (by omega)
          have hcA : wr.cell? ⟨b1, o1 + k, none⟩ = some (.int .i64 A) := by rw [hbel.cell g1, G1.out k ka, ← HA.out, if_pos (by have := LA.out; omega)]
          clear G1
          have t2 : decide ((k : Int) < m) = true := decide_eq_true (by omega)
          obtain ⟨b2, o2, rfl, g2, G2⟩ := HQ.out.resolve_left (by omega)
          have hcB : wr.cell? ⟨b2, o2 + k, none⟩ = some (.int .i64 B) := by rw [hbel.cell g2, G2.out k kb, ← HB.out, if_pos (by have := LB.out; omega)]
          clear G2
          have t3 : decide ((k : Int) < max n m) = true := decide_eq_true (by omega)
          rcases hcc with hcc | hcc
          · obtain ⟨y1, y2, rfl⟩ := hcc
            have hXe : cy + A + -B = X := by omega
            clear hX
            have t5 : decide (1000000 ≤ X) = false := decide_eq_false (by omega)
            have t6 : decide (X < 0) = true := decide_eq_true (by omega)
            go_wp2_with (first
              | (at_builtin; refine wpList_append_own _ rfl _ _ 26 rfl w.heap.size 3 i0 (.int .i64 0) 1 8 Try.underlying26 hi hz0 hz1 hz2 rfl (by decide) _ _ _ rfl (hown.alloc _) ⟨wr.heap.size, 0, none⟩ 1 1 [.int .i64 d] rfl rfl ?c1n8 ?c2n8 ?c3n8 ?c4n8 ?c5n8 ?_))
            case c2n8 => first | rfl | (intro u hu; simp at hu; subst hu; rfl)
            case c3n8 => unfold maxLen; omega
            case c4n8 => omega
            case c5n8 => first | omega | (simp; omega)
            · intro v' w1 hown' hgrow _
              have hO := Lib.hid (show w1.ownsRow w.heap.size 3 1 v' (ds ++ [d]).length ((ds ++ [d]).map (Value.int .i64)) by simpa [hlen] using hown')
              have HB1 := Lib.hid ((hbel.alloc hsz _).grown hgrow (by simp; omega) (fun k hk => (hown.lt k hk).1))
              clear hown' hgrow hown hbel
              go_wp2
              have hkM : k + 1 ≤ M := by omega
              have hcb : -1 ≤ (-1 : Int) ∧ (-1 : Int) ≤ 0 := by omega
              have hkm2 : k + 1 ≤ n ∨ k + 1 ≤ m ∨ -1 ≤ (0 : Int) := by omega
              go_roundw
              case rel => exact ⟨k + 1, ds ++ [d], -1, by go_num, rfl, hkM, hcb.1, hcb.2, hokd, by simp; omega, Lib.hid hkm2, hstep, hO.out, HB1.out⟩
              case measure => simp [intOf]; omega
          · obtain ⟨y1, y2, y3, rfl⟩ := hcc
            subst y3
            have hXe : cy + A + -B = X := by omega
            clear hX
            have t5 : decide (1000000 ≤ X) = false := decide_eq_false (by omega)
            have t6 : decide (X < 0) = false := decide_eq_false (by omega)
            go_wp2_with (first
              | (at_builtin; refine wpList_append_own _ rfl _ _ 26 rfl w.heap.size 3 i0 (.int .i64 0) 1 8 Try.underlying26 hi hz0 hz1 hz2 rfl (by decide) _ _ _ rfl (hown.alloc _) ⟨wr.heap.size, 0, none⟩ 1 1 [.int .i64 X] rfl rfl ?c1n9 ?c2n9 ?c3n9 ?c4n9 ?c5n9 ?_))
            case c2n9 => first | rfl | (intro u hu; simp at hu; subst hu; rfl)
            case c3n9 => unfold maxLen; omega
            case c4n9 => omega
            case c5n9 => first | omega | (simp; omega)
            · intro v' w1 hown' hgrow _
              have hO := Lib.hid (show w1.ownsRow w.heap.size 3 1 v' (ds ++ [X]).length ((ds ++ [X]).map (Value.int .i64)) by simpa [hlen] using hown')
              have HB1 := Lib.hid ((hbel.alloc hsz _).grown hgrow (by simp; omega) (fun k hk => (hown.lt k hk).1))
              clear hown' hgrow hown hbel
              go_wp2
              have hkM : k + 1 ≤ M := by omega
              have hcb : -1 ≤ (0 : Int) ∧ (0 : Int) ≤ 0 := by omega
              have hkm2 : k + 1 ≤ n ∨ k + 1 ≤ m ∨ 0 ≤ (0 : Int) := by omega
              go_roundw
              case rel => exact ⟨k + 1, ds ++ [X], 0, by go_num, rfl, hkM, hcb.1, hcb.2, hokd, by simp; omega, Lib.hid hkm2, hstep, hO.out, HB1.out⟩
              case measure => simp [intOf]; omega
        · have t1 : decide ((k : Int) < n) = true := decide_eq_true (by omega)
          obtain ⟨b1, o1, rfl, g1, G1⟩ := HP.out.resolve_left (by omega)
          have hcA : wr.cell? ⟨b1, o1 + k, none⟩ = some (.int .i64 A) := by rw [hbel.cell g1, G1.out k ka, ← HA.out, if_pos (by have := LA.out; omega)]
          clear G1
          have t2 : decide ((k : Int) < m) = false := decide_eq_false (by omega)
          obtain rfl : B = 0 := by rw [← HB.out, if_neg (by have := LB.out; omega)]
          have t3 : decide ((k : Int) < max n m) = true := decide_eq_true (by omega)
          rcases hcc with hcc | hcc
          · obtain ⟨y1, y2, rfl⟩ := hcc
            have hXe : cy + A = X := by omega
            clear hX
            have t5 : decide (1000000 ≤ X) = false := decide_eq_false (by omega)
            have t6 : decide (X < 0) = true := decide_eq_true (by omega)
            go_wp2_with (first
              | (at_builtin; refine wpList_append_own _ rfl _ _ 26 rfl w.heap.size 3 i0 (.int .i64 0) 1 8 Try.underlying26 hi hz0 hz1 hz2 rfl (by decide) _ _ _ rfl (hown.alloc _) ⟨wr.heap.size, 0, none⟩ 1 1 [.int .i64 d] rfl rfl ?c1n10 ?c2n10 ?c3n10 ?c4n10 ?c5n10 ?_))
            case c2n10 => first | rfl | (intro u hu; simp at hu; subst hu; rfl)
            case c3n10 => unfold maxLen; omega
            case c4n10 => omega
            case c5n10 => first | omega | (simp; omega)
            · intro v' w1 hown' hgrow _
              have hO := Lib.hid (show w1.ownsRow w.heap.size 3 1 v' (ds ++ [d]).length ((ds ++ [d]).map (Value.int .i64)) by simpa [hlen] using hown')
              have HB1 := Lib.hid ((hbel.alloc hsz _).grown hgrow (by simp; omega) (fun k hk => (hown.lt k hk).1))
              clear hown' hgrow hown hbel
              go_wp2
              have hkM : k + 1 ≤ M := by omega
              have hcb : -1 ≤ (-1 : Int) ∧ (-1 : Int) ≤ 0 := by omega
              have hkm2 : k + 1 ≤ n ∨ k + 1 ≤ m ∨ -1 ≤ (0 : Int) := by omega
              go_roundw
              case rel => exact ⟨k + 1, ds ++ [d], -1, by go_num, rfl, hkM, hcb.1, hcb.2, hokd, by simp; omega, Lib.hid hkm2, hstep, hO.out, HB1.out⟩
              case measure => simp [intOf]; omega
          · obtain ⟨y1, y2, y3, rfl⟩ := hcc
            subst y3
            have hXe : cy + A = X := by omega
            clear hX
            have t5 : decide (1000000 ≤ X) = false := decide_eq_false (by omega)
            have t6 : decide (X < 0) = false := decide_eq_false (by omega)
            go_wp2_with (first
              | (at_builtin; refine wpList_append_own _ rfl _ _ 26 rfl w.heap.size 3 i0 (.int .i64 0) 1 8 Try.underlying26 hi hz0 hz1 hz2 rfl (by decide) _ _ _ rfl (hown.alloc _) ⟨wr.heap.size, 0, none⟩ 1 1 [.int .i64 X] rfl rfl ?c1n11 ?c2n11 ?c3n11 ?c4n11 ?c5n11 ?_))
            case c2n11 => first | rfl | (intro u hu; simp at hu; subst hu; rfl)
            case c3n11 => unfold maxLen; omega
            case c4n11 => omega
            case c5n11 => first | omega | (simp; omega)
            · intro v' w1 hown' hgrow _
              have hO := Lib.hid (show w1.ownsRow w.heap.size 3 1 v' (ds ++ [X]).length ((ds ++ [X]).map (Value.int .i64)) by simpa [hlen] using hown')
              have HB1 := Lib.hid ((hbel.alloc hsz _).grown hgrow (by simp; omega) (fun k hk => (hown.lt k hk).1))
              clear hown' hgrow hown hbel
              go_wp2
              have hkM : k + 1 ≤ M := by omega
              have hcb : -1 ≤ (0 : Int) ∧ (0 : Int) ≤ 0 := by omega
              have hkm2 : k + 1 ≤ n ∨ k + 1 ≤ m ∨ 0 ≤ (0 : Int) := by omega
              go_roundw
              case rel => exact ⟨k + 1, ds ++ [X], 0, by go_num, rfl, hkM, hcb.1, hcb.2, hokd, by simp; omega, Lib.hid hkm2, hstep, hO.out, HB1.out⟩
              case measure => simp [intOf]; omega
      · by_cases kb : k < m
        · have t1 : decide ((k : Int) < n) = false := decide_eq_false (by omega)
          obtain rfl : A = 0 := by rw [← HA.out, if_neg (by have := LA.out; omega)]
          have t2 : decide ((k : Int) < m) = true := decide_eq_true (by omega)
          obtain ⟨b2, o2, rfl, g2, G2⟩ := HQ.out.resolve_left (by omega)
          have hcB : wr.cell? ⟨b2, o2 + k, none⟩ = some (.int .i64 B) := by rw [hbel.cell g2, G2.out k kb, ← HB.out, if_pos (by have := LB.out; omega)]
          clear G2
          have t3 : decide ((k : Int) < max n m) = true := decide_eq_true (by omega)
          rcases hcc with hcc | hcc
          · obtain ⟨y1, y2, rfl⟩ := hcc
            have hXe : cy + -B = X := by omega
            clear hX
            have t5 : decide (1000000 ≤ X) = false := decide_eq_false (by omega)
            have t6 : decide (X < 0) = true := decide_eq_true (by omega)
            go_wp2_with (first
              | (at_builtin; refine wpList_append_own _ rfl _ _ 26 rfl w.heap.size 3 i0 (.int .i64 0) 1 8 Try.underlying26 hi hz0 hz1 hz2 rfl (by decide) _ _ _ rfl (hown.alloc _) ⟨wr.heap.size, 0, none⟩ 1 1 [.int .i64 d] rfl rfl ?c1n12 ?c2n12 ?c3n12 ?c4n12 ?c5n12 ?_))
            case c2n12 => first | rfl | (intro u hu; simp at hu; subst hu; rfl)
            case c3n12 => unfold maxLen; omega
            case c4n12 => omega
            case c5n12 => first | omega | (simp; omega)
            · intro v' w1 hown' hgrow _
              have hO := Lib.hid (show w1.ownsRow w.heap.size 3 1 v' (ds ++ [d]).length ((ds ++ [d]).map (Value.int .i64)) by simpa [hlen] using hown')
              have HB1 := Lib.hid ((hbel.alloc hsz _).grown hgrow (by simp; omega) (fun k hk => (hown.lt k hk).1))
              clear hown' hgrow hown hbel
              go_wp2
              have hkM : k + 1 ≤ M := by omega
              have hcb : -1 ≤ (-1 : Int) ∧ (-1 : Int) ≤ 0 := by omega
              have hkm2 : k + 1 ≤ n ∨ k + 1 ≤ m ∨ -1 ≤ (0 : Int) := by omega
              go_roundw
              case rel => exact ⟨k + 1, ds ++ [d], -1, by go_num, rfl, hkM, hcb.1, hcb.2, hokd, by simp; omega, Lib.hid hkm2, hstep, hO.out, HB1.out⟩
              case measure => simp [intOf]; omega
          · obtain ⟨y1, y2, y3, rfl⟩ := hcc
            subst y3
            have hXe : cy + -B = X := by omega
            clear hX
            have t5 : decide (1000000 ≤ X) = false := decide_eq_false (by omega)
            have t6 : decide (X < 0) = false := decide_eq_false (by omega)
            go_wp2_with (first
              | (at_builtin; refine wpList_append_own _ rfl _ _ 26 rfl w.heap.size 3 i0 (.int .i64 0) 1 8 Try.underlying26 hi hz0 hz1 hz2 rfl (by decide) _ _ _ rfl (hown.alloc _) ⟨wr.heap.size, 0, none⟩ 1 1 [.int .i64 X] rfl rfl ?c1n13 ?c2n13 ?c3n13 ?c4n13 ?c5n13 ?_))
            case c2n13 => first | rfl | (intro u hu; simp at hu; subst hu; rfl)
            case c3n13 => unfold maxLen; omega
            case c4n13 => omega
            case c5n13 => first | omega | (simp; omega)
            · intro v' w1 hown' hgrow _
              have hO := Lib.hid (show w1.ownsRow w.heap.size 3 1 v' (ds ++ [X]).length ((ds ++ [X]).map (Value.int .i64)) by simpa [hlen] using hown')
              have HB1 := Lib.hid ((hbel.alloc hsz _).grown hgrow (by simp; omega) (fun k hk => (hown.lt k hk).1))
              clear hown' hgrow hown hbel
              go_wp2
              have hkM : k + 1 ≤ M := by omega
              have hcb : -1 ≤ (0 : Int) ∧ (0 : Int) ≤ 0 := by omega
              have hkm2 : k + 1 ≤ n ∨ k + 1 ≤ m ∨ 0 ≤ (0 : Int) := by omega
              go_roundw
              case rel => exact ⟨k + 1, ds ++ [X], 0, by go_num, rfl, hkM, hcb.1, hcb.2, hokd, by simp; omega, Lib.hid hkm2, hstep, hO.out, HB1.out⟩
              case measure => simp [intOf]; omega
        · have t1 : decide ((k : Int) < n) = false := decide_eq_false (by omega)
          obtain rfl : A = 0 := by rw [← HA.out, if_neg (by have := LA.out; omega)]
          have t2 : decide ((k : Int) < m) = false := decide_eq_false (by omega)
          obtain rfl : B = 0 := by rw [← HB.out, if_neg (by have := LB.out; omega)]
          exfalso; omega
end Go.Proofs.Ytfhidjldmopbgaa

