/-
  The contracts of the reference's numbers of any size (type Z: digits in base 10^6) over this program.
  Conditions: those of each theorem; the numbers have at most a million digits of that base.
-/
import Derived.Test.YtokkaeaciigapaaDoorProg
import Derived.Test.YtokkaeaciigapaaDoorZM
import Derived.WalkKit
import Derived.WalkSpells
import Derived.Handy
import Derived.BigQuiet
import Derived.Deep.QuietTactic
import Derived.Deep.RegionHeld3
import Derived.RowKit3
import Derived.Lib.Hide
import Derived.Test.YtokkaeaciigapaaDoorNum
namespace Go.Proofs.YtokkaeaciigapaaDoor
open Go.RowKit Go.Shelf Zd Wd

theorem ret_i64 {a b : Int} (h : a = b) : Ending.returned (.int .i64 a) = .returned (.int .i64 b) := by rw [h]

/-- A block of ints, not frozen: no struct's own. -/
def IntB (w : World) (b : Nat) : Prop := ∃ cur, w.heap[b]? = some (.cells cur 3 (0, 0))
theorem IntB.below {w w' : World} {b : Nat} (h : IntB w b) (hb : Below w.heap.size w w') : IntB w' b := by
  obtain ⟨cur, hc⟩ := h
  refine ⟨cur, ?_⟩
  rw [hb.block b ?_]
  · exact hc
  · rcases Nat.lt_or_ge b w.heap.size with k | k
    · exact k
    · rw [Array.getElem?_eq_none k] at hc; cases hc
/-- A slice of ints reads as these. -/
def Rd (w : World) (v : Value) (ds : List Int) : Prop :=
  ∃ (p : Option Addr) (cap : Nat), v = .slice p ds.length cap ∧ ds.length ≤ cap ∧ cap ≤ maxLen ∧ (ds = [] ∨ ∃ b off, p = some ⟨b, off, none⟩ ∧ b < w.heap.size ∧ IntB w b ∧ ∀ j, j < ds.length → w.cell? ⟨b, off + j, none⟩ = some (.int .i64 (ds.getD j 0)))
theorem Rd.below {w w' : World} {v : Value} {ds : List Int} (h : Rd w v ds) (hb : Below w.heap.size w w') : Rd w' v ds := by
  obtain ⟨p, cap, h1, h2, h3, h4⟩ := h
  refine ⟨p, cap, h1, h2, h3, ?_⟩
  rcases h4 with h4 | ⟨b, off, g1, g2, gb, g3⟩
  · exact .inl h4
  · exact .inr ⟨b, off, g1, Nat.lt_of_lt_of_le g2 hb.size, gb.below hb, fun j hj => (hb.cell (p := ⟨b, off + j, none⟩) g2).trans (g3 j hj)⟩
theorem Rd.alloc {w : World} {v : Value} {ds : List Int} (h : Rd w v ds) (o : Obj) : Rd (w.alloc o) v ds := h.below ((Below.refl _ _).alloc (Nat.le_refl _) o)
/-- A store into a block of another kind turns no digit. -/
theorem Rd.setCell {w : World} {v : Value} {ds : List Int} (h : Rd w v ds) {a : Addr} {c : Array Value} {T : TypeId} (ha : w.heap[a.block]? = some (.cells c T (0, 0))) (hT : T ≠ 3) (u : Value) : Rd (w.setCell a u) v ds := by
  obtain ⟨p, cap, h1, h2, h3, h4⟩ := h
  refine ⟨p, cap, h1, h2, h3, ?_⟩
  rcases h4 with h4 | ⟨b, off, g1, g2, gb, g3⟩
  · exact .inl h4
  · obtain ⟨cur, hcur⟩ := gb
    have hne : b ≠ a.block := by
      intro e
      rw [← e, hcur] at ha
      cases ha
      exact hT rfl
    have e : (w.setCell a u).heap[b]? = w.heap[b]? := Below.heap_setCell w a u b hne
    exact .inr ⟨b, off, g1, by simpa [World.setCell] using g2, ⟨cur, by rw [e]; exact hcur⟩, fun j hj => (World.cell?_of_block (w := w) (a := ⟨b, off + j, none⟩) e).trans (g3 j hj)⟩
theorem Rd.drewN {w : World} {v : Value} {ds : List Int} (h : Rd w v ds) (n : Nat) : Rd (w.drewN n) v ds := h.below (Below.drewN (Below.refl _ _) n)
theorem Rd.of_own {w : World} {base : Nat} {v : Value} {ds : List Int} (h : w.ownsRow base 3 1 v ds.length (ds.map (Value.int .i64))) : Rd w v ds := by
  obtain ⟨h1, h2⟩ := h
  rcases h2 with ⟨rfl, hn⟩ | ⟨g, cap, cur, rfl, hg, hh, hc, hm, hs, ht⟩
  · exact ⟨none, 0, by rw [hn], by omega, by unfold maxLen; omega, .inl (List.eq_nil_of_length_eq_zero hn)⟩
  · refine ⟨_, cap, rfl, hc, hm, .inr ⟨g, 0, rfl, ?_, ⟨cur, hh⟩, ?_⟩⟩
    · rcases Nat.lt_or_ge g w.heap.size with k | k
      · exact k
      · rw [Array.getElem?_eq_none k] at hh; cases hh
    · intro j hj
      have := World.ownsRow.cells (h := (⟨h1, .inr ⟨g, cap, cur, rfl, hg, hh, hc, hm, hs, ht⟩⟩ : w.ownsRow base 3 1 (.slice (some ⟨g, 0, none⟩) ds.length cap) ds.length (ds.map (Value.int .i64)))) (g := g) rfl j (.int .i64 (ds.getD j 0)) (by simp [hj])
      rw [← this]; unfold Addr.add; split <;> simp_all
/-- A value is a number of any size. -/
def IsZ (w : World) (v : Value) (z : Int) : Prop := ∃ s, v = .agg #[.bool (decide (z < 0)), s] ∧ Rd w s (digs z.natAbs)
theorem IsZ.below {w w' : World} {v : Value} {z : Int} (h : IsZ w v z) (hb : Below w.heap.size w w') : IsZ w' v z := by
  obtain ⟨s, h1, h2⟩ := h
  exact ⟨s, h1, h2.below hb⟩
theorem IsZ.alloc {w : World} {v : Value} {z : Int} (h : IsZ w v z) (o : Obj) : IsZ (w.alloc o) v z := h.below ((Below.refl _ _).alloc (Nat.le_refl _) o)
/-- A slice's length: for a loop's measure. -/
def lenOf : Value → Nat | .slice _ k _ => k | _ => 0
/-- Not too many digits. -/
def Sm (z : Int) : Prop := (digs z.natAbs).length ≤ 1000000

/-- What U does to its number, round by round. -/
def Part (x n : Nat) (ds : List Int) : Prop := Ok ds ∧ digs x = ds ++ digs n ∧ (n = 0 ∨ 0 < n)
theorem part_step {x n : Nat} {ds : List Int} (h : digs x = ds ++ digs n) (hn : 0 < n) : digs x = (ds ++ [((n % 1000000 : Nat) : Int)]) ++ digs (n / 1000000) := by
  rw [h, digs_pos hn]; simp

set_option maxHeartbeats 1000000 in
/-- spyref1.U. -/
theorem u_any (x : Nat) (hx : x < 18446744073709551616) (w : World) :
    Calls Tryd.prog 48 #[.int .u64 x] w fun e w' => ∃ s, e = .returned (.agg #[.bool false, s]) ∧ Rd w' s (digs x) ∧ Below w.heap.size w w' := by
  have hlen : (digs x).length ≤ 4 := digs_len (by omega)
  obtain ⟨i0, hi, hz0, hz1, hz2⟩ := info_parts (show (Tryd.prog.info? 3).map (fun i => (i.zero, i.size, i.bytes)) = some (some (.int .i64 0), 1, 8) by kernel_rfl)
  go_enter Tryd.func48, Tryd.ntmps48
  go_wp2
  go_slots
  go_loopw [0, 3] (fun n v wr => ∃ (m : Nat) (ds : List Int), n = .int .u64 m ∧ m < 18446744073709551616 ∧ Hid (digs x = ds ++ digs m) ∧ wr.ownsRow (w.heap.size + 1) 3 1 v ds.length (ds.map (Value.int .i64)) ∧ Below (w.heap.size + 1) (w.alloc (.cells #[.bool false, .slice none 0 0] 38)) wr) (fun n _ _ => (intOf n).toNat)
  case atStart => exact ⟨x, [], rfl, hx, Lib.hid (by simp), World.ownsRow_nil _ _ _ _, Below.refl _ _⟩
  case round =>
    obtain ⟨m, ds, rfl, hm, hd, hown, hb⟩ := hrel
    have hc0 : wr.cell? ⟨w.heap.size, 0, none⟩ = some (.bool false) := by rw [hb.cell (by simp)]; simp [go_sem]
    have hc1 : wr.cell? ⟨w.heap.size, 1, none⟩ = some (.slice none 0 0) := by rw [hb.cell (by simp)]; simp [go_sem]
    have hf0 : wr.frozen? ⟨w.heap.size, 0, none⟩ = false := by rw [hb.frozen (by simp)]; simp [go_sem]
    have hf1 : wr.frozen? ⟨w.heap.size, 1, none⟩ = false := by rw [hb.frozen (by simp)]; simp [go_sem]
    by_cases h0 : m = 0
    · subst h0
      have hdd : digs x = ds := by rw [hd.out, digs_zero, List.append_nil]
      subst hdd
      have HO := Lib.hid hown
      obtain ⟨p, cap, rfl, _, _, _⟩ := Rd.of_own hown
      have hB : Hid (Below w.heap.size w wr) := ((Below.refl _ _).alloc (Nat.le_refl _) _).trans (hb.mono (by omega))
      clear hown hb hd
      go_wp2
      refine bodyPost_ret (v := .agg #[.bool false, .slice p (digs x).length cap]) (by simp [results, Tryd.results48, go_sem, *]) rfl ⟨_, rfl, ?_, ?_⟩
      · exact Rd.of_own (ownsRow_setCell_below (ownsRow_setCell_below HO.out (by simp) _) (by simp) _)
      · exact (hB.out.setCell (by simp) _).setCell (by simp) _
    · have hpos : 0 < m := by omega
      have hd2 : Hid (digs x = (ds ++ [((m % 1000000 : Nat) : Int)]) ++ digs (m / 1000000)) := Lib.hid (part_step hd.out hpos)
      have hl : ds.length + 1 ≤ 4 := by have := congrArg List.length hd2.out; simp at this; omega
      go_wp2_with (first
        | (at_builtin; refine wpList_append_own _ rfl _ _ 36 rfl (w.heap.size + 1) 3 i0 (.int .i64 0) 1 8 Tryd.underlying36 hi hz0 hz1 hz2 rfl (by decide) _ _ _ rfl (hown.alloc _) ⟨wr.heap.size, 0, none⟩ 1 1 [.int .i64 ((m : Int) % 1000000)] rfl rfl ?c1 ?c2 ?c3 ?c4 ?c5 ?_))
      case c1 => intro j u hj; match j, hj with
        | 0, hj => simp at hj; subst hj; simp [Addr.add]
      case c2 => intro u hu; simp at hu; subst hu; rfl
      case c3 => unfold maxLen; omega
      case c4 => omega
      case c5 => have := hb.size; simp at this ⊢; omega
      · intro v' w1 hown' hgrow _
        have hO : w1.ownsRow (w.heap.size + 1) 3 1 v' (ds ++ [((m % 1000000 : Nat) : Int)]).length ((ds ++ [((m % 1000000 : Nat) : Int)]).map (Value.int .i64)) := by simpa using hown'
        have hsz := hb.size
        have hB1 : Below (w.heap.size + 1) (w.alloc (.cells #[.bool false, .slice none 0 0] 38)) w1 := (hb.alloc (by simp at hsz; omega) _).grown hgrow (by simp at hsz ⊢; omega) (fun k hk => (hown.lt k hk).1)
        have HO := Lib.hid hO
        have HB1 := Lib.hid hB1
        clear hown' hgrow hown hO hB1 hb hd
        go_wp2
        go_roundw
        case rel => exact ⟨m / 1000000, _, by simp, by omega, hd2, HO.out, HB1.out⟩
        case measure => simp [intOf]; omega

theorem Rd.take {w : World} {p : Option Addr} {n cap k : Nat} {ds : List Int} (hn : ds.length = n) (hk : k ≤ n) (h1 : n ≤ cap) (h2 : cap ≤ maxLen) (h : ds = [] ∨ ∃ b off, p = some ⟨b, off, none⟩ ∧ b < w.heap.size ∧ IntB w b ∧ ∀ j, j < ds.length → w.cell? ⟨b, off + j, none⟩ = some (.int .i64 (ds.getD j 0))) :
    Rd w (.slice p k cap) (ds.take k) := by
  have hl : (ds.take k).length = k := by rw [List.length_take]; omega
  refine ⟨p, cap, by rw [hl], by omega, h2, ?_⟩
  rcases h with rfl | ⟨b, off, g1, g2, gb, g3⟩
  · exact .inl (by simp)
  · refine .inr ⟨b, off, g1, g2, gb, fun j hj => ?_⟩
    rw [hl] at hj
    rw [g3 j (by omega)]
    simp [List.getD, hj]

set_option maxHeartbeats 1000000 in
/-- spyref1.trim: the digits stay where they are. -/
theorem trim_at (neg : Bool) (p : Option Addr) (n cap : Nat) (ds : List Int) (hl : ds.length ≤ 2000000) (w : World) (hv : Rd w (.slice p n cap) ds) :
    Calls Tryd.prog 27 #[.bool neg, .slice p n cap] w fun e w' => e = .returned (.agg #[.bool (neg && decide (cut ds ≠ [])), .slice p (cut ds).length cap]) ∧ Rd w' (.slice p (cut ds).length cap) (cut ds) ∧ Below w.heap.size w w' := by
  obtain ⟨p', cap', he, hc1, hc2, hp⟩ := hv
  simp only [Value.slice.injEq] at he
  obtain ⟨rfl, hn, rfl⟩ := he
  replace hn := hn.symm
  rw [hn] at hc1 hl
  have hcm : n ≤ 9223372036854775807 := by omega
  rcases hp with rfl | ⟨b, off, rfl, hb, hib, hcell⟩
  · obtain rfl : n = 0 := by rw [← hn]; rfl
    clear hn
    go_enter Tryd.func27, Tryd.ntmps27
    go_wp2
    refine wp_loop_rounds 1 ?_
    rw [rounds_succ]
    cases neg
    all_goals go_wp2
    all_goals exact bodyPost_ret (v := .agg #[.bool false, .slice p 0 cap]) (by simp [results, Tryd.results27, go_sem]) rfl ⟨by simp [cut], ⟨p, cap, rfl, hc1, hc2, .inl rfl⟩, by go_grown⟩
  · have HC := Lib.hid hcell
    have HN := Lib.hid hn
    clear hcell hn
    go_enter Tryd.func27, Tryd.ntmps27
    go_wp2
    go_loop [1] (fun v => ∃ k : Nat, v = .slice (some ⟨b, off, none⟩) k cap ∧ k ≤ n ∧ Hid (cut (ds.take k) = cut ds)) (fun v => lenOf v)
    case atStart => exact ⟨n, rfl, Nat.le_refl _, Lib.hid (by rw [← HN.out, List.take_length])⟩
    case round =>
      obtain ⟨k, rfl, hk, hcut⟩ := hrel
      rcases Nat.eq_zero_or_pos k with rfl | hk0
      · have K : Hid (cut ds = []) := by unfold Hid; rw [← hcut.out]; rfl
        clear hcut
        cases neg
        all_goals go_wp2
        all_goals exact bodyPost_ret (v := .agg #[.bool false, .slice (some ⟨b, off, none⟩) 0 cap]) (by simp [results, Tryd.results27, go_sem]) rfl ⟨by simp [K.out], by rw [K.out]; exact ⟨_, cap, rfl, by simp, hc2, .inl rfl⟩, by go_grown⟩
      · obtain ⟨j, rfl⟩ : ∃ j, k = j + 1 := ⟨k - 1, by omega⟩
        obtain ⟨d, hd⟩ : ∃ d, ds.getD j 0 = d := ⟨_, rfl⟩
        have hcl : w.cell? ⟨b, off + j, none⟩ = some (.int .i64 d) := by rw [← hd]; exact HC.out j (by have := HN.out; omega)
        have hne : ((j : Int) + 1 - 1) = j := by omega
        by_cases hz : d = 0
        · subst hz
          have K : Hid (cut (ds.take j) = cut ds) := by unfold Hid; rw [← hcut.out]; exact (cut_take_zero (by have := HN.out; omega) hd).symm
          clear hcut hd
          go_wp2
          go_round
          case rel => exact ⟨j, rfl, by omega, K⟩
          case measure => simp [lenOf]
        · have K : Hid (cut ds = ds.take (j + 1)) := by unfold Hid; rw [← hcut.out]; exact cut_take_full (by have := HN.out; omega) (by rw [hd]; exact hz)
          have hz2 : (d == 0) = false := by simpa using hz
          clear hcut hd
          have hne2 : Hid (ds.take (j + 1) ≠ []) := by
            intro h
            have h2 := congrArg List.length h
            rw [List.length_take, List.length_nil] at h2
            have := HN.out
            omega
          have hlt : (ds.take (j + 1)).length = j + 1 := by rw [List.length_take]; have := HN.out; omega
          have HLT := Lib.hid hlt
          clear hlt
          have KR : Hid (Rd w (.slice (some ⟨b, off, none⟩) (j + 1) cap) (ds.take (j + 1))) := Rd.take HN.out hk hc1 hc2 (.inr ⟨b, off, rfl, hb, hib, HC.out⟩)
          cases neg
          all_goals go_wp2
          · exact bodyPost_ret (v := .agg #[.bool false, .slice (some ⟨b, off, none⟩) (j + 1) cap]) (by simp [results, Tryd.results27, go_sem]) rfl ⟨by rw [K.out, HLT.out], by rw [K.out, HLT.out]; exact KR.out.alloc _, by go_grown⟩
          · exact bodyPost_ret (v := .agg #[.bool true, .slice (some ⟨b, off, none⟩) (j + 1) cap]) (by simp [results, Tryd.results27, go_sem]) rfl ⟨by rw [K.out, HLT.out]; simp [hne2.out], by rw [K.out, HLT.out]; exact KR.out.alloc _, by go_grown⟩

/-- spyref1.trim. -/
theorem trim_any (neg : Bool) (v : Value) (ds : List Int) (hl : ds.length ≤ 2000000) (w : World) (hv : Rd w v ds) :
    Calls Tryd.prog 27 #[.bool neg, v] w fun e w' => ∃ s, e = .returned (.agg #[.bool (neg && decide (cut ds ≠ [])), s]) ∧ Rd w' s (cut ds) ∧ Below w.heap.size w w' := by
  obtain ⟨p, cap, rfl, _⟩ := id hv
  exact (trim_at neg p _ cap ds hl w hv).mono fun _ _ h => ⟨_, h.1, h.2.1, h.2.2⟩

/-- The digits of a number, whatever slice bears them: nil or not. -/
theorem Rd.parts {w : World} {v : Value} {ds : List Int} (h : Rd w v ds) : ∃ (p : Option Addr) (cap : Nat), v = .slice p ds.length cap ∧ (ds = [] ∨ ∃ b off, p = some ⟨b, off, none⟩ ∧ b < w.heap.size ∧ IntB w b ∧ ∀ j, j < ds.length → w.cell? ⟨b, off + j, none⟩ = some (.int .i64 (ds.getD j 0))) := by
  obtain ⟨p, cap, h1, _, _, h4⟩ := h
  exact ⟨p, cap, h1, h4⟩

set_option maxHeartbeats 1000000 in
/-- spyref1.cmpDigits, of digits of the same number of places. -/
theorem cmpd_same (ps qs : List Int) (n : Nat) (hn : n ≤ 2000000) (ha : Ok ps) (hb : Ok qs) (la : ps.length = n) (lb : qs.length = n) (w : World) (b1 o1 c1 b2 o2 c2 : Nat)
    (hA : ∀ j, j < ps.length → w.cell? ⟨b1, o1 + j, none⟩ = some (.int .i64 (ps.getD j 0))) (hB : ∀ j, j < qs.length → w.cell? ⟨b2, o2 + j, none⟩ = some (.int .i64 (qs.getD j 0))) :
    Calls Tryd.prog 47 #[.slice (some ⟨b1, o1, none⟩) n c1, .slice (some ⟨b2, o2, none⟩) n c2] w fun e w' => e = .returned (.int .i64 (cmpI (val ps) (val qs))) ∧ Below w.heap.size w w' := by
  have HA := Lib.hid hA
  have HB := Lib.hid hB
  have LA := Lib.hid la
  have LB := Lib.hid lb
  have hne : ((n : Int) != n) = false := by simp
  clear hA hB la lb
  go_enter Tryd.func47, Tryd.ntmps47
  go_wp2
  go_loopw [5] (fun v wr => ∃ m : Int, v = .int .i64 m ∧ -1 ≤ m ∧ m < n ∧ Hid (ps.drop (m + 1).toNat = qs.drop (m + 1).toNat) ∧ Hid (∃ k, wr = w.drewN k)) (fun v _ => (intOf v + 1).toNat)
  case atStart => exact ⟨_, rfl, by omega, by omega, Lib.hid (by rw [List.drop_eq_nil_of_le (by have := LA.out; omega), List.drop_eq_nil_of_le (by have := LB.out; omega)]), Lib.hid ⟨0, rfl⟩⟩
  case round =>
    obtain ⟨m, rfl, hm1, hm2, hd, hwr⟩ := hrel
    obtain ⟨k, rfl⟩ := hwr.out
    clear hwr
    by_cases hm : m < 0
    · have K : Hid (cmpI (val ps) (val qs) = 0) := by
        unfold Hid
        have h := hd.out
        rw [show (m + 1).toNat = 0 by omega] at h
        simp only [List.drop_zero] at h
        rw [h]; exact cmpI_eq rfl
      go_wp2
      go_ret
      exact ⟨ret_i64 K.out.symm, Below.drewN (Below.refl _ _) _⟩
    · obtain ⟨j, rfl⟩ := Int.eq_ofNat_of_zero_le (show 0 ≤ m by omega)
      have hd' : ps.drop (j + 1) = qs.drop (j + 1) := by have := hd.out; rwa [show ((j : Int) + 1).toNat = j + 1 by omega] at this
      obtain ⟨x, hx⟩ : ∃ x, ps.getD j 0 = x := ⟨_, rfl⟩
      obtain ⟨y, hy⟩ : ∃ y, qs.getD j 0 = y := ⟨_, rfl⟩
      have q0 : (0 : Int) ≤ (j : Int) := by omega
      have q1 : w.cell? ⟨b1, o1 + j, none⟩ = some (.int .i64 x) := by rw [← hx]; exact HA.out j (by have := LA.out; omega)
      have q2 : w.cell? ⟨b2, o2 + j, none⟩ = some (.int .i64 y) := by rw [← hy]; exact HB.out j (by have := LB.out; omega)
      clear hd
      rcases Int.lt_trichotomy x y with hlt | heq | hgt
      · have K : Hid (cmpI (val ps) (val qs) = -1) := Lib.hid (cmpI_lt (top_lt ha hb (by have := LA.out; omega) (by have := LB.out; omega) hd' (by rw [hx, hy]; exact hlt)))
        clear hd' hx hy
        go_wp2
        go_quiet (fail)
        go_wp2
        go_ret
        exact ⟨ret_i64 K.out.symm, Below.drewN (Below.drewN (Below.refl _ _) _) _⟩
      · have K : Hid (ps.drop j = qs.drop j) := Lib.hid (drop_step (by have := LA.out; omega) (by have := LB.out; omega) hd' (by rw [hx, hy]; exact heq))
        clear hd' hx hy
        subst heq
        go_wp2
        go_quiet (fail)
        go_wp2
        go_quiet (fail)
        go_wp2
        go_roundw
        case rel => exact ⟨_, rfl, by omega, by omega, Lib.hid (by rw [show ((j : Int) - 1 + 1).toNat = j by omega]; exact K.out), Lib.hid ⟨_, rfl⟩⟩
        case measure => simp [intOf]
      · have K : Hid (cmpI (val ps) (val qs) = 1) := Lib.hid (cmpI_gt (top_lt hb ha (by have := LB.out; omega) (by have := LA.out; omega) hd'.symm (by rw [hx, hy]; exact hgt)))
        have hnl : decide (x < y) = false := decide_eq_false (by omega)
        clear hd' hx hy
        go_wp2
        go_quiet (fail)
        go_wp2
        go_quiet (fail)
        go_wp2
        go_ret
        exact ⟨ret_i64 K.out.symm, by first | exact Below.drewN (Below.refl _ _) _ | exact Below.drewN (Below.drewN (Below.refl _ _) _) _ | exact Below.drewN (Below.drewN (Below.drewN (Below.refl _ _) _) _) _⟩

/-- spyref1.cmpDigits, of two numbers' digits. -/
theorem cmpd_any (x y : Nat) (va vb : Value) (hx : (digs x).length ≤ 1000000) (hy : (digs y).length ≤ 1000000) (w : World) (ha : Rd w va (digs x)) (hb : Rd w vb (digs y)) :
    Calls Tryd.prog 47 #[va, vb] w fun e w' => e = .returned (.int .i64 (cmpI x y)) ∧ Below w.heap.size w w' := by
  obtain ⟨p, c1, rfl, hp⟩ := ha.parts
  obtain ⟨q, c2, rfl, hq⟩ := hb.parts
  obtain ⟨n, hn⟩ : ∃ n, (digs x).length = n := ⟨_, rfl⟩
  obtain ⟨m, hm⟩ : ∃ m, (digs y).length = m := ⟨_, rfl⟩
  rw [hn] at hx ⊢
  rw [hm] at hy ⊢
  clear ha hb
  rcases Nat.lt_trichotomy n m with h | h | h
  · have K : Hid (cmpI x y = -1) := Lib.hid (cmpI_lt (by have := len_mono (x := x) (y := y) (by omega); omega))
    have e1 : ((n : Int) != m) = true := by simp; omega
    have e2 : decide ((n : Int) < m) = true := decide_eq_true (by omega)
    have e3 : decide (n < m) = true := decide_eq_true (by omega)
    have e4 : (n != m) = true := by simp; omega
    clear hn hm hp hq
    go_enter Tryd.func47, Tryd.ntmps47
    go_wp2
    go_ret
    exact ⟨ret_i64 K.out.symm, Below.refl _ _⟩
  · subst h
    rcases hp with hp | ⟨b1, o1, rfl, _, _, hA⟩
    · have hx0 := digs_nil.1 hp
      obtain rfl : n = 0 := by rw [← hn, hp]; rfl
      have hy0 := digs_nil.1 (List.eq_nil_of_length_eq_zero hm)
      have K : Hid (cmpI x y = 0) := Lib.hid (cmpI_eq (by omega))
      clear hn hm hq hp hx0 hy0
      go_enter Tryd.func47, Tryd.ntmps47
      go_wp2
      refine wp_loop_rounds 1 ?_
      rw [rounds_succ]
      go_wp2
      go_ret
      exact ⟨ret_i64 K.out.symm, Below.refl _ _⟩
    · rcases hq with hq | ⟨b2, o2, rfl, _, _, hB⟩
      · have hy0 := digs_nil.1 hq
        obtain rfl : n = 0 := by rw [← hm, hq]; rfl
        have hx0 := digs_nil.1 (List.eq_nil_of_length_eq_zero hn)
        have K : Hid (cmpI x y = 0) := Lib.hid (cmpI_eq (by omega))
        clear hn hm hq hx0 hy0 hA
        go_enter Tryd.func47, Tryd.ntmps47
        go_wp2
        refine wp_loop_rounds 1 ?_
        rw [rounds_succ]
        go_wp2
        go_ret
        exact ⟨ret_i64 K.out.symm, Below.refl _ _⟩
      · have := cmpd_same (digs x) (digs y) n (by omega) (digs_ok x) (digs_ok y) hn hm w b1 o1 c1 b2 o2 c2 hA hB
        rwa [val_digs, val_digs] at this
  · have K : Hid (cmpI x y = 1) := Lib.hid (cmpI_gt (by have := len_mono (x := y) (y := x) (by omega); omega))
    have e1 : ((n : Int) != m) = true := by simp; omega
    have e2 : decide ((n : Int) < m) = false := decide_eq_false (by omega)
    have e3 : decide (n < m) = false := decide_eq_false (by omega)
    have e4 : (n != m) = true := by simp; omega
    clear hn hm hp hq
    go_enter Tryd.func47, Tryd.ntmps47
    go_wp2
    go_ret
    exact ⟨ret_i64 K.out.symm, Below.refl _ _⟩
end Go.Proofs.YtokkaeaciigapaaDoor

