/-
  Slices of int64; the contract of frac.Terms: the terms of the continued fraction.
  Conditions: the arguments are int64.
-/
import Derived.Test.YtocheeocnbfbiaaDoorF2
set_option linter.unusedVariables false
set_option linter.unusedSimpArgs false
namespace Go.Proofs.YtocheeocnbfbiaaDoor
open Go.RowKit Go.Shelf Wd

/-- A block of int64s, not frozen. -/
def LoB (w : World) (b : Nat) : Prop := ∃ cur, w.heap[b]? = some (.cells cur 2 (0, 0))
/-- A slice of int64s reads as these. -/
def Rl (w : World) (v : Value) (ds : List Int) : Prop :=
  ∃ (p : Option Addr) (cap : Nat), v = .slice p ds.length cap ∧ ds.length ≤ cap ∧ cap ≤ maxLen ∧ (ds = [] ∨ ∃ b off, p = some ⟨b, off, none⟩ ∧ b < w.heap.size ∧ LoB w b ∧ ∀ j, j < ds.length → w.cell? ⟨b, off + j, none⟩ = some (.int .i64 (ds.getD j 0)))
theorem Rl.go {w w' : World} {v : Value} {ds : List Int} (h : Rl w v ds) (hb : Below w.heap.size w w') : Rl w' v ds := by
  obtain ⟨p, cap, h1, h2, h3, h4⟩ := h
  refine ⟨p, cap, h1, h2, h3, ?_⟩
  rcases h4 with h4 | ⟨b, off, g1, g2, ⟨cur, gb⟩, g3⟩
  · exact .inl h4
  · exact .inr ⟨b, off, g1, Nat.lt_of_lt_of_le g2 hb.size, ⟨cur, (hb.block b g2).trans gb⟩, fun j hj => (hb.cell (p := ⟨b, off + j, none⟩) g2).trans (g3 j hj)⟩
theorem Rl.drewN {w : World} {v : Value} {ds : List Int} (h : Rl w v ds) (n : Nat) : Rl (w.drewN n) v ds := h.go (Below.drewN (Below.refl _ _) n)
theorem Rl.drew {w : World} {v : Value} {ds : List Int} (h : Rl w v ds) : Rl w.drew v ds := h.go (Below.drew (Below.refl _ _))
theorem Rl.nil (w : World) : Rl w (.slice none 0 0) [] := ⟨none, 0, rfl, Nat.le_refl _, by unfold maxLen; omega, .inl rfl⟩
theorem Rl.put {w w' : World} {v : Value} {ds : List Int} {b : Nat} {T : TypeId} {x y : Value} (h : Rl w v ds) (hk : Bx w b T x y) (hT : T ≠ 2) (hp : Put w b w') : Rl w' v ds := by
  obtain ⟨p, cap, h1, h2, h3, h4⟩ := h
  refine ⟨p, cap, h1, h2, h3, ?_⟩
  rcases h4 with h4 | ⟨g, off, g1, g2, ⟨cur, hcur⟩, g3⟩
  · exact .inl h4
  · have hne : g ≠ b := by
      rintro rfl
      have := hk.blk
      rw [hcur] at this
      cases this
      exact hT rfl
    have e := hp.block g hne
    exact .inr ⟨g, off, g1, by rw [hp.size]; exact g2, ⟨cur, by rw [e]; exact hcur⟩, fun j hj => (World.cell?_of_block (w := w) (a := ⟨g, off + j, none⟩) e).trans (g3 j hj)⟩
theorem Rl.of_own {w : World} {base : Nat} {v : Value} {ds : List Int} (h : w.ownsRow base 2 1 v ds.length (ds.map (Value.int .i64))) : Rl w v ds := by
  obtain ⟨h1, h2⟩ := h
  rcases h2 with ⟨rfl, hn⟩ | ⟨g, cap, cur, rfl, hg, hh, hc, hm, hs, ht⟩
  · exact ⟨none, 0, by rw [hn], by omega, by unfold maxLen; omega, .inl (List.eq_nil_of_length_eq_zero hn)⟩
  · refine ⟨_, cap, rfl, hc, hm, .inr ⟨g, 0, rfl, ?_, ⟨cur, hh⟩, ?_⟩⟩
    · rcases Nat.lt_or_ge g w.heap.size with k | k
      · exact k
      · rw [Array.getElem?_eq_none k] at hh; cases hh
    · intro j hj
      have := World.ownsRow.cells (h := (⟨h1, .inr ⟨g, cap, cur, rfl, hg, hh, hc, hm, hs, ht⟩⟩ : w.ownsRow base 2 1 (.slice (some ⟨g, 0, none⟩) ds.length cap) ds.length (ds.map (Value.int .i64)))) (g := g) rfl j (.int .i64 (ds.getD j 0)) (by simp [hj])
      rw [← this]; unfold Addr.add; split <;> simp_all

/-- The terms of a continued fraction. -/
def cf (n : Int) : Nat → List Int
  | 0 => []
  | d + 1 => (n / ((d + 1 : Nat) : Int)) :: cf ((d + 1 : Nat) : Int) (n % ((d + 1 : Nat) : Int)).toNat
termination_by d => d
decreasing_by
  have h1 := Int.emod_nonneg n (b := ((d + 1 : Nat) : Int)) (by omega)
  have h2 := Int.emod_lt_of_pos n (b := ((d + 1 : Nat) : Int)) (by omega)
  omega
theorem cf_zero (n : Int) : cf n 0 = [] := by rw [cf]
theorem cf_pos (n : Int) {d : Nat} (h : 0 < d) : cf n d = (n / (d : Int)) :: cf d (n % (d : Int)).toNat := by
  obtain ⟨k, rfl⟩ : ∃ k, d = k + 1 := ⟨d - 1, by omega⟩
  rw [cf]
theorem cf_len (k : Nat) : ∀ (n : Int) (d : Nat), d < 2 ^ k → (cf n d).length ≤ 2 * k := by
  induction k using Nat.strongRecOn with
  | ind k ih =>
    intro n d hd
    rcases Nat.eq_zero_or_pos d with rfl | h
    · rw [cf_zero]; simp
    · rw [cf_pos n h]
      have hk : 1 ≤ k := by
        rcases Nat.eq_zero_or_pos k with rfl | hk
        · simp at hd; omega
        · exact hk
      have h1 := Int.emod_nonneg n (b := (d : Int)) (by omega)
      have h2 := Int.emod_lt_of_pos n (b := (d : Int)) (by omega)
      obtain ⟨s, hs⟩ : ∃ s : Nat, (n % (d : Int)).toNat = s := ⟨_, rfl⟩
      have hsd : s < d := by omega
      rw [hs]
      rcases Nat.eq_zero_or_pos s with rfl | h3
      · rw [cf_zero]; simp; omega
      · rw [cf_pos _ h3]
        have e : ((d : Int) % (s : Int)).toNat = d % s := by rw [← Int.natCast_emod]; exact Int.toNat_natCast _
        rw [e]
        have h4 : d % s < 2 ^ (k - 1) := by
          have g1 := Nat.mod_lt d h3
          have g2 := Nat.div_add_mod d s
          have g3 : 1 ≤ d / s := Nat.div_pos (by omega) h3
          have g4 : s * 1 ≤ s * (d / s) := Nat.mul_le_mul_left _ g3
          have g5 : 2 ^ k = 2 * 2 ^ (k - 1) := by
            obtain ⟨j, rfl⟩ : ∃ j, k = j + 1 := ⟨k - 1, by omega⟩
            rw [Nat.pow_succ]; simp; omega
          omega
        have := ih (k - 1) (by omega) (s : Int) (d % s) h4
        simp
        omega
/-- What Terms returns. -/
def tmsV (n d : Int) : List Int := if chkV n d = 0 then cf n d.toNat else []

set_option maxRecDepth 100000 in
set_option maxHeartbeats 4000000 in
theorem terms_any (n d : Int) (a1 : -9223372036854775808 ≤ n) (a2 : n ≤ 9223372036854775807) (b1 : -9223372036854775808 ≤ d) (b2 : d ≤ 9223372036854775807) (w : World) :
    Calls Tryd.prog 9 #[fr n d] w fun e w' => ∃ v, e = .returned (.tuple #[v, .int .i64 (chkV n d)]) ∧ Rl w' v (tmsV n d) ∧ Below w.heap.size w w' := by
  by_cases h : chkV n d = 0
  · rw [h, show tmsV n d = cf n d.toNat from if_pos h]
    have K := Lib.hid h
    have hv := chkV_zero.1 h
    have hbd := hv.bd
    obtain ⟨D, hD⟩ : ∃ D : Nat, d = D := ⟨d.toNat, by omega⟩
    have e0 : cf n d.toNat = cf n D := by rw [hD]; rfl
    rw [e0]
    have HD := Lib.hid hD
    clear h hv e0 hD
    obtain ⟨i0, hi, hz0, hz1, hz2⟩ := info_parts (show (Tryd.prog.info? 2).map (fun i => (i.zero, i.size, i.bytes)) = some (some (.int .i64 0), 1, 8) by kernel_rfl)
    obtain ⟨W, hW, h0, x0⟩ := fbox1 w (.int .i64 n) (.int .i64 d)
    have HW := Lib.hid hW
    clear hW
    go_enter Tryd.func9, Tryd.ntmps9
    go_wp2_with fail
    rw [← HW.out]
    clear HW
    have c_x0 := x0.c0
    have d_x0 := x0.c1
    have p_x0 := x0.f0
    have q_x0 := x0.f1
    go_wp2_with fail
    clear c_x0 d_x0 p_x0 q_x0
    go_at_call 22; (with_reducible refine (check_any n d a1 a2 b1 b2 _).mono ?_)
    rintro e W1 ⟨rfl, hb⟩
    replace x0 := x0.go hb
    replace h0 := bel_go h0 h0.size hb
    clear hb
    rw [K.out]
    go_wp2_with fail
    have c_x0 := x0.c0
    have d_x0 := x0.c1
    have p_x0 := x0.f0
    have q_x0 := x0.f1
    go_quiet (fail)
    replace x0 := x0.drewN nq
    replace h0 := Below.drewN h0 nq
    clear c_x0 d_x0 p_x0 q_x0
    generalize W1.drewN nq = W2 at x0 h0 ⊢
    clear nq
    have HB := Lib.hid h0
    clear h0 x0
    have hdD : d = (D : Int) := HD.out
    subst hdD
    go_wp2_with fail
    go_loopw [5, 6, 7] (fun v s6 s7 wr => ∃ (a : Int) (b : Nat) (ds : List Int), s6 = .int .i64 a ∧ s7 = .int .i64 (b : Int) ∧ (-9223372036854775808 ≤ a ∧ a ≤ 9223372036854775807) ∧ b ≤ 1152921504606846976 ∧ Hid (cf n D = ds ++ cf a b) ∧ wr.ownsRow W2.heap.size 2 1 v ds.length (ds.map (Value.int .i64)) ∧ Below W2.heap.size W2 wr) (fun _ _ s7 _ => (intOf s7).toNat)
    case atStart => exact ⟨n, D, [], rfl, rfl, ⟨a1, a2⟩, by omega, Lib.hid (by simp), World.ownsRow_nil _ _ _ _, Below.refl _ _⟩
    case round =>
      obtain ⟨a, b, ds, rfl, rfl, ha, hb, hcf, hown, hB⟩ := hrel
      by_cases hb0 : b = 0
      · subst hb0
        have hdd : cf n D = ds := by rw [hcf.out, cf_zero, List.append_nil]
        subst hdd
        have HO := Lib.hid hown
        obtain ⟨p, cap, rfl, _, _, _⟩ := Rl.of_own hown
        have HB2 := Lib.hid hB
        clear hown hB hcf
        go_wp2_with fail
        exact bodyPost_ret (v := .tuple #[.slice p (cf n D).length cap, .int .i64 0]) (by simp [results, Tryd.results9, go_sem]) rfl ⟨_, rfl, Rl.of_own HO.out, HB.out.trans (HB2.out.mono HB.out.size)⟩
      · have hpos : 0 < b := by omega
        have hne : ((b : Int) != 0) = true := by simp; omega
        have hcf2 := cf_pos a hpos
        have m1 := Int.emod_nonneg a (b := (b : Int)) (by omega)
        have m2 := Int.emod_lt_of_pos a (b := (b : Int)) (by omega)
        obtain ⟨c, hc⟩ : ∃ c : Nat, a % (b : Int) = c := ⟨(a % (b : Int)).toNat, by omega⟩
        have hc3 : (a % (b : Int)).toNat = c := by omega
        rw [hc3] at hcf2
        have hm : mdV a b = c := by unfold mdV; rw [if_neg (by omega)]; exact hc
        have hf : fdV a b = a / b := if_neg (by omega)
        obtain ⟨q, hq⟩ : ∃ q, a / (b : Int) = q := ⟨_, rfl⟩
        rw [hq] at hf hcf2
        have HM := Lib.hid hm
        have HF := Lib.hid hf
        have hl : ds.length + 1 ≤ 122 := by
          have := cf_len 61 n D (by omega)
          rw [hcf.out, hcf2] at this
          simp at this
          omega
        have hcb : c < b := by omega
        have HC : Hid (cf n D = (ds ++ [q]) ++ cf b c) := by unfold Hid; rw [hcf.out, hcf2]; simp
        clear hm hf hq hcf hcf2 m1 m2 hc hc3
        go_wp2_with fail
        go_at_call 29; (with_reducible refine (floordiv_any a b ha.1 ha.2 (by omega) (by omega) _).mono ?_)
        rw [HF.out]
        rintro e _ ⟨rfl, rfl⟩
        go_wp2_with (first
          | (at_builtin; refine wpList_append_own _ rfl _ _ 31 rfl W2.heap.size 2 i0 (.int .i64 0) 1 8 Tryd.underlying31 hi hz0 hz1 hz2 rfl (by decide) _ _ _ rfl (hown.alloc _) ⟨wr.heap.size, 0, none⟩ 1 1 [.int .i64 q] rfl rfl ?c1 ?c2 ?c3 ?c4 ?c5 ?_))
        case c1 => intro j u hj; match j, hj with
          | 0, hj => simp at hj; subst hj; simp [Addr.add]
        case c2 => intro u hu; simp at hu; subst hu; rfl
        case c3 => unfold maxLen; omega
        case c4 => omega
        case c5 => have := hB.size; simp at this ⊢; omega
        · intro v' w1 hown' hgrow _
          have hO : w1.ownsRow W2.heap.size 2 1 v' (ds ++ [q]).length ((ds ++ [q]).map (Value.int .i64)) := by simpa using hown'
          have hsz := hB.size
          have hB1 : Below W2.heap.size W2 w1 := (hB.alloc hsz _).grown hgrow (by simp at hsz ⊢; omega) (fun k hk => (hown.lt k hk).1)
          have HO := Lib.hid hO
          have HB1 := Lib.hid hB1
          clear hown' hgrow hown hO hB1 hB
          go_wp2_with fail
          go_at_call 28; (with_reducible refine (mod_any a b (by omega) (by omega) _).mono ?_)
          rw [HM.out]
          rintro e _ ⟨rfl, rfl⟩
          go_wp2_with fail
          go_roundw
          case rel => exact ⟨b, c, ds ++ [q], rfl, rfl, ⟨by omega, by omega⟩, by omega, HC, HO.out, HB1.out⟩
          case measure => simp [intOf]; omega
  · rw [show tmsV n d = [] from if_neg h]
    generalize hk_ : chkV n d = k at h
    have K := Lib.hid hk_
    clear hk_
    have hk : (k != 0) = true := by simpa using h
    obtain ⟨W, hW, h0, x0⟩ := fbox1 w (.int .i64 n) (.int .i64 d)
    have HW := Lib.hid hW
    clear hW
    go_enter Tryd.func9, Tryd.ntmps9
    go_wp2_with fail
    rw [← HW.out]
    clear HW
    have c_x0 := x0.c0
    have d_x0 := x0.c1
    have p_x0 := x0.f0
    have q_x0 := x0.f1
    go_wp2_with fail
    clear c_x0 d_x0 p_x0 q_x0
    go_at_call 22; (with_reducible refine (check_any n d a1 a2 b1 b2 _).mono ?_)
    rintro e W1 ⟨rfl, hb⟩
    replace x0 := x0.go hb
    replace h0 := bel_go h0 h0.size hb
    clear hb
    rw [K.out]
    go_wp2_with fail
    exact bodyPost_ret (v := .tuple #[.slice none 0 0, .int .i64 k]) (by simp [results, Tryd.results9, go_sem]) rfl ⟨_, rfl, Rl.nil _, h0⟩
end Go.Proofs.YtocheeocnbfbiaaDoor

