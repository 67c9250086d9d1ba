/-
  The reference's Digits of up to six digits; the walk of the law ScaleTexts.
  Conditions: those of each theorem.
-/
import Derived.Test.YtokkaeaciigapaaDoorTZ
import Derived.Test.YtokkaeaciigapaaDoorShelf
import Derived.Test.YtokkaeaciigapaaDoorGO
set_option linter.unusedVariables false
set_option linter.unusedSimpArgs false
namespace Go.Proofs.YtokkaeaciigapaaDoor.AtSx
open Ev Go.RowKit Sc RL Wd Zd Go.Shelf
open Go.Proofs.YtokkaeaciigapaaDoor
theorem al_size (w : World) (o : Obj) : (w.alloc o).heap.size = w.heap.size + 1 := by simp
theorem al_cell (w : World) (x : Value) (ty : TypeId) : (w.alloc (.cells #[x] ty)).cell? ⟨w.heap.size, 0 + 0, none⟩ = some x := by simp
theorem al_at (w : World) (o : Obj) : (w.alloc o).heap[w.heap.size]? = some o := by unfold World.alloc; simp
def strSz : Value → Nat | .string t => t.size | _ => 0
theorem pre_no {s : ByteArray} (hd : dgB s = true) : Lib.hasPrefix s.data.toList [45] = false := by
  obtain ⟨hn, ha, h6⟩ := dgB_p hd
  cases h : s.data.toList with
  | nil => exact absurd h hn
  | cons b r =>
    rw [h, List.all_cons, Bool.and_eq_true] at ha
    have hb : 48 ≤ b.toNat ∧ b.toNat ≤ 57 := of_decide_eq_true ha.1
    unfold Lib.hasPrefix
    simp only [List.isPrefixOf, Bool.and_true]
    rw [beq_eq_false_iff_ne]
    rintro rfl
    simp at hb
theorem spl_app : ∀ (l m : List UInt8) (a : Nat), spl a (l ++ m) = spl (spl a l) m
  | [], m, a => rfl
  | b :: r, m, a => spl_app r m _
theorem spl_take {l : List UInt8} {j : Nat} (ha : l.all isD = true) (h : j < l.length) : spl 0 (l.take (j + 1)) = spl 0 (l.take j) * 10 + ((l[j]'h).toNat - 48) := by
  rw [List.take_add_one, List.getElem?_eq_getElem h, spl_app]; rfl
theorem all_take {l : List UInt8} (ha : l.all isD = true) (j : Nat) : (l.take j).all isD = true := by
  rw [List.all_eq_true] at ha ⊢
  exact fun x hx => ha x (List.mem_of_mem_take hx)
theorem dig_in {l : List UInt8} (ha : l.all isD = true) {j : Nat} (h : j < l.length) : 48 ≤ (l[j]'h).toNat ∧ (l[j]'h).toNat ≤ 57 := by
  rw [List.all_eq_true] at ha
  exact of_decide_eq_true (ha _ (List.getElem_mem h))
set_option maxRecDepth 100000 in
set_option maxHeartbeats 1000000 in
theorem dig_any (s : ByteArray) (hd : dgB s = true) (w : World) :
    Calls Tryd.prog 16 #[.string s] w fun e w' => ∃ u, e = .returned u ∧ IsZ w' u (spS s) ∧ Below w.heap.size w w' := by
  have hp := pre_no hd
  obtain ⟨hn, ha, h6⟩ := dgB_p hd
  have hs1 : 1 ≤ s.size := by
    rcases Nat.eq_zero_or_pos s.size with h | h
    · exact absurd (List.eq_nil_of_length_eq_zero (show s.data.toList.length = 0 from h)) hn
    · exact h
  obtain ⟨i0, hi, hz0, hz1, hz2⟩ := info_parts (show (Tryd.prog.info? 3).map (fun i => (i.zero, i.size, i.bytes)) = some (some (.int .i64 0), 1, 8) by kernel_rfl)
  go_enter Tryd.func16, Tryd.ntmps16
  go_wp2_with (go_at_call 26; refine (Tryd.strings_HasPrefix s ⟨#[45]⟩ _).mono ?_; rintro e w1 ⟨rfl, rfl⟩; rw [show (⟨#[45]⟩ : ByteArray).data.toList = [45] from rfl, hp])
  go_slots
  go_loopw [0, 4] (fun sv v wr => ∃ (t : ByteArray) (ds : List Int), sv = .string t ∧ wr.ownsRow (w.heap.size + 1) 3 1 v ds.length (ds.map (Value.int .i64)) ∧ Below (w.heap.size + 1) (w.alloc (.cells #[.bool false, .slice none 0 0] 38)) wr ∧ Hid ((t = s ∧ ds = []) ∨ (t.size = 0 ∧ ds = [spS s]))) (fun sv _ _ => strSz sv)
  case atStart => exact ⟨s, [], rfl, World.ownsRow_nil _ _ _ _, Below.refl _ _, Lib.hid (.inl ⟨rfl, rfl⟩)⟩
  case round =>
    obtain ⟨t, ds, rfl, hown, hb, hh⟩ := hrel
    have hc0 : wr.cell? ⟨w.heap.size, 0, none⟩ = some (.bool false) := by rw [hb.cell (by simp)]; simp [go_sem]
    have hc1 : wr.cell? ⟨w.heap.size, 1, none⟩ = some (.slice none 0 0) := by rw [hb.cell (by simp)]; simp [go_sem]
    have hf0 : wr.frozen? ⟨w.heap.size, 0, none⟩ = false := by rw [hb.frozen (by simp)]; simp [go_sem]
    have hf1 : wr.frozen? ⟨w.heap.size, 1, none⟩ = false := by rw [hb.frozen (by simp)]; simp [go_sem]
    by_cases h0 : t.size = 0
    · obtain rfl : ds = [spS s] := by
        rcases hh.out with h | h
        · exfalso
          rw [h.1] at h0
          exact absurd h0 (Nat.ne_of_gt hs1)
        · exact h.2
      clear hh
      have hOk : Ok [spS s] := by
        intro d hd'
        obtain rfl := List.mem_singleton.1 hd'
        have := spS_in hd
        exact ⟨by omega, by omega⟩
      have hcut : cut [spS s] = digs (spS s).natAbs := by
        rw [cut_digs hOk]
        have := spS_in hd
        have e : val [spS s] = spS s := by simp [val]
        rw [e]
        congr 1
      have HR := Lib.hid (Rd.of_own hown)
      clear hown
      have hsz0 : w.heap.size + 1 ≤ wr.heap.size := by
        have h1 : (w.alloc (Obj.cells #[Value.bool false, Value.slice none 0 0] 38)).heap.size ≤ wr.heap.size := hb.size
        have h2 : (w.alloc (Obj.cells #[Value.bool false, Value.slice none 0 0] 38)).heap.size = w.heap.size + 1 := al_size _ _
        omega
      have HB := Lib.hid hb
      clear hb hc0 hc1 hf0 hf1
      go_wp2_with (go_at_call 27; refine (trim_any false _ [spS s] (by simp) _ HR.out).mono ?_; rintro e w1 ⟨sv, rfl, hs, hb1⟩; refine Hid.out ?_)
      refine Lib.hid ?_
      rw [hcut] at hs
      have hW := HB.out.trans (hb1.mono hsz0)
      have hc0 : w1.cell? ⟨w.heap.size, 0, none⟩ = some (.bool false) := by rw [hW.cell (by simp)]; simp [go_sem]
      have hc1 : w1.cell? ⟨w.heap.size, 1, none⟩ = some (.slice none 0 0) := by rw [hW.cell (by simp)]; simp [go_sem]
      have hf0 : w1.frozen? ⟨w.heap.size, 0, none⟩ = false := by rw [hW.frozen (by simp)]; simp [go_sem]
      have hf1 : w1.frozen? ⟨w.heap.size, 1, none⟩ = false := by rw [hW.frozen (by simp)]; simp [go_sem]
      obtain ⟨p2, c2, rfl⟩ := hs.shape
      have HT := Lib.hid hs
      have HW := Lib.hid hW
      have hW2 := hW
      clear hs hW hb1
      have hblk := Lib.hid ((hW2.block w.heap.size (by omega)).trans (al_at w _))
      have hng : decide (spS s < 0) = false := decide_eq_false (by have := spS_in hd; omega)
      clear hW2
      go_wp2
      refine bodyPost_ret (v := .agg #[.bool false, .slice p2 (digs (spS s).natAbs).length c2]) (by simp [results, Tryd.results16, go_sem, hc0, hc1]) rfl ⟨_, rfl, ⟨_, by rw [hng], ?_⟩, ?_⟩
      · exact HT.out.setCell2 hblk.out (by decide) _ _
      · exact ((((Below.refl _ _).alloc (Nat.le_refl _) _).trans (HW.out.mono (by omega))).setCell (by simp) _).setCell (by simp) _
    · obtain ⟨rfl, rfl⟩ : t = s ∧ ds = [] := by
        rcases hh.out with h | h
        · exact h
        · exact absurd h.1 h0
      clear hh
      go_wp2
      have hmx : max 0 ((t.size : Int) - 6) = 0 := by omega
      rw [hmx]
      go_loop [6, 7] (fun x i => ∃ j : Nat, x = .int .i64 (spl 0 (t.data.toList.take j) : Nat) ∧ i = .int .i64 (j : Int) ∧ j ≤ t.size) (fun _ i => t.size - (intOf i).toNat)
      case atStart => exact ⟨0, rfl, rfl, Nat.zero_le _⟩
      case round =>
        obtain ⟨j, rfl, rfl, hj⟩ := hrel
        by_cases hjs : j = t.size
        · subst hjs
          go_wp2
          refine wp_region_last (S := fun W' => True) (m := 8) (by kernel_rfl) (by kernel_rfl) (by kernel_rfl) (trivial) (fun _ => ?_)
          replace hb := Below.drew hb
          refine wpAnyH_take (i := 0) (v := ?_) rfl (by kernel_rfl) (by kernel_rfl) (by kernel_rfl) (fun _ _ _ h => h) (Or.inl ⟨by kernel_rfl, ?_⟩) (trivial) ?_
          rotate_left
          focus (intro W' hSw; skip; go_simp; (try with_reducible rfl))
          (try simp only [Act.put, List.setIfInBounds_toArray, List.set_cons_zero, List.set_cons_succ, List.getElem_toArray, List.getElem_cons_zero, List.getElem_cons_succ])
          refine wpAnyH_take (i := 1) (v := ?_) rfl (by kernel_rfl) (by kernel_rfl) (by kernel_rfl) (fun _ _ _ h => h) (Or.inl ⟨by kernel_rfl, ?_⟩) (trivial) ?_
          rotate_left
          focus (intro W' hSw; skip; go_simp; (try with_reducible rfl))
          (try simp only [Act.put, List.setIfInBounds_toArray, List.set_cons_zero, List.set_cons_succ, List.getElem_toArray, List.getElem_cons_zero, List.getElem_cons_succ])
          refine wpAnyH_take (i := 4) (v := ?_) rfl (by kernel_rfl) (by kernel_rfl) (by kernel_rfl) (fun _ _ _ h => h) (Or.inl ⟨by kernel_rfl, ?_⟩) (trivial) ?_
          rotate_left
          focus (intro W' hSw; skip; go_simp; (try with_reducible rfl))
          (try simp only [Act.put, List.setIfInBounds_toArray, List.set_cons_zero, List.set_cons_succ, List.getElem_toArray, List.getElem_cons_zero, List.getElem_cons_succ])
          refine wpAnyH_take (i := 5) (v := ?_) rfl (by kernel_rfl) (by kernel_rfl) (by kernel_rfl) (fun _ _ _ h => h) (Or.inl ⟨by kernel_rfl, ?_⟩) (trivial) ?_
          rotate_left
          focus (intro W' hSw; skip; go_simp; (try with_reducible rfl))
          (try simp only [Act.put, List.setIfInBounds_toArray, List.set_cons_zero, List.set_cons_succ, List.getElem_toArray, List.getElem_cons_zero, List.getElem_cons_succ])
          refine wpAnyH_take (i := 6) (v := ?_) rfl (by kernel_rfl) (by kernel_rfl) (by kernel_rfl) (fun _ _ _ h => h) (Or.inl ⟨by kernel_rfl, ?_⟩) (trivial) ?_
          rotate_left
          focus (intro W' hSw; skip; go_simp; (try with_reducible rfl))
          (try simp only [Act.put, List.setIfInBounds_toArray, List.set_cons_zero, List.set_cons_succ, List.getElem_toArray, List.getElem_cons_zero, List.getElem_cons_succ])
          refine wpAnyH_ready (rs := [2]) (by kernel_rfl) (by simp) ?_
          refine AllReadyH.cons rfl (fun K hK => ?_) (AllReadyH.nil)
          go_simp
          refine hK.out _ _ (trivial) (fun _ => ?_)
          clear hK K
          (try simp only [Act.put, List.setIfInBounds_toArray, List.set_cons_zero, List.set_cons_succ, List.getElem_toArray, List.getElem_cons_zero, List.getElem_cons_succ])
          refine wpAnyH_ready (rs := [3]) (by kernel_rfl) (by simp) ?_
          refine AllReadyH.cons rfl (fun K hK => ?_) (AllReadyH.nil)
          rw [if_pos (by kernel_rfl)]
          have hO : ((wr.alloc (Obj.cells #[Value.int IntKind.i64 ↑(spl 0 (List.take t.size t.data.toList))] 3)).drew).ownsRow (w.heap.size + 1) 3 1 u4 0 [] := hown.alloc _
          have hbase : w.heap.size + 1 ≤ ((wr.alloc (Obj.cells #[Value.int IntKind.i64 ↑(spl 0 (List.take t.size t.data.toList))] 3)).drew).heap.size := by
            show w.heap.size + 1 ≤ (wr.alloc (Obj.cells #[Value.int IntKind.i64 ↑(spl 0 (List.take t.size t.data.toList))] 3)).heap.size
            have h1 : (w.alloc (Obj.cells #[Value.bool false, Value.slice none 0 0] 38)).heap.size ≤ wr.heap.size := hb.size
            have h2 : (w.alloc (Obj.cells #[Value.bool false, Value.slice none 0 0] 38)).heap.size = w.heap.size + 1 := al_size _ _
            have h3 : (wr.alloc (Obj.cells #[Value.int IntKind.i64 ↑(spl 0 (List.take t.size t.data.toList))] 3)).heap.size = wr.heap.size + 1 := al_size _ _
            omega
          have hbs : w.heap.size + 1 ≤ wr.drew.heap.size := by
            show w.heap.size + 1 ≤ wr.heap.size
            have h1 : (w.alloc (Obj.cells #[Value.bool false, Value.slice none 0 0] 38)).heap.size ≤ wr.heap.size := hb.size
            have h2 : (w.alloc (Obj.cells #[Value.bool false, Value.slice none 0 0] 38)).heap.size = w.heap.size + 1 := al_size _ _
            omega
          refine wp_append_own _ (Operand.tmp 35) (Operand.tmp 37) 36 rfl (w.heap.size + 1) 3 i0 (.int .i64 0) 1 8 Tryd.underlying36 hi hz0 hz1 hz2 rfl (by decide) u4 0 [] rfl hO ⟨wr.heap.size, 0, none⟩ 1 1 [.int .i64 (spl 0 (List.take t.size t.data.toList) : Nat)] rfl rfl ?_ ?_ ?_ ?_ ?_ ?_
          · intro j u hj
            match j, hj with
            | 0, hj =>
              have hu : u = Value.int IntKind.i64 ↑(spl 0 (List.take t.size t.data.toList)) := by simpa using hj.symm
              rw [hu]
              show (wr.alloc (Obj.cells #[Value.int IntKind.i64 ↑(spl 0 (List.take t.size t.data.toList))] 3)).cell? ⟨wr.heap.size, 0 + 0, none⟩ = _
              exact al_cell wr _ 3
          · intro u hu; simp at hu; subst hu; rfl
          · unfold maxLen; omega
          · omega
          · exact hbase
          intro v' w2 hown' hgrow _
          refine hK.out _ _ (trivial) (fun _ => ?_)
          clear hK K
          (try simp only [Act.put, List.setIfInBounds_toArray, List.set_cons_zero, List.set_cons_succ, List.getElem_toArray, List.getElem_cons_zero, List.getElem_cons_succ])
          refine wpAnyH_take (i := 7) (v := ?_) rfl (by kernel_rfl) (by kernel_rfl) (by kernel_rfl) (fun _ _ _ h => h) (Or.inl ⟨by kernel_rfl, ?_⟩) (trivial) ?_
          rotate_left
          focus (intro W' hSw; skip; go_simp; (try with_reducible rfl))
          (try simp only [Act.put, List.setIfInBounds_toArray, List.set_cons_zero, List.set_cons_succ, List.getElem_toArray, List.getElem_cons_zero, List.getElem_cons_succ])
          refine wpAnyH_done (by kernel_rfl) ?_ _
          refine still1_step rfl (fun K hK => ?_)
          go_simp
          refine hK.out _ _ ?_
          clear hK K
          (try simp only [Act.put, List.setIfInBounds_toArray, List.set_cons_zero, List.set_cons_succ, List.getElem_toArray, List.getElem_cons_zero, List.getElem_cons_succ])
          have hE : List.take t.size t.data.toList = t.data.toList := List.take_of_length_le (Nat.le_refl _)
          have hb' : Below (w.heap.size + 1) (w.alloc (Obj.cells #[Value.bool false, Value.slice none 0 0] 38)) wr := ⟨hb.os, hb.tape, hb.output, hb.size, hb.block⟩
          have hB2 := (((hb'.alloc hbs (Obj.cells #[Value.int IntKind.i64 ↑(spl 0 (List.take t.size t.data.toList))] 3)).drew).grown hgrow hbase (fun k hk => (hO.lt k hk).1))
          go_wp2
          go_roundw
          case rel =>
            refine ⟨ByteArray.empty, [spS t], rfl, ?_, hB2, Lib.hid (.inr ⟨rfl, rfl⟩)⟩
            rw [hE] at hown'
            exact hown'
          case measure => simp only [strSz]; exact hs1
        · have hlt : j < t.size := by omega
          go_wp2
          have hd1 := spl_take (l := t.data.toList) (j := j) ha hlt
          have hb1 := spl_lt (t.data.toList.take j) 0 0 (all_take ha j) (by decide)
          have hb2 : 10 ^ (0 + (t.data.toList.take j).length) ≤ 10 ^ 6 := Nat.pow_le_pow_right (by omega) (by rw [List.length_take]; omega)
          have hb3 := dig_in (l := t.data.toList) ha hlt
          have eg : t[j].toNat = (t.data.toList[j]'hlt).toNat := rfl
          refine ⟨⟨j + 1, ?_, by simp, by omega⟩, by simp only [intOf]; omega⟩
          rw [IntWalk.wrap64_in (10 * _) (by omega), IntWalk.wrap64_in _ (by omega), hd1]
          congr 1
          omega
theorem dig_ok : (nfn nDig).ok Tryd.prog numI 16 := nfn_ok fun xa rs cd h hc => by
  unfold nDig at h
  split at h
  · rename_i s
    cases h
    exact n_of (vs := [.string s]) fun w => dig_any s (hc (dgB s, true) (by simp)) w
  · cases h
/-- The walk of ScaleTexts. -/
theorem scaleTexts_law (w : World) (ht : Lib.TabIs Tryd.prog w "internal/strconv.uint64pow10" .u64 Lib.pow10Tab) (c : Cv) (s : ByteArray) :
    Calls Tryd.prog 3 #[cvV c, .string s] w fun e w' => e = .returned (.bool true) ∧ Below w.heap.size w w' := st_walk dig_ok w ht c s
theorem scaleTexts_flat (W : World) (ht : Lib.TabIs Tryd.prog W "internal/strconv.uint64pow10" .u64 Lib.pow10Tab) (x0 : Int) (hx0 : okK (some .i64) x0) (x1 : Int) (hx1 : okK (some .i64) x1) (x2 : Int) (hx2 : okK (some .i64) x2) (x3 : Int) (hx3 : okK (some .i64) x3) (x4 : Int) (hx4 : okK (some .i64) x4) (x5 : Int) (hx5 : okK (some .i64) x5) (x6 : Int) (hx6 : okK (some .i64) x6) (s : ByteArray) (hs : s.size ≤ maxLen) :
    Calls Tryd.prog 3 #[.agg #[.int .i64 x0, .int .i64 x1, .int .i64 x2, .int .i64 x3, .int .i64 x4, .int .i64 x5, .int .i64 x6], .string s] W fun e w' => e = .returned (.bool true) ∧ Below W.heap.size W w' := scaleTexts_law W ht ⟨x0, x1, x2, x3, x4, x5, x6⟩ s
end Go.Proofs.YtokkaeaciigapaaDoor.AtSx

