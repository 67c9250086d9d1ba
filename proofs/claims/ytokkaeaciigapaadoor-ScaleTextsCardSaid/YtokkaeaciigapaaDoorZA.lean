/-
  More of what a world keeps: an owned row over calls and stores, a slice whose block is known to be another one, a digit laid before digits by append, a number of one digit.
  Conditions: those of each lemma.
-/
import Derived.Test.YtokkaeaciigapaaDoorZ8
import Derived.Deep.AppendLies
namespace Go.Proofs.YtokkaeaciigapaaDoor
open Go.RowKit Go.Shelf Zd Wd

theorem own_go {w w' : World} {base n : Nat} {v : Value} {xs : List Value} (h : w.ownsRow base 3 1 v n xs) (hb : Below w.heap.size w w') : w'.ownsRow base 3 1 v n xs := by
  obtain ⟨h1, h2⟩ := h
  refine ⟨h1, ?_⟩
  rcases h2 with h2 | ⟨g, cap, cur, rfl, hbg, hgg, rest⟩
  · exact .inl h2
  · exact .inr ⟨g, cap, cur, rfl, hbg, (hb.block g (Array.getElem?_eq_some_iff.1 hgg).1).trans hgg, rest⟩
theorem own_put {w w' : World} {base n b : Nat} {v : Value} {xs : List Value} {T : TypeId} {x y : Value} (h : w.ownsRow base 3 1 v n xs) (hk : Bx w b T x y) (hT : T ≠ 3) (hp : Put w b w') : w'.ownsRow base 3 1 v n xs := by
  obtain ⟨h1, h2⟩ := h
  refine ⟨h1, ?_⟩
  rcases h2 with h2 | ⟨g, cap, cur, rfl, hbg, hgg, rest⟩
  · exact .inl h2
  · have hne : g ≠ b := by
      rintro rfl
      have := hk.blk
      rw [hgg] at this
      cases this
      exact hT rfl
    exact .inr ⟨g, cap, cur, rfl, hbg, (hp.block g hne).trans hgg, rest⟩
/-- The pointer leads to no block before B. -/
def Fr (B : Nat) (p : Option Addr) : Prop := ∀ a, p = some a → B ≤ a.block
theorem Rd.put_fr {w w' : World} {p : Option Addr} {n c k : Nat} {ds : List Int} (h : Rd w (.slice p n c) ds) (hf : Fr (k + 1) p) (hp : Put w k w') : Rd w' (.slice p n c) ds := by
  obtain ⟨p', cap, h1, h2, h3, h4⟩ := h
  simp only [Value.slice.injEq] at h1
  obtain ⟨rfl, hn, rfl⟩ := h1
  refine ⟨p, c, by rw [hn], h2, h3, ?_⟩
  rcases h4 with h4 | ⟨g, off, g1, g2, ⟨cur, hcur⟩, g3⟩
  · exact .inl h4
  · have hne : g ≠ k := by have := hf _ g1; simp at this; omega
    have e := hp.block g hne
    exact .inr ⟨g, off, g1, by rw [hp.size]; exact g2, ⟨cur, by rw [e]; exact hcur⟩, fun j hj => (World.cell?_of_block (w := w) (a := ⟨g, off + j, none⟩) e).trans (g3 j hj)⟩
/-- A slice literal of one int. -/
theorem lit_own (w : World) (x : Int) : (w.alloc (.cells #[.int .i64 x] 3)).ownsRow w.heap.size 3 1 (.slice (some ⟨w.heap.size, 0, none⟩) 1 1) 1 [.int .i64 x] :=
  World.ownsRow_lit w #[.int .i64 x] 1 (Nat.le_refl _) (by unfold maxLen; omega) (by simp)
theorem lit_rd (w : World) (x : Int) : Rd (w.alloc (.cells #[.int .i64 x] 3)) (.slice (some ⟨w.heap.size, 0, none⟩) 1 1) [x] :=
  Rd.of_own (ds := [x]) (base := w.heap.size) (lit_own w x)
theorem digs_one {x : Int} (h0 : 0 < x) (h1 : x < 1000000) : digs x.natAbs = [x] := by
  rw [digs_pos (by omega)]
  have e1 : x.natAbs / 1000000 = 0 := Nat.div_eq_of_lt (by omega)
  have e2 : ((x.natAbs % 1000000 : Nat) : Int) = x := by rw [Nat.mod_eq_of_lt (by omega)]; omega
  rw [e1, e2, digs_zero]
/-- The number of one digit. -/
theorem lit_z (w : World) (x : Int) (h0 : 0 < x) (h1 : x < 1000000) : IsZ (w.alloc (.cells #[.int .i64 x] 3)) (.agg #[.bool false, .slice (some ⟨w.heap.size, 0, none⟩) 1 1]) x :=
  ⟨_, by rw [decide_eq_false (show ¬ x < 0 by omega)], by rw [digs_one h0 h1]; exact lit_rd w x⟩

theorem run_push_nil {P : Program} {w : World} {base t ty e : Nat} {i : TypeInfo} (ht : P.underlying t = some (.slice e)) (hi : P.info? e = some i)
    {v : Value} {n size c : Nat} {xs : List Value} (hown : w.ownsRow base e size v n xs) : (Builtin.append_ #[t, t] ty #[v, .slice none 0 c]).run P w = .ok v w := by
  rcases hown.2 with ⟨rfl, rfl⟩ | ⟨g, cap, cur, rfl, _, _, hnc, _⟩
  · simp [Builtin.append_, run_underlying ht, sizeOf, typeInfo, hi, Builtin.lenOf, Builtin.firstCells]
  · simp [Builtin.append_, run_underlying ht, sizeOf, typeInfo, hi, Builtin.lenOf, Builtin.firstCells, hnc, storeCells]

theorem add_off (b off j : Nat) : (⟨b, off, none⟩ : Addr).add j = ⟨b, off + j, none⟩ := by
  unfold Addr.add
  by_cases h : j = 0 <;> simp [h]

/-- append([]int{x}, ds...): a new slice, in a block of its own. -/
theorem wp_push {o : Oper} {a : Act} {K : Act → World → Prop} {Q : Exit → Act → World → Prop} (w : World) (x : Int) (s y : Operand)
    (ho : o.op = .call { callee := .builtin .append, args := #[s, y], argTypes := #[36, 36] })
    (hs : a.eval s = .slice (some ⟨w.heap.size, 0, none⟩) 1 1) (p : Option Addr) (m c : Nat) (ds : List Int) (hy : a.eval y = .slice p m c)
    (hr : Rd (w.alloc (.cells #[.int .i64 x] 3)) (.slice p m c) ds) (hm : m ≤ 1000000)
    (h : ∀ p' c' w', Rd w' (.slice p' (m + 1) c') (x :: ds) → Fr w.heap.size p' → Below w.heap.size w w' → K (a.put o.dst (.slice p' (m + 1) c')) w') :
    o.wp Tryd.prog a (w.alloc (.cells #[.int .i64 x] 3)) K Q := by
  obtain ⟨i0, hi, hz0, hz1, hz2⟩ := info_parts (show (Tryd.prog.info? 3).map (fun i => (i.zero, i.size, i.bytes)) = some (some (.int .i64 0), 1, 8) by kernel_rfl)
  have hown := lit_own w x
  have hl := hr.len
  have hb0 : Below w.heap.size w (w.alloc (.cells #[.int .i64 x] 3)) := (Below.refl _ _).alloc (Nat.le_refl _) _
  have fin : ∀ v' w', w'.ownsRow w.heap.size 3 1 v' (1 + m) ([Value.int .i64 x] ++ ds.map (Value.int .i64)) → Below w.heap.size w w' → K (a.put o.dst v') w' := by
    intro v' w' ho' hb'
    obtain ⟨g, cap, rfl, hg, _⟩ := ho'.form (by omega)
    rw [Nat.add_comm 1 m] at ho' ⊢
    refine h _ _ _ ?_ (fun b hb => by cases hb; exact hg) hb'
    have e : (x :: ds).length = m + 1 := by simp [hl]
    rw [← e] at ho' ⊢
    exact Rd.of_own (base := w.heap.size) (by simpa using ho')
  have some_ : ∀ ad : Addr, p = some ad → (∀ j u, (ds.map (Value.int .i64))[j]? = some u → (w.alloc (.cells #[.int .i64 x] 3)).cell? (ad.add j) = some u) → o.wp Tryd.prog a (w.alloc (.cells #[.int .i64 x] 3)) K Q := by
    rintro ad rfl hn
    refine wp_append_own _ s y 36 ho w.heap.size 3 i0 (.int .i64 0) 1 8 Tryd.underlying36 hi hz0 hz1 hz2 rfl (by decide) _ 1 _ hs hown ad m c (ds.map (Value.int .i64)) hy (by simp [hl]) hn ?_ (by unfold maxLen; omega) (by omega) (by simp) ?_
    · intro u hu
      obtain ⟨z, _, rfl⟩ := List.mem_map.1 hu
      rfl
    · intro v' w' ho' hg _
      exact fin v' w' ho' (hb0.grown hg (by simp) (fun k hk => by have h2 : some w.heap.size = some k := hk; cases h2; exact Nat.le_refl _))
  obtain ⟨p', cap, h1, _, _, h4⟩ := hr
  simp only [Value.slice.injEq] at h1
  obtain ⟨rfl, _, rfl⟩ := h1
  rcases h4 with rfl | ⟨b, off, rfl, hb, _, hc⟩
  · rcases p with _ | ad
    · obtain rfl : m = 0 := by simpa using hl.symm
      unfold Oper.wp execOp
      have hrun := run_push_nil (ty := o.type) (c := c) Tryd.underlying36 hi hown
      simp only [ho, resolve, invoke, builtin, Sem.run_bind, Sem.run_pure, Result.andThen_ok, List.map_toArray, List.map_cons, List.map_nil, hs, hy, hrun]
      exact fin _ _ (by simpa using hown) hb0
    · exact some_ ad rfl (fun j u hj => by simp at hj)
  · refine some_ _ rfl (fun j u hj => ?_)
    rw [List.getElem?_map] at hj
    by_cases hlt : j < ds.length
    · have e := add_off b off j
      rw [e, hc j hlt]
      rw [List.getElem?_eq_getElem hlt] at hj
      simp only [Option.map_some, Option.some.injEq] at hj
      rw [← hj]
      simp [List.getD, hlt]
    · rw [List.getElem?_eq_none (by omega)] at hj
      cases hj
end Go.Proofs.YtokkaeaciigapaaDoor

