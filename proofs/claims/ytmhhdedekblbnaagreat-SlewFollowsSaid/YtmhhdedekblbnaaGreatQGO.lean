/-
 What a law is handed, by the shape of its parameters' types: numbers, Booleans, texts, structs of these, slices of structs of numbers; the facts that hold of it.
 Conditions: those of each theorem.
-/
import Derived.Test.YtmhhdedekblbnaaGreatQTB
import Derived.Test.YtmhhdedekblbnaaGreatQBase
import Derived.WalkKit
import Derived.ProofKit
import Derived.OpenShut
import Derived.Lib.SmallJoins
import Derived.Deep.SlicePairs
namespace Go.Proofs.YtmhhdedekblbnaaGreat
open Go.ChangeShapes Go.WideShapes Go.ChangeAt Go.RowKit Go.Joins Go.Deep Ev
set_option linter.unusedVariables false
set_option linter.unusedSimpArgs false
variable {H : Type} {enc : TypeId × Value -> H} {P : Program} {w : World} {base : Nat} {spare : Nat -> Bool} {held : Bool}

inductive All3 {α β γ : Type} (R : α -> β -> γ -> Prop) : List α -> List β -> List γ -> Prop
 | nil : All3 R [] [] []
 | cons {a b c l k m} : R a b c -> All3 R l k m -> All3 R (a :: l) (b :: k) (c :: m)
theorem All3.append {α β γ : Type} {R : α -> β -> γ -> Prop} {l l' : List α} {k k' : List β} {m m' : List γ} (h : All3 R l k m) (h' : All3 R l' k' m') : All3 R (l ++ l') (k ++ k') (m ++ m') := by
 induction h with
 | nil => exact h'
 | cons r _ ih => exact .cons r ih
inductive Ct where
 | k (q : Option IntKind)
 | tab (ks : List (Option IntKind))
 | str
def kOnly : List Ct -> Option (List (Option IntKind))
 | [] => some []
 | .k q :: r => match kOnly r with
   | some l => some (q :: l)
   | none => none
 | .str :: r => match kOnly r with
   | some l => some (some .i8 :: l)
   | none => none
 | _ => none
def fieldsShape (P : Program) (sh : TypeId -> Option (List Ct)) : List Field -> Nat -> Option (List Ct)
 | [], _ => some []
 | f :: r, off => match sh f.type with
   | some s => match decide (f.offset = off) && decide (P.cellsOf f.type = s.length) with
     | true => match fieldsShape P sh r (off + s.length) with
       | some l => some (s ++ l)
       | none => none
     | false => none
   | none => none
def shapeOf (P : Program) : Nat -> TypeId -> Option (List Ct)
 | 0, _ => none
 | n + 1, t => match P.underlying t with
   | some .bool => some [.k none]
   | some (.int k) => match isS k with
     | true => none
     | false => some [.k (some k)]
   | some .string => some [.str]
   | some (.struct fs) => match fieldsShape P (shapeOf P n) fs.toList 0 with
     | some s => match decide (P.cellsOf t = s.length) with
       | true => some s
       | false => none
     | none => none
   | some (.slice e) => match shapeOf P n e with
     | some s => match kOnly s with
       | some ks => match decide (P.cellsOf e = ks.length) with
         | true => some [.tab ks]
         | false => none
       | none => none
     | none => none
   | _ => none
inductive Dt where
 | n (x : Int)
 | l (rows : List (List Int))
 | s (b : ByteArray)
def okK : Option IntKind -> Int -> Prop
 | some .i8, x => (decS x).size <= maxLen
 | some k, x => (Lit.int k x).wf = true
 | none, x => x = 0 \/ x = 1
def CtR (w : World) : Ct -> Dt -> Value -> Prop
 | .k q, .n x, v => v = kdV q x /\ okK q x
 | .tab ks, .l rows, v => tabHv (fun _ _ => False) w v ks rows /\ ∀ j, j < rows.length -> ∀ o q, ks[o]? = some q -> okK q ((rows.getD j []).getD o 0)
 | .str, .s b, v => v = .string b /\ b.size <= maxLen
 | _, _, _ => False
def plainCell (c : Value) : Prop := ∀ a len cap, c = .slice (some a) len cap -> a.spot = none
theorem kOnly_all {w : World} : ∀ {s : List Ct} {ks : List (Option IntKind)} {ds : List Dt} {cs : List Value}, kOnly s = some ks -> All3 (CtR w) s ds cs -> ks.length = cs.length /\ ∃ r : List Int, r.length = ks.length /\ ∀ o q, ks[o]? = some q -> cs[o]? = some (kdV q (r.getD o 0)) /\ okK q (r.getD o 0)
 | [], ks, ds, cs, h, H => by
   cases h
   cases H
   exact ⟨rfl, [], rfl, fun o q h => by simp at h⟩
 | c :: s, ks, ds, cs, h, H => by
   cases H with
   | cons r H =>
     rename_i d v dk dm
     unfold kOnly at h
     split at h
     · cases ‹_ :: _ = []›
     · rename_i q s0 e
       cases e
       split at h
       · rename_i l hl
         cases h
         obtain ⟨g0, r0, g1, g2⟩ := kOnly_all hl H
         cases d with
         | n x =>
           obtain ⟨rfl, hx⟩ := r
           refine ⟨by simp [g0], x :: r0, by simp [g1], fun o q' ho => ?_⟩
           cases o with
           | zero =>
             simp only [List.getElem?_cons_zero, Option.some.injEq] at ho
             subst ho
             exact ⟨by simp, by simpa using hx⟩
           | succ o => simpa using g2 o q' (by simpa using ho)
         | l rows => exact r.elim
         | s b => exact r.elim
       · cases h
     · rename_i s0 e
       cases e
       split at h
       · rename_i l hl
         cases h
         obtain ⟨g0, r0, g1, g2⟩ := kOnly_all hl H
         cases d with
         | n x => exact r.elim
         | l rows => exact r.elim
         | s b =>
           obtain ⟨rfl, hx⟩ := r
           refine ⟨by simp [g0], encS b :: r0, by simp [g1], fun o q' ho => ?_⟩
           cases o with
           | zero =>
             simp only [List.getElem?_cons_zero, Option.some.injEq] at ho
             subst ho
             refine ⟨by simp [kdV, dec_enc], ?_⟩
             show (decS (encS b)).size <= maxLen
             rw [dec_enc]; exact hx
           | succ o => simpa using g2 o q' (by simpa using ho)
       · cases h
     · cases h
theorem kOnly_none {b : List Ct} : ∀ {a : List Ct}, kOnly a = none \/ kOnly b = none -> kOnly (a ++ b) = none
 | [], h => by
   rcases h with h | h
   · cases h
   · exact h
 | .k q :: a, h => by
   have : kOnly a = none \/ kOnly b = none := h.imp (fun h => by
     unfold kOnly at h
     cases hk : kOnly a with
     | none => rfl
     | some l => rw [hk] at h; cases h) id
   simp only [List.cons_append, kOnly, kOnly_none this]
 | .tab ks :: a, h => rfl
 | .str :: a, h => by
   have : kOnly a = none \/ kOnly b = none := h.imp (fun h => by
     unfold kOnly at h
     cases hk : kOnly a with
     | none => rfl
     | some l => rw [hk] at h; cases h) id
   simp only [List.cons_append, kOnly, kOnly_none this]
theorem fields_open {sh : TypeId -> Option (List Ct)} {cs : List Value} {fuel : Nat} (ih : ∀ t s cs x, sh t = some s -> (kOnly s = none -> ∀ v ∈ cs, plainCell v) -> DataW.trod enc P w base spare held fuel t cs = some x -> ∃ ds, All3 (CtR w) s ds cs) :
   ∀ (r : List Field) (off : Nat) (s : List Ct), fieldsShape P sh r off = some s -> (kOnly s = none -> ∀ v ∈ cs, plainCell v) -> (∀ (j : Nat) f, r[j]? = some f -> ∃ y, DataW.trod enc P w base spare held fuel f.type ((cs.drop f.offset).take (P.cellsOf f.type)) = some y) -> ∃ ds, All3 (CtR w) s ds ((cs.drop off).take s.length)
 | [], off, s, h, hp, H => by cases h; exact ⟨[], by simpa using All3.nil⟩
 | f :: r, off, s, h, hp, H => by
   simp only [fieldsShape] at h
   split at h
   · rename_i s0 h0
     split at h
     · rename_i hd
       simp only [Bool.and_eq_true, decide_eq_true_eq] at hd
       split at h
       · rename_i l hl
         cases h
         obtain ⟨y, hy⟩ := H 0 f rfl
         rw [hd.1, hd.2] at hy
         obtain ⟨d0, a0⟩ := ih _ _ _ _ h0 (fun hn v hv => hp (kOnly_none (.inl hn)) v (List.mem_of_mem_drop (List.mem_of_mem_take hv))) hy
         obtain ⟨d1, a1⟩ := fields_open ih r (off + s0.length) l hl (fun hn => hp (kOnly_none (.inr hn))) fun j f hf => H (j + 1) f (by simpa using hf)
         refine ⟨d0 ++ d1, ?_⟩
         have e : (cs.drop off).take (s0 ++ l).length = (cs.drop off).take s0.length ++ (cs.drop (off + s0.length)).take l.length := by
           rw [List.length_append, List.take_add, List.drop_drop]
         rw [e]
         exact a0.append a1
       · cases h
     · cases h
   · cases h
theorem shape_open : ∀ {n fuel : Nat} {t : TypeId} {s : List Ct} {cs : List Value} {x : DataW H × List MemPlace}, shapeOf P n t = some s -> (kOnly s = none -> ∀ v ∈ cs, plainCell v) -> DataW.trod enc P w base spare held fuel t cs = some x -> ∃ ds, All3 (CtR w) s ds cs
 | 0, fuel, t, s, cs, x, h, hp, H => by cases h
 | n + 1, fuel, t, s, cs, x, h, hp, H => by
   unfold shapeOf at h
   split at h
   · rename_i hu
     cases h
     obtain ⟨b, rfl, _⟩ := DataW.trod_bool hu H
     refine ⟨[.n (bif b then 1 else 0)], .cons ⟨?_, ?_⟩ .nil⟩
     · rw [kdV, bool_10]
     · cases b <;> simp [okK]
   · rename_i k hu
     split at h
     · cases h
     · rename_i hs
       cases h
       obtain ⟨m, rfl, _, hw⟩ := DataW.trod_int hu H
       refine ⟨[.n m], .cons ⟨(kdV_int hs m).symm, ?_⟩ .nil⟩
       cases k <;> first | exact hw | cases hs
   · rename_i hu
     cases h
     obtain ⟨b, rfl, _, hb⟩ := DataW.trod_string hu H
     exact ⟨[.s b], .cons ⟨rfl, hb⟩ .nil⟩
   · rename_i fs hu
     split at h
     · rename_i s0 h0
       split at h
       · rename_i hc
         cases h
         obtain ⟨xs, m, rfl, _, hlen, hxl, hf⟩ := DataW.trod_struct hu H
         obtain ⟨ds, a⟩ := fields_open (cs := cs) (fuel := m) (fun t s cs x h hp H => shape_open h hp H) fs.toList 0 s h0 hp fun j f hj => by
           rw [Array.getElem?_toList] at hj
           have := hf j f hj
           have hlt : j < xs.length := by rw [hxl]; exact (Array.getElem?_eq_some_iff.1 hj).1
           exact ⟨xs[j], by rw [this]; exact List.getElem?_eq_getElem hlt⟩
         have e : (cs.drop 0).take s.length = cs := by
           rw [List.drop_zero, List.take_of_length_le]
           have := of_decide_eq_true hc
           omega
         rw [e] at a
         exact ⟨ds, a⟩
       · cases h
     · cases h
   · rename_i e hu
     split at h
     · rename_i s0 h0
       split at h
       · rename_i ks hks
         split at h
         · rename_i hc
           cases h
           have hc := of_decide_eq_true hc
           rcases open_slice hu H with ⟨rfl, _⟩ | ⟨a, len, cap, m, n', D, Pl, rfl, hb, hl, hm, hmm, _, hx⟩
           · exact ⟨[.l []], .cons ⟨nil_tab ks _ _, fun j hj => by simp at hj⟩ .nil⟩
           · have hml : len <= m := by rw [hmm]; split <;> omega
             have each : ∀ i, i < len -> ∃ r : List Int, r.length = ks.length /\ ∀ o q, ks[o]? = some q -> w.cell? (a.add (i * ks.length + o)) = some (kdV q (r.getD o 0)) /\ okK q (r.getD o 0) := fun i hi => by
               obtain ⟨cs', h1, h2⟩ := hx i (by omega)
               obtain ⟨_, q1, q2⟩ := World.cells?_some h1
               obtain ⟨ds, A⟩ := shape_open h0 (fun hn => by rw [hks] at hn; cases hn) h2
               obtain ⟨g0, r, g1, g2⟩ := kOnly_all hks A
               refine ⟨r, g1, fun o q ho => ⟨?_, (g2 o q ho).2⟩⟩
               have hol : o < ks.length := (List.getElem?_eq_some_iff.1 ho).1
               have := q2 o (by rw [hc]; exact hol)
               rw [(g2 o q ho).1, hc] at this
               rw [<- this, add_add]
             obtain ⟨R, hR⟩ := choose_lt each
             have hlen : ((List.range len).map R).length = len := by simp
             have hget : ∀ j, j < len -> ((List.range len).map R).getD j [] = R j := fun j hj => by
               rw [List.getD_eq_getElem?_getD, List.getElem?_map, List.getElem?_range hj]; rfl
             have hsp := hp rfl _ List.mem_cons_self a len cap rfl
             refine ⟨[.l ((List.range len).map R)], .cons ⟨⟨some a, cap, by rw [hlen], by rw [hlen]; exact hl, hm, fun h => (by cases h), fun a' ha => ?_⟩, fun j hj o q ho => ?_⟩ .nil⟩
             · cases ha
               obtain ⟨b, off, spot⟩ := a
               simp only at hsp
               subst hsp
               refine ⟨rfl, fun j hj o q ho => ?_⟩
               rw [hlen] at hj
               rw [hget j hj]
               have := ((hR j hj).2 o q ho).1
               rw [Addr.add_lit] at this
               exact ⟨id, this⟩
             · rw [hlen] at hj
               rw [hget j hj]
               exact ((hR j hj).2 o q ho).2
         · cases h
       · cases h
     · cases h
   · cases h

theorem cell_spot {r : Reach} {b0 : Nat} {u : TypeId} {a : Addr} {len cap : Nat} (h : Cell.okWide P w r b0 u (.slice (some a) len cap)) : a.spot = none := by
 unfold Cell.okWide at h
 split at h
 · simp_all
 · simp_all
 · simp_all
 · simp_all
 · simp_all
 · simp_all
 · simp_all
 · unfold Cell.ok at h
   split at h <;> simp_all
   rename_i h1 _ _ _
   exact h.2.2.2.1
theorem wide_plain {r : Reach} {b0 : Nat} {t : TypeId} {v : Value} (h : Value.okWide P w r b0 t v) : ∀ c ∈ v.cells.toList, plainCell c := by
 intro c hc a len cap e
 subst e
 unfold Value.okWide at h
 have agg : (∃ cs, v = .agg cs /\ cs.size = P.cellsOf t /\ Row.okWide P w r b0 t cs) -> a.spot = none := by
   rintro ⟨cs, rfl, _, ts, _, _, hrow⟩
   have hc' : Value.slice (some a) len cap ∈ cs.toList := hc
   obtain ⟨i, hi⟩ := List.mem_iff_getElem?.1 hc'
   obtain ⟨u, _, hu⟩ := hrow i _ (by simpa using hi)
   exact cell_spot hu
 split at h
 · exact agg h
 · exact agg h
 · have : v = .slice (some a) len cap := by
     cases v <;> simp only [Value.cells] at hc <;> simp_all
     unfold Cell.okWide at h
     split at h <;> simp_all
     unfold Cell.ok at h
     split at h <;> simp_all
   rw [this] at h
   exact cell_spot h
theorem arg_open {r : Reach} {b0 n : Nat} {t : TypeId} {s : List Ct} {v : Value} {d : DataW H} {p : List MemPlace} (hs : shapeOf P n t = some s) (hv : Value.okWide P w r b0 t v) (h : DataW.Trod enc P w base spare held t v d p) : ∃ ds, All3 (CtR w) s ds v.cells.toList := by
 obtain ⟨fuel, hf⟩ := h
 exact shape_open hs (fun _ => wide_plain hv) hf
def okRows (ks : List (Option IntKind)) (l : List (List Int)) : Prop := ∀ j, j < l.length -> ∀ o q, ks[o]? = some q -> okK q ((l.getD j []).getD o 0)
theorem all3_one {c : Ct} {ds : List Dt} {v : Value} (h : All3 (CtR w) [c] ds [v]) : ∃ d, CtR w c d v := by
 cases h with
 | cons r h => exact ⟨_, r⟩
theorem ct_int {k : IntKind} {d : Dt} {v : Value} (h : CtR w (.k (some k)) d v) (hk : isS k = false := by rfl) : ∃ x, d = .n x /\ v = .int k x /\ okK (some k) x := by
 cases d with
 | n x => exact ⟨x, rfl, by rw [<- kdV_int hk x]; exact h.1, h.2⟩
 | l _ => exact h.elim
 | s _ => exact h.elim
theorem ct_tab {ks : List (Option IntKind)} {d : Dt} {v : Value} (h : CtR w (.tab ks) d v) : ∃ l, d = .l l /\ tabHv (fun _ _ => False) w v ks l /\ okRows ks l := by
 cases d with
 | n _ => exact h.elim
 | l l => exact ⟨l, rfl, h.1, h.2⟩
 | s _ => exact h.elim
theorem one_cell {r : Reach} {b0 : Nat} {t : TypeId} {v : Value} (h : Value.okWide P w r b0 t v) (hu : (∀ fs, P.underlying t ≠ some (.struct fs)) /\ ∀ m e, P.underlying t ≠ some (.array m e)) : v.cells.toList = [v] := by
 unfold Value.okWide at h
 split at h
 · rename_i fs hfs; exact absurd hfs (hu.1 fs)
 · rename_i m e hfs; exact absurd hfs (hu.2 m e)
 · cases v <;> first | rfl | skip
   all_goals
     unfold Cell.okWide at h
     split at h <;> simp_all
     unfold Cell.ok at h
     split at h <;> simp_all
theorem okK_i64 {x : Int} (h : okK (some .i64) x) : -9223372036854775808 <= x /\ x <= 9223372036854775807 := by
 simp [okK, Lit.wf, IntKind.min, IntKind.max, IntKind.signed, IntKind.bits] at h
 omega
end Go.Proofs.YtmhhdedekblbnaaGreat
