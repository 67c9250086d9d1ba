/-
  Functions with one range over a function: the evaluator walks what stands ahead of it, its rounds, and what stands behind it.
  Conditions: those of each theorem; the iterator hands on all it has, the body never leaves.
-/
import Derived.Test.YtfhidjldmopbgaaRF
set_option linter.unusedVariables false
set_option linter.unusedSimpArgs false
namespace Go.Proofs.Ytfhidjldmopbgaa.Ev
open Go.RowKit
variable {F : Type}

/-- Codes, one after another. -/
def seqs : List Code → Code → Code
  | [], d => d
  | x :: xs, d => .seq x (seqs xs d)
def evCs (c : Ctx F) (fuel nt : Nat) : List Code → List (Nat × AV F) → List (Nat × Blk F) → Nat → Pth → Option (ResC F)
  | [], tm, hp, nx, path => some ⟨.normal, tm, hp, nx, path, []⟩
  | x :: xs, tm, hp, nx, path => match evC c fuel nt [] x tm hp nx path with
    | some r => match r.ex with
      | .normal => match evCs c fuel nt xs r.tm r.hp r.nx r.path with
        | some r' => some ⟨r'.ex, r'.tm, r'.hp, r'.nx, r'.path, r.cd ++ r'.cd⟩
        | none => none
      | _ => none
    | none => none
theorem evCs_sound {P : Program} {I : Interp F} {c : Ctx F} (hC : CtxOk P I c) (hmix : P.follows .mixedOrders = true) (hl : c.lps = []) {w0 : Start} {ds : List Deferred} {nt fuel : Nat} {d : Code} {Q : Exit → Act → World → Prop} :
    ∀ (xs : List Code) (tm : List (Nat × AV F)) (hp : List (Nat × Blk F)) (nx : Nat) (path : Pth) (r : ResC F), evCs c fuel nt xs tm hp nx path = some r → (∀ p ∈ r.cd, p.1 = p.2) →
      ∀ (E : Env F) (a : Act) (w : World), Tms ds E nt tm a → Mem I w0 E hp w → Free nx E → (∀ E' a' w', Tms ds E' nt r.tm a' → Mem I w0 E' r.hp w' → Free r.nx E' → E.le E' → d.wpIn (Fr none) 0 P Q a' w') → (seqs xs d).wpIn (Fr none) 0 P Q a w
  | [], tm, hp, nx, path, r, h, hc, E, a, w, ht, hm, hf, hd => by
    cases h
    exact hd E a w ht hm hf (.refl E)
  | x :: xs, tm, hp, nx, path, r, h, hc, E, a, w, ht, hm, hf, hd => by
    simp only [evCs] at h
    split at h
    · rename_i r1 hr1
      split at h
      · rename_i hex
        split at h
        · rename_i r2 hr2
          cases h
          refine wpIn_seq ?_
          refine (evC_sound hC hmix fuel none ds nt [] x x rfl (by rw [hl]; exact lps_nil) tm hp nx path r1 hr1 (fun p hp => hc p (List.mem_append_left _ hp))).1 E a w _ ht hm hf fun E' a' w' q1 q2 q3 q4 => ?_
          rw [hex]
          exact evCs_sound hC hmix hl xs _ _ _ _ r2 hr2 (fun p hp => hc p (List.mem_append_right _ hp)) E' a' w' q1 q2 q3 fun E'' a'' w'' s1 s2 s3 s4 => hd E'' a'' w'' s1 s2 s3 (q4.trans s4)
        · cases h
      · cases h
    · cases h
theorem evCs_sound2 {P : Program} {I : Interp F} {c : Ctx F} (hC : CtxOk P I c) (hmix : P.follows .mixedOrders = true) (hl : c.lps = []) {w0 : Start} {ds : List Deferred} {nt fuel : Nat} {pr d rest : Code} {Q : Exit → Act → World → Prop} :
    ∀ (xs : List Code) (tm : List (Nat × AV F)) (hp : List (Nat × Blk F)) (nx : Nat) (path : Pth) (r : ResC F), evCs c fuel nt (xs ++ [pr]) tm hp nx path = some r → (∀ p ∈ r.cd, p.1 = p.2) →
      ∀ (E : Env F) (a : Act) (w : World), Tms ds E nt tm a → Mem I w0 E hp w → Free nx E → (∀ E' a' w', Tms ds E' nt r.tm a' → Mem I w0 E' r.hp w' → Free r.nx E' → E.le E' → d.wpIn (Fr none) 0 P (Exit.then (rest.wpIn (Fr none) 0 P Q) Q) a' w') → (seqs xs (.seq (.seq pr d) rest)).wpIn (Fr none) 0 P Q a w
  | [], tm, hp, nx, path, r, h, hc, E, a, w, ht, hm, hf, hd => wpIn_seq (evCs_sound hC hmix hl (d := d) [pr] tm hp nx path r h hc E a w ht hm hf hd)
  | x :: xs, tm, hp, nx, path, r, h, hc, E, a, w, ht, hm, hf, hd => by
    simp only [List.cons_append, evCs] at h
    split at h
    · rename_i r1 hr1
      split at h
      · rename_i hex
        split at h
        · rename_i r2 hr2
          cases h
          refine wpIn_seq ?_
          refine (evC_sound hC hmix fuel none ds nt [] x x rfl (by rw [hl]; exact lps_nil) tm hp nx path r1 hr1 (fun p hp => hc p (List.mem_append_left _ hp))).1 E a w _ ht hm hf fun E' a' w' q1 q2 q3 q4 => ?_
          rw [hex]
          exact evCs_sound2 hC hmix hl xs _ _ _ _ r2 hr2 (fun p hp => hc p (List.mem_append_right _ hp)) E' a' w' q1 q2 q3 fun E'' a'' w'' s1 s2 s3 s4 => hd E'' a'' w'' s1 s2 s3 (q4.trans s4)
        · cases h
      · cases h
    · cases h
theorem free_facts {h : F → Value → Prop} {n : Nat} : Free n (Env.facts h) := fun b _ => ⟨rfl, fun _ => rfl, fun _ => rfl⟩

theorem rng_calls {α : Type} {P : Program} {I : Interp F} {c : Ctx F} (hC : CtxOk P I c) (hmix : P.follows .mixedOrders = true) (hcalm : Calm I) (hl : c.lps = []) (hbase : I.base = 0) {f : FuncId} {fn : Func} (hf : P.funcs[f]? = some fn)
    {pre : List Code} {pr : Code} {bid : Nat} {g p : Tmp} {assign body rest : Code} (hb : fn.body = some (seqs pre (.seq (.seq pr (.block bid (.rangeFunc (.tmp g) #[p] assign body))) rest)))
    {args : List (AV F)} {us : List Value} {w : World} {h : F → Value → Prop} (hh : ∀ q v, h q v → I.hv q (fun _ _ => False) w v) (hn : Nat.ble args.length fn.ntmps = true) (ha : All2 (AV.R (Env.facts h)) args us)
    {fuel : Nat} {q0 : Pth} {r0 : ResC F} (h0 : evCs c fuel fn.ntmps (pre ++ [pr]) (argsT args 0) [] 0 q0 = some r0) (hc0 : ∀ q ∈ r0.cd, q.1 = q.2)
    {it : AV F} (hit : look g r0.tm = some it) {ev : α → Value} {av : α → AV F} (hav : ∀ x, (av x).val = some (ev x)) {xs : List α} {N : Nat}
    (hseq : ∀ (hp : List (Nat × Blk F)) (E : Env F) (w0 : Start) (w1 : World) (v : Value), Below w.heap.size w w1 → Mem I w0 E hp w1 → it.R E v → ∃ gf lb, v = .func (.func gf) #[] lb ∧ (∀ args w, (callFunc gf args).run P w = .ok (.enter gf args) w) ∧ SeqAll P gf lb (fun x => #[ev x]) w.heap.size xs N w1)
    {tm : List (Nat × AV F)} {hpP : List α → List (Nat × Blk F)} {mP : List α → Nat} (hmP : ∀ pre, mP [] ≤ mP pre) (htm : ∀ e ∈ tm, look e.1 r0.tm = some e.2 ∧ e.2.low (mP []) = true)
    (hhp : ∀ e ∈ hpP [], look e.1 r0.hp = some e.2 ∧ Nat.blt e.1 (mP []) = true ∧ e.2.cs.all (AC.low (mP [])) = true) (hpnt : p < fn.ntmps)
    (hround : ∀ pre x, pre.length < N → ∃ fuel path r, evC c fuel fn.ntmps [] (.seq assign body) ((p, av x) :: tm) (hpP pre) (mP pre) path = some r ∧ (∀ q ∈ r.cd, q.1 = q.2) ∧ r.ex = .normal ∧
      ∀ e ∈ hpP (pre ++ [x]), look e.1 r.hp = some e.2 ∧ Nat.blt e.1 (mP (pre ++ [x])) = true ∧ e.2.cs.all (AC.low (mP (pre ++ [x]))) = true)
    {fuel2 : Nat} {q2 : Pth} {r2 : ResC F} (h2 : evC c fuel2 fn.ntmps [] rest tm (hpP xs) (mP xs) q2 = some r2) (hc2 : ∀ q ∈ r2.cd, q.1 = q.2) (hex : ∀ id, r2.ex ≠ .exit id) {l : List (AW F)} (hres : ressOf c r2.tm r2.hp fn.results.toList = some l) {v : Value} (hv : (oneOrAll l).val = some v) :
    Calls P f us.toArray w fun e w' => e = .returned v ∧ Below w.heap.size w w' := by
  refine (callsIn_wide (n := 0)).1 (callsIn_of_wp_marks hf hb trivial ?_ rfl)
  show Code.wpIn (Fr none) 0 P _ _ _ w
  have hlen := ha.length
  have hn := Nat.le_of_ble_eq_true hn
  have ht : Tms [] (Env.facts h) fn.ntmps (argsT args 0) { tmps := us.toArray ++ Array.replicate (fn.ntmps - us.toArray.size) undef, defers := [] } := by
    refine ⟨fun j v hj => ?_, by simp; omega, rfl⟩
    obtain ⟨_, u, g1, g2⟩ := argsT_get 0 ha j v hj
    refine ⟨u, ?_, g2⟩
    have hlt : j < us.length := (List.getElem?_eq_some_iff.1 g1).1
    rw [Array.getElem?_append_left (by simpa using hlt)]
    simpa using g1
  have own0 : ∀ k, ¬ (Env.facts h).ran k := fun k ⟨b, hb⟩ => own_facts hb
  refine evCs_sound2 hC hmix hl pre _ _ _ _ r0 h0 hc0 (Env.facts h) _ w ht (facts_mem hbase hh) free_facts fun E1 a1 w1 t1 m1 f1 le1 => ?_
  obtain ⟨u, hu, huR⟩ := t1.tm g it hit
  have hBel : Below w.heap.size w w1 := ⟨m1.kept.os, m1.kept.tape, m1.kept.output, m1.kept.size, fun k hk => m1.kept.block k hk (own0 k)⟩
  obtain ⟨gf, lb, rfl, eg, hs⟩ := hseq _ E1 _ w1 u hBel m1 huR
  have mc := m1.cut (mP []) (hp' := hpP []) fun b blk hb => hhp _ (look_mem hb)
  have tc : Tms [] (E1.cut (mP [])) fn.ntmps tm a1 := ⟨fun i x hx => by
    obtain ⟨z1, z2⟩ := htm _ (look_mem hx)
    obtain ⟨u, y1, y2⟩ := t1.tm i x z1
    exact ⟨u, y1, AV.low_R z2 y2⟩, t1.sz, t1.df⟩
  refine wpIn_block ?_
  have hg : a1.eval (.tmp g) = .func (.func gf) #[] lb := by
    show a1.tmps.getD g undef = _
    rw [Array.getD_eq_getD_getElem?, hu]; rfl
  refine rf_ok hC hmix hcalm (by rw [hl]; exact lps_nil) hmP hpnt hav hround hg eg own0 hs (Below.refl _ _) tc mc (E1.cut_free _) (fun _ _ => rfl) ?_
  intro E2 w2 D le2 t2 m2 f2 hD hDs hnD
  show Code.wpIn (Fr none) 0 P rest _ _ _
  refine (evC_sound hC hmix fuel2 none _ fn.ntmps [] rest rest rfl (by rw [hl]; exact lps_nil) tm (hpP xs) (mP xs) q2 r2 h2 hc2).1 E2 _ w2 _ t2 m2.here f2 fun E3 a3 w3 t3 m3 f3 le3 => ?_
  have hDl : D < w2.heap.size := (Array.getElem?_eq_some_iff.1 hD).1
  have hD3 : w3.heap[D]? = some (.deferred (some [])) := (m3.kept.block D hDl hnD).trans hD
  have m4 := m2.trans m3
  have hnD3 : ¬ E3.ran D := fun ⟨b, hb⟩ => (m3.new b D hb).elim hnD (fun h => absurd hDl (Nat.not_lt.2 h))
  have m5 := m4.grown hcalm (grownBy_putObj' w3 D (.deferred none)) (fun r e => by cases e; exact ⟨hDs, hnD3, _, hD3, rfl⟩)
  obtain ⟨vs, s1, s2⟩ := ressOf_R (P := P) hC.tab t3 m5 hres
  have hres' : (results fn a3.tmps).run P (w3.putObj D (.deferred none)) = .ok (if h : vs.toArray.size = 1 then vs.toArray[0] else .tuple vs.toArray) (w3.putObj D (.deferred none)) := by
    unfold results
    rw [Array.mapM_eq_mapM_toList]
    simp only [Sem.run_bind, Sem.run_map]
    have s1' : (List.mapM (fun (x : ResultVar) => (match x with | .tmp t => pure (a3.tmps.getD t undef) | .cell a t => do loadVar t (← asAddr (a3.tmps.getD a undef)) : Sem Value)) fn.results.toList).run P (w3.putObj D (.deferred none)) = .ok vs (w3.putObj D (.deferred none)) := s1
    erw [s1']
    rfl
  have hval := AV.val_R hv (oneOrAll_R s2)
  have hB5 : Below w.heap.size w (w3.putObj D (.deferred none)) := ⟨m5.kept.os, m5.kept.tape, m5.kept.output, m5.kept.size, fun k hk => m5.kept.block k hk (own0 k)⟩
  have key : LeavesInM (Fr none) 0 P fn a3.tmps (fun e w' => e = .returned v ∧ Below w.heap.size w w') a3.defers .returning w3 := by
    rw [t3.df]
    exact ⟨by simp, .inl ⟨_, _, rfl, run_takeDeferred hD3, _, hres', by rw [hval], hB5⟩⟩
  cases he : r2.ex with
  | normal => exact key
  | ret => exact key
  | exit id => exact absurd he (hex id)
/-! ### As the kernel runs it -/
def seqGet : Nat → Code → Code
  | 0, .seq x _ => x
  | n + 1, .seq _ y => seqGet n y
  | _, c => c
def seqRest : Nat → Code → Code
  | 0, c => c
  | n + 1, .seq _ y => seqRest n y
  | _, c => c
def evP (c : Ctx F) (nt : Nat) (pre : List Code) (args : List (AV F)) (ts ks : List Nat) (path : List Bool) : Option ((List (AV F) × List (Blk F)) × List (Bool × Bool)) :=
  match evCs c 400 nt pre (argsT args 0) [] 0 (.fix path) with
  | some r => match r.path with
    | .fix [] => match lookT r.tm ts with
      | some vs => match looks r.hp ks with
        | some bl => some ((vs, bl), r.cd)
        | none => none
      | none => none
    | _ => none
  | none => none
def evT (c : Ctx F) (fn : Func) (code : Code) (tm : List (Nat × AV F)) (hp : List (Nat × Blk F)) (m : Nat) (path : List Bool) : Option (AV F × List (Bool × Bool)) :=
  match evC c 400 fn.ntmps [] code tm hp m (.fix path) with
  | some r => match r.path with
    | .fix [] => match r.ex with
      | .exit _ => none
      | _ => match ressOf c r.tm r.hp fn.results.toList with
        | some l => some (oneOrAll l, r.cd)
        | none => none
    | _ => none
  | none => none
theorem rng_view {α : Type} {P : Program} {I : Interp F} {c : Ctx F} (hC : CtxOk P I c) (hmix : P.follows .mixedOrders = true) (hcalm : Calm I) (hl : c.lps = []) (hbase : I.base = 0) {f : FuncId} {fn : Func} (hf : P.funcs[f]? = some fn)
    {pre : List Code} {pr : Code} {bid : Nat} {g p : Tmp} {assign body rest : Code} (hb : fn.body = some (seqs pre (.seq (.seq pr (.block bid (.rangeFunc (.tmp g) #[p] assign body))) rest)))
    {args : List (AV F)} {us : List Value} {w : World} {h : F → Value → Prop} (hh : ∀ q v, h q v → I.hv q (fun _ _ => False) w v) (hn : Nat.ble args.length fn.ntmps = true) (ha : All2 (AV.R (Env.facts h)) args us)
    {ts ks : List Nat} {q0 : List Bool} {vs : List (AV F)} {bl : List (Blk F)} {cd0 : List (Bool × Bool)} (h0 : evP c fn.ntmps (pre ++ [pr]) args ts ks q0 = some ((vs, bl), cd0)) (hc0 : ∀ q ∈ cd0, q.1 = q.2)
    {it : AV F} (hit : look g (ts.zip vs) = some it) {ev : α → Value} {av : α → AV F} (hav : ∀ x, (av x).val = some (ev x)) {xs : List α} {N : Nat}
    (hseq : ∀ (hp : List (Nat × Blk F)) (E : Env F) (w0 : Start) (w1 : World) (v : Value), Below w.heap.size w w1 → Mem I w0 E hp w1 → it.R E v → ∃ gf lb, v = .func (.func gf) #[] lb ∧ (∀ args w, (callFunc gf args).run P w = .ok (.enter gf args) w) ∧ SeqAll P gf lb (fun x => #[ev x]) w.heap.size xs N w1)
    {hpP : List α → List (Nat × Blk F)} {mP : List α → Nat} (hmP : ∀ pre, mP [] ≤ mP pre) (htm : (ts.zip vs).all (fun e => e.2.low (mP [])) = true) (hhp : hpP [] = ks.zip bl)
    (hlow : (hpP []).all (fun e => Nat.blt e.1 (mP []) && e.2.cs.all (AC.low (mP []))) = true) (hpnt : p < fn.ntmps)
    (hround : ∀ pre x, pre.length < N → ∃ fuel path r, evC c fuel fn.ntmps [] (.seq assign body) ((p, av x) :: ts.zip vs) (hpP pre) (mP pre) path = some r ∧ (∀ q ∈ r.cd, q.1 = q.2) ∧ r.ex = .normal ∧
      ∀ e ∈ hpP (pre ++ [x]), look e.1 r.hp = some e.2 ∧ Nat.blt e.1 (mP (pre ++ [x])) = true ∧ e.2.cs.all (AC.low (mP (pre ++ [x]))) = true)
    {q2 : List Bool} {x : AV F} {cd2 : List (Bool × Bool)} (h2 : evT c fn rest (ts.zip vs) (hpP xs) (mP xs) q2 = some (x, cd2)) (hc2 : ∀ q ∈ cd2, q.1 = q.2) {v : Value} (hv : x.val = some v) :
    Calls P f us.toArray w fun e w' => e = .returned v ∧ Below w.heap.size w w' := by
  unfold evP at h0
  split at h0
  · rename_i r0 hr0
    split at h0
    · rename_i hp0
      split at h0
      · rename_i vs' hvs
        split at h0
        · rename_i bl' hbl
          simp only [Option.some.injEq, Prod.mk.injEq] at h0
          obtain ⟨⟨rfl, rfl⟩, rfl⟩ := h0
          unfold evT at h2
          split at h2
          · rename_i r2 hr2
            split at h2
            · have hex : ∀ id, r2.ex ≠ .exit id := fun id e => by rw [e] at h2; cases h2
              have h3 : ∃ l, ressOf c r2.tm r2.hp fn.results.toList = some l ∧ x = oneOrAll l ∧ cd2 = r2.cd := by
                split at h2
                · cases h2
                · split at h2
                  · rename_i l hl; cases h2; exact ⟨l, hl, rfl, rfl⟩
                  · cases h2
              obtain ⟨l, hl3, rfl, rfl⟩ := h3
              refine rng_calls hC hmix hcalm hl hbase hf hb hh hn ha hr0 hc0 (lookT_zip hvs _ (look_mem hit)) hav hseq hmP (tm := ts.zip vs') (hpP := hpP) (fun e he => ⟨lookT_zip hvs e he, (List.all_eq_true.1 htm) e he⟩)
                (fun e he => ⟨looks_zip hbl e (by rw [← hhp]; exact he), ?_⟩) hpnt hround hr2 hc2 hex hl3 hv
              have := (List.all_eq_true.1 hlow) e he
              simpa only [Bool.and_eq_true] using this
            · cases h2
          · cases h2
        · cases h0
      · cases h0
    · cases h0
  · cases h0
end Go.Proofs.Ytfhidjldmopbgaa.Ev

