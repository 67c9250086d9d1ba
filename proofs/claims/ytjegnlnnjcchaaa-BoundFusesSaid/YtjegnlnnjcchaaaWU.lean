/-
  The walk of the law BoundFuses.
  Conditions: those of each theorem.
-/
import Derived.Test.YtjegnlnnjcchaaaUL
import Derived.Test.YtjegnlnnjcchaaaGO
set_option linter.unusedVariables false
set_option linter.unusedSimpArgs false
namespace Go.Proofs.Ytjegnlnnjcchaaa.AtBr
open Ev Go.RowKit Go.Shelf Zd Wd
open Go.Proofs.Ytjegnlnnjcchaaa
noncomputable section

theorem cvT_ok : ∀ (q : Nm) (l : List (List Int)), cvT q = some l → ∀ D w v, numI.hv q D w v → tabHv (fun _ _ => False) w v Fs.bk l := by
  intro q l h D w v hv
  unfold cvT at h
  split at h
  · cases h
    exact tabHv.keep (base := 0) (safe := fun _ => true) (show tabHv D w v Fs.bk l from hv) (fun _ _ _ h => h.elim) (fun _ _ => .inl rfl)
  · cases h
noncomputable abbrev libUL : List (Nat × FnSp Nm) := [(16, sp0 (aBool true)), (53, Fs.tabSp cvT Fs.bk Fs.gVo), (54, Fs.tabSp cvT Fs.bk Fs.gFu), (52, factSp gSp)]
noncomputable abbrev lpsUL : Lps Nm := [((114, [false, true, false, true, true, true, true]), cnD.sp nmSafe), ((114, [false, true, false, true, true, true, true, true, true]), wlD.sp nmSafe)]
abbrev eqUL : TypeId → Bool := fun t => Nat.beq t 24
theorem libUL_ok : LibOk Try.prog numI (lib1 libUL) := (lib1_cons (sp0_ok rfl bounds_pl) Try.call16 (lib1_cons (Fs.votesSp_ok cvT_ok) Try.call53 (lib1_cons (Fs.fuseSp_ok cvT_ok) Try.call54 (lib1_cons gSp_ok Try.call52 (lib1_nil _ _)))))
theorem lpsUL_ok : LpsOk Try.prog numI lpsUL Try.f8.ntmps (bodyOf Try.f8) := lps_cons (fun _ x hx => cnD_ok x hx) (lps_cons (fun _ x hx => wlD_ok x hx) lps_nil)
theorem eqUL_ok : EqOk Try.prog (tabOf Try.prog) eqUL := eq_of fun t ht => by
  have ht : (Nat.beq t 24) = true := ht
  have := Nat.eq_of_beq_eq_true ht
  subst this
  exact ⟨by kernel_rfl, by kernel_rfl, by kernel_rfl⟩
/-! ### The law's own search is what Fuse returns -/
def Good (X : Int → Prop) : Option (Int × Int) → Prop
  | none => ∀ x, ¬ X x
  | some p => X p.1 ∧ X p.2 ∧ ∀ x, X x → p.1 ≤ x ∧ x ≤ p.2
theorem Good.ext {X Y : Int → Prop} {w : Option (Int × Int)} (h : Good X w) (e : ∀ y, X y ↔ Y y) : Good Y w := by
  have : X = Y := funext fun y => propext (e y)
  subst this
  exact h
theorem mnW_is (a x : Int) : mnW a x ≤ a ∧ mnW a x ≤ x ∧ (mnW a x = a ∨ mnW a x = x) := by
  unfold mnW
  simp only [cond_false]
  split <;> omega
theorem mxW_is (a x : Int) : a ≤ mxW a x ∧ x ≤ mxW a x ∧ (mxW a x = a ∨ mxW a x = x) := by
  unfold mxW
  simp only [cond_true]
  split <;> omega
theorem put_good {U : List (List Int)} {d : Int} {w : Option (Int × Int)} {X : Int → Prop} (h : Good X w) (x : Int) : Good (fun y => X y ∨ (y = x ∧ d ≤ spV U y)) (putW U d w x) := by
  unfold putW
  by_cases hx : spV U x < d
  · rw [if_pos hx]
    refine h.ext fun y => ⟨.inl, fun q => ?_⟩
    rcases q with q | ⟨rfl, q⟩
    · exact q
    · omega
  · rw [if_neg hx]
    cases w with
    | none =>
      obtain ⟨m1, m2, m3⟩ := mnW_is x x
      obtain ⟨n1, n2, n3⟩ := mxW_is x x
      have e1 : mnW x x = x := by omega
      have e2 : mxW x x = x := by omega
      show Good _ (some (mnW x x, mxW x x))
      rw [e1, e2]
      have hd : d ≤ spV U x := by omega
      refine ⟨.inr ⟨rfl, hd⟩, .inr ⟨rfl, hd⟩, fun y q => ?_⟩
      rcases q with q | ⟨rfl, _⟩
      · exact (h y q).elim
      · exact ⟨Int.le_refl _, Int.le_refl _⟩
    | some p =>
      obtain ⟨g1, g2, g3⟩ := h
      obtain ⟨m1, m2, m3⟩ := mnW_is p.1 x
      obtain ⟨n1, n2, n3⟩ := mxW_is p.2 x
      have hd : d ≤ spV U x := by omega
      refine ⟨?_, ?_, fun y q => ?_⟩
      · show X (mnW p.1 x) ∨ (mnW p.1 x = x ∧ d ≤ spV U (mnW p.1 x))
        rcases m3 with e | e
        · rw [e]; exact .inl g1
        · rw [e]; exact .inr ⟨rfl, hd⟩
      · show X (mxW p.2 x) ∨ (mxW p.2 x = x ∧ d ≤ spV U (mxW p.2 x))
        rcases n3 with e | e
        · rw [e]; exact .inl g2
        · rw [e]; exact .inr ⟨rfl, hd⟩
      · show mnW p.1 x ≤ y ∧ y ≤ mxW p.2 x
        rcases q with q | ⟨rfl, _⟩
        · have := g3 y q; omega
        · exact ⟨m2, n2⟩
theorem fold_good {U : List (List Int)} {f k : Int} (h0 : 0 ≤ f) (h1 : f < k) : ∀ (L : List (List Int)) (w : Option (Int × Int)) (X : Int → Prop), Good X w →
    Good (fun y => X y ∨ ∃ b ∈ Fs.knsOf L, (y = b.lo ∨ y = b.hi) ∧ k - f ≤ spV U y) (L.foldl (stW U f k) w)
  | [], w, X, h => by
    refine h.ext fun y => ⟨.inl, fun q => ?_⟩
    rcases q with q | ⟨b, hb, _⟩
    · exact q
    · cases hb
  | r :: L, w, X, h => by
    rw [List.foldl_cons]
    cases hk : knB (Fs.toBd r) with
    | false =>
      have e : stW U f k w r = w := if_neg (by rw [hk]; simp)
      rw [e]
      refine (fold_good h0 h1 L w X h).ext fun y => ?_
      rw [kns_cons, hk]
      simp
    | true =>
      have e : stW U f k w r = putW U (k - f) (putW U (k - f) w (r.getD 0 0)) (r.getD 1 0) := if_pos ⟨hk, h0, h1⟩
      rw [e]
      refine (fold_good h0 h1 L _ _ (put_good (put_good h (r.getD 0 0)) (r.getD 1 0))).ext fun y => ?_
      rw [kns_cons, hk, if_pos rfl]
      simp only [List.mem_cons, exists_eq_or_imp, show (Fs.toBd r).lo = r.getD 0 0 from rfl, show (Fs.toBd r).hi = r.getD 1 0 from rfl]
      constructor
      · rintro ((( q | ⟨q, q2⟩) | ⟨q, q2⟩) | q)
        · exact .inl q
        · exact .inr (.inl ⟨.inl q, q2⟩)
        · exact .inr (.inl ⟨.inr q, q2⟩)
        · exact .inr (.inr q)
      · rintro (q | (⟨q | q, q2⟩ | q))
        · exact .inl (.inl (.inl q))
        · exact .inl (.inl (.inr ⟨q, q2⟩))
        · exact .inl (.inr ⟨q, q2⟩)
        · exact .inr q
theorem fold_none {U : List (List Int)} {f k : Int} (h : f < 0 ∨ k ≤ f) : ∀ (L : List (List Int)) (w : Option (Int × Int)), L.foldl (stW U f k) w = w
  | [], w => rfl
  | r :: L, w => by
    rw [List.foldl_cons, show stW U f k w r = w from if_neg (by rintro ⟨_, h1, h2⟩; omega)]
    exact fold_none h L w
theorem want_fuse (T : List (List Int)) (f : Int) : Fs.fuseB T f = match T.foldl (stW T f ((Fs.knsOf T).length : Int)) none with
    | none => noneB
    | some p => ⟨p.1, p.2, false⟩ := by
  by_cases hf : f < 0 ∨ ((Fs.knsOf T).length : Int) ≤ f
  · rw [fold_none hf, Fs.fuse_none T hf]
  · have h0 : 0 ≤ f := by omega
    have h1 : f < (Fs.knsOf T).length := by omega
    have G := fold_good (U := T) h0 h1 T none (fun _ => False) (fun x h => h)
    have S := Fs.fuse_spec T h0 h1
    generalize T.foldl (stW T f ((Fs.knsOf T).length : Int)) none = w at G
    cases w with
    | none =>
      rcases S with ⟨lo, hi, e, _, ⟨b, hb, rfl⟩, _, a1, _, _⟩ | ⟨e, _⟩
      · exact (G b.lo (.inr ⟨b, hb, .inl rfl, a1⟩)).elim
      · exact e
    | some p =>
      obtain ⟨g1, g2, g3⟩ := G
      have ad : ∀ y, (False ∨ ∃ b ∈ Fs.knsOf T, (y = b.lo ∨ y = b.hi) ∧ ((Fs.knsOf T).length : Int) - f ≤ spV T y) → ((Fs.knsOf T).length : Int) - f ≤ Fs.vt (Fs.knsOf T) y := by
        rintro y (q | ⟨b, hb, _, q⟩)
        · exact q.elim
        · exact q
      rcases S with ⟨lo, hi, e, _, ⟨b, hb, hlo⟩, ⟨c, hc, hhi⟩, a1, a2, a3⟩ | ⟨_, e⟩
      · have x1 := a3 _ (ad _ g1)
        have x2 := a3 _ (ad _ g2)
        have y1 := g3 lo (.inr ⟨b, hb, .inl hlo.symm, a1⟩)
        have y2 := g3 hi (.inr ⟨c, hc, .inr hhi.symm, a2⟩)
        rw [e]
        have e1 : p.1 = lo := by omega
        have e2 : p.2 = hi := by omega
        show (⟨lo, hi, false⟩ : Bd) = ⟨p.1, p.2, false⟩
        rw [e1, e2]
      · have := ad _ g1
        have := e p.1
        omega
set_option maxRecDepth 100000 in
theorem bfu_01 (T : List (List Int)) (v : Int) (f : Int) : evR (ctxLp Try.prog numI eqUL libUL [] lpsUL) Try.f8 [(.w (.one (.fv (.tab [some .i64, some .i64, none] T)))), (.w (.one (.int .i64 v))), (.w (.one (.int .i64 f)))] [false, true] = some (AV.w (AW.one (AC.yes true)), (pickL [(!true, false), (decide (lenT T > 300), true)] [0, 1])) := by kernel_rfl
set_option maxRecDepth 100000 in
theorem bfu_0011 (T : List (List Int)) (v : Int) (f : Int) : evR (ctxLp Try.prog numI eqUL libUL [] lpsUL) Try.f8 [(.w (.one (.fv (.tab [some .i64, some .i64, none] T)))), (.w (.one (.int .i64 v))), (.w (.one (.int .i64 f)))] [false, false, true, true] = some (AV.w (AW.one (AC.bool ((Fs.fuseB T f).lo == ((List.foldl (stW T f ((Fs.knsOf T).length : Int)) none T).getD (0, 0)).fst && ((Fs.fuseB T f).hi == ((List.foldl (stW T f ((Fs.knsOf T).length : Int)) none T).getD (0, 0)).snd && ((Fs.fuseB T f).u == false && true))))), (pickL [(!true, false), (decide (lenT T > 300), false), (decide ((0 : Int) = 0) && decide (lenT T = lenT T) && decide (lenT T ≤ 34359738368) && decide ((0 : Int) = 0), true), ((List.foldl (stW T f ((Fs.knsOf T).length : Int)) none T).isSome, true), (decide ((0 : Int) = 0) && decide (lenT T = lenT T) && decide (lenT T ≤ 34359738368) && decide (0 ≤ ((Fs.knsOf T).length : Int)) && decide (((Fs.knsOf T).length : Int) ≤ 34359738368) && i64B f && decide (T = T) && decide ((none : Option (Int × Int)) = none), true), (decide (T.length ≤ 34359738368), true), (decide (lenT T ≤ 34359738368), true), (i64B v, true), (Fs.votesN T v == spV T v, true)] [0, 1, 2, 3, 4, 5, 6, 7, 8, 8, 8, 5, 8, 8, 8])) := by kernel_rfl
set_option maxRecDepth 100000 in
theorem bfu_0001 (T : List (List Int)) (v : Int) (f : Int) : evR (ctxLp Try.prog numI eqUL libUL [] lpsUL) Try.f8 [(.w (.one (.fv (.tab [some .i64, some .i64, none] T)))), (.w (.one (.int .i64 v))), (.w (.one (.int .i64 f)))] [false, false, false, true] = some (AV.w (AW.one (AC.bool ((Fs.fuseB T f).lo == 0 && ((Fs.fuseB T f).hi == 0 && ((Fs.fuseB T f).u == true && true))))), (pickL [(!true, false), (decide (lenT T > 300), false), (decide ((0 : Int) = 0) && decide (lenT T = lenT T) && decide (lenT T ≤ 34359738368) && decide ((0 : Int) = 0), true), ((List.foldl (stW T f ((Fs.knsOf T).length : Int)) none T).isSome, false), (decide ((0 : Int) = 0) && decide (lenT T = lenT T) && decide (lenT T ≤ 34359738368) && decide (0 ≤ ((Fs.knsOf T).length : Int)) && decide (((Fs.knsOf T).length : Int) ≤ 34359738368) && i64B f && decide (T = T) && decide ((none : Option (Int × Int)) = none), true), (decide (T.length ≤ 34359738368), true), (decide (lenT T ≤ 34359738368), true), (i64B v, true), (Fs.votesN T v == spV T v, true)] [0, 1, 2, 3, 4, 5, 6, 7, 8, 8, 8, 5, 8, 8, 8])) := by kernel_rfl
set_option maxHeartbeats 4000000 in
theorem bfu_walk (W : World) (T : List (List Int)) (u : Value) (hu : tabHv (fun _ _ => False) W u [some .i64, some .i64, none] T) (hT : okRows [some .i64, some .i64, none] T) (v : Int) (hv : okK (some .i64) v) (f : Int) (hf : okK (some .i64) f) :
    Calls Try.prog 8 #[u, .int .i64 v, .int .i64 f] W fun e w' => e = .returned (.bool true) ∧ Below W.heap.size W w' := by
  have go : ∀ {path : List Bool} {b : Bool} {x : AV Nm} {cd : List (Bool × Bool)}, evR (ctxLp Try.prog numI eqUL libUL [] lpsUL) Try.f8 [(.w (.one (.fv (.tab [some .i64, some .i64, none] T)))), (.w (.one (.int .i64 v))), (.w (.one (.int .i64 f)))] path = some (x, cd) → x.val = some (.bool b) → b = true → (∀ p ∈ cd, p.1 = p.2) →
      Calls Try.prog 8 #[u, .int .i64 v, .int .i64 f] W fun e w' => e = .returned (.bool true) ∧ Below W.heap.size W w' := by
    intro path b x cd L hx hb hc
    subst hb
    exact law_facts (I := numI) (h := fun q y => q = .tab [some .i64, some .i64, none] T ∧ y = u) (v := .bool true) (ctxLp_ok libUL_ok eqUL_ok (fns_nil _) (fun f fn h => by cases h)) (by kernel_rfl) Try.func8 rfl lpsUL_ok rfl (fun q y hq => by obtain ⟨rfl, rfl⟩ := hq; exact hu) L rfl (.cons ⟨rfl, rfl⟩ (.cons rfl (.cons rfl .nil))) hx hc
  have s1 : i64B v = true := i64B_iff.2 (okK_i64 hv)
  have s2 : i64B f = true := i64B_iff.2 (okK_i64 hf)
  cases h : decide (lenT T > 300) with
  | true =>
    refine go (bfu_01 T v f) rfl rfl (pickL_ok ?_ _)
    repeat' (first | exact cd_nil | refine cd_cons ?_ ?_)
    all_goals first | rfl | with_reducible assumption
  | false =>
    have h3 := of_decide_eq_false h
    have h4 : lenT T ≤ 300 := by omega
    have h5 : T.length ≤ 300 := by unfold lenT at h4; omega
    have hk : (Fs.knsOf T).length ≤ 300 := by
      unfold Fs.knsOf Fs.bdsOf
      exact Nat.le_trans (List.length_filter_le _ _) (by rw [List.length_map]; exact h5)
    have c1 : (decide ((0 : Int) = 0) && decide (lenT T = lenT T) && decide (lenT T ≤ 34359738368) && decide ((0 : Int) = 0)) = true := by
      rw [decide_eq_true (rfl : lenT T = lenT T), decide_eq_true (show lenT T ≤ 34359738368 by omega)]; rfl
    have c2 : (decide ((0 : Int) = 0) && decide (lenT T = lenT T) && decide (lenT T ≤ 34359738368) && decide (0 ≤ ((Fs.knsOf T).length : Int)) && decide (((Fs.knsOf T).length : Int) ≤ 34359738368) && i64B f && decide (T = T) && decide ((none : Option (Int × Int)) = none)) = true := by
      rw [decide_eq_true (rfl : lenT T = lenT T), decide_eq_true (show lenT T ≤ 34359738368 by omega), decide_eq_true (show 0 ≤ ((Fs.knsOf T).length : Int) by omega), decide_eq_true (show ((Fs.knsOf T).length : Int) ≤ 34359738368 by omega), s2, decide_eq_true (rfl : T = T), decide_eq_true (rfl : (none : Option (Int × Int)) = none)]; rfl
    have c3 : decide (T.length ≤ 34359738368) = true := decide_eq_true (by omega)
    have c4 : decide (lenT T ≤ 34359738368) = true := decide_eq_true (by omega)
    have c5 : (Fs.votesN T v == spV T v) = true := by rw [Fs.votes_vt]; unfold spV; simp
    have M := want_fuse T f
    cases hw : T.foldl (stW T f ((Fs.knsOf T).length : Int)) none with
    | none =>
      rw [hw] at M
      have hq : (T.foldl (stW T f ((Fs.knsOf T).length : Int)) none).isSome = false := by rw [hw]; rfl
      refine go (bfu_0001 T v f) rfl (by rw [M]; rfl) (pickL_ok ?_ _)
      repeat' (first | exact cd_nil | refine cd_cons ?_ ?_)
      all_goals first | rfl | with_reducible assumption
    | some p =>
      rw [hw] at M
      have hq : (T.foldl (stW T f ((Fs.knsOf T).length : Int)) none).isSome = true := by rw [hw]; rfl
      refine go (bfu_0011 T v f) rfl (by rw [M, hw]; simp) (pickL_ok ?_ _)
      repeat' (first | exact cd_nil | refine cd_cons ?_ ?_)
      all_goals first | rfl | with_reducible assumption
end
end Go.Proofs.Ytjegnlnnjcchaaa.AtBr

