/-
  clock.Agree and the reference's Agreed as functions of tables.
  Conditions: those of each theorem.
-/
import Derived.Test.YtjegnlnnjcchaaaA1
import Derived.Test.YtjegnlnnjcchaaaGO
set_option linter.unusedVariables false
set_option linter.unusedSimpArgs false
namespace Go.Proofs.Ytjegnlnnjcchaaa.AtCk
open Ev Go.RowKit Go.Shelf Zd Wd
open Go.Proofs.Ytjegnlnnjcchaaa
noncomputable section

def nlA (t : TypeId) : Option Nm := bif Nat.beq t 114 then some (.tab [some .i64, some .i64, none] []) else none
theorem nlA_ok : ∀ t g D w, nlA t = some g → numI.hv g D w (.slice none 0 0) := fun t g D w h => by
  unfold nlA at h
  cases hb : Nat.beq t 114 with
  | false => rw [hb] at h; cases h
  | true => rw [hb] at h; cases h; exact nil_tab _ D w
def rowA : Interp Nm := numI.rows nlA nlA_ok
noncomputable abbrev libA2 : List (Nat × FnSp Nm) := [(87, arrFSp AtTick.Fs.bk AtTick.Fs.gFu)]
noncomputable abbrev agLps : Lps Nm := [((51, [false, true, false, true, true, true, true]), agD.sp nmSafe)]
noncomputable abbrev adLps : Lps Nm := [((108, [false, true, false, true, true, true, true, true]), awD.sp nmSafe), ((108, [false, true, false, true, true, true, true, true, true, true, true]), asD.sp nmSafe)]
def Good (X : Int → Prop) : Option (Int × Int) → Prop
  | none => ∀ x, ¬ X x
  | some p => X p.1 ∧ X p.2 ∧ ∀ x, X x → p.1 ≤ x ∧ x ≤ p.2
theorem Good.ext {X Y : Int → Prop} {w : Option (Int × Int)} (h : Good X w) (e : ∀ y, X y ↔ Y y) : Good Y w := by
  have : X = Y := funext fun y => propext (e y)
  subst this
  exact h
theorem mnW_is (a x : Int) : mnW a x ≤ a ∧ mnW a x ≤ x ∧ (mnW a x = a ∨ mnW a x = x) := by
  unfold mnW
  simp only [cond_false]
  split <;> omega
theorem mxW_is (a x : Int) : a ≤ mxW a x ∧ x ≤ mxW a x ∧ (mxW a x = a ∨ mxW a x = x) := by
  unfold mxW
  simp only [cond_true]
  split <;> omega
theorem put_good {U : List (List Int)} {d : Int} {w : Option (Int × Int)} {X : Int → Prop} (h : Good X w) (x : Int) : Good (fun y => X y ∨ (y = x ∧ d ≤ spV U y)) (putW U d w x) := by
  unfold putW
  by_cases hx : spV U x < d
  · rw [if_pos hx]
    refine h.ext fun y => ⟨.inl, fun q => ?_⟩
    rcases q with q | ⟨rfl, q⟩
    · exact q
    · omega
  · rw [if_neg hx]
    cases w with
    | none =>
      obtain ⟨m1, m2, m3⟩ := mnW_is x x
      obtain ⟨n1, n2, n3⟩ := mxW_is x x
      have e1 : mnW x x = x := by omega
      have e2 : mxW x x = x := by omega
      show Good _ (some (mnW x x, mxW x x))
      rw [e1, e2]
      have hd : d ≤ spV U x := by omega
      refine ⟨.inr ⟨rfl, hd⟩, .inr ⟨rfl, hd⟩, fun y q => ?_⟩
      rcases q with q | ⟨rfl, _⟩
      · exact (h y q).elim
      · exact ⟨Int.le_refl _, Int.le_refl _⟩
    | some p =>
      obtain ⟨g1, g2, g3⟩ := h
      obtain ⟨m1, m2, m3⟩ := mnW_is p.1 x
      obtain ⟨n1, n2, n3⟩ := mxW_is p.2 x
      have hd : d ≤ spV U x := by omega
      refine ⟨?_, ?_, fun y q => ?_⟩
      · show X (mnW p.1 x) ∨ (mnW p.1 x = x ∧ d ≤ spV U (mnW p.1 x))
        rcases m3 with e | e
        · rw [e]; exact .inl g1
        · rw [e]; exact .inr ⟨rfl, hd⟩
      · show X (mxW p.2 x) ∨ (mxW p.2 x = x ∧ d ≤ spV U (mxW p.2 x))
        rcases n3 with e | e
        · rw [e]; exact .inl g2
        · rw [e]; exact .inr ⟨rfl, hd⟩
      · show mnW p.1 x ≤ y ∧ y ≤ mxW p.2 x
        rcases q with q | ⟨rfl, _⟩
        · have := g3 y q; omega
        · exact ⟨m2, n2⟩
theorem fold_good {U : List (List Int)} {f k : Int} (h0 : 0 ≤ f) (h1 : f < k) : ∀ (L : List (List Int)) (w : Option (Int × Int)) (X : Int → Prop), Good X w →
    Good (fun y => X y ∨ ∃ b ∈ AtTick.Fs.knsOf L, (y = b.lo ∨ y = b.hi) ∧ k - f ≤ spV U y) (L.foldl (stW U f k) w)
  | [], w, X, h => by
    refine h.ext fun y => ⟨.inl, fun q => ?_⟩
    rcases q with q | ⟨b, hb, _⟩
    · exact q
    · cases hb
  | r :: L, w, X, h => by
    rw [List.foldl_cons]
    cases hk : knB (AtTick.Fs.toBd r) with
    | false =>
      have e : stW U f k w r = w := if_neg (by rw [hk]; simp)
      rw [e]
      refine (fold_good h0 h1 L w X h).ext fun y => ?_
      rw [kns_cons, hk]
      simp
    | true =>
      have e : stW U f k w r = putW U (k - f) (putW U (k - f) w (r.getD 0 0)) (r.getD 1 0) := if_pos ⟨hk, h0, h1⟩
      rw [e]
      refine (fold_good h0 h1 L _ _ (put_good (put_good h (r.getD 0 0)) (r.getD 1 0))).ext fun y => ?_
      rw [kns_cons, hk, if_pos rfl]
      simp only [List.mem_cons, exists_eq_or_imp, show (AtTick.Fs.toBd r).lo = r.getD 0 0 from rfl, show (AtTick.Fs.toBd r).hi = r.getD 1 0 from rfl]
      constructor
      · rintro ((( q | ⟨q, q2⟩) | ⟨q, q2⟩) | q)
        · exact .inl q
        · exact .inr (.inl ⟨.inl q, q2⟩)
        · exact .inr (.inl ⟨.inr q, q2⟩)
        · exact .inr (.inr q)
      · rintro (q | (⟨q | q, q2⟩ | q))
        · exact .inl (.inl (.inl q))
        · exact .inl (.inl (.inr ⟨q, q2⟩))
        · exact .inl (.inr ⟨q, q2⟩)
        · exact .inr q
theorem fold_none {U : List (List Int)} {f k : Int} (h : f < 0 ∨ k ≤ f) : ∀ (L : List (List Int)) (w : Option (Int × Int)), L.foldl (stW U f k) w = w
  | [], w => rfl
  | r :: L, w => by
    rw [List.foldl_cons, show stW U f k w r = w from if_neg (by rintro ⟨_, h1, h2⟩; omega)]
    exact fold_none h L w
theorem want_fuse (T : List (List Int)) (f : Int) : AtTick.Fs.fuseB T f = match T.foldl (stW T f ((AtTick.Fs.knsOf T).length : Int)) none with
    | none => noneB
    | some p => ⟨p.1, p.2, false⟩ := by
  by_cases hf : f < 0 ∨ ((AtTick.Fs.knsOf T).length : Int) ≤ f
  · rw [fold_none hf, AtTick.Fs.fuse_none T hf]
  · have h0 : 0 ≤ f := by omega
    have h1 : f < (AtTick.Fs.knsOf T).length := by omega
    have G := fold_good (U := T) h0 h1 T none (fun _ => False) (fun x h => h)
    have S := AtTick.Fs.fuse_spec T h0 h1
    generalize T.foldl (stW T f ((AtTick.Fs.knsOf T).length : Int)) none = w at G
    cases w with
    | none =>
      rcases S with ⟨lo, hi, e, _, ⟨b, hb, rfl⟩, _, a1, _, _⟩ | ⟨e, _⟩
      · exact (G b.lo (.inr ⟨b, hb, .inl rfl, a1⟩)).elim
      · exact e
    | some p =>
      obtain ⟨g1, g2, g3⟩ := G
      have ad : ∀ y, (False ∨ ∃ b ∈ AtTick.Fs.knsOf T, (y = b.lo ∨ y = b.hi) ∧ ((AtTick.Fs.knsOf T).length : Int) - f ≤ spV T y) → ((AtTick.Fs.knsOf T).length : Int) - f ≤ AtTick.Fs.vt (AtTick.Fs.knsOf T) y := by
        rintro y (q | ⟨b, hb, _, q⟩)
        · exact q.elim
        · exact q
      rcases S with ⟨lo, hi, e, _, ⟨b, hb, hlo⟩, ⟨c, hc, hhi⟩, a1, a2, a3⟩ | ⟨_, e⟩
      · have x1 := a3 _ (ad _ g1)
        have x2 := a3 _ (ad _ g2)
        have y1 := g3 lo (.inr ⟨b, hb, .inl hlo.symm, a1⟩)
        have y2 := g3 hi (.inr ⟨c, hc, .inr hhi.symm, a2⟩)
        rw [e]
        have e1 : p.1 = lo := by omega
        have e2 : p.2 = hi := by omega
        show (⟨lo, hi, false⟩ : Bd) = ⟨p.1, p.2, false⟩
        rw [e1, e2]
      · have := ad _ g1
        have := e p.1
        omega
/-! ### What both return -/
def agE (T H : List (List Int)) : Int := if 64 < lenT T then 2 else if lenT H = lenT T then errC T else 14
def agB (T H : List (List Int)) (f : Int) : Bd := if agE T H = 0 then AtTick.Fs.fuseB (kpC T H) f else ⟨0, 0, false⟩
def gAg : List (AV Nm) → Option (AV Nm × List (Bool × Bool))
  | [.w (.one (.fv (.tab [some .i64, some .i64, some .i64, none, some .i64] T))), .w (.one (.fv (.tab [some .i64] H))), .w (.one (.int .i64 f))] => some (.tup [.agg [.int .i64 (agB T H f).lo, .int .i64 (agB T H f).hi, .bool (agB T H f).u], .one (.int .i64 (agE T H))], [])
  | _ => none
theorem tb_R {E : Env Nm} {x y e : Int} {b : Bool} {u : Value} (h : AV.R E (.tup [.agg [.int .i64 x, .int .i64 y, .yes b], .one (.int .i64 e)]) u) : AV.R E (.tup [.agg [.int .i64 x, .int .i64 y, .bool b], .one (.int .i64 e)]) u := by
  obtain ⟨vs, rfl, h2⟩ := h
  cases h2 with | cons h0 h1 => ?_
  obtain ⟨ws, rfl, h3⟩ := h0
  cases h3 with | cons a h3 => ?_
  cases h3 with | cons a2 h3 => ?_
  cases h3 with | cons a3 h3 => ?_
  cases h3
  exact ⟨_, rfl, .cons ⟨_, rfl, .cons a (.cons a2 (.cons a3 .nil))⟩ h1⟩
theorem fuse_congr {l l' : List (List Int)} (h : AtTick.Fs.knsOf l = AtTick.Fs.knsOf l') (f : Int) : AtTick.Fs.fuseB l f = AtTick.Fs.fuseB l' f := by
  unfold AtTick.Fs.fuseB; rw [h]
theorem of_kn (x y : Int) (h : (ofB x y).u = false) : knB (ofB x y) = true := by
  unfold ofB normB at h ⊢
  cases k : knB (⟨x, y, false⟩ : Bd) with
  | true => rw [k] at h; exact k
  | false => rw [k] at h; cases h
theorem uni_kn {c : Ck} {x : Int} (h : (uniC c x).u = false) : knB (uniC c x) = true := by
  unfold uniC at h ⊢
  cases k : (tlC c && (tmC x && decide (c.s ≤ x))) with
  | true => rw [k] at h; exact of_kn _ _ h
  | false => rw [k] at h; cases h
theorem toBd_bRow (b : Bd) : AtTick.Fs.toBd (bRow b) = b := by
  obtain ⟨lo, hi, u⟩ := b
  cases u <;> rfl
theorem kns_app (a b : List (List Int)) : AtTick.Fs.knsOf (a ++ b) = AtTick.Fs.knsOf a ++ AtTick.Fs.knsOf b := by
  unfold AtTick.Fs.knsOf AtTick.Fs.bdsOf
  rw [List.map_append, List.filter_append]
theorem kns_one {c : Ck} {x : Int} : AtTick.Fs.knsOf [bRow (uniC c x)] = AtTick.Fs.knsOf (if (uniC c x).u = true then [] else [bRow (uniC c x)]) := by
  by_cases h : (uniC c x).u = true
  · rw [if_pos h, kns_cons, toBd_bRow, if_neg (by rw [kn_u h]; simp)]
  · rw [if_neg h]
theorem agL_len : ∀ (T H L : List (List Int)) (i : Nat), (agL i T H L).length = L.length
  | [], H, L, i => by unfold agL; rfl
  | r :: T, [], L, i => by unfold agL; rfl
  | r :: T, h :: H, L, i => by
    unfold agL
    split
    · rw [agL_len T H, List.length_set]
    · rfl
theorem agL_kns : ∀ (T H L : List (List Int)) (i : Nat), errC T = 0 → H.length = T.length → L.length = i + T.length → AtTick.Fs.knsOf (agL i T H L) = AtTick.Fs.knsOf (L.take i ++ kpC T H)
  | [], H, L, i, he, hh, hl => by
    unfold agL kpC
    rw [List.append_nil, List.take_of_length_le (by simp at hl; omega)]
  | r :: T, [], L, i, he, hh, hl => by simp at hh
  | r :: T, h :: H, L, i, he, hh, hl => by
    unfold errC at he
    by_cases g : ckE (ckO r) = 0
    · rw [if_pos g] at he
      simp only [List.length_cons] at hh hl
      unfold agL kpC
      rw [if_pos g, agL_kns T H _ (i + 1) he (by omega) (by rw [List.length_set]; omega)]
      have e : (L.set i (bRow (uniC (ckO r) (h.getD 0 0)))).take (i + 1) = L.take i ++ [bRow (uniC (ckO r) (h.getD 0 0))] := by
        rw [List.set_eq_take_append_cons_drop, if_pos (by omega), List.take_append]
        have e2 : (L.take i).length = i := by rw [List.length_take]; omega
        rw [e2, List.take_of_length_le (by omega), show i + 1 - i = 1 by omega]
        rfl
      rw [e]
      simp only [kns_app]
      rw [← kns_one, List.append_assoc]
    · rw [if_neg g] at he; exact absurd he g
theorem kp_all : ∀ (T H : List (List Int)), ∀ r ∈ kpC T H, knB (AtTick.Fs.toBd r) = true
  | [], H, r, hr => by unfold kpC at hr; cases hr
  | t :: T, [], r, hr => by unfold kpC at hr; cases hr
  | t :: T, h :: H, r, hr => by
    unfold kpC at hr
    rcases List.mem_append.1 hr with g | g
    · by_cases u : (uniC (ckO t) (h.getD 0 0)).u = true
      · rw [if_pos u] at g; cases g
      · rw [if_neg u] at g
        obtain rfl := List.mem_singleton.1 g
        rw [toBd_bRow]
        exact uni_kn (by simpa using u)
    · exact kp_all T H r g
theorem kns_all {l : List (List Int)} (h : ∀ r ∈ l, knB (AtTick.Fs.toBd r) = true) : (AtTick.Fs.knsOf l).length = l.length := by
  unfold AtTick.Fs.knsOf AtTick.Fs.bdsOf
  rw [List.filter_eq_self.2 (by
    intro b hb
    obtain ⟨r, hr, rfl⟩ := List.mem_map.1 hb
    exact h r hr), List.length_map]
theorem kp_len : ∀ (T H : List (List Int)), (kpC T H).length ≤ T.length
  | [], H => by unfold kpC; simp
  | t :: T, [] => by unfold kpC; simp
  | t :: T, h :: H => by
    unfold kpC
    have := kp_len T H
    rw [List.length_append, List.length_cons]
    split
    · simp; omega
    · simp; omega
theorem st_pt {U : List (List Int)} {f k : Int} (h0 : 0 ≤ f) (h1 : f < k) : ∀ (l : List (List Int)) (w : Option (Int × Int)), (∀ r ∈ l, knB (AtTick.Fs.toBd r) = true) → l.foldl (stW U f k) w = l.foldl (ptW U f k) w
  | [], w, h => rfl
  | r :: l, w, h => by
    rw [List.foldl_cons, List.foldl_cons, show stW U f k w r = ptW U f k w r from if_pos ⟨h r List.mem_cons_self, h0, h1⟩]
    exact st_pt h0 h1 l _ fun q hq => h q (List.mem_cons_of_mem _ hq)
theorem inC_all {l : List (List Int)} (h : ∀ r ∈ l, knB (AtTick.Fs.toBd r) = true) : l.all inC = true := by
  refine List.all_eq_true.2 fun r hr => ?_
  obtain ⟨g1, g2⟩ := i64_kn (h r hr)
  unfold inC
  rw [show i64B (r.getD 0 0) = true from g1, show i64B (r.getD 1 0) = true from g2]; rfl
/-- What Agreed finds is the fusion. -/
theorem want_kp {T H : List (List Int)} {f : Int} (h0 : 0 ≤ f) (h1 : f < (kpC T H).length) : AtTick.Fs.fuseB (kpC T H) f = match (kpC T H).foldl (ptW (kpC T H) f ((kpC T H).length : Int)) none with
    | none => noneB
    | some p => ⟨p.1, p.2, false⟩ := by
  have M := want_fuse (kpC T H) f
  rw [kns_all (kp_all T H), st_pt h0 h1 _ _ (kp_all T H)] at M
  exact M
theorem agLps_ok : LpsOk Try.prog numI agLps Try.f55.ntmps (bodyOf Try.f55) := lps_cons (fun _ x hx => agD_ok x hx) lps_nil
theorem adLps_ok : LpsOk Try.prog rowA adLps Try.f56.ntmps (bodyOf Try.f56) := lps_cons (fun _ x hx => (awD_ok x hx).rows) (lps_cons (fun _ x hx => (asD_ok x hx).rows) lps_nil)
theorem fuseA_ok {I : Interp Nm} : (arrFSp AtTick.Fs.bk AtTick.Fs.gFu).ok Try.prog I 87 :=
  arrFSp_ok fun l r v cd hg hc w s ht E us hr => by
    unfold AtTick.Fs.gFu at hg
    split at hg
    · cases hg
      cases hr with | cons h0 hr => ?_
      cases hr
      cases (h0 : _ = _)
      exact ⟨_, rfl, AtTick.Fs.fuse_pl ht (of_decide_eq_true (hc (decide (l.length ≤ 34359738368), true) (by simp))) _⟩
    · cases hg
theorem libA2_ok : LibOk Try.prog numI (lib1 libA2) := lib1_cons fuseA_ok Try.call87 (lib1_nil _ _)
theorem zero_len {n : Int} {w : Nat} (h : 0 ≤ n) : lenT (zeroT n w) = n := by
  unfold lenT zeroT
  rw [List.length_replicate]; omega
set_option maxRecDepth 100000 in
theorem agf_1 (T : List (List Int)) (H : List (List Int)) (f : Int) : evR (ctxLp Try.prog numI (fun _ => false) libA2 [] agLps) Try.f55 [(.w (.one (.fv (.tab [some .i64, some .i64, some .i64, none, some .i64] T)))), (.w (.one (.fv (.tab [some .i64] H)))), (.w (.one (.int .i64 f)))] [true] = some (AV.tup [AW.agg [AC.int IntKind.i64 0, AC.int IntKind.i64 0, AC.yes false], AW.one (AC.int IntKind.i64 2)], (pickL [(decide (lenT T > 64), true)] [0])) := by kernel_rfl
set_option maxRecDepth 100000 in
theorem agf_01 (T : List (List Int)) (H : List (List Int)) (f : Int) : evR (ctxLp Try.prog numI (fun _ => false) libA2 [] agLps) Try.f55 [(.w (.one (.fv (.tab [some .i64, some .i64, some .i64, none, some .i64] T)))), (.w (.one (.fv (.tab [some .i64] H)))), (.w (.one (.int .i64 f)))] [false, true] = some (AV.tup [AW.agg [AC.int IntKind.i64 0, AC.int IntKind.i64 0, AC.yes false], AW.one (AC.int IntKind.i64 14)], (pickL [(decide (lenT T > 64), false), (lenT H != lenT T, true)] [0, 1])) := by kernel_rfl
set_option maxRecDepth 100000 in
theorem agf_001 (T : List (List Int)) (H : List (List Int)) (f : Int) : evR (ctxLp Try.prog numI (fun _ => false) libA2 [] agLps) Try.f55 [(.w (.one (.fv (.tab [some .i64, some .i64, some .i64, none, some .i64] T)))), (.w (.one (.fv (.tab [some .i64] H)))), (.w (.one (.int .i64 f)))] [false, false, true] = some (AV.tup [AW.agg [AC.int IntKind.i64 (AtTick.Fs.fuseB (agL 0 T H (zeroT (lenT T) [some IntKind.i64, some IntKind.i64, none].length)) f).lo, AC.int IntKind.i64 (AtTick.Fs.fuseB (agL 0 T H (zeroT (lenT T) [some IntKind.i64, some IntKind.i64, none].length)) f).hi, AC.bool (AtTick.Fs.fuseB (agL 0 T H (zeroT (lenT T) [some IntKind.i64, some IntKind.i64, none].length)) f).u], AW.one (AC.int IntKind.i64 0)], (pickL [(decide (lenT T > 64), false), (lenT H != lenT T, false), (decide (0 ≤ lenT T), true), (decide (lenT T ≤ lenT T), true), (decide (lenT T ≤ 34359738368), true), (decide (errC T = 0), true), (decide ((0 : Int) = 0) && decide (lenT T = lenT T) && decide (lenT T ≤ 64) && decide (lenT H = lenT T) && decide (lenT T = lenT T) && decide (lenT (zeroT (lenT T) [some IntKind.i64, some IntKind.i64, none].length) = lenT T), true), (decide ((0 : Int) = 0), true), (decide (lenT T = lenT (agL 0 T H (zeroT (lenT T) [some IntKind.i64, some IntKind.i64, none].length))), true), (decide ((agL 0 T H (zeroT (lenT T) [some IntKind.i64, some IntKind.i64, none].length)).length ≤ 34359738368), true)] [0, 1, 2, 3, 4, 5, 6, 7, 8, 9])) := by kernel_rfl
set_option maxRecDepth 100000 in
theorem agf_000 (T : List (List Int)) (H : List (List Int)) (f : Int) : evR (ctxLp Try.prog numI (fun _ => false) libA2 [] agLps) Try.f55 [(.w (.one (.fv (.tab [some .i64, some .i64, some .i64, none, some .i64] T)))), (.w (.one (.fv (.tab [some .i64] H)))), (.w (.one (.int .i64 f)))] [false, false, false] = some (AV.tup [AW.agg [AC.int IntKind.i64 0, AC.int IntKind.i64 0, AC.yes false], AW.one (AC.int IntKind.i64 (errC T))], (pickL [(decide (lenT T > 64), false), (lenT H != lenT T, false), (decide (0 ≤ lenT T), true), (decide (lenT T ≤ lenT T), true), (decide (lenT T ≤ 34359738368), true), (decide (errC T = 0), false), (decide ((0 : Int) = 0) && decide (lenT T = lenT T) && decide (lenT T ≤ 64) && decide (lenT H = lenT T) && decide (lenT T = lenT T) && decide (lenT (zeroT (lenT T) [some IntKind.i64, some IntKind.i64, none].length) = lenT T), true)] [0, 1, 2, 3, 4, 5, 6])) := by kernel_rfl
set_option maxRecDepth 100000 in
theorem adf_1 (T : List (List Int)) (H : List (List Int)) (f : Int) : evR (ctxLp Try.prog rowA (fun _ => false) [] [] adLps) Try.f56 [(.w (.one (.fv (.tab [some .i64, some .i64, some .i64, none, some .i64] T)))), (.w (.one (.fv (.tab [some .i64] H)))), (.w (.one (.int .i64 f)))] [true] = some (AV.tup [AW.agg [AC.int IntKind.i64 0, AC.int IntKind.i64 0, AC.yes false], AW.one (AC.int IntKind.i64 2)], (pickL [(decide (lenT T > 64), true)] [0])) := by kernel_rfl
set_option maxRecDepth 100000 in
theorem adf_01 (T : List (List Int)) (H : List (List Int)) (f : Int) : evR (ctxLp Try.prog rowA (fun _ => false) [] [] adLps) Try.f56 [(.w (.one (.fv (.tab [some .i64, some .i64, some .i64, none, some .i64] T)))), (.w (.one (.fv (.tab [some .i64] H)))), (.w (.one (.int .i64 f)))] [false, true] = some (AV.tup [AW.agg [AC.int IntKind.i64 0, AC.int IntKind.i64 0, AC.yes false], AW.one (AC.int IntKind.i64 14)], (pickL [(decide (lenT T > 64), false), (lenT H != lenT T, true)] [0, 1])) := by kernel_rfl
set_option maxRecDepth 100000 in
theorem adf_0011 (T : List (List Int)) (H : List (List Int)) (f : Int) : evR (ctxLp Try.prog rowA (fun _ => false) [] [] adLps) Try.f56 [(.w (.one (.fv (.tab [some .i64, some .i64, some .i64, none, some .i64] T)))), (.w (.one (.fv (.tab [some .i64] H)))), (.w (.one (.int .i64 f)))] [false, false, true, true] = some (AV.tup [AW.agg [AC.int IntKind.i64 0, AC.int IntKind.i64 0, AC.yes true], AW.one (AC.int IntKind.i64 0)], (pickL [(decide (lenT T > 64), false), (lenT H != lenT T, false), (decide (errC T = 0), true), (decide ((0 : Int) = 0) && decide (lenT T = lenT T) && decide (lenT T ≤ 64) && decide (lenT H = lenT T) && decide ((0 : Int) = 0) && decide ((0 : Int) = 0), true), (decide (f < 0), true), (true, true)] [0, 1, 2, 3, 4, 4, 4, 4, 5])) := by kernel_rfl
set_option maxRecDepth 100000 in
theorem adf_00101 (T : List (List Int)) (H : List (List Int)) (f : Int) : evR (ctxLp Try.prog rowA (fun _ => false) [] [] adLps) Try.f56 [(.w (.one (.fv (.tab [some .i64, some .i64, some .i64, none, some .i64] T)))), (.w (.one (.fv (.tab [some .i64] H)))), (.w (.one (.int .i64 f)))] [false, false, true, false, true] = some (AV.tup [AW.agg [AC.int IntKind.i64 0, AC.int IntKind.i64 0, AC.yes true], AW.one (AC.int IntKind.i64 0)], (pickL [(decide (lenT T > 64), false), (lenT H != lenT T, false), (decide (errC T = 0), true), (decide ((0 : Int) = 0) && decide (lenT T = lenT T) && decide (lenT T ≤ 64) && decide (lenT H = lenT T) && decide ((0 : Int) = 0) && decide ((0 : Int) = 0), true), (decide (f < 0), false), (decide (((kpC T H).length : Int) ≤ f), true)] [0, 1, 2, 3, 4, 4, 4, 4, 5])) := by kernel_rfl
set_option maxRecDepth 100000 in
theorem adf_001001 (T : List (List Int)) (H : List (List Int)) (f : Int) : evR (ctxLp Try.prog rowA (fun _ => false) [] [] adLps) Try.f56 [(.w (.one (.fv (.tab [some .i64, some .i64, some .i64, none, some .i64] T)))), (.w (.one (.fv (.tab [some .i64] H)))), (.w (.one (.int .i64 f)))] [false, false, true, false, false, true] = some (AV.tup [AW.agg [AC.int IntKind.i64 ((List.foldl (ptW ([] ++ kpC T H) f ((kpC T H).length : Int)) none ([] ++ kpC T H)).getD (0, 0)).fst, AC.int IntKind.i64 ((List.foldl (ptW ([] ++ kpC T H) f ((kpC T H).length : Int)) none ([] ++ kpC T H)).getD (0, 0)).snd, AC.yes false], AW.one (AC.int IntKind.i64 0)], (pickL [(decide (lenT T > 64), false), (lenT H != lenT T, false), (decide (errC T = 0), true), (decide ((0 : Int) = 0) && decide (lenT T = lenT T) && decide (lenT T ≤ 64) && decide (lenT H = lenT T) && decide ((0 : Int) = 0) && decide ((0 : Int) = 0), true), (decide (f < 0), false), (decide (((kpC T H).length : Int) ≤ f), false), ((List.foldl (ptW ([] ++ kpC T H) f ((kpC T H).length : Int)) none ([] ++ kpC T H)).isSome, true), (decide ((0 : Int) = 0) && decide (lenT ([] ++ kpC T H) = lenT ([] ++ kpC T H)) && decide (lenT ([] ++ kpC T H) ≤ 34359738368) && decide (0 ≤ f) && decide (f < ((kpC T H).length : Int)) && decide (((kpC T H).length : Int) ≤ 34359738368) && ([] ++ kpC T H).all inC && decide ([] ++ kpC T H = [] ++ kpC T H) && decide ((none : Option (Int × Int)) = none), true)] [0, 1, 2, 3, 4, 4, 4, 4, 5, 6, 7])) := by kernel_rfl
set_option maxRecDepth 100000 in
theorem adf_001000 (T : List (List Int)) (H : List (List Int)) (f : Int) : evR (ctxLp Try.prog rowA (fun _ => false) [] [] adLps) Try.f56 [(.w (.one (.fv (.tab [some .i64, some .i64, some .i64, none, some .i64] T)))), (.w (.one (.fv (.tab [some .i64] H)))), (.w (.one (.int .i64 f)))] [false, false, true, false, false, false] = some (AV.tup [AW.agg [AC.int IntKind.i64 0, AC.int IntKind.i64 0, AC.yes true], AW.one (AC.int IntKind.i64 0)], (pickL [(decide (lenT T > 64), false), (lenT H != lenT T, false), (decide (errC T = 0), true), (decide ((0 : Int) = 0) && decide (lenT T = lenT T) && decide (lenT T ≤ 64) && decide (lenT H = lenT T) && decide ((0 : Int) = 0) && decide ((0 : Int) = 0), true), (decide (f < 0), false), (decide (((kpC T H).length : Int) ≤ f), false), ((List.foldl (ptW ([] ++ kpC T H) f ((kpC T H).length : Int)) none ([] ++ kpC T H)).isSome, false), (decide ((0 : Int) = 0) && decide (lenT ([] ++ kpC T H) = lenT ([] ++ kpC T H)) && decide (lenT ([] ++ kpC T H) ≤ 34359738368) && decide (0 ≤ f) && decide (f < ((kpC T H).length : Int)) && decide (((kpC T H).length : Int) ≤ 34359738368) && ([] ++ kpC T H).all inC && decide ([] ++ kpC T H = [] ++ kpC T H) && decide ((none : Option (Int × Int)) = none), true)] [0, 1, 2, 3, 4, 4, 4, 4, 5, 6, 7])) := by kernel_rfl
set_option maxRecDepth 100000 in
theorem adf_000 (T : List (List Int)) (H : List (List Int)) (f : Int) : evR (ctxLp Try.prog rowA (fun _ => false) [] [] adLps) Try.f56 [(.w (.one (.fv (.tab [some .i64, some .i64, some .i64, none, some .i64] T)))), (.w (.one (.fv (.tab [some .i64] H)))), (.w (.one (.int .i64 f)))] [false, false, false] = some (AV.tup [AW.agg [AC.int IntKind.i64 0, AC.int IntKind.i64 0, AC.yes false], AW.one (AC.int IntKind.i64 (errC T))], (pickL [(decide (lenT T > 64), false), (lenT H != lenT T, false), (decide (errC T = 0), false), (decide ((0 : Int) = 0) && decide (lenT T = lenT T) && decide (lenT T ≤ 64) && decide (lenT H = lenT T) && decide ((0 : Int) = 0) && decide ((0 : Int) = 0), true)] [0, 1, 2, 3])) := by kernel_rfl
set_option maxHeartbeats 4000000 in
theorem gAg_ok : (factSp gAg).ok Try.prog numI 55 :=
  factR_ok (ctxLp_ok libA2_ok (eq_none _) (fns_nil _) (fun f fn h => by cases h)) (by kernel_rfl) Try.func55 rfl agLps_ok fun args v cd hg hc => by
    unfold gAg at hg
    split at hg
    · rename_i T H f
      cases hg
      refine ⟨rfl, rfl, rfl, ?_⟩
      by_cases h1 : 64 < lenT T
      · have k1 : decide (lenT T > 64) = true := decide_eq_true h1
        have eE : agE T H = 2 := if_pos h1
        have eB : agB T H f = ⟨0, 0, false⟩ := if_neg (by omega)
        refine ⟨[true], _, _, agf_1 T H f, fun E u hu => ?_, pickL_ok ?_ _⟩
        · rw [eB, eE]; exact tb_R hu
        repeat' (first | exact cd_nil | refine cd_cons ?_ ?_)
        all_goals first | rfl | with_reducible assumption

      · have k1 : decide (lenT T > 64) = false := decide_eq_false h1
        have l0 : 0 ≤ lenT T := by unfold lenT; omega
        by_cases h2 : lenT H = lenT T
        · have k2 : (lenT H != lenT T) = false := by simpa using h2
          have eE0 : agE T H = errC T := (if_neg h1).trans (if_pos h2)
          have k3 : decide (0 ≤ lenT T) = true := decide_eq_true l0
          have k4 : decide (lenT T ≤ lenT T) = true := decide_eq_true (Int.le_refl _)
          have k5 : decide (lenT T ≤ 34359738368) = true := decide_eq_true (by omega)
          have zl := zero_len (w := [some IntKind.i64, some IntKind.i64, none].length) l0
          have k6 : (decide ((0 : Int) = 0) && decide (lenT T = lenT T) && decide (lenT T ≤ 64) && decide (lenT H = lenT T) && decide (lenT T = lenT T) && decide (lenT (zeroT (lenT T) [some IntKind.i64, some IntKind.i64, none].length) = lenT T)) = true := by
            rw [decide_eq_true (rfl : lenT T = lenT T), decide_eq_true (show lenT T ≤ 64 by omega), decide_eq_true h2, decide_eq_true zl]; rfl
          by_cases h3 : errC T = 0
          · have k7 : decide (errC T = 0) = true := decide_eq_true h3
            have ll : (agL 0 T H (zeroT (lenT T) [some IntKind.i64, some IntKind.i64, none].length)).length = T.length := by rw [agL_len]; unfold lenT at zl; unfold lenT; omega
            have k8 : decide (lenT T = lenT (agL 0 T H (zeroT (lenT T) [some IntKind.i64, some IntKind.i64, none].length))) = true := decide_eq_true (by show ((T.length : Nat) : Int) = (((agL 0 T H (zeroT (lenT T) [some IntKind.i64, some IntKind.i64, none].length)).length : Nat) : Int); rw [ll])
            have k9 : decide ((agL 0 T H (zeroT (lenT T) [some IntKind.i64, some IntKind.i64, none].length)).length ≤ 34359738368) = true := decide_eq_true (by rw [ll]; unfold lenT at h1; omega)
            have eE : agE T H = 0 := eE0.trans h3
            have eB : agB T H f = AtTick.Fs.fuseB (agL 0 T H (zeroT (lenT T) [some IntKind.i64, some IntKind.i64, none].length)) f := (if_pos eE).trans (fuse_congr (by
              rw [agL_kns T H _ 0 h3 (by unfold lenT at h2; omega) (by unfold lenT at zl; unfold lenT; omega), List.take_zero, List.nil_append]) f)
            refine ⟨[false, false, true], _, _, agf_001 T H f, fun E u hu => ?_, pickL_ok ?_ _⟩
            · rw [eB, eE]; exact hu
            repeat' (first | exact cd_nil | refine cd_cons ?_ ?_)
            all_goals first | rfl | with_reducible assumption

          · have k7 : decide (errC T = 0) = false := decide_eq_false h3
            have eB : agB T H f = ⟨0, 0, false⟩ := if_neg (by rw [eE0]; exact h3)
            refine ⟨[false, false, false], _, _, agf_000 T H f, fun E u hu => ?_, pickL_ok ?_ _⟩
            · rw [eB, eE0]; exact tb_R hu
            repeat' (first | exact cd_nil | refine cd_cons ?_ ?_)
            all_goals first | rfl | with_reducible assumption

        · have k2 : (lenT H != lenT T) = true := by simpa using h2
          have eE : agE T H = 14 := (if_neg h1).trans (if_neg h2)
          have eB : agB T H f = ⟨0, 0, false⟩ := if_neg (by omega)
          refine ⟨[false, true], _, _, agf_01 T H f, fun E u hu => ?_, pickL_ok ?_ _⟩
          · rw [eB, eE]; exact tb_R hu
          repeat' (first | exact cd_nil | refine cd_cons ?_ ?_)
          all_goals first | rfl | with_reducible assumption

    · cases hg
set_option maxHeartbeats 4000000 in
theorem gAd_ok : (factSp gAg).ok Try.prog rowA 56 :=
  factR_ok (ctxLp_ok (lib1_nil _ _) (eq_none _) (fns_nil _) (fun f fn h => by cases h)) (by kernel_rfl) Try.func56 rfl adLps_ok fun args v cd hg hc => by
    unfold gAg at hg
    split at hg
    · rename_i T H f
      cases hg
      refine ⟨rfl, rfl, rfl, ?_⟩
      by_cases h1 : 64 < lenT T
      · have k1 : decide (lenT T > 64) = true := decide_eq_true h1
        have eE : agE T H = 2 := if_pos h1
        have eB : agB T H f = ⟨0, 0, false⟩ := if_neg (by omega)
        refine ⟨[true], _, _, adf_1 T H f, fun E u hu => ?_, pickL_ok ?_ _⟩
        · rw [eB, eE]; exact tb_R hu
        repeat' (first | exact cd_nil | refine cd_cons ?_ ?_)
        all_goals first | rfl | with_reducible assumption

      · have k1 : decide (lenT T > 64) = false := decide_eq_false h1
        have l0 : 0 ≤ lenT T := by unfold lenT; omega
        by_cases h2 : lenT H = lenT T
        · have k2 : (lenT H != lenT T) = false := by simpa using h2
          have eE0 : agE T H = errC T := (if_neg h1).trans (if_pos h2)
          have k6 : (decide ((0 : Int) = 0) && decide (lenT T = lenT T) && decide (lenT T ≤ 64) && decide (lenT H = lenT T) && decide ((0 : Int) = 0) && decide ((0 : Int) = 0)) = true := by
            rw [decide_eq_true (rfl : lenT T = lenT T), decide_eq_true (show lenT T ≤ 64 by omega), decide_eq_true h2]; rfl
          by_cases h3 : errC T = 0
          · have k7 : decide (errC T = 0) = true := decide_eq_true h3
            have eE : agE T H = 0 := eE0.trans h3
            have eB0 : agB T H f = AtTick.Fs.fuseB (kpC T H) f := if_pos eE
            have hkl := kp_len T H
            have hT : T.length ≤ 64 := by unfold lenT at h1; omega
            have hkk := kns_all (kp_all T H)
            by_cases h4 : f < 0
            · have k8 : decide (f < 0) = true := decide_eq_true h4
              have eB : agB T H f = ⟨0, 0, true⟩ := eB0.trans (if_pos (.inl h4))
              refine ⟨[false, false, true, true], _, _, adf_0011 T H f, fun E u hu => ?_, pickL_ok ?_ _⟩
              · rw [eB, eE]; exact tb_R hu
              repeat' (first | exact cd_nil | refine cd_cons ?_ ?_)
              all_goals first | rfl | with_reducible assumption

            · have k8 : decide (f < 0) = false := decide_eq_false h4
              by_cases h5 : ((kpC T H).length : Int) ≤ f
              · have k9 : decide (((kpC T H).length : Int) ≤ f) = true := decide_eq_true h5
                have eB : agB T H f = ⟨0, 0, true⟩ := eB0.trans (if_pos (.inr (by rw [hkk]; exact h5)))
                refine ⟨[false, false, true, false, true], _, _, adf_00101 T H f, fun E u hu => ?_, pickL_ok ?_ _⟩
                · rw [eB, eE]; exact tb_R hu
                repeat' (first | exact cd_nil | refine cd_cons ?_ ?_)
                all_goals first | rfl | with_reducible assumption

              · have k9 : decide (((kpC T H).length : Int) ≤ f) = false := decide_eq_false h5
                have ks : (decide ((0 : Int) = 0) && decide (lenT ([] ++ kpC T H) = lenT ([] ++ kpC T H)) && decide (lenT ([] ++ kpC T H) ≤ 34359738368) && decide (0 ≤ f) && decide (f < ((kpC T H).length : Int)) && decide (((kpC T H).length : Int) ≤ 34359738368) && ([] ++ kpC T H).all inC && decide ([] ++ kpC T H = [] ++ kpC T H) && decide ((none : Option (Int × Int)) = none)) = true := by
                  rw [List.nil_append, decide_eq_true (rfl : lenT (kpC T H) = lenT (kpC T H)), decide_eq_true (show lenT (kpC T H) ≤ 34359738368 by unfold lenT; omega), decide_eq_true (show 0 ≤ f by omega), decide_eq_true (show f < ((kpC T H).length : Int) by omega), decide_eq_true (show ((kpC T H).length : Int) ≤ 34359738368 by omega), inC_all (kp_all T H), decide_eq_true (rfl : kpC T H = kpC T H), decide_eq_true (rfl : (none : Option (Int × Int)) = none)]; rfl
                have M := want_kp (T := T) (H := H) (f := f) (by omega) (by omega)
                cases hw : (kpC T H).foldl (ptW (kpC T H) f ((kpC T H).length : Int)) none with
                | none =>
                  rw [hw] at M
                  have kf : (List.foldl (ptW ([] ++ kpC T H) f ((kpC T H).length : Int)) none ([] ++ kpC T H)).isSome = false := by rw [List.nil_append, hw]; rfl
                  have eB : agB T H f = ⟨0, 0, true⟩ := eB0.trans M
                  refine ⟨[false, false, true, false, false, false], _, _, adf_001000 T H f, fun E u hu => ?_, pickL_ok ?_ _⟩
                  · rw [eB, eE]; exact tb_R hu
                  repeat' (first | exact cd_nil | refine cd_cons ?_ ?_)
                  all_goals first | rfl | with_reducible assumption

                | some p =>
                  rw [hw] at M
                  have kf : (List.foldl (ptW ([] ++ kpC T H) f ((kpC T H).length : Int)) none ([] ++ kpC T H)).isSome = true := by rw [List.nil_append, hw]; rfl
                  have eB : agB T H f = ⟨((List.foldl (ptW ([] ++ kpC T H) f ((kpC T H).length : Int)) none ([] ++ kpC T H)).getD (0, 0)).1, ((List.foldl (ptW ([] ++ kpC T H) f ((kpC T H).length : Int)) none ([] ++ kpC T H)).getD (0, 0)).2, false⟩ := by
                    rw [List.nil_append, hw]; exact eB0.trans M
                  refine ⟨[false, false, true, false, false, true], _, _, adf_001001 T H f, fun E u hu => ?_, pickL_ok ?_ _⟩
                  · rw [eB, eE]; exact tb_R hu
                  repeat' (first | exact cd_nil | refine cd_cons ?_ ?_)
                  all_goals first | rfl | with_reducible assumption

          · have k7 : decide (errC T = 0) = false := decide_eq_false h3
            have eB : agB T H f = ⟨0, 0, false⟩ := if_neg (by rw [eE0]; exact h3)
            refine ⟨[false, false, false], _, _, adf_000 T H f, fun E u hu => ?_, pickL_ok ?_ _⟩
            · rw [eB, eE0]; exact tb_R hu
            repeat' (first | exact cd_nil | refine cd_cons ?_ ?_)
            all_goals first | rfl | with_reducible assumption

        · have k2 : (lenT H != lenT T) = true := by simpa using h2
          have eE : agE T H = 14 := (if_neg h1).trans (if_neg h2)
          have eB : agB T H f = ⟨0, 0, false⟩ := if_neg (by omega)
          refine ⟨[false, true], _, _, adf_01 T H f, fun E u hu => ?_, pickL_ok ?_ _⟩
          · rw [eB, eE]; exact tb_R hu
          repeat' (first | exact cd_nil | refine cd_cons ?_ ?_)
          all_goals first | rfl | with_reducible assumption

    · cases hg
/-! ### The law ClockAgrees -/

abbrev eqA : TypeId → Bool := fun t => Nat.beq t 79
noncomputable abbrev libA3 : List (Nat × FnSp Empty) := [(86, unS)]
noncomputable abbrev libA4 : List (Nat × FnSp Nm) := [(57, sp0 (aBool true)), (55, factSp gAg), (56, factSp gAg)]
theorem eqA_ok : EqOk Try.prog (tabOf Try.prog) eqA := eq_of fun t ht => by
  have ht : (Nat.beq t 79) = true := ht
  have := Nat.eq_of_beq_eq_true ht
  subst this
  exact ⟨by kernel_rfl, by kernel_rfl, by kernel_rfl⟩
theorem libA3_ok : LibOk Try.prog noFacts (lib1 libA3) := (lib1_cons (sp2_ok fun c x _ => ⟨_, rfl, unf_pl c x⟩) Try.call86 (lib1_nil _ _))
set_option maxRecDepth 100000 in
theorem cks_l  : evR (ctxOf Try.prog noFacts eqA libA3) Try.f57 [] [] = some (AV.w (AW.one (AC.bool ((uniC { s := 1000, b := { lo := 5000, hi := 5010, u := false }, d := 100000 } 1100).lo == 5090 && ((uniC { s := 1000, b := { lo := 5000, hi := 5010, u := false }, d := 100000 } 1100).hi == 5123 && ((uniC { s := 1000, b := { lo := 5000, hi := 5010, u := false }, d := 100000 } 1100).u == false && true))))), (pickL [] [])) := by kernel_rfl
theorem afact_pl : Pl Try.prog 57 [] (.bool true) := by
  refine Eq.mp (congrArg (Pl _ _ _) ?_) (pl_leaf rfl (ctxOf_ok libA3_ok eqA_ok) (by kernel_rfl) Try.func57 rfl cks_l rfl (all2_R .nil) rfl cd_nil)
  rw [show uniC ⟨1000, ⟨5000, 5010, false⟩, 100000⟩ 1100 = ⟨5090, 5123, false⟩ by kernel_rfl]; rfl
theorem libA4_ok : LibOk Try.prog rowA (lib1 libA4) := (lib1_cons (sp0_ok rfl afact_pl) Try.call57 (lib1_cons gAg_ok.rows Try.call55 (lib1_cons gAd_ok Try.call56 (lib1_nil _ _))))
set_option maxRecDepth 100000 in
theorem ca_11 (T : List (List Int)) (H : List (List Int)) (f : Int) : evR (ctxOf Try.prog rowA eqA libA4) Try.f9 [(.w (.one (.fv (.tab [some .i64, some .i64, some .i64, none, some .i64] T)))), (.w (.one (.fv (.tab [some .i64] H)))), (.w (.one (.int .i64 f)))] [true, true] = some (AV.w (AW.one (AC.bool (agE T H == agE T H))), (pickL [(true, true), ((agB T H f).lo == (agB T H f).lo && ((agB T H f).hi == (agB T H f).hi && ((agB T H f).u == (agB T H f).u && true)), true)] [0, 0, 0, 0, 1, 1, 1, 1])) := by kernel_rfl
theorem ca_walk (W : World) (T : List (List Int)) (u : Value) (hu : tabHv (fun _ _ => False) W u [some .i64, some .i64, some .i64, none, some .i64] T) (hT : okRows [some .i64, some .i64, some .i64, none, some .i64] T) (H : List (List Int)) (v : Value) (hv : tabHv (fun _ _ => False) W v [some .i64] H) (hH : okRows [some .i64] H) (f : Int) (hf : okK (some .i64) f) :
    Calls Try.prog 9 #[u, v, .int .i64 f] W fun e w' => e = .returned (.bool true) ∧ Below W.heap.size W w' := by
  have V : (agE T H == agE T H) = true := by simp
  refine law_facts (I := rowA) (h := fun q y => (q = .tab [some .i64, some .i64, some .i64, none, some .i64] T ∧ y = u) ∨ (q = .tab [some .i64] H ∧ y = v)) (v := .bool true) (ctxOf_ok libA4_ok eqA_ok) (by kernel_rfl) Try.func9 rfl lps_nil rfl (fun q y hq => by
    rcases hq with ⟨rfl, rfl⟩ | ⟨rfl, rfl⟩
    · exact hu
    · exact hv) (ca_11 T H f) rfl (.cons (.inl ⟨rfl, rfl⟩) (.cons (.inr ⟨rfl, rfl⟩) (.cons rfl .nil))) (congrArg (fun b => some (Value.bool b)) V) (pickL_ok ?_ _)
  repeat' (first | exact cd_nil | refine cd_cons ?_ ?_)
  all_goals first | rfl | (simp; done)
end
end Go.Proofs.Ytjegnlnnjcchaaa.AtCk

