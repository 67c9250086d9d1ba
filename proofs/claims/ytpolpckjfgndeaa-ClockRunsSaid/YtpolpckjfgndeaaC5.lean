/-
  The walks of the laws ClockTimes and ClockSyncs.
  Conditions: the numbers of the arguments are int64.
-/
import Derived.Test.YtpolpckjfgndeaaC4
import Derived.Test.YtpolpckjfgndeaaGO
set_option linter.unusedVariables false
set_option linter.unusedSimpArgs false
namespace Go.Proofs.Ytpolpckjfgndeaa.AtCk
open Ev Go.RowKit Wd
open Go.Proofs.Ytpolpckjfgndeaa
noncomputable section

def sp4 {F α β γ δ : Type} (d : Dec F α) (e : Dec F β) (g : Dec F γ) (h : Dec F δ) (r : α → β → γ → δ → AV F) (cd : α → β → γ → δ → List (Bool × Bool)) : FnSp F := plain fun args => match args with
  | [x, y, z, t] => match d.dec x with
    | some a => match e.dec y with
      | some b => match g.dec z with
        | some c => match h.dec t with
          | some i => some (r a b c i, cd a b c i)
          | none => none
        | none => none
      | none => none
    | none => none
  | _ => none
theorem sp4_ok {F : Type} {P : Program} {I : Interp F} {f : FuncId} {α β γ δ : Type} {d : Dec F α} {e : Dec F β} {g : Dec F γ} {k : Dec F δ} {r : α → β → γ → δ → AV F} {cd : α → β → γ → δ → List (Bool × Bool)} (h : ∀ a b c i, (∀ p ∈ cd a b c i, p.1 = p.2) → ∃ u, (r a b c i).val = some u ∧ Pl P f [d.enc a, e.enc b, g.enc c, k.enc i] u) : (sp4 d e g k r cd).ok P I f := plain_ok' fun args v cd' hg hc => by
  split at hg
  · rename_i x y z t
    split at hg
    · rename_i a ha
      split at hg
      · rename_i b hb
        split at hg
        · rename_i c' hc'
          split at hg
          · rename_i i hi
            cases hg
            obtain ⟨u, h1, h2⟩ := h a b c' i hc
            exact ⟨_, u, .cons (d.ok _ _ ha) (.cons (e.ok _ _ hb) (.cons (g.ok _ _ hc') (.cons (k.ok _ _ hi) .nil))), h1, h2⟩
          · cases hg
        · cases hg
      · cases hg
    · cases hg
  · cases hg
abbrev eqC : TypeId → Bool := fun t => Nat.beq t 24 || Nat.beq t 26
theorem eqC_ok : EqOk Try.prog (tabOf Try.prog) eqC := eq_of fun t ht => by
  have ht : (Nat.beq t 24 || Nat.beq t 26) = true := ht
  rw [Bool.or_eq_true] at ht
  rcases ht with ht | ht
  · have := Nat.eq_of_beq_eq_true ht
    subst this
    exact ⟨by kernel_rfl, by kernel_rfl, by kernel_rfl⟩
  · have := Nat.eq_of_beq_eq_true ht
    subst this
    exact ⟨by kernel_rfl, by kernel_rfl, by kernel_rfl⟩
noncomputable abbrev libL0 : List (Nat × FnSp Empty) := [(16, unS)]
theorem libL0_ok : LibOk Try.prog noFacts (lib1 libL0) := (lib1_cons (sp2_ok fun c x _ => ⟨_, rfl, unf_pl c x⟩) Try.call16 (lib1_nil _ _))
set_option maxRecDepth 100000 in
theorem cfa_l0  : evR (ctxOf Try.prog noFacts eqC libL0) Try.f13 [] [] = some (AV.w (AW.one (AC.bool ((uniC { s := 1000, b := { lo := 5000, hi := 5010, u := false }, d := 100000 } 1100).lo == 5090 && ((uniC { s := 1000, b := { lo := 5000, hi := 5010, u := false }, d := 100000 } 1100).hi == 5123 && ((uniC { s := 1000, b := { lo := 5000, hi := 5010, u := false }, d := 100000 } 1100).u == false && true))))), []) := by kernel_rfl
set_option maxRecDepth 100000 in
theorem cfa_t  : Pl Try.prog 13 [] (AV.get ((AV.w (AW.one (AC.bool ((uniC { s := 1000, b := { lo := 5000, hi := 5010, u := false }, d := 100000 } 1100).lo == 5090 && ((uniC { s := 1000, b := { lo := 5000, hi := 5010, u := false }, d := 100000 } 1100).hi == 5123 && ((uniC { s := 1000, b := { lo := 5000, hi := 5010, u := false }, d := 100000 } 1100).u == false && true)))))) : AV Empty)) :=
  (pl_leaf rfl (ctxOf_ok libL0_ok eqC_ok) (by kernel_rfl) Try.func13 rfl (cfa_l0) rfl (all2_R .nil) rfl cd_nil)
theorem fact_pl   : Pl Try.prog 13 [] (.bool true) := by
  refine Eq.mp (congrArg (Pl _ _ _) ?_) (cfa_t )
  rw [show uniC ⟨1000, ⟨5000, 5010, false⟩, 100000⟩ 1100 = ⟨5090, 5123, false⟩ by kernel_rfl]; rfl
theorem i64_ok {x : Int} (h : okK (some .i64) x) : i64B x = true := i64B_iff.2 (okK_i64 h)
noncomputable abbrev libL1 : List (Nat × FnSp Empty) := [(13, sp0 (aBool true)), (14, ckS), (15, ckS), (16, unS), (17, unS), (18, hoS), (19, hoS)]
theorem libL1_ok : LibOk Try.prog noFacts (lib1 libL1) := (lib1_cons (sp0_ok rfl fact_pl) Try.call13 (lib1_cons (sp1_ok fun c _ => ⟨_, rfl, ckf_pl c⟩) Try.call14 (lib1_cons (sp1_ok fun c _ => ⟨_, rfl, cef_pl c⟩) Try.call15 (lib1_cons (sp2_ok fun c x _ => ⟨_, rfl, unf_pl c x⟩) Try.call16 (lib1_cons (sp2_ok fun c x _ => ⟨_, rfl, saf_pl c x⟩) Try.call17 (lib1_cons (sp2_ok fun c t _ => ⟨_, rfl, hof_pl c t⟩) Try.call18 (lib1_cons (sp2_ok fun c t _ => ⟨_, rfl, swf_pl c t⟩) Try.call19 (lib1_nil _ _))))))))
noncomputable abbrev libL2 : List (Nat × FnSp Empty) := [(13, sp0 (aBool true)), (20, sp4 dCk (dInt .i64) (dInt .i64) dBd (fun c s g t => .tup [(.agg [.int .i64 (syC c s g t).s, .int .i64 (syC c s g t).b.lo, .int .i64 (syC c s g t).b.hi, .bool (syC c s g t).b.u, .int .i64 (syC c s g t).d]), .one (.int .i64 (syE c s g t))]) (fun _ _ _ _ => [])), (21, sp4 dCk (dInt .i64) (dInt .i64) dBd (fun c s g t => .tup [(.agg [.int .i64 (syC c s g t).s, .int .i64 (syC c s g t).b.lo, .int .i64 (syC c s g t).b.hi, .bool (syC c s g t).b.u, .int .i64 (syC c s g t).d]), .one (.int .i64 (syE c s g t))]) (fun _ _ _ t => [(i64B t.lo, true), (i64B t.hi, true)]))]
theorem libL2_ok : LibOk Try.prog noFacts (lib1 libL2) := (lib1_cons (sp0_ok rfl fact_pl) Try.call13 (lib1_cons (sp4_ok fun c s g t _ => ⟨_, rfl, syf_pl c s g t⟩) Try.call20 (lib1_cons (sp4_ok fun c s g t hc => ⟨_, rfl, snf_pl c s g t (c2' hc).1 (c2' hc).2⟩) Try.call21 (lib1_nil _ _))))
set_option maxRecDepth 100000 in
theorem lt_111 (c : Ck) (x : Int) (t : Int) : evR (ctxOf Try.prog noFacts eqC libL1) Try.f3 [(ckA c), (.w (.one (.int .i64 x))), (.w (.one (.int .i64 t)))] [true, true, true] = some (AV.w (AW.one (AC.bool ((shoC c t).lo == (shoC c t).lo && ((shoC c t).hi == (shoC c t).hi && ((shoC c t).u == (shoC c t).u && true))))), (pickL [(true, true), (ckE c == ckE c, true), ((uniC c x).lo == (uniC c x).lo && ((uniC c x).hi == (uniC c x).hi && ((uniC c x).u == (uniC c x).u && true)), true)] [0, 0, 0, 0, 0, 0, 1, 1, 1, 1, 1, 1, 1, 1, 2, 2, 2, 2, 2, 2, 2, 2])) := by kernel_rfl
set_option maxRecDepth 100000 in
theorem ls_11 (c : Ck) (s : Int) (g : Int) (t : Bd) : evR (ctxOf Try.prog noFacts eqC libL2) Try.f4 [(ckA c), (.w (.one (.int .i64 s))), (.w (.one (.int .i64 g))), (bA t)] [true, true] = some (AV.w (AW.one (AC.bool (syE c s g t == syE c s g t))), (pickL [(i64B t.lo, true), (i64B t.hi, true), (true, true), ((syC c s g t).s == (syC c s g t).s && ((syC c s g t).b.lo == (syC c s g t).b.lo && ((syC c s g t).b.hi == (syC c s g t).b.hi && ((syC c s g t).b.u == (syC c s g t).b.u && ((syC c s g t).d == (syC c s g t).d && true)))), true)] [0, 1, 2, 2, 2, 2, 3, 3, 3, 3])) := by kernel_rfl
theorem clockTimes_law (W : World) (s : Int) (hs : okK (some .i64) s) (lo : Int) (hlo : okK (some .i64) lo) (hi : Int) (hhi : okK (some .i64) hi) (u : Bool) (d : Int) (hd : okK (some .i64) d) (x : Int) (hx : okK (some .i64) x) (t : Int) (ht : okK (some .i64) t) :
    Calls Try.prog 3 #[.agg #[.int .i64 s, .int .i64 lo, .int .i64 hi, .bool u, .int .i64 d], .int .i64 x, .int .i64 t] W fun e w' => e = .returned (.bool true) ∧ Below W.heap.size W w' := by
  have L := lt_111 ⟨s, ⟨lo, hi, u⟩, d⟩ x t
  have V : ((shoC ⟨s, ⟨lo, hi, u⟩, d⟩ t).lo == (shoC ⟨s, ⟨lo, hi, u⟩, d⟩ t).lo && ((shoC ⟨s, ⟨lo, hi, u⟩, d⟩ t).hi == (shoC ⟨s, ⟨lo, hi, u⟩, d⟩ t).hi && ((shoC ⟨s, ⟨lo, hi, u⟩, d⟩ t).u == (shoC ⟨s, ⟨lo, hi, u⟩, d⟩ t).u && true))) = true := by simp only [beq_self_eq_true, Bool.and_self]
  refine evR_calls (I := noFacts) (v := .bool true) (ctxOf_ok libL1_ok eqC_ok) (by kernel_rfl) Try.func3 rfl lps_nil L rfl (all2_R (.cons rfl (.cons rfl (.cons rfl .nil)))) (congrArg (fun b => some (Value.bool b)) V) W (Nat.zero_le _) (pickL_ok ?_ _)
  repeat' (first | exact cd_nil | refine cd_cons ?_ ?_)
  all_goals first | rfl | with_reducible assumption | (simp only [beq_self_eq_true, Bool.and_self]; done)
theorem clockSyncs_law (W : World) (s : Int) (hs : okK (some .i64) s) (lo : Int) (hlo : okK (some .i64) lo) (hi : Int) (hhi : okK (some .i64) hi) (u : Bool) (d : Int) (hd : okK (some .i64) d) (x : Int) (hx : okK (some .i64) x) (g : Int) (hg : okK (some .i64) g) (tl : Int) (htl : okK (some .i64) tl) (th : Int) (hth : okK (some .i64) th) (tu : Bool) :
    Calls Try.prog 4 #[.agg #[.int .i64 s, .int .i64 lo, .int .i64 hi, .bool u, .int .i64 d], .int .i64 x, .int .i64 g, .agg #[.int .i64 tl, .int .i64 th, .bool tu]] W fun e w' => e = .returned (.bool true) ∧ Below W.heap.size W w' := by
  have i1 := i64_ok htl
  have i2 := i64_ok hth
  have L := ls_11 ⟨s, ⟨lo, hi, u⟩, d⟩ x g ⟨tl, th, tu⟩
  have V : (syE ⟨s, ⟨lo, hi, u⟩, d⟩ x g ⟨tl, th, tu⟩ == syE ⟨s, ⟨lo, hi, u⟩, d⟩ x g ⟨tl, th, tu⟩) = true := by simp only [beq_self_eq_true, Bool.and_self]
  refine evR_calls (I := noFacts) (v := .bool true) (ctxOf_ok libL2_ok eqC_ok) (by kernel_rfl) Try.func4 rfl lps_nil L rfl (all2_R (.cons rfl (.cons rfl (.cons rfl (.cons rfl .nil))))) (congrArg (fun b => some (Value.bool b)) V) W (Nat.zero_le _) (pickL_ok ?_ _)
  repeat' (first | exact cd_nil | refine cd_cons ?_ ?_)
  all_goals first | rfl | with_reducible assumption | (simp only [beq_self_eq_true, Bool.and_self]; done)
end
end Go.Proofs.Ytpolpckjfgndeaa.AtCk

