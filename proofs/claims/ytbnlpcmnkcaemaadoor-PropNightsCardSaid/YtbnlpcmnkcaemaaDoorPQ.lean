/-
  The walk of the law PropNights.
  Conditions: the numbers of the arguments are int64.
-/
import Derived.Test.YtbnlpcmnkcaemaaDoorPO
import Derived.Test.YtbnlpcmnkcaemaaDoorGO
set_option linter.unusedVariables false
set_option linter.unusedSimpArgs false
namespace Go.Proofs.YtbnlpcmnkcaemaaDoor.AtPr
open Go.RowKit Ev Wd AtRt AtHz
open Go.Proofs.YtbnlpcmnkcaemaaDoor
noncomputable section

noncomputable abbrev libN5 : List (Nat × FnSp Tb) := [(8, sp0 (aBool true)), (20, factSp gNi), (21, factSp gNi), (22, spS), (23, spS)]
theorem libN5_ok : LibOk Tryd.prog tbI (lib1 libN5) := (lib1_cons (sp0_ok rfl props_pl) Tryd.call8 (lib1_cons gNi_ok Tryd.call20 (lib1_cons gNr_ok Tryd.call21 (lib1_cons (sp1_ok fun r hc => ⟨_, rfl, csp_pl r (c2p hc).1 (c2p hc).2⟩) Tryd.call22 (lib1_cons (sp1_ok fun r hc => ⟨_, rfl, rsp_pl r (c2p hc).1 (c2p hc).2⟩) Tryd.call23 (lib1_nil _ _))))))
set_option maxRecDepth 100000 in
theorem pnl_11 (s : Si) (r : Rt) (b : Int) (l : Int) (k : Int) (u : V3) (m : V3) (d : Int) (T : List (List Int)) : evR (ctxOf Tryd.prog tbI (fun _ => false) libN5) Tryd.f4 [(.w (.agg [.int .i64 s.lat, .int .i64 s.lon, .int .i64 r.t, .int .i64 r.a, .int .i64 r.n, .int .i64 r.d, .int .i64 b, .int .i64 l, .int .i64 k, .int .i64 u.x, .int .i64 u.y, .int .i64 u.z, .int .i64 m.x, .int .i64 m.y, .int .i64 m.z, .int .i64 d, .fv (.tab [some .i64] T)]))] [true, true] = some (AV.w (AW.one (AC.bool (spE r == spE r))), (pickL [(true, true), (i64B r.n, true), (i64B r.d, true), (decide (lenT T ≤ 9223372036854775807), true), (niE s r b l k u m d T == niE s r b l k u m d T, true)] [0, 0, 1, 2, 3, 0, 0, 1, 2, 3, 0, 0, 4, 4, 4, 1, 2, 4, 4, 4, 1, 2, 4, 4])) := by kernel_rfl
theorem len_of {W : World} {u : Value} {ks : List (Option IntKind)} {T : List (List Int)} (hu : tabHv (fun _ _ => False) W u ks T) : decide (lenT T ≤ 9223372036854775807) = true := by
  obtain ⟨p, cap, _, h1, h2, _⟩ := hu
  unfold lenT
  have : maxLen = 9223372036854775807 := by decide
  exact decide_eq_true (by omega)
theorem propNights_law (W : World) (x0 : Int) (hx0 : okK (some .i64) x0) (x1 : Int) (hx1 : okK (some .i64) x1) (x2 : Int) (hx2 : okK (some .i64) x2) (x3 : Int) (hx3 : okK (some .i64) x3) (x4 : Int) (hx4 : okK (some .i64) x4) (x5 : Int) (hx5 : okK (some .i64) x5) (b : Int) (hb : okK (some .i64) b) (l : Int) (hl : okK (some .i64) l) (k : Int) (hk : okK (some .i64) k) (x9 : Int) (hx9 : okK (some .i64) x9) (x10 : Int) (hx10 : okK (some .i64) x10) (x11 : Int) (hx11 : okK (some .i64) x11) (x12 : Int) (hx12 : okK (some .i64) x12) (x13 : Int) (hx13 : okK (some .i64) x13) (x14 : Int) (hx14 : okK (some .i64) x14) (d : Int) (hd : okK (some .i64) d) (T : List (List Int)) (u : Value) (hu : tabHv (fun _ _ => False) W u [some .i64] T) (hT : okRows [some .i64] T) :
    Calls Tryd.prog 4 #[.agg #[.int .i64 x0, .int .i64 x1, .int .i64 x2, .int .i64 x3, .int .i64 x4, .int .i64 x5, .int .i64 b, .int .i64 l, .int .i64 k, .int .i64 x9, .int .i64 x10, .int .i64 x11, .int .i64 x12, .int .i64 x13, .int .i64 x14, .int .i64 d, u]] W fun e w' => e = .returned (.bool true) ∧ Below W.heap.size W w' := by
  have hl := len_of hu
  have hn : i64B x4 = true := i64B_iff.2 (okK_i64 hx4)
  have hd : i64B x5 = true := i64B_iff.2 (okK_i64 hx5)
  have L := pnl_11 ⟨x0, x1⟩ ⟨x2, x3, x4, x5⟩ b l k ⟨x9, x10, x11⟩ ⟨x12, x13, x14⟩ d T
  have V : (spE ⟨x2, x3, x4, x5⟩ == spE ⟨x2, x3, x4, x5⟩) = true := by simp only [beq_self_eq_true]
  refine law_facts (I := tbI) (h := fun q v => q = .tab [some .i64] T ∧ v = u) (v := .bool true) (ctxOf_ok libN5_ok (eq_none _)) (by kernel_rfl) Tryd.func4 rfl lps_nil rfl (fun q v hq => by obtain ⟨rfl, rfl⟩ := hq; exact hu) L rfl (.cons ⟨_, rfl, (.cons rfl (.cons rfl (.cons rfl (.cons rfl (.cons rfl (.cons rfl (.cons rfl (.cons rfl (.cons rfl (.cons rfl (.cons rfl (.cons rfl (.cons rfl (.cons rfl (.cons rfl (.cons rfl (.cons ⟨rfl, rfl⟩ .nil)))))))))))))))))⟩ .nil) (congrArg (fun b => some (Value.bool b)) V) (pickL_ok ?_ _)
  repeat' (first | exact cd_nil | refine cd_cons ?_ ?_)
  all_goals first | with_reducible rfl | with_reducible assumption | (simp only [beq_self_eq_true]; done) | rfl
end
end Go.Proofs.YtbnlpcmnkcaemaaDoor.AtPr

