/-
  A fact of the laws of package prop: its text of a programme, closed.
  Conditions: those of each theorem.
-/
import Derived.Test.YtbnlpcmnkcaemaaDoorNS
import Derived.Test.YtbnlpcmnkcaemaaDoorLS
set_option linter.unusedVariables false
set_option linter.unusedSimpArgs false
namespace Go.Proofs.YtbnlpcmnkcaemaaDoor.AtPr
open Go.RowKit Ev
open Go.Proofs.YtbnlpcmnkcaemaaDoor
noncomputable section

/-- A word and 3 behind it. -/
def ph3 (w : ByteArray) : ByteArray := sCat w (sCat (.mk #[32]) (sSub (.mk #[48, 49, 50, 51, 52, 53, 54, 55, 56, 57, 97, 98, 99, 100, 101, 102, 103, 104, 105, 106, 107, 108, 109, 110, 111, 112, 113, 114, 115, 116, 117, 118, 119, 120, 121, 122]) 3 (IntKind.i64.wrap (3 + 1))))
def phG (args : List (AV Empty)) (bs : List (Blk Empty)) : Option (AV Empty × List (Bool × Bool)) := match args, bs with
  | [.w (.one (.lit (.string w))), .w (.one (.slc 0 0 1 1))], [⟨t, [.int .i64 n]⟩] => bif Nat.beq t 3 then some (.w (.one (.lit (.string (ph3 w)))), [(decide (n = 3), true), (decide (sLen w ≤ 1000), true)]) else none
  | _, _ => none
noncomputable abbrev cxE : Ctx Empty := ctxOf Tryd.prog noFacts (fun _ => false) []
noncomputable abbrev fnsF : List (Nat × Func) := [(79, Tryd.f79), (93, Tryd.f93), (109, Tryd.f109)]
noncomputable abbrev fnsP : List (Nat × Func) := [(24, Tryd.f24), (9, Tryd.f9), (15, Tryd.f15), (45, Tryd.f45), (46, Tryd.f46), (11, Tryd.f11), (37, Tryd.f37), (38, Tryd.f38), (39, Tryd.f39), (69, Tryd.f69)]
noncomputable abbrev libP : List (Nat × FnSp Empty) := [(52, locSp cxE phG)]
theorem fnsF_ok : FnsOk Tryd.prog fnsF := (fns_cons Tryd.func79 rfl Tryd.call79 (fns_cons Tryd.func93 rfl Tryd.call93 (fns_cons Tryd.func109 rfl Tryd.call109 (fns_nil _))))
theorem fnsP_ok : FnsOk Tryd.prog fnsP := (fns_cons Tryd.func24 rfl Tryd.call24 (fns_cons Tryd.func9 rfl Tryd.call9 (fns_cons Tryd.func15 rfl Tryd.call15 (fns_cons Tryd.func45 rfl Tryd.call45 (fns_cons Tryd.func46 rfl Tryd.call46 (fns_cons Tryd.func11 rfl Tryd.call11 (fns_cons Tryd.func37 rfl Tryd.call37 (fns_cons Tryd.func38 rfl Tryd.call38 (fns_cons Tryd.func39 rfl Tryd.call39 (fns_cons Tryd.func69 rfl Tryd.call69 (fns_nil _)))))))))))
set_option maxRecDepth 100000 in
theorem phr_111110 (w : ByteArray) : evLoc (ctxIn Tryd.prog noFacts (fun _ => false) [] fnsF) Tryd.f52 [.w (.one (.lit (.string w))), .w (.one (.slc 0 0 1 1))] [⟨3, [.int .i64 3]⟩] [true, true, true, true, true, false] = some (AV.tup [AW.one (AC.lit (Value.string (sCat w (sCat (.mk #[32]) (sSub (.mk #[48, 49, 50, 51, 52, 53, 54, 55, 56, 57, 97, 98, 99, 100, 101, 102, 103, 104, 105, 106, 107, 108, 109, 110, 111, 112, 113, 114, 115, 116, 117, 118, 119, 120, 121, 122]) 3 (IntKind.i64.wrap (3 + 1))))))), AW.agg [AC.int IntKind.i64 3]], (pickL [(decide ((0 : Int) < ((1 : Nat) : Int)), true), (decide ((0 : Int) ≤ 0), true), ((10 : Int) == 10, true), (decide ((0 : Int) ≤ 3), true), (decide ((3 : Int) < 100), true), (decide ((3 : Int) < 10), true), (decide ((3 : Int) ≤ IntKind.i64.wrap (3 + 1)), true), (decide (IntKind.i64.wrap (3 + 1) ≤ sLen (.mk #[48, 49, 50, 51, 52, 53, 54, 55, 56, 57, 97, 98, 99, 100, 101, 102, 103, 104, 105, 106, 107, 108, 109, 110, 111, 112, 113, 114, 115, 116, 117, 118, 119, 120, 121, 122])), true), (decide (sLen (.mk #[32]) + sLen (sSub (.mk #[48, 49, 50, 51, 52, 53, 54, 55, 56, 57, 97, 98, 99, 100, 101, 102, 103, 104, 105, 106, 107, 108, 109, 110, 111, 112, 113, 114, 115, 116, 117, 118, 119, 120, 121, 122]) 3 (IntKind.i64.wrap (3 + 1))) ≤ 9223372036854775807), true), (decide (sLen w + sLen (sCat (.mk #[32]) (sSub (.mk #[48, 49, 50, 51, 52, 53, 54, 55, 56, 57, 97, 98, 99, 100, 101, 102, 103, 104, 105, 106, 107, 108, 109, 110, 111, 112, 113, 114, 115, 116, 117, 118, 119, 120, 121, 122]) 3 (IntKind.i64.wrap (3 + 1)))) ≤ 9223372036854775807), true), (decide (IntKind.i64.wrap (0 + 1) < ((1 : Nat) : Int)), false)] [0, 1, 0, 2, 3, 3, 3, 4, 5, 3, 6, 7, 8, 9, 10])) := by kernel_rfl
theorem c2q {a b : Bool} (h : ∀ p ∈ [(a, true), (b, true)], p.1 = p.2) : a = true ∧ b = true := ⟨h (a, true) (by simp), h (b, true) (by simp)⟩
set_option maxRecDepth 100000 in
theorem ph3_len : sLen (sCat (.mk #[32]) (sSub (.mk #[48, 49, 50, 51, 52, 53, 54, 55, 56, 57, 97, 98, 99, 100, 101, 102, 103, 104, 105, 106, 107, 108, 109, 110, 111, 112, 113, 114, 115, 116, 117, 118, 119, 120, 121, 122]) 3 (IntKind.i64.wrap (3 + 1)))) = 2 := by decide +kernel
set_option maxRecDepth 100000 in
theorem phG_ok : (locSp cxE phG).ok Tryd.prog noFacts 52 := by
  refine locSp_ok (ctxIn_ok (lib1_nil _ _) (eq_none _) fnsF_ok) (by kernel_rfl) Tryd.func52 rfl lps_nil rfl fun args bs x cd hg hc => ?_
  unfold phG at hg
  split at hg
  · rename_i w t n
    cases hq : Nat.beq t 3 with
    | false => rw [hq] at hg; cases hg
    | true =>
      rw [hq] at hg; simp only [cond_true] at hg
      cases hg
      have e1 := Nat.eq_of_beq_eq_true hq
      subst e1
      obtain ⟨h1, h2⟩ := c2q hc
      have h1 := of_decide_eq_true h1
      have h2 := of_decide_eq_true h2
      subst h1
      refine ⟨rfl, rfl, [true, true, true, true, true, false], _, _, phr_111110 w, fun E u hu => hu, pickL_ok ?_ _⟩
      repeat' (first | exact cd_nil | refine cd_cons ?_ ?_)
      all_goals first | with_reducible rfl | decide +kernel | (rw [ph3_len]; exact decide_eq_true (by omega))
  · cases hg
theorem libP_ok : LibOk Tryd.prog noFacts (lib1 libP) := (lib1_cons phG_ok Tryd.call52 (lib1_nil _ _))
set_option maxRecDepth 100000 in
theorem prp_001101011011011011001000000010011101011010001010000110101101101101100011  : evR (ctxIn Tryd.prog noFacts (fun _ => false) libP fnsP) Tryd.f8 [] [false, false, true, true, false, true, false, true, true, false, true, true, false, true, true, false, true, true, false, false, true, false, false, false, false, false, false, false, true, false, false, true, true, true, false, true, false, true, true, false, true, false, false, false, true, false, true, false, false, false, false, true, true, false, true, false, true, true, false, true, true, false, true, true, false, true, true, false, false, false, true, true] = some (AV.w (AW.one (AC.bool ((4 : Int) == 4))), (pickL [(decide (((1 : Nat) : Int) > 6), false), (decide ((0 : Int) > 16), false), (decide ((0 : Int) < ((1 : Nat) : Int)), true), (decide ((0 : Int) ≤ 0), true), (decide ((1 : Int) ≤ sLen (.mk #[100, 101, 101, 112])), true), (!decide (sLen (.mk #[100, 101, 101, 112]) ≤ 12), false), (decide ((0 : Int) < sLen (.mk #[100, 101, 101, 112])), true), (decide ((97 : Int) ≤ sAt (.mk #[100, 101, 101, 112]) 0), true), (!decide (sAt (.mk #[100, 101, 101, 112]) 0 ≤ 122), false), (false, false), (decide (IntKind.i64.wrap (0 + 1) < sLen (.mk #[100, 101, 101, 112])), true), (decide ((0 : Int) ≤ IntKind.i64.wrap (0 + 1)), true), (decide ((97 : Int) ≤ sAt (.mk #[100, 101, 101, 112]) (IntKind.i64.wrap (0 + 1))), true), (!decide (sAt (.mk #[100, 101, 101, 112]) (IntKind.i64.wrap (0 + 1)) ≤ 122), false), (decide (IntKind.i64.wrap (IntKind.i64.wrap (0 + 1) + 1) < sLen (.mk #[100, 101, 101, 112])), true), (decide ((0 : Int) ≤ IntKind.i64.wrap (IntKind.i64.wrap (0 + 1) + 1)), true), (decide ((97 : Int) ≤ sAt (.mk #[100, 101, 101, 112]) (IntKind.i64.wrap (IntKind.i64.wrap (0 + 1) + 1))), true), (!decide (sAt (.mk #[100, 101, 101, 112]) (IntKind.i64.wrap (IntKind.i64.wrap (0 + 1) + 1)) ≤ 122), false), (decide (IntKind.i64.wrap (IntKind.i64.wrap (IntKind.i64.wrap (0 + 1) + 1) + 1) < sLen (.mk #[100, 101, 101, 112])), true), (decide ((0 : Int) ≤ IntKind.i64.wrap (IntKind.i64.wrap (IntKind.i64.wrap (0 + 1) + 1) + 1)), true), (decide ((97 : Int) ≤ sAt (.mk #[100, 101, 101, 112]) (IntKind.i64.wrap (IntKind.i64.wrap (IntKind.i64.wrap (0 + 1) + 1) + 1))), true), (!decide (sAt (.mk #[100, 101, 101, 112]) (IntKind.i64.wrap (IntKind.i64.wrap (IntKind.i64.wrap (0 + 1) + 1) + 1)) ≤ 122), false), (decide (IntKind.i64.wrap (IntKind.i64.wrap (IntKind.i64.wrap (IntKind.i64.wrap (0 + 1) + 1) + 1) + 1) < sLen (.mk #[100, 101, 101, 112])), false), (!true, false), (decide ((1 : Int) ≤ 3), true), (!decide ((3 : Int) ≤ 100), false), ((0 : Int) != 0, false), (mB [] (Value.string (.mk #[100, 101, 101, 112])), false), (decide (IntKind.i64.wrap (0 + 1) < ((1 : Nat) : Int)), false), (decide ((0 : Int) < 0), false), (decide (sLen (.mk #[112, 114, 111, 112, 111, 115, 97, 108, 32]) + sLen (.mk #[100, 101, 101, 112]) ≤ 9223372036854775807), true), (decide (sLen (sCat (.mk #[112, 114, 111, 112, 111, 115, 97, 108, 32]) (.mk #[100, 101, 101, 112])) + sLen (.mk #[32]) ≤ 9223372036854775807), true), (decide ((3 : Int) = 3), true), (decide (sLen (.mk #[115, 104, 97, 114, 101]) ≤ 1000), true), (decide (sLen (sCat (sCat (.mk #[112, 114, 111, 112, 111, 115, 97, 108, 32]) (.mk #[100, 101, 101, 112])) (.mk #[32])) + sLen (ph3 (.mk #[115, 104, 97, 114, 101])) ≤ 9223372036854775807), true), (decide (sLen (sCat (sCat (sCat (.mk #[112, 114, 111, 112, 111, 115, 97, 108, 32]) (.mk #[100, 101, 101, 112])) (.mk #[32])) (ph3 (.mk #[115, 104, 97, 114, 101]))) + sLen (.mk #[10]) ≤ 9223372036854775807), true), (decide (sLen (.mk #[]) + sLen (sCat (sCat (sCat (sCat (.mk #[112, 114, 111, 112, 111, 115, 97, 108, 32]) (.mk #[100, 101, 101, 112])) (.mk #[32])) (ph3 (.mk #[115, 104, 97, 114, 101]))) (.mk #[10])) ≤ 9223372036854775807), true), ((0 : Int) == 0, true), (sEq (sCat (.mk #[]) (sCat (sCat (sCat (sCat (.mk #[112, 114, 111, 112, 111, 115, 97, 108, 32]) (.mk #[100, 101, 101, 112])) (.mk #[32])) (ph3 (.mk #[115, 104, 97, 114, 101]))) (.mk #[10]))) (.mk #[112, 114, 111, 112, 111, 115, 97, 108, 32, 100, 101, 101, 112, 32, 115, 104, 97, 114, 101, 32, 51, 10]), true), (decide ((1 : Int) ≤ sLen (.mk #[97, 45, 49])), true), (!decide (sLen (.mk #[97, 45, 49]) ≤ 12), false), (decide ((0 : Int) < sLen (.mk #[97, 45, 49])), true), (decide ((97 : Int) ≤ sAt (.mk #[97, 45, 49]) 0), true), (!decide (sAt (.mk #[97, 45, 49]) 0 ≤ 122), false), (decide (IntKind.i64.wrap (0 + 1) < sLen (.mk #[97, 45, 49])), true), (decide ((97 : Int) ≤ sAt (.mk #[97, 45, 49]) (IntKind.i64.wrap (0 + 1))), false), (!false, true), (decide ((48 : Int) ≤ sAt (.mk #[97, 45, 49]) (IntKind.i64.wrap (0 + 1))), false), (sAt (.mk #[97, 45, 49]) (IntKind.i64.wrap (0 + 1)) != 45, false), (decide (IntKind.i64.wrap (IntKind.i64.wrap (0 + 1) + 1) < sLen (.mk #[97, 45, 49])), true), (decide ((97 : Int) ≤ sAt (.mk #[97, 45, 49]) (IntKind.i64.wrap (IntKind.i64.wrap (0 + 1) + 1))), false), (decide ((48 : Int) ≤ sAt (.mk #[97, 45, 49]) (IntKind.i64.wrap (IntKind.i64.wrap (0 + 1) + 1))), true), (!decide (sAt (.mk #[97, 45, 49]) (IntKind.i64.wrap (IntKind.i64.wrap (0 + 1) + 1)) ≤ 57), false), (decide (IntKind.i64.wrap (IntKind.i64.wrap (IntKind.i64.wrap (0 + 1) + 1) + 1) < sLen (.mk #[97, 45, 49])), false), (true, true), (decide ((1 : Int) ≤ 0), false), ((4 : Int) != 0, true)] [0, 0, 0, 0, 0, 1, 2, 3, 2, 4, 4, 4, 4, 5, 5, 3, 6, 5, 7, 7, 7, 7, 5, 5, 8, 6, 3, 6, 7, 7, 7, 7, 8, 8, 8, 8, 9, 9, 9, 9, 10, 11, 10, 12, 12, 12, 12, 13, 13, 13, 13, 9, 9, 9, 9, 14, 15, 14, 16, 16, 16, 16, 17, 17, 17, 17, 9, 9, 9, 9, 18, 19, 18, 20, 20, 20, 20, 21, 21, 21, 21, 9, 9, 9, 9, 22, 23, 24, 24, 24, 24, 25, 26, 27, 28, 26, 29, 26, 2, 3, 2, 30, 31, 32, 33, 34, 35, 36, 28, 29, 37, 37, 37, 38, 39, 39, 39, 39, 40, 40, 3, 41, 40, 42, 42, 42, 42, 40, 40, 43, 41, 3, 41, 42, 42, 42, 42, 43, 43, 43, 43, 9, 9, 9, 9, 44, 11, 44, 45, 45, 45, 45, 46, 46, 47, 47, 47, 47, 46, 46, 46, 46, 46, 48, 49, 15, 49, 50, 50, 50, 50, 46, 46, 51, 51, 51, 51, 46, 46, 52, 52, 52, 9, 53, 38, 54, 54, 54, 54, 0, 0, 0, 0, 0, 1, 2, 3, 2, 4, 4, 4, 4, 5, 5, 3, 6, 5, 7, 7, 7, 7, 5, 5, 8, 6, 3, 6, 7, 7, 7, 7, 8, 8, 8, 8, 9, 9, 9, 9, 10, 11, 10, 12, 12, 12, 12, 13, 13, 13, 13, 9, 9, 9, 9, 14, 15, 14, 16, 16, 16, 16, 17, 17, 17, 17, 9, 9, 9, 9, 18, 19, 18, 20, 20, 20, 20, 21, 21, 21, 21, 9, 9, 9, 9, 22, 23, 55, 55, 55, 55, 46, 56, 56, 54, 54])) := by kernel_rfl
set_option maxRecDepth 100000 in
theorem props_pl : Pl Tryd.prog 8 [] (.bool true) := fun w => by
  have V : true = (((4 : Int) == 4)) := by decide +kernel
  rw [V]
  refine evR_calls (I := noFacts) (v := .bool (((4 : Int) == 4))) (ctxIn_ok libP_ok (eq_none _) fnsP_ok) (by kernel_rfl) Tryd.func8 rfl lps_nil prp_001101011011011011001000000010011101011010001010000110101101101101100011 rfl (all2_R .nil) rfl w (Nat.zero_le _) (pickL_ok ?_ _)
  repeat' (first | exact cd_nil | refine cd_cons ?_ ?_)
  all_goals first | with_reducible rfl | decide +kernel
end
end Go.Proofs.YtbnlpcmnkcaemaaDoor.AtPr

