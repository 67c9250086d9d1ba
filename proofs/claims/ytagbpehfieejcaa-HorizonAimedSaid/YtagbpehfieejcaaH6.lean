/-
  The walk of spykeep1.HorizonAimed: it returns true.
  Conditions: none.
-/
import Derived.Test.YtagbpehfieejcaaH4
import Derived.Test.YtagbpehfieejcaaH5
import Derived.Test.YtagbpehfieejcaaHE
set_option linter.unusedVariables false
set_option linter.unusedSimpArgs false
namespace Go.Proofs.Ytagbpehfieejcaa.AtHz
open Go.RowKit Ev Wd Tg
open Go.Proofs.Ytagbpehfieejcaa
variable {F : Type}
noncomputable section

noncomputable abbrev libA0 : List (Nat × FnSp Empty) := [(29, sp3 dSi (dInt .i64) dV3 (fun s t v => .tup [.agg [.int .i64 (aimAz s t v), .int .i64 (aimAl s t v)], .one (.int .i64 (aimE s t v))]) (fun _ t _ => [(i64B t, true)]))]
theorem libA0_ok : LibOk Try.prog noFacts (lib1 libA0) := (lib1_cons (sp3_ok fun s t v hc => ⟨_, rfl, aimf_pl s t v (c1' hc)⟩) Try.call29 (lib1_nil _ _))
theorem eqP_ok : EqOk Try.prog (tabOf Try.prog) (fun t => Nat.beq t 55) := eq_of fun t ht => by
  have := Nat.eq_of_beq_eq_true ht
  subst this
  exact ⟨by kernel_rfl, by kernel_rfl, by kernel_rfl⟩
theorem eqQ_ok : EqOk Try.prog (tabOf Try.prog) (fun t => Nat.beq t 55 || Nat.beq t 24) := eq_of fun t ht => by
  rcases Bool.or_eq_true_iff.1 ht with h | h
  · have := Nat.eq_of_beq_eq_true h
    subst this
    exact ⟨by kernel_rfl, by kernel_rfl, by kernel_rfl⟩
  · have := Nat.eq_of_beq_eq_true h
    subst this
    exact ⟨by kernel_rfl, by kernel_rfl, by kernel_rfl⟩
set_option maxRecDepth 100000 in
theorem hfa_1  : evR (ctxOf Try.prog noFacts (fun t => Nat.beq t 55) libA0) Try.f52 [] [true] = some (AV.w (AW.one (AC.bool (aimAz { lat := 536870912, lon := 0 } 0 { x := 0, y := 0, z := 1 } == 0 && (aimAl { lat := 536870912, lon := 0 } 0 { x := 0, y := 0, z := 1 } == 536870912 && true)))), (pickL [(i64B 0, true), (aimE { lat := 536870912, lon := 0 } 0 { x := 0, y := 0, z := 1 } == 0, true)] [0, 1, 1, 1, 1])) := by kernel_rfl
theorem isq_mul (n : Nat) : isq (n * n) = n := (isq_unique (Nat.le_refl _) (Nat.mul_lt_mul'' (by omega) (by omega))).symm
theorem hz_num : hzU ⟨536870912, 0⟩ 0 ⟨0, 0, 1⟩ = 759250125 ∧ hzN ⟨536870912, 0⟩ 0 ⟨0, 0, 1⟩ = 759250125 ∧ hzE ⟨536870912, 0⟩ 0 ⟨0, 0, 1⟩ = 0 := by decide +kernel
theorem hz_S : hzS ⟨536870912, 0⟩ 0 ⟨0, 0, 1⟩ = 759250125 := by
  unfold hzS
  rw [hz_num.2.1, hz_num.2.2, show ((759250125 : Int) * 759250125 + 0 * 0).toNat = 759250125 * 759250125 by decide +kernel, isq_mul]; rfl
theorem hfa_pl : Pl Try.prog 52 [] (.bool true) := fun w => by
  have hs : sE ⟨536870912, 0⟩ = 0 := by decide +kernel
  have hv : vE ⟨0, 0, 1⟩ = 0 := by decide +kernel
  have e1 : aimAz ⟨536870912, 0⟩ 0 ⟨0, 0, 1⟩ = 0 := by
    unfold aimAz azA; rw [if_neg (fun h => h hs), if_neg (fun h => h hv), hz_num.2.1, hz_num.2.2]; decide +kernel
  have e2 : aimAl ⟨536870912, 0⟩ 0 ⟨0, 0, 1⟩ = 536870912 := by
    unfold aimAl alA; rw [if_neg (fun h => h hs), if_neg (fun h => h hv), hz_num.1, hz_S]; decide +kernel
  have k1 : (aimE ⟨536870912, 0⟩ 0 ⟨0, 0, 1⟩ == 0) = true := by unfold aimE; rw [if_neg (fun h => h hs), hv]; rfl
  have L := hfa_1
  rw [e1, e2] at L
  refine evR_calls (I := noFacts) (v := .bool true) (ctxOf_ok libA0_ok eqP_ok) (by kernel_rfl) Try.func52 rfl lps_nil L rfl (all2_R .nil) rfl w (Nat.zero_le _) (pickL_ok ?_ _)
  repeat' (first | exact cd_nil | refine cd_cons ?_ ?_)
  all_goals first | rfl | with_reducible assumption
noncomputable abbrev libA1 : List (Nat × FnSp Fct) := [(52, sp0 (aBool true)), (46, sitS), (47, arS), (48, veS), (29, sp3 dSi (dInt .i64) dV3 (fun s t v => .tup [.agg [.int .i64 (aimAz s t v), .int .i64 (aimAl s t v)], .one (.int .i64 (aimE s t v))]) (fun _ t _ => [(i64B t, true)])), (49, sp3 dSi dBd dV3 (fun s b v => bA (htV s b v)) (fun _ _ _ => [])), (50, sp1 (dInt .i64) (fun x => bA (ofB x x)) (fun _ => [])), (51, sp1 (dInt .i64) (fun a => aInt .i64 (sinV a)) (fun a => [(i64B a, true)]))]
theorem libA1_ok (B : Nat) : LibOk Try.prog (fctI B) (lib1 libA1) := (lib1_cons (sp0_ok rfl hfa_pl) Try.call52 (lib1_cons (sitS_ok B) Try.call46 (lib1_cons (arS_ok B) Try.call47 (lib1_cons (veS_ok B) Try.call48 (lib1_cons (sp3_ok fun s t v hc => ⟨_, rfl, aimf_pl s t v (c1' hc)⟩) Try.call29 (lib1_cons (sp3_ok fun s b v _ => ⟨_, rfl, htf_pl s b v⟩) Try.call49 (lib1_cons (sp1_ok fun x _ => ⟨_, rfl, AtArc.exact_pl x⟩) Try.call50 (lib1_cons (sp1_ok fun a hc => ⟨_, rfl, sinf_pl a (cd1 hc)⟩) Try.call51 (lib1_nil _ _)))))))))
set_option maxRecDepth 100000 in
theorem had_1111111 (B : Nat) (l : List Int) : evL (ctxOf Try.prog (fctI B) (fun t => Nat.beq t 55 || Nat.beq t 24) libA1) Try.f8 l [] [true, true, true, true, true, true, true] = some (AV.w (AW.one (AC.bool ((htV (stV l 0) (ofB (arV l (stZ l 0)) (arV l (stZ l 0))) (veV l (arZ l (stZ l 0)))).lo == (htV { lat := (stV l 0).lat, lon := 0 } (ofB (IntKind.i64.wrap (arV l (stZ l 0) + (stV l 0).lon)) (IntKind.i64.wrap (arV l (stZ l 0) + (stV l 0).lon))) (veV l (arZ l (stZ l 0)))).lo && ((htV (stV l 0) (ofB (arV l (stZ l 0)) (arV l (stZ l 0))) (veV l (arZ l (stZ l 0)))).hi == (htV { lat := (stV l 0).lat, lon := 0 } (ofB (IntKind.i64.wrap (arV l (stZ l 0) + (stV l 0).lon)) (IntKind.i64.wrap (arV l (stZ l 0) + (stV l 0).lon))) (veV l (arZ l (stZ l 0)))).hi && ((htV (stV l 0) (ofB (arV l (stZ l 0)) (arV l (stZ l 0))) (veV l (arZ l (stZ l 0)))).u == (htV { lat := (stV l 0).lat, lon := 0 } (ofB (IntKind.i64.wrap (arV l (stZ l 0) + (stV l 0).lon)) (IntKind.i64.wrap (arV l (stZ l 0) + (stV l 0).lon))) (veV l (arZ l (stZ l 0)))).u && true))))), (pickL [(atB (0 + 12), true), (listB l, true), (atB 0, true), (atB (stZ l 0 + 6), true), (atB (stZ l 0), true), (atB (arZ l (stZ l 0) + 6), true), (atB (arZ l (stZ l 0)), true), (i64B (arV l (stZ l 0)), true), (i64B (IntKind.i64.wrap (arV l (stZ l 0) + (stV l 0).lon)), true), (i64B (aimAl (stV l 0) (arV l (stZ l 0)) (veV l (arZ l (stZ l 0)))), true), (true, true), (aimE (stV l 0) (arV l (stZ l 0)) (veV l (arZ l (stZ l 0))) == 0, true), (aimE { lat := (stV l 0).lat, lon := 0 } (IntKind.i64.wrap (arV l (stZ l 0) + (stV l 0).lon)) (veV l (arZ l (stZ l 0))) == 0, true), (aimAz (stV l 0) (arV l (stZ l 0)) (veV l (arZ l (stZ l 0))) == aimAz { lat := (stV l 0).lat, lon := 0 } (IntKind.i64.wrap (arV l (stZ l 0) + (stV l 0).lon)) (veV l (arZ l (stZ l 0))) && (aimAl (stV l 0) (arV l (stZ l 0)) (veV l (arZ l (stZ l 0))) == aimAl { lat := (stV l 0).lat, lon := 0 } (IntKind.i64.wrap (arV l (stZ l 0) + (stV l 0).lon)) (veV l (arZ l (stZ l 0))) && true), true), (!(htV (stV l 0) (ofB (arV l (stZ l 0)) (arV l (stZ l 0))) (veV l (arZ l (stZ l 0)))).u, true), (decide (sinV (aimAl (stV l 0) (arV l (stZ l 0)) (veV l (arZ l (stZ l 0)))) ≥ IntKind.i64.wrap ((htV (stV l 0) (ofB (arV l (stZ l 0)) (arV l (stZ l 0))) (veV l (arZ l (stZ l 0)))).lo - 40)), true), (decide (sinV (aimAl (stV l 0) (arV l (stZ l 0)) (veV l (arZ l (stZ l 0)))) ≤ IntKind.i64.wrap ((htV (stV l 0) (ofB (arV l (stZ l 0)) (arV l (stZ l 0))) (veV l (arZ l (stZ l 0)))).hi + 40)), true)] [0, 1, 2, 3, 1, 4, 5, 1, 6, 7, 8, 9, 10, 10, 10, 11, 11, 11, 12, 12, 12, 12, 13, 13, 13, 13, 14, 14, 14, 14, 14, 14, 15, 15, 15, 15, 15, 15, 16, 16, 16, 16, 16, 16, 16, 16, 16, 16, 16])) := by kernel_rfl
/-- A site to the east sees what another one sees when the sky has turned on. -/
theorem hz_turn {s u : Si} {t r : Int} (hl : u.lat = s.lat) (hc : hzL u r % 4294967296 = hzL s t % 4294967296) (v : V3) : azA u r v = azA s t v ∧ alA u r v = alA s t v := by
  have c := cos_cong hc
  have d := sin_cong hc
  have eO : hzO u r v = hzO s t v := by unfold hzO cpA; rw [c, d]
  have eE : hzE u r v = hzE s t v := by unfold hzE cpB; rw [c, d]
  have eU : hzU u r v = hzU s t v := by unfold hzU cpA; rw [eO, hl]
  have eN : hzN u r v = hzN s t v := by unfold hzN cpB; rw [eO, hl]
  have eS : hzS u r v = hzS s t v := by unfold hzS; rw [eN, eE]
  refine ⟨by unfold azA; rw [eE, eN], by unfold alA; rw [eU, eS]⟩
theorem ht_turn {s u : Si} {b d : Bd} (hl : u.lat = s.lat) (hs : sE s = 0) (hu : sE u = 0) (hc : hLoc u d = hLoc s b) (v : V3) : htV u d v = htV s b v := by
  have hA : hTA u = hTA s := by unfold hTA; rw [hl]
  have hB : hTB u = hTB s := by unfold hTB; rw [hl]
  have hC : hTC u d = hTC s b := by unfold hTC; rw [hc]
  have hD : hTD u d = hTD s b := by unfold hTD; rw [hc]
  have hE : hTE u d v = hTE s b v := by unfold hTE; rw [hC, hD]
  have hU : hTU u d v = hTU s b v := by unfold hTU; rw [hA, hB, hE]
  have hV : hTV u d v = hTV s b v := by unfold hTV; rw [hU]
  have hq : hQ u d v ↔ hQ s b v := by unfold hQ; rw [hc, hs, hu]
  unfold htV
  by_cases h : hQ s b v
  · rw [if_pos h, if_pos (hq.2 h), hV]
  · rw [if_neg h, if_neg (fun h' => h (hq.1 h'))]
theorem loc_at {s : Si} {t : Int} (hs : sE s = 0) (h1 : 0 ≤ t) (h2 : t ≤ 17179869184) : ofB t t = ⟨t, t, false⟩ ∧ hLoc s (ofB t t) = ⟨t + s.lon, t + s.lon, false⟩ := by
  have hs' := sE_iff.1 hs
  obtain ⟨e1, k1⟩ := ofB_mk (lo := s.lon) (hi := s.lon) (by omega) (Int.le_refl _) (by omega)
  obtain ⟨e2, k2⟩ := ofB_mk (lo := t) (hi := t) (by omega) (Int.le_refl _) (by omega)
  obtain ⟨e3, k3⟩ := ofB_mk (lo := t + s.lon) (hi := t + s.lon) (by omega) (Int.le_refl _) (by omega)
  refine ⟨e2, ?_⟩
  unfold hLoc addB
  rw [e1, e2, k1, k2]
  exact e3
set_option maxRecDepth 100000 in
theorem horizonAimed_walk (l : List Int) (p : Option Addr) (cap : Nat) (hL : listB l = true) (W : World)
    (hl : fctHolds W.heap.size (.ints l) W #[.slice p l.length cap]) : Calls Try.prog 8 #[.slice p l.length cap] W fun e w' => e = .returned (.bool true) ∧ Below W.heap.size W w' := by
  obtain ⟨hs, q1, q2⟩ := st_in l 0
  have ta := ar_in l (stZ l 0)
  have hv := ve_in l (arZ l (stZ l 0))
  have L := had_1111111 W.heap.size l
  generalize hS : stV l 0 = s at *
  generalize hT : arV l (stZ l 0) = t at *
  generalize hW : veV l (arZ l (stZ l 0)) = v at *
  have hs' := sE_iff.1 hs
  have e1 : IntKind.i64.wrap (t + s.lon) = t + s.lon := v64 (by omega) (by omega)
  rw [e1] at L
  have hu : sE ⟨s.lat, 0⟩ = 0 := sE_iff.2 (by simp only; omega)
  obtain ⟨b1, l1⟩ := loc_at (t := t) hs (by omega) (by omega)
  obtain ⟨b2, l2⟩ := loc_at (s := ⟨s.lat, 0⟩) (t := t + s.lon) hu (by omega) (by omega)
  have hh : htV ⟨s.lat, 0⟩ (ofB (t + s.lon) (t + s.lon)) v = htV s (ofB t t) v := ht_turn (s := s) (u := ⟨s.lat, 0⟩) (b := ofB t t) (d := ofB (t + s.lon) (t + s.lon)) rfl hs hu (by rw [l1, l2]; simp) v
  obtain ⟨z1, z2⟩ := hz_turn (s := s) (u := ⟨s.lat, 0⟩) (t := t) (r := t + s.lon) rfl (by unfold hzL; simp only; omega) v
  have n1 : ¬ sE s ≠ 0 := fun h => h hs
  have n2 : ¬ vE v ≠ 0 := fun h => h hv
  have n3 : ¬ sE ⟨s.lat, 0⟩ ≠ 0 := fun h => h hu
  have az : aimAz s t v = azA s t v := by unfold aimAz; rw [if_neg n1, if_neg n2]
  have al : aimAl s t v = alA s t v := by unfold aimAl; rw [if_neg n1, if_neg n2]
  have ae : aimE s t v = 0 := by unfold aimE; rw [if_neg n1, hv]
  have az' : aimAz ⟨s.lat, 0⟩ (t + s.lon) v = azA s t v := by unfold aimAz; rw [if_neg n3, if_neg n2, z1]
  have al' : aimAl ⟨s.lat, 0⟩ (t + s.lon) v = alA s t v := by unfold aimAl; rw [if_neg n3, if_neg n2, z2]
  have ae' : aimE ⟨s.lat, 0⟩ (t + s.lon) v = 0 := by unfold aimE; rw [if_neg n3, hv]
  rw [az', al', ae', az, al, ae, hh] at L
  have hq : hQ s (ofB t t) v := ⟨hs, hv, by rw [l1]⟩
  obtain ⟨hk, kn⟩ := ht_known hq
  have mn := aimed_in hs hv (t := t) (by omega) b1 hq
  have ku : (htV s (ofB t t) v).u = false := by rw [hk]
  have kb := knB_iff.1 kn
  generalize htV s (ofB t t) v = H at *
  have w1 : IntKind.i64.wrap (H.lo - 40) = H.lo - 40 := v64 (by omega) (by omega)
  have w2 : IntKind.i64.wrap (H.hi + 40) = H.hi + 40 := v64 (by omega) (by omega)
  rw [w1, w2, ku] at L
  have sr := sin_range (alA s t v)
  have alr : -4294967296 ≤ alA s t v ∧ alA s t v ≤ 4294967296 := by
    have := atanV_in (hzU s t v) (hzS s t v)
    unfold alA
    split <;> omega
  have i1 : i64B t = true := i64B_iff.2 (by omega)
  have i2 : i64B (t + s.lon) = true := i64B_iff.2 (by omega)
  have i3 : i64B (alA s t v) = true := i64B_iff.2 (by omega)
  have d1 : decide (sinV (alA s t v) ≥ H.lo - 40) = true := decide_eq_true mn.1
  have d2 : decide (sinV (alA s t v) ≤ H.hi + 40) = true := decide_eq_true mn.2
  have d3 : (azA s t v == azA s t v && (alA s t v == alA s t v && true)) = true := by simp
  have V : (H.lo == H.lo && (H.hi == H.hi && (false == false && true))) = true := by simp
  refine list_calls (B := W.heap.size) (v := .bool true) (ctxOf_ok (libA1_ok _) eqQ_ok) (by kernel_rfl) Try.func8 rfl L rfl .nil (congrArg (fun b => some (Value.bool b)) V) W rfl hl ?_
  clear L
  refine pickL_ok ?_ _
  repeat' (first | exact cd_nil | refine cd_cons ?_ ?_)
  all_goals first | with_reducible assumption | rfl | (with_reducible refine atB_iff.2 ?_; omega)
end
end Go.Proofs.Ytagbpehfieejcaa.AtHz

