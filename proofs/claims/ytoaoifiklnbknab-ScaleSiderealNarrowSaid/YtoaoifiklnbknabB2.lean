/-
  Package bound: what its products, quotients and roots return, for every argument.
  Conditions: the numbers that are no bounds are int64.
-/
import Derived.Test.YtoaoifiklnbknabB1
import Derived.Test.YtoaoifiklnbknabNS
set_option linter.unusedVariables false
set_option linter.unusedSimpArgs false
namespace Go.Proofs.Ytoaoifiklnbknab
open Go.RowKit Ev Wd
variable {F : Type}

def quotB (x n d : Int) : Bd := bif divE (x * n) d == 0 && divE (x * n + (d - 1)) d == 0 then ofB (divV (x * n) d) (divV (x * n + (d - 1)) d) else noneB
def hull4 (a b c d : Bd) : Bd := hullB (hullB a b) (hullB c d)
def mulB (a b : Bd) (n : Int) : Bd := bif knB a && knB b then hull4 (quotB a.lo b.lo n) (quotB a.lo b.hi n) (quotB a.hi b.lo n) (quotB a.hi b.hi n) else noneB
def div4 (a b : Bd) (n : Int) : Bd := hull4 (quotB a.lo n b.lo) (quotB a.lo n b.hi) (quotB a.hi n b.lo) (quotB a.hi n b.hi)
def divB (a b : Bd) (n : Int) : Bd := bif !knB a || decide (n < 1) || hasB b 0 then noneB else bif decide (b.hi < 0) then div4 (negB a) (negB b) n else div4 a b n
def scaB (a : Bd) (n d : Int) : Bd := bif knB a && inB n then hullB (quotB a.lo n d) (quotB a.hi n d) else noneB
def rootUp (a b : Int) : Int := bif decide (isqI a b * isqI a b < a * b) then isqI a b + 1 else isqI a b
def rootB (a : Bd) (n : Int) : Bd := bif !knB a || decide (n < 1) || decide (a.hi < 0) then noneB else ofB (isqI (maxI a.lo 0) n) (rootUp a.hi n)
theorem kn64 {a : Bd} (h : knB a = true) : i64B a.lo = true ∧ i64B a.hi = true := by
  have := knB_iff.1 h
  rw [i64B_iff, i64B_iff]; omega
theorem normB_in (b : Bd) : -1152921504606846976 ≤ (normB b).lo ∧ (normB b).lo ≤ 1152921504606846976 ∧ -1152921504606846976 ≤ (normB b).hi ∧ (normB b).hi ≤ 1152921504606846976 := by
  unfold normB
  cases h : knB b with
  | false => simp only [cond_false]; decide
  | true => have := knB_iff.1 h; simp only [cond_true]; omega
theorem neg64 (a : Bd) : i64B (negB a).lo = true ∧ i64B (negB a).hi = true := by
  rw [i64B_iff, i64B_iff]
  unfold negB
  cases knB a with
  | false => simp only [cond_false]; decide
  | true => have := normB_in ⟨-a.hi, -a.lo, false⟩; simp only [cond_true, ofB]; omega

abbrev libB7 : List (Nat × FnSp Empty) := (73, muldivS) :: (49, muldivupS) :: (74, productS) :: (92, wcmpS) :: libB5

abbrev libB8 : List (Nat × FnSp Empty) := (64, sp3 (dInt .i64) (dInt .i64) (dInt .i64) (fun x n d => bA (quotB x n d)) (fun x n d => [(i64B x, true), (i64B n, true), (i64B d, true)])) :: (63, sp2 dBd dBd (fun a b => bA (hullB a b)) (fun _ _ => [])) :: (61, sp1 dBd (fun a => bA (negB a)) (fun _ => [])) :: (12, sp2 dBd (dInt .i64) (fun a v => aBool (hasB a v)) (fun _ _ => [])) :: libB7

theorem libB7_ok : LibOk Try.prog noFacts (lib1 libB7) := (lib1_cons (muldivS_ok _) Try.call73 (lib1_cons (muldivupS_ok _) Try.call49 (lib1_cons (productS_ok _) Try.call74 (lib1_cons (wcmpS_ok _) Try.call92 (libB5_ok)))))

set_option maxRecDepth 100000 in
theorem quot_l0 (x : Int) (n : Int) (d : Int) : evR (ctxOf Try.prog noFacts (fun _ => false) libB7) Try.f64 [(.w (.one (.int .i64 x))), (.w (.one (.int .i64 n))), (.w (.one (.int .i64 d)))] [true] = some (AV.w (AW.agg [AC.int IntKind.i64 noneB.lo, AC.int IntKind.i64 noneB.hi, AC.bool noneB.u]), [(i64B x, true), (i64B n, true), (i64B d, true), (divE (x * n) d != 0, true)]) := by kernel_rfl
set_option maxRecDepth 100000 in
theorem quot_l1 (x : Int) (n : Int) (d : Int) : evR (ctxOf Try.prog noFacts (fun _ => false) libB7) Try.f64 [(.w (.one (.int .i64 x))), (.w (.one (.int .i64 n))), (.w (.one (.int .i64 d)))] [false, true] = some (AV.w (AW.agg [AC.int IntKind.i64 noneB.lo, AC.int IntKind.i64 noneB.hi, AC.bool noneB.u]), [(i64B x, true), (i64B n, true), (i64B d, true), (divE (x * n) d != 0, false), (i64B x, true), (i64B n, true), (i64B d, true), (divE (x * n + (d - 1)) d != 0, true)]) := by kernel_rfl
set_option maxRecDepth 100000 in
theorem quot_l2 (x : Int) (n : Int) (d : Int) : evR (ctxOf Try.prog noFacts (fun _ => false) libB7) Try.f64 [(.w (.one (.int .i64 x))), (.w (.one (.int .i64 n))), (.w (.one (.int .i64 d)))] [false, false] = some (AV.w (AW.agg [AC.int IntKind.i64 (ofB (divV (x * n) d) (divV (x * n + (d - 1)) d)).lo, AC.int IntKind.i64 (ofB (divV (x * n) d) (divV (x * n + (d - 1)) d)).hi, AC.bool (ofB (divV (x * n) d) (divV (x * n + (d - 1)) d)).u]), [(i64B x, true), (i64B n, true), (i64B d, true), (divE (x * n) d != 0, false), (i64B x, true), (i64B n, true), (i64B d, true), (divE (x * n + (d - 1)) d != 0, false)]) := by kernel_rfl
set_option maxRecDepth 100000 in
theorem quot_t (x : Int) (n : Int) (d : Int) (s0 : (divE (x * n) d != 0) = true → i64B d = true) (s1 : (divE (x * n) d != 0) = true → i64B n = true) (s2 : (divE (x * n) d != 0) = true → i64B x = true) (s3 : (divE (x * n) d != 0) = false → (divE (x * n + (d - 1)) d != 0) = true → i64B d = true) (s4 : (divE (x * n) d != 0) = false → (divE (x * n + (d - 1)) d != 0) = true → i64B n = true) (s5 : (divE (x * n) d != 0) = false → (divE (x * n + (d - 1)) d != 0) = true → i64B x = true) (s6 : (divE (x * n) d != 0) = false → (divE (x * n + (d - 1)) d != 0) = false → i64B d = true) (s7 : (divE (x * n) d != 0) = false → (divE (x * n + (d - 1)) d != 0) = false → i64B n = true) (s8 : (divE (x * n) d != 0) = false → (divE (x * n + (d - 1)) d != 0) = false → i64B x = true) : Pl Try.prog 64 [.int .i64 x, .int .i64 n, .int .i64 d] (AV.get ((bif divE (x * n) d != 0 then (AV.w (AW.agg [AC.int IntKind.i64 noneB.lo, AC.int IntKind.i64 noneB.hi, AC.bool noneB.u])) else (bif divE (x * n + (d - 1)) d != 0 then (AV.w (AW.agg [AC.int IntKind.i64 noneB.lo, AC.int IntKind.i64 noneB.hi, AC.bool noneB.u])) else (AV.w (AW.agg [AC.int IntKind.i64 (ofB (divV (x * n) d) (divV (x * n + (d - 1)) d)).lo, AC.int IntKind.i64 (ofB (divV (x * n) d) (divV (x * n + (d - 1)) d)).hi, AC.bool (ofB (divV (x * n) d) (divV (x * n + (d - 1)) d)).u])))) : AV Empty)) :=
  (pl_node (fun h0 => (pl_leaf rfl (ctxOf_ok libB7_ok (eq_none _)) (by kernel_rfl) Try.func64 rfl (quot_l0 x n d) rfl (all2_R (.cons rfl (.cons rfl (.cons rfl .nil)))) rfl (cd_cons (s2 h0) (cd_cons (s1 h0) (cd_cons (s0 h0) (cd_cons h0 cd_nil)))))) (fun h0 => (pl_node (fun h1 => (pl_leaf rfl (ctxOf_ok libB7_ok (eq_none _)) (by kernel_rfl) Try.func64 rfl (quot_l1 x n d) rfl (all2_R (.cons rfl (.cons rfl (.cons rfl .nil)))) rfl (cd_cons (s5 h0 h1) (cd_cons (s4 h0 h1) (cd_cons (s3 h0 h1) (cd_cons h0 (cd_cons (s5 h0 h1) (cd_cons (s4 h0 h1) (cd_cons (s3 h0 h1) (cd_cons h1 cd_nil)))))))))) (fun h1 => (pl_leaf rfl (ctxOf_ok libB7_ok (eq_none _)) (by kernel_rfl) Try.func64 rfl (quot_l2 x n d) rfl (all2_R (.cons rfl (.cons rfl (.cons rfl .nil)))) rfl (cd_cons (s8 h0 h1) (cd_cons (s7 h0 h1) (cd_cons (s6 h0 h1) (cd_cons h0 (cd_cons (s8 h0 h1) (cd_cons (s7 h0 h1) (cd_cons (s6 h0 h1) (cd_cons h1 cd_nil)))))))))))))
theorem quot_pl (x : Int) (n : Int) (d : Int) (hx : i64B x = true) (hn : i64B n = true) (hd : i64B d = true) : Pl Try.prog 64 [.int .i64 x, .int .i64 n, .int .i64 d] (bV (quotB x n d)) := by
  refine Eq.mp (congrArg (Pl _ _ _) ?_) (quot_t x n d (fun h0 => by assumption) (fun h0 => by assumption) (fun h0 => by assumption) (fun h0 h1 => by assumption) (fun h0 h1 => by assumption) (fun h0 h1 => by assumption) (fun h0 h1 => by assumption) (fun h0 h1 => by assumption) (fun h0 h1 => by assumption))
  simp only [quotB, bne]; cases (divE (x * n) d == 0) <;> cases (divE (x * n + (d - 1)) d == 0) <;> rfl
theorem isq_in {x n : Int} (hx : i64B x = true) (hn : i64B n = true) : 0 ≤ isqI x n ∧ isqI x n * isqI x n ≤ (x.toNat : Int) * n.toNat ∧ isqI x n ≤ 9223372036854775807 := by
  rw [i64B_iff] at hx hn
  unfold isqI
  have h1 : isq (x.toNat * n.toNat) * isq (x.toNat * n.toNat) ≤ x.toNat * n.toNat := (isq_spec _).1
  have h2 : x.toNat * n.toNat ≤ 9223372036854775807 * 9223372036854775807 := Nat.mul_le_mul (by omega) (by omega)
  generalize isq (x.toNat * n.toNat) = r at h1
  refine ⟨by omega, by exact_mod_cast h1, ?_⟩
  have h3 : r < 9223372036854775808 := by
    rcases Nat.lt_or_ge r 9223372036854775808 with h | h
    · exact h
    · have := Nat.mul_le_mul h h
      omega
  omega
theorem has64 {b : Bd} (h : hasB b 0 = false) : i64B b.lo = true ∧ i64B b.hi = true := by
  unfold hasB at h
  cases hk : knB b with
  | false => rw [hk] at h; cases h
  | true => exact kn64 hk
theorem cut128 (n : Int) : n / 18446744073709551616 * 18446744073709551616 + n % 18446744073709551616 = n := by omega
theorem cmpI_neg (a b : Int) : decide (cmpI a b < 0) = decide (a < b) := by
  unfold cmpI
  by_cases h : a < b
  · simp [h]
  · by_cases g : b < a <;> simp [h, g]
theorem u64_mod (n : Int) : u64B (n % 18446744073709551616) = true := by rw [u64B_iff]; omega
theorem rootUp_val {x n : Int} (hx : i64B x = true) (hn : i64B n = true) (h : isqI x n * isqI x n < x * n) : IntKind.i64.wrap (isqI x n + 1) = isqI x n + 1 := by
  obtain ⟨h0, h1, h2⟩ := isq_in hx hn
  rw [i64B_iff] at hx hn
  refine IntWalk.i64_in _ ⟨by omega, ?_⟩
  rcases Int.lt_or_le (isqI x n) 9223372036854775807 with h3 | h3
  · omega
  · exfalso
    have e : isqI x n = 9223372036854775807 := by omega
    rw [e] at h
    rcases Int.le_total x 0 with hx0 | hx0
    · rcases Int.le_total n 0 with hn0 | hn0
      · have := Int.toNat_of_nonpos hx0
        have z : isqI x n = 0 := by unfold isqI; rw [this, Nat.zero_mul]; rfl
        omega
      · have := Int.mul_nonpos_of_nonpos_of_nonneg hx0 hn0
        omega
    · rcases Int.le_total n 0 with hn0 | hn0
      · have := Int.mul_nonpos_of_nonneg_of_nonpos hx0 hn0
        omega
      · have := Int.mul_le_mul hx.2 hn.2 hn0 (by omega)
        omega
theorem libB8_ok : LibOk Try.prog noFacts (lib1 libB8) := (lib1_cons (sp3_ok fun x n d hc => ⟨_, rfl, quot_pl x n d (cd3 hc).1 (cd3 hc).2.1 (cd3 hc).2.2⟩) Try.call64 (lib1_cons (sp2_ok fun a b _ => ⟨_, rfl, hull_pl a b⟩) Try.call63 (lib1_cons (sp1_ok fun a _ => ⟨_, rfl, neg_pl a⟩) Try.call61 (lib1_cons (sp2_ok fun a v _ => ⟨_, rfl, has_pl a v⟩) Try.call12 (libB7_ok)))))

set_option maxRecDepth 100000 in
theorem mul_l0 (a : Bd) (b : Bd) (n : Int) : evR (ctxOf Try.prog noFacts (fun _ => false) libB8) Try.f37 [(bA a), (bA b), (.w (.one (.int .i64 n)))] [true] = some (AV.w (AW.agg [AC.int IntKind.i64 noneB.lo, AC.int IntKind.i64 noneB.hi, AC.bool noneB.u]), [(!knB { lo := a.lo, hi := a.hi, u := a.u }, true), (!knB { lo := a.lo, hi := a.hi, u := a.u }, true), (!knB { lo := a.lo, hi := a.hi, u := a.u }, true), (!knB { lo := a.lo, hi := a.hi, u := a.u }, true), (true, true)]) := by kernel_rfl
set_option maxRecDepth 100000 in
theorem mul_l1 (a : Bd) (b : Bd) (n : Int) : evR (ctxOf Try.prog noFacts (fun _ => false) libB8) Try.f37 [(bA a), (bA b), (.w (.one (.int .i64 n)))] [false, true] = some (AV.w (AW.agg [AC.int IntKind.i64 noneB.lo, AC.int IntKind.i64 noneB.hi, AC.bool noneB.u]), [(!knB { lo := a.lo, hi := a.hi, u := a.u }, false), (!knB { lo := a.lo, hi := a.hi, u := a.u }, false), (!knB { lo := a.lo, hi := a.hi, u := a.u }, false), (!knB { lo := a.lo, hi := a.hi, u := a.u }, false), (!knB { lo := b.lo, hi := b.hi, u := b.u }, true)]) := by kernel_rfl
set_option maxRecDepth 100000 in
theorem mul_l2 (a : Bd) (b : Bd) (n : Int) : evR (ctxOf Try.prog noFacts (fun _ => false) libB8) Try.f37 [(bA a), (bA b), (.w (.one (.int .i64 n)))] [false, false] = some (AV.w (AW.agg [AC.int IntKind.i64 (hullB { lo := (hullB { lo := (quotB a.lo b.lo n).lo, hi := (quotB a.lo b.lo n).hi, u := (quotB a.lo b.lo n).u } { lo := (quotB a.lo b.hi n).lo, hi := (quotB a.lo b.hi n).hi, u := (quotB a.lo b.hi n).u }).lo, hi := (hullB { lo := (quotB a.lo b.lo n).lo, hi := (quotB a.lo b.lo n).hi, u := (quotB a.lo b.lo n).u } { lo := (quotB a.lo b.hi n).lo, hi := (quotB a.lo b.hi n).hi, u := (quotB a.lo b.hi n).u }).hi, u := (hullB { lo := (quotB a.lo b.lo n).lo, hi := (quotB a.lo b.lo n).hi, u := (quotB a.lo b.lo n).u } { lo := (quotB a.lo b.hi n).lo, hi := (quotB a.lo b.hi n).hi, u := (quotB a.lo b.hi n).u }).u } { lo := (hullB { lo := (quotB a.hi b.lo n).lo, hi := (quotB a.hi b.lo n).hi, u := (quotB a.hi b.lo n).u } { lo := (quotB a.hi b.hi n).lo, hi := (quotB a.hi b.hi n).hi, u := (quotB a.hi b.hi n).u }).lo, hi := (hullB { lo := (quotB a.hi b.lo n).lo, hi := (quotB a.hi b.lo n).hi, u := (quotB a.hi b.lo n).u } { lo := (quotB a.hi b.hi n).lo, hi := (quotB a.hi b.hi n).hi, u := (quotB a.hi b.hi n).u }).hi, u := (hullB { lo := (quotB a.hi b.lo n).lo, hi := (quotB a.hi b.lo n).hi, u := (quotB a.hi b.lo n).u } { lo := (quotB a.hi b.hi n).lo, hi := (quotB a.hi b.hi n).hi, u := (quotB a.hi b.hi n).u }).u }).lo, AC.int IntKind.i64 (hullB { lo := (hullB { lo := (quotB a.lo b.lo n).lo, hi := (quotB a.lo b.lo n).hi, u := (quotB a.lo b.lo n).u } { lo := (quotB a.lo b.hi n).lo, hi := (quotB a.lo b.hi n).hi, u := (quotB a.lo b.hi n).u }).lo, hi := (hullB { lo := (quotB a.lo b.lo n).lo, hi := (quotB a.lo b.lo n).hi, u := (quotB a.lo b.lo n).u } { lo := (quotB a.lo b.hi n).lo, hi := (quotB a.lo b.hi n).hi, u := (quotB a.lo b.hi n).u }).hi, u := (hullB { lo := (quotB a.lo b.lo n).lo, hi := (quotB a.lo b.lo n).hi, u := (quotB a.lo b.lo n).u } { lo := (quotB a.lo b.hi n).lo, hi := (quotB a.lo b.hi n).hi, u := (quotB a.lo b.hi n).u }).u } { lo := (hullB { lo := (quotB a.hi b.lo n).lo, hi := (quotB a.hi b.lo n).hi, u := (quotB a.hi b.lo n).u } { lo := (quotB a.hi b.hi n).lo, hi := (quotB a.hi b.hi n).hi, u := (quotB a.hi b.hi n).u }).lo, hi := (hullB { lo := (quotB a.hi b.lo n).lo, hi := (quotB a.hi b.lo n).hi, u := (quotB a.hi b.lo n).u } { lo := (quotB a.hi b.hi n).lo, hi := (quotB a.hi b.hi n).hi, u := (quotB a.hi b.hi n).u }).hi, u := (hullB { lo := (quotB a.hi b.lo n).lo, hi := (quotB a.hi b.lo n).hi, u := (quotB a.hi b.lo n).u } { lo := (quotB a.hi b.hi n).lo, hi := (quotB a.hi b.hi n).hi, u := (quotB a.hi b.hi n).u }).u }).hi, AC.bool (hullB { lo := (hullB { lo := (quotB a.lo b.lo n).lo, hi := (quotB a.lo b.lo n).hi, u := (quotB a.lo b.lo n).u } { lo := (quotB a.lo b.hi n).lo, hi := (quotB a.lo b.hi n).hi, u := (quotB a.lo b.hi n).u }).lo, hi := (hullB { lo := (quotB a.lo b.lo n).lo, hi := (quotB a.lo b.lo n).hi, u := (quotB a.lo b.lo n).u } { lo := (quotB a.lo b.hi n).lo, hi := (quotB a.lo b.hi n).hi, u := (quotB a.lo b.hi n).u }).hi, u := (hullB { lo := (quotB a.lo b.lo n).lo, hi := (quotB a.lo b.lo n).hi, u := (quotB a.lo b.lo n).u } { lo := (quotB a.lo b.hi n).lo, hi := (quotB a.lo b.hi n).hi, u := (quotB a.lo b.hi n).u }).u } { lo := (hullB { lo := (quotB a.hi b.lo n).lo, hi := (quotB a.hi b.lo n).hi, u := (quotB a.hi b.lo n).u } { lo := (quotB a.hi b.hi n).lo, hi := (quotB a.hi b.hi n).hi, u := (quotB a.hi b.hi n).u }).lo, hi := (hullB { lo := (quotB a.hi b.lo n).lo, hi := (quotB a.hi b.lo n).hi, u := (quotB a.hi b.lo n).u } { lo := (quotB a.hi b.hi n).lo, hi := (quotB a.hi b.hi n).hi, u := (quotB a.hi b.hi n).u }).hi, u := (hullB { lo := (quotB a.hi b.lo n).lo, hi := (quotB a.hi b.lo n).hi, u := (quotB a.hi b.lo n).u } { lo := (quotB a.hi b.hi n).lo, hi := (quotB a.hi b.hi n).hi, u := (quotB a.hi b.hi n).u }).u }).u]), [(!knB { lo := a.lo, hi := a.hi, u := a.u }, false), (!knB { lo := a.lo, hi := a.hi, u := a.u }, false), (!knB { lo := a.lo, hi := a.hi, u := a.u }, false), (!knB { lo := a.lo, hi := a.hi, u := a.u }, false), (!knB { lo := b.lo, hi := b.hi, u := b.u }, false), (i64B a.lo, true), (i64B b.lo, true), (i64B n, true), (i64B a.lo, true), (i64B b.hi, true), (i64B n, true), (i64B a.hi, true), (i64B b.lo, true), (i64B n, true), (i64B a.hi, true), (i64B b.hi, true), (i64B n, true)]) := by kernel_rfl
set_option maxRecDepth 100000 in
theorem mul_t (a : Bd) (b : Bd) (n : Int) (s0 : (!knB { lo := a.lo, hi := a.hi, u := a.u }) = false → (!knB { lo := b.lo, hi := b.hi, u := b.u }) = false → i64B n = true) (s1 : (!knB { lo := a.lo, hi := a.hi, u := a.u }) = false → (!knB { lo := b.lo, hi := b.hi, u := b.u }) = false → i64B b.hi = true) (s2 : (!knB { lo := a.lo, hi := a.hi, u := a.u }) = false → (!knB { lo := b.lo, hi := b.hi, u := b.u }) = false → i64B a.hi = true) (s3 : (!knB { lo := a.lo, hi := a.hi, u := a.u }) = false → (!knB { lo := b.lo, hi := b.hi, u := b.u }) = false → i64B b.lo = true) (s4 : (!knB { lo := a.lo, hi := a.hi, u := a.u }) = false → (!knB { lo := b.lo, hi := b.hi, u := b.u }) = false → i64B a.lo = true) : Pl Try.prog 37 [bV a, bV b, .int .i64 n] (AV.get ((bif !knB { lo := a.lo, hi := a.hi, u := a.u } then (AV.w (AW.agg [AC.int IntKind.i64 noneB.lo, AC.int IntKind.i64 noneB.hi, AC.bool noneB.u])) else (bif !knB { lo := b.lo, hi := b.hi, u := b.u } then (AV.w (AW.agg [AC.int IntKind.i64 noneB.lo, AC.int IntKind.i64 noneB.hi, AC.bool noneB.u])) else (AV.w (AW.agg [AC.int IntKind.i64 (hullB { lo := (hullB { lo := (quotB a.lo b.lo n).lo, hi := (quotB a.lo b.lo n).hi, u := (quotB a.lo b.lo n).u } { lo := (quotB a.lo b.hi n).lo, hi := (quotB a.lo b.hi n).hi, u := (quotB a.lo b.hi n).u }).lo, hi := (hullB { lo := (quotB a.lo b.lo n).lo, hi := (quotB a.lo b.lo n).hi, u := (quotB a.lo b.lo n).u } { lo := (quotB a.lo b.hi n).lo, hi := (quotB a.lo b.hi n).hi, u := (quotB a.lo b.hi n).u }).hi, u := (hullB { lo := (quotB a.lo b.lo n).lo, hi := (quotB a.lo b.lo n).hi, u := (quotB a.lo b.lo n).u } { lo := (quotB a.lo b.hi n).lo, hi := (quotB a.lo b.hi n).hi, u := (quotB a.lo b.hi n).u }).u } { lo := (hullB { lo := (quotB a.hi b.lo n).lo, hi := (quotB a.hi b.lo n).hi, u := (quotB a.hi b.lo n).u } { lo := (quotB a.hi b.hi n).lo, hi := (quotB a.hi b.hi n).hi, u := (quotB a.hi b.hi n).u }).lo, hi := (hullB { lo := (quotB a.hi b.lo n).lo, hi := (quotB a.hi b.lo n).hi, u := (quotB a.hi b.lo n).u } { lo := (quotB a.hi b.hi n).lo, hi := (quotB a.hi b.hi n).hi, u := (quotB a.hi b.hi n).u }).hi, u := (hullB { lo := (quotB a.hi b.lo n).lo, hi := (quotB a.hi b.lo n).hi, u := (quotB a.hi b.lo n).u } { lo := (quotB a.hi b.hi n).lo, hi := (quotB a.hi b.hi n).hi, u := (quotB a.hi b.hi n).u }).u }).lo, AC.int IntKind.i64 (hullB { lo := (hullB { lo := (quotB a.lo b.lo n).lo, hi := (quotB a.lo b.lo n).hi, u := (quotB a.lo b.lo n).u } { lo := (quotB a.lo b.hi n).lo, hi := (quotB a.lo b.hi n).hi, u := (quotB a.lo b.hi n).u }).lo, hi := (hullB { lo := (quotB a.lo b.lo n).lo, hi := (quotB a.lo b.lo n).hi, u := (quotB a.lo b.lo n).u } { lo := (quotB a.lo b.hi n).lo, hi := (quotB a.lo b.hi n).hi, u := (quotB a.lo b.hi n).u }).hi, u := (hullB { lo := (quotB a.lo b.lo n).lo, hi := (quotB a.lo b.lo n).hi, u := (quotB a.lo b.lo n).u } { lo := (quotB a.lo b.hi n).lo, hi := (quotB a.lo b.hi n).hi, u := (quotB a.lo b.hi n).u }).u } { lo := (hullB { lo := (quotB a.hi b.lo n).lo, hi := (quotB a.hi b.lo n).hi, u := (quotB a.hi b.lo n).u } { lo := (quotB a.hi b.hi n).lo, hi := (quotB a.hi b.hi n).hi, u := (quotB a.hi b.hi n).u }).lo, hi := (hullB { lo := (quotB a.hi b.lo n).lo, hi := (quotB a.hi b.lo n).hi, u := (quotB a.hi b.lo n).u } { lo := (quotB a.hi b.hi n).lo, hi := (quotB a.hi b.hi n).hi, u := (quotB a.hi b.hi n).u }).hi, u := (hullB { lo := (quotB a.hi b.lo n).lo, hi := (quotB a.hi b.lo n).hi, u := (quotB a.hi b.lo n).u } { lo := (quotB a.hi b.hi n).lo, hi := (quotB a.hi b.hi n).hi, u := (quotB a.hi b.hi n).u }).u }).hi, AC.bool (hullB { lo := (hullB { lo := (quotB a.lo b.lo n).lo, hi := (quotB a.lo b.lo n).hi, u := (quotB a.lo b.lo n).u } { lo := (quotB a.lo b.hi n).lo, hi := (quotB a.lo b.hi n).hi, u := (quotB a.lo b.hi n).u }).lo, hi := (hullB { lo := (quotB a.lo b.lo n).lo, hi := (quotB a.lo b.lo n).hi, u := (quotB a.lo b.lo n).u } { lo := (quotB a.lo b.hi n).lo, hi := (quotB a.lo b.hi n).hi, u := (quotB a.lo b.hi n).u }).hi, u := (hullB { lo := (quotB a.lo b.lo n).lo, hi := (quotB a.lo b.lo n).hi, u := (quotB a.lo b.lo n).u } { lo := (quotB a.lo b.hi n).lo, hi := (quotB a.lo b.hi n).hi, u := (quotB a.lo b.hi n).u }).u } { lo := (hullB { lo := (quotB a.hi b.lo n).lo, hi := (quotB a.hi b.lo n).hi, u := (quotB a.hi b.lo n).u } { lo := (quotB a.hi b.hi n).lo, hi := (quotB a.hi b.hi n).hi, u := (quotB a.hi b.hi n).u }).lo, hi := (hullB { lo := (quotB a.hi b.lo n).lo, hi := (quotB a.hi b.lo n).hi, u := (quotB a.hi b.lo n).u } { lo := (quotB a.hi b.hi n).lo, hi := (quotB a.hi b.hi n).hi, u := (quotB a.hi b.hi n).u }).hi, u := (hullB { lo := (quotB a.hi b.lo n).lo, hi := (quotB a.hi b.lo n).hi, u := (quotB a.hi b.lo n).u } { lo := (quotB a.hi b.hi n).lo, hi := (quotB a.hi b.hi n).hi, u := (quotB a.hi b.hi n).u }).u }).u])))) : AV Empty)) :=
  (pl_node (fun h0 => (pl_leaf rfl (ctxOf_ok libB8_ok (eq_none _)) (by kernel_rfl) Try.func37 rfl (mul_l0 a b n) rfl (all2_R (.cons rfl (.cons rfl (.cons rfl .nil)))) rfl (cd_cons h0 (cd_cons h0 (cd_cons h0 (cd_cons h0 (cd_cons rfl cd_nil))))))) (fun h0 => (pl_node (fun h1 => (pl_leaf rfl (ctxOf_ok libB8_ok (eq_none _)) (by kernel_rfl) Try.func37 rfl (mul_l1 a b n) rfl (all2_R (.cons rfl (.cons rfl (.cons rfl .nil)))) rfl (cd_cons h0 (cd_cons h0 (cd_cons h0 (cd_cons h0 (cd_cons h1 cd_nil))))))) (fun h1 => (pl_leaf rfl (ctxOf_ok libB8_ok (eq_none _)) (by kernel_rfl) Try.func37 rfl (mul_l2 a b n) rfl (all2_R (.cons rfl (.cons rfl (.cons rfl .nil)))) rfl (cd_cons h0 (cd_cons h0 (cd_cons h0 (cd_cons h0 (cd_cons h1 (cd_cons (s4 h0 h1) (cd_cons (s3 h0 h1) (cd_cons (s0 h0 h1) (cd_cons (s4 h0 h1) (cd_cons (s1 h0 h1) (cd_cons (s0 h0 h1) (cd_cons (s2 h0 h1) (cd_cons (s3 h0 h1) (cd_cons (s0 h0 h1) (cd_cons (s2 h0 h1) (cd_cons (s1 h0 h1) (cd_cons (s0 h0 h1) cd_nil))))))))))))))))))))))
theorem mul_pl (a : Bd) (b : Bd) (n : Int) (hn : i64B n = true) : Pl Try.prog 37 [bV a, bV b, .int .i64 n] (bV (mulB a b n)) := by
  refine Eq.mp (congrArg (Pl _ _ _) ?_) (mul_t a b n (fun h0 h1 => by first | assumption | exact (kn64 (by simpa using h0)).1 | exact (kn64 (by simpa using h0)).2 | exact (kn64 (by simpa using h1)).1 | exact (kn64 (by simpa using h1)).2 | exact (neg64 _).1 | exact (neg64 _).2) (fun h0 h1 => by first | assumption | exact (kn64 (by simpa using h0)).1 | exact (kn64 (by simpa using h0)).2 | exact (kn64 (by simpa using h1)).1 | exact (kn64 (by simpa using h1)).2 | exact (neg64 _).1 | exact (neg64 _).2) (fun h0 h1 => by first | assumption | exact (kn64 (by simpa using h0)).1 | exact (kn64 (by simpa using h0)).2 | exact (kn64 (by simpa using h1)).1 | exact (kn64 (by simpa using h1)).2 | exact (neg64 _).1 | exact (neg64 _).2) (fun h0 h1 => by first | assumption | exact (kn64 (by simpa using h0)).1 | exact (kn64 (by simpa using h0)).2 | exact (kn64 (by simpa using h1)).1 | exact (kn64 (by simpa using h1)).2 | exact (neg64 _).1 | exact (neg64 _).2) (fun h0 h1 => by first | assumption | exact (kn64 (by simpa using h0)).1 | exact (kn64 (by simpa using h0)).2 | exact (kn64 (by simpa using h1)).1 | exact (kn64 (by simpa using h1)).2 | exact (neg64 _).1 | exact (neg64 _).2))
  obtain ⟨x, y, u⟩ := a; obtain ⟨x', y', u'⟩ := b; simp only [mulB]; cases knB ⟨x, y, u⟩ <;> cases knB ⟨x', y', u'⟩ <;> rfl
end Go.Proofs.Ytoaoifiklnbknab

