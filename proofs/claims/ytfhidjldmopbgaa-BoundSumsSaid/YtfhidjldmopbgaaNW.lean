/-
  The reference's numbers for the evaluator: what its functions do, out of their contracts.
  Conditions: those of each theorem.
-/
import Derived.Test.YtfhidjldmopbgaaNV
import Derived.Test.YtfhidjldmopbgaaW1
import Derived.Test.YtfhidjldmopbgaaZC
set_option linter.unusedVariables false
set_option linter.unusedSimpArgs false
namespace Go.Proofs.Ytfhidjldmopbgaa
open Go.RowKit Go.Shelf Ev Zd Wd

theorem szB_le {z : Int} {k : Nat} (h : (digs z.natAbs).length ≤ k) (hk : k ≤ 1000) : szB z = true := szB_iff.2 (by omega)
/-- A number of at most this many digits. -/
def Dl (k : Nat) (z : Int) : Prop := (digs z.natAbs).length ≤ k
theorem Dl.sz {k : Nat} {z : Int} (h : Dl k z) (hk : k ≤ 1000) : szB z = true := szB_le h hk
theorem Dl.i64 {z : Int} (h : i64B z = true) : Dl 4 z := dlen64 (i64B_iff.1 h).1 (i64B_iff.1 h).2
theorem Dl.mul {a b : Int} {j k : Nat} (ha : Dl j a) (hb : Dl k b) : Dl (j + k) (a * b) := dlen_mulI ha hb
theorem Dl.le {a : Int} {j k : Nat} (ha : Dl j a) (h : j ≤ k) : Dl k a := Nat.le_trans ha h
theorem Dl.add {a b : Int} {k : Nat} (ha : Dl k a) (hb : Dl k b) : Dl (k + 1) (a + b) := dlen_addI ha hb
theorem Dl.neg {a : Int} {k : Nat} (ha : Dl k a) : Dl k (-a) := dlen_negI ha
theorem Dl.sub {a b : Int} {k : Nat} (ha : Dl k a) (hb : Dl k b) : Dl (k + 1) (a - b) := by
  rw [show a - b = a + -b by omega]; exact ha.add hb.neg
theorem Dl.add' {a b : Int} {j k : Nat} (ha : Dl j a) (hb : Dl k b) : Dl (j + k + 1) (a + b) := (ha.le (by omega)).add (hb.le (by omega))
theorem Dl.sub' {a b : Int} {j k : Nat} (ha : Dl j a) (hb : Dl k b) : Dl (j + k + 1) (a - b) := (ha.le (by omega)).sub (hb.le (by omega))
theorem Dl.lit {a : Int} (h1 : -9223372036854775808 ≤ a) (h2 : a ≤ 9223372036854775807) : Dl 4 a := dlen64 h1 h2
theorem Dl.div {a b : Int} {k : Nat} (ha : Dl k a) : Dl (k + 1) (a / b) := dlen_divI ha

def nI : List Ar → Option (List Rs × List (Bool × Bool))
  | [.pl (.int .i64 x)] => some ([.num x], [(i64B x, true)])
  | _ => none
theorem nI_ok : (nfn nI).ok Try.prog numI 10 := nfn_ok fun xa rs cd h hc => by
  unfold nI at h
  split at h
  · rename_i x
    cases h
    have := i64B_iff.1 (hc (i64B x, true) (by simp))
    exact n_of (vs := [.int .i64 x]) fun w => i_any x this.1 this.2 w
  · cases h
def nBin (z : Int → Int → Int) (pre : Int → Int → List (Bool × Bool)) : List Ar → Option (List Rs × List (Bool × Bool))
  | [.num a, .num b] => some ([.num (z a b)], pre a b)
  | _ => none
theorem nBin_ok {f : FuncId} {z : Int → Int → Int} {pre : Int → Int → List (Bool × Bool)} (h : ∀ a b, (∀ p ∈ pre a b, p.1 = p.2) → NCalls f [.num a, .num b] [.num (z a b)]) : (nfn (nBin z pre)).ok Try.prog numI f := nfn_ok fun xa rs cd hg hc => by
  unfold nBin at hg
  split at hg
  · cases hg; exact h _ _ hc
  · cases hg
def nUn (z : Int → Int) (pre : Int → List (Bool × Bool)) : List Ar → Option (List Rs × List (Bool × Bool))
  | [.num a] => some ([.num (z a)], pre a)
  | _ => none
theorem nUn_ok {f : FuncId} {z : Int → Int} {pre : Int → List (Bool × Bool)} (h : ∀ a, (∀ p ∈ pre a, p.1 = p.2) → NCalls f [.num a] [.num (z a)]) : (nfn (nUn z pre)).ok Try.prog numI f := nfn_ok fun xa rs cd hg hc => by
  unfold nUn at hg
  split at hg
  · cases hg; exact h _ hc
  · cases hg
/-- Plain results of numbers. -/
def nTo (r : Int → List (AW Nm)) (pre : Int → List (Bool × Bool)) : List Ar → Option (List Rs × List (Bool × Bool))
  | [.num a] => some ((r a).map .pl, pre a)
  | _ => none
theorem nTo_ok {f : FuncId} {r : Int → List (AW Nm)} {pre : Int → List (Bool × Bool)} (h : ∀ a, (∀ p ∈ pre a, p.1 = p.2) → NCalls f [.num a] ((r a).map .pl)) : (nfn (nTo r pre)).ok Try.prog numI f := nfn_ok fun xa rs cd hg hc => by
  unfold nTo at hg
  split at hg
  · cases hg; exact h _ hc
  · cases hg
def nTo2 (r : Int → Int → List (AW Nm)) (pre : Int → Int → List (Bool × Bool)) : List Ar → Option (List Rs × List (Bool × Bool))
  | [.num a, .num b] => some ((r a b).map .pl, pre a b)
  | _ => none
theorem nTo2_ok {f : FuncId} {r : Int → Int → List (AW Nm)} {pre : Int → Int → List (Bool × Bool)} (h : ∀ a b, (∀ p ∈ pre a b, p.1 = p.2) → NCalls f [.num a, .num b] ((r a b).map .pl)) : (nfn (nTo2 r pre)).ok Try.prog numI f := nfn_ok fun xa rs cd hg hc => by
  unfold nTo2 at hg
  split at hg
  · cases hg; exact h _ _ hc
  · cases hg
def sz1 (a : Int) : List (Bool × Bool) := [(szB a, true)]
def sz2 (a b : Int) : List (Bool × Bool) := [(szB a, true), (szB b, true)]
def szN (a b : Int) : List (Bool × Bool) := [(szB a, true), (szB b, true), (decide (b = 0), false)]
theorem sz1_le {a : Int} (h : ∀ p ∈ sz1 a, p.1 = p.2) : (digs a.natAbs).length ≤ 1000 := szB_iff.1 (h (szB a, true) (by simp [sz1]))
theorem sz2_le {a b : Int} (h : ∀ p ∈ sz2 a b, p.1 = p.2) : (digs a.natAbs).length ≤ 1000 ∧ (digs b.natAbs).length ≤ 1000 := ⟨szB_iff.1 (h (szB a, true) (by simp [sz2])), szB_iff.1 (h (szB b, true) (by simp [sz2]))⟩
theorem szN_le {a b : Int} (h : ∀ p ∈ szN a b, p.1 = p.2) : (digs a.natAbs).length ≤ 1000 ∧ (digs b.natAbs).length ≤ 1000 ∧ b ≠ 0 := ⟨szB_iff.1 (h (szB a, true) (by simp [szN])), szB_iff.1 (h (szB b, true) (by simp [szN])), fun e => by
  have := h (decide (b = 0), false) (by simp [szN])
  simp [e] at this⟩
theorem sm1 {a : Int} (h : (digs a.natAbs).length ≤ 1000) : Sm a := sm_le h (by omega)
def absI (a : Int) : Int := (a.natAbs : Int)
theorem Dl.abs {a : Int} {k : Nat} (ha : Dl k a) : Dl k (absI a) := by unfold Dl absI; rw [Int.natAbs_natCast]; exact ha
theorem absI_nn (a : Int) : 0 ≤ absI a := by unfold absI; omega
theorem absI_le {a k : Int} (h1 : -k ≤ a) (h2 : a ≤ k) : absI a ≤ k := by unfold absI; omega
def gcdZ (a b : Int) : Int := (Nat.gcd a.natAbs b.natAbs : Int)
abbrev nPlus := nBin (fun a b => a + b) sz2
abbrev nLess := nBin (fun a b => a - b) sz2
abbrev nTimes := nBin (fun a b => a * b) sz2
abbrev nMinus := nUn (fun a => -a) sz1
abbrev nAbs := nUn absI (fun _ => [])
abbrev nGcd := nBin gcdZ sz2
abbrev nSign := nTo (fun a => [.one (.int .i64 (cmpI a 0))]) (fun _ => [])
abbrev nCmp := nTo2 (fun a b => [.one (.int .i64 (cmpI a b))]) sz2
abbrev nFloor := nBin (fun a b => a / b) szN
abbrev nCeil := nBin (fun a b => -(-a / b)) szN
abbrev nSmall := nTo (fun a => [.one (.int .i64 (smV a)), .one (.bool (smB a))]) sz1
theorem nPlus_ok : (nfn nPlus).ok Try.prog numI 7 := nBin_ok fun a b hc => n_num2 fun va vb w ha hb => zplus_any va vb a b (sm1 (sz2_le hc).1) (sm1 (sz2_le hc).2) w ha hb
theorem nLess_ok : (nfn nLess).ok Try.prog numI 8 := nBin_ok fun a b hc => n_num2 fun va vb w ha hb => zless_any va vb a b (sm1 (sz2_le hc).1) (sm1 (sz2_le hc).2) w ha hb
theorem nTimes_ok : (nfn nTimes).ok Try.prog numI 19 := nBin_ok fun a b hc => n_num2 fun va vb w ha hb => ztimes_any va vb a b (by have := sz2_le hc; omega) w ha hb
theorem nMinus_ok : (nfn nMinus).ok Try.prog numI 9 := nUn_ok fun a hc => n_num1 fun v w ha => zminus_any v a (sm1 (sz1_le hc)) w ha
theorem nAbs_ok : (nfn nAbs).ok Try.prog numI 55 := nUn_ok fun a _ => n_num1 fun v w ha => zabs_any v a w ha
theorem nSign_ok : (nfn nSign).ok Try.prog numI 20 := nTo_ok fun a _ => n_pl1 rfl fun v w ha => sign_any v a w ha
theorem nCmp_ok : (nfn nCmp).ok Try.prog numI 25 := nTo2_ok fun a b hc => n_pl2 rfl fun va vb w ha hb => zcmp_any va vb a b (sm1 (sz2_le hc).1) (sm1 (sz2_le hc).2) w ha hb
theorem nFloor_ok : (nfn nFloor).ok Try.prog numI 37 := nBin_ok fun a b hc => n_num2 fun va vb w ha hb => zfloor_any va vb a b (szN_le hc).2.2 (by have := szN_le hc; omega) (by have := szN_le hc; omega) w ha hb
theorem nCeil_ok : (nfn nCeil).ok Try.prog numI 38 := nBin_ok fun a b hc => n_num2 fun va vb w ha hb => zceil_any va vb a b (szN_le hc).2.2 (by have := szN_le hc; omega) (by have := szN_le hc; omega) w ha hb
theorem nSmall_ok : (nfn nSmall).ok Try.prog numI 26 := nTo_ok fun a hc => n_tup1 rfl rfl fun v w ha => zsmall_any v a (sm1 (sz1_le hc)) w ha
/-- Split: the quotient and the remainder. -/
def nSplit : List Ar → Option (List Rs × List (Bool × Bool))
  | [.num a, .num b] => some ([.num (a / b), .num (a % b)], szN a b)
  | _ => none
theorem nSplit_ok : (nfn nSplit).ok Try.prog numI 49 := nfn_ok fun xa rs cd hg hc => by
  unfold nSplit at hg
  split at hg
  · rename_i a b
    cases hg
    obtain ⟨h1, h2, h3⟩ := szN_le hc
    intro w us hA
    obtain ⟨u, v, rfl, hu, hv⟩ := all2_two hA
    refine (zsplit_any u v a b h3 (by omega) (by omega) w hu hv).mono ?_
    rintro e w' ⟨q, r, rfl, h4, h5, h6⟩
    exact ⟨[q, r], .cons h4 (.cons h5 .nil), rfl, h6⟩
  · cases hg
end Go.Proofs.Ytfhidjldmopbgaa

