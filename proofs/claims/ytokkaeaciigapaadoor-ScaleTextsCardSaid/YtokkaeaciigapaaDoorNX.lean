/-
  The reference's numbers for the evaluator: what its functions do, out of their contracts.
  Conditions: those of each theorem.
-/
import Derived.Test.YtokkaeaciigapaaDoorNV
import Derived.Test.YtokkaeaciigapaaDoorZX
set_option linter.unusedVariables false
set_option linter.unusedSimpArgs false
namespace Go.Proofs.YtokkaeaciigapaaDoor
open Go.RowKit Go.Shelf Ev Zd Wd

theorem dlen64 {z : Int} (h1 : -9223372036854775808 ≤ z) (h2 : z ≤ 9223372036854775807) : (digs z.natAbs).length ≤ 4 := digs_len (by omega)
theorem sm_le {z : Int} {k : Nat} (h : (digs z.natAbs).length ≤ k) (hk : k ≤ 1000000) : Sm z := by unfold Sm; omega
theorem dlen_addI {a b : Int} {k : Nat} (ha : (digs a.natAbs).length ≤ k) (hb : (digs b.natAbs).length ≤ k) : (digs (a + b).natAbs).length ≤ k + 1 := by
  have h1 := len_le ha
  have h2 := len_le hb
  refine digs_len ?_
  rw [Nat.pow_succ]
  omega
theorem dlen_negI {a : Int} {k : Nat} (ha : (digs a.natAbs).length ≤ k) : (digs (-a).natAbs).length ≤ k := by rw [Int.natAbs_neg]; exact ha

theorem szB_le {z : Int} {k : Nat} (h : (digs z.natAbs).length ≤ k) (hk : k ≤ 1000) : szB z = true := szB_iff.2 (by omega)
/-- A number of at most this many digits. -/
def Dl (k : Nat) (z : Int) : Prop := (digs z.natAbs).length ≤ k
theorem Dl.sz {k : Nat} {z : Int} (h : Dl k z) (hk : k ≤ 1000) : szB z = true := szB_le h hk
theorem Dl.i64 {z : Int} (h : i64B z = true) : Dl 4 z := dlen64 (i64B_iff.1 h).1 (i64B_iff.1 h).2
theorem Dl.le {a : Int} {j k : Nat} (ha : Dl j a) (h : j ≤ k) : Dl k a := Nat.le_trans ha h
theorem Dl.add {a b : Int} {k : Nat} (ha : Dl k a) (hb : Dl k b) : Dl (k + 1) (a + b) := dlen_addI ha hb
theorem Dl.neg {a : Int} {k : Nat} (ha : Dl k a) : Dl k (-a) := dlen_negI ha
theorem Dl.sub {a b : Int} {k : Nat} (ha : Dl k a) (hb : Dl k b) : Dl (k + 1) (a - b) := by
  rw [show a - b = a + -b by omega]; exact ha.add hb.neg
theorem Dl.add' {a b : Int} {j k : Nat} (ha : Dl j a) (hb : Dl k b) : Dl (j + k + 1) (a + b) := (ha.le (by omega)).add (hb.le (by omega))
theorem Dl.sub' {a b : Int} {j k : Nat} (ha : Dl j a) (hb : Dl k b) : Dl (j + k + 1) (a - b) := (ha.le (by omega)).sub (hb.le (by omega))
theorem Dl.lit {a : Int} (h1 : -9223372036854775808 ≤ a) (h2 : a ≤ 9223372036854775807) : Dl 4 a := dlen64 h1 h2
def nI : List Ar → Option (List Rs × List (Bool × Bool))
  | [.pl (.int .i64 x)] => some ([.num x], [(i64B x, true)])
  | _ => none
theorem nI_ok : (nfn nI).ok Tryd.prog numI 29 := nfn_ok fun xa rs cd h hc => by
  unfold nI at h
  split at h
  · rename_i x
    cases h
    have := i64B_iff.1 (hc (i64B x, true) (by simp))
    exact n_of (vs := [.int .i64 x]) fun w => i_any x this.1 this.2 w
  · cases h
def nBin (z : Int → Int → Int) (pre : Int → Int → List (Bool × Bool)) : List Ar → Option (List Rs × List (Bool × Bool))
  | [.num a, .num b] => some ([.num (z a b)], pre a b)
  | _ => none
theorem nBin_ok {f : FuncId} {z : Int → Int → Int} {pre : Int → Int → List (Bool × Bool)} (h : ∀ a b, (∀ p ∈ pre a b, p.1 = p.2) → NCalls f [.num a, .num b] [.num (z a b)]) : (nfn (nBin z pre)).ok Tryd.prog numI f := nfn_ok fun xa rs cd hg hc => by
  unfold nBin at hg
  split at hg
  · cases hg; exact h _ _ hc
  · cases hg
def nUn (z : Int → Int) (pre : Int → List (Bool × Bool)) : List Ar → Option (List Rs × List (Bool × Bool))
  | [.num a] => some ([.num (z a)], pre a)
  | _ => none
theorem nUn_ok {f : FuncId} {z : Int → Int} {pre : Int → List (Bool × Bool)} (h : ∀ a, (∀ p ∈ pre a, p.1 = p.2) → NCalls f [.num a] [.num (z a)]) : (nfn (nUn z pre)).ok Tryd.prog numI f := nfn_ok fun xa rs cd hg hc => by
  unfold nUn at hg
  split at hg
  · cases hg; exact h _ hc
  · cases hg
/-- Plain results of numbers. -/
def nTo (r : Int → List (AW Nm)) (pre : Int → List (Bool × Bool)) : List Ar → Option (List Rs × List (Bool × Bool))
  | [.num a] => some ((r a).map .pl, pre a)
  | _ => none
theorem nTo_ok {f : FuncId} {r : Int → List (AW Nm)} {pre : Int → List (Bool × Bool)} (h : ∀ a, (∀ p ∈ pre a, p.1 = p.2) → NCalls f [.num a] ((r a).map .pl)) : (nfn (nTo r pre)).ok Tryd.prog numI f := nfn_ok fun xa rs cd hg hc => by
  unfold nTo at hg
  split at hg
  · cases hg; exact h _ hc
  · cases hg
def nTo2 (r : Int → Int → List (AW Nm)) (pre : Int → Int → List (Bool × Bool)) : List Ar → Option (List Rs × List (Bool × Bool))
  | [.num a, .num b] => some ((r a b).map .pl, pre a b)
  | _ => none
theorem nTo2_ok {f : FuncId} {r : Int → Int → List (AW Nm)} {pre : Int → Int → List (Bool × Bool)} (h : ∀ a b, (∀ p ∈ pre a b, p.1 = p.2) → NCalls f [.num a, .num b] ((r a b).map .pl)) : (nfn (nTo2 r pre)).ok Tryd.prog numI f := nfn_ok fun xa rs cd hg hc => by
  unfold nTo2 at hg
  split at hg
  · cases hg; exact h _ _ hc
  · cases hg
def sz1 (a : Int) : List (Bool × Bool) := [(szB a, true)]
def sz2 (a b : Int) : List (Bool × Bool) := [(szB a, true), (szB b, true)]
def szN (a b : Int) : List (Bool × Bool) := [(szB a, true), (szB b, true), (decide (b = 0), false)]
theorem sz1_le {a : Int} (h : ∀ p ∈ sz1 a, p.1 = p.2) : (digs a.natAbs).length ≤ 1000 := szB_iff.1 (h (szB a, true) (by simp [sz1]))
theorem sz2_le {a b : Int} (h : ∀ p ∈ sz2 a b, p.1 = p.2) : (digs a.natAbs).length ≤ 1000 ∧ (digs b.natAbs).length ≤ 1000 := ⟨szB_iff.1 (h (szB a, true) (by simp [sz2])), szB_iff.1 (h (szB b, true) (by simp [sz2]))⟩
theorem szN_le {a b : Int} (h : ∀ p ∈ szN a b, p.1 = p.2) : (digs a.natAbs).length ≤ 1000 ∧ (digs b.natAbs).length ≤ 1000 ∧ b ≠ 0 := ⟨szB_iff.1 (h (szB a, true) (by simp [szN])), szB_iff.1 (h (szB b, true) (by simp [szN])), fun e => by
  have := h (decide (b = 0), false) (by simp [szN])
  simp [e] at this⟩
theorem sm1 {a : Int} (h : (digs a.natAbs).length ≤ 1000) : Sm a := sm_le h (by omega)
def absI (a : Int) : Int := (a.natAbs : Int)
theorem Dl.abs {a : Int} {k : Nat} (ha : Dl k a) : Dl k (absI a) := by unfold Dl absI; rw [Int.natAbs_natCast]; exact ha
theorem absI_nn (a : Int) : 0 ≤ absI a := by unfold absI; omega
theorem absI_le {a k : Int} (h1 : -k ≤ a) (h2 : a ≤ k) : absI a ≤ k := by unfold absI; omega
def gcdZ (a b : Int) : Int := (Nat.gcd a.natAbs b.natAbs : Int)
abbrev nPlus := nBin (fun a b => a + b) sz2
abbrev nLess := nBin (fun a b => a - b) sz2
abbrev nTimes := nBin (fun a b => a * b) sz2
abbrev nMinus := nUn (fun a => -a) sz1
abbrev nAbs := nUn absI (fun _ => [])
abbrev nGcd := nBin gcdZ sz2
abbrev nSign := nTo (fun a => [.one (.int .i64 (cmpI a 0))]) (fun _ => [])
abbrev nCmp := nTo2 (fun a b => [.one (.int .i64 (cmpI a b))]) sz2
abbrev nFloor := nBin (fun a b => a / b) szN
abbrev nCeil := nBin (fun a b => -(-a / b)) szN
abbrev nSmall := nTo (fun a => [.one (.int .i64 (smV a)), .one (.bool (smB a))]) sz1
theorem nCmp_ok : (nfn nCmp).ok Tryd.prog numI 28 := nTo2_ok fun a b hc => n_pl2 rfl fun va vb w ha hb => zcmp_any va vb a b (sm1 (sz2_le hc).1) (sm1 (sz2_le hc).2) w ha hb
theorem nSmall_ok : (nfn nSmall).ok Tryd.prog numI 17 := nTo_ok fun a hc => n_tup1 rfl rfl fun v w ha => zsmall_any v a (sm1 (sz1_le hc)) w ha
end Go.Proofs.YtokkaeaciigapaaDoor

