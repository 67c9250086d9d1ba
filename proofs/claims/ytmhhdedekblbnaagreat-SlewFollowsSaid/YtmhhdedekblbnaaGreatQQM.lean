/-
 Axes: braking distances, the motion rule, the nearest position of an angle (pure mathematics).
 Conditions: those of each theorem.
-/
set_option linter.unusedVariables false
set_option linter.unusedSimpArgs false
namespace Go.Proofs.YtmhhdedekblbnaaGreat.AtSl
def mi (a b : Int) : Int := if b < a then b else a
def ma (a b : Int) : Int := if b > a then b else a
theorem mi_eq (a b : Int) : mi a b = min a b := by unfold mi; split <;> omega
structure Ax where
 mn : Int
 mx : Int
 sp : Int
 ac : Int
def okA (a : Ax) : Prop := (-17179869184 <= a.mn /\ a.mx <= 17179869184 /\ a.mn <= a.mx) /\ (16777216 <= a.sp /\ a.sp <= 1073741824) /\ 1 <= a.ac /\ a.ac <= a.sp /\ a.sp <= 64 * a.ac
def axE (a : Ax) : Int := if -17179869184 <= a.mn /\ a.mx <= 17179869184 then (if a.mn <= a.mx then (if (16777216 <= a.sp /\ a.sp <= 1073741824) /\ 1 <= a.ac /\ a.ac <= a.sp /\ a.sp <= 64 * a.ac then 0 else 4) else 11) else 4
theorem axE_ok {a : Ax} : axE a = 0 ↔ okA a := by
 unfold axE okA
 split
 · split
   · split
     · omega
     · omega
   · omega
 · omega
def inA (a : Ax) (p : Int) : Bool := decide (a.mn <= p) && decide (p <= a.mx)
theorem inA_iff {a : Ax} {p : Int} : inA a p = true ↔ a.mn <= p /\ p <= a.mx := by unfold inA; simp
theorem inA_no {a : Ax} {p : Int} : inA a p = false ↔ ¬ (a.mn <= p /\ p <= a.mx) := by rw [<- inA_iff, Bool.not_eq_true]

def tr : Nat -> Int
 | 0 => 0
 | c + 1 => tr c + c
theorem tr2 : ∀ c : Nat, (c : Int) * ((c : Int) - 1) = 2 * tr c
 | 0 => rfl
 | c + 1 => by
   have h := tr2 c
   simp only [tr]
   push_cast
   have e : ((c : Int) + 1) * ((c : Int) + 1 - 1) = (c : Int) * ((c : Int) - 1) + 2 * c := by
     rw [Int.add_sub_cancel, Int.add_mul, Int.mul_sub]; omega
   rw [e, h]; omega
theorem tr_nn : ∀ c : Nat, 0 <= tr c
 | 0 => by simp [tr]
 | c + 1 => by have := tr_nn c; simp only [tr]; omega
theorem tr_ge : ∀ c : Nat, 2 <= c -> (c : Int) <= tr (c + 1)
 | 0, h => by omega
 | c + 1, h => by have := tr_nn (c + 1); simp only [tr] at *; omega
theorem dv2 (A : Int) (c : Nat) : A * (c : Int) * ((c : Int) - 1) / 2 = A * tr c := by
 rw [Int.mul_assoc, tr2, Int.mul_comm 2, <- Int.mul_assoc, Int.mul_ediv_cancel _ (by decide)]
theorem dv2' (A : Int) (c : Nat) : A * (c : Int) * ((c : Int) + 1) / 2 = A * tr (c + 1) := by
 have h := dv2 A (c + 1)
 have e : A * ((c + 1 : Nat) : Int) * (((c + 1 : Nat) : Int) - 1) = A * (c : Int) * ((c : Int) + 1) := by
   push_cast
   rw [Int.add_sub_cancel, Int.mul_assoc, Int.mul_comm ((c : Int) + 1), <- Int.mul_assoc]
 rw [<- e]; exact h

def brk (A : Int) : Nat -> Int -> Int
 | 0, _ => 0
 | n + 1, v => if 0 < v then v + brk A n (v - A) else 0
theorem brk_neg {A v : Int} (h : v <= 0) : ∀ n, brk A n v = 0
 | 0 => rfl
 | n + 1 => if_neg (by omega)
theorem brk_stab {A : Int} (hA : 1 <= A) : ∀ n m v, (v : Int).toNat <= n -> v.toNat <= m -> brk A n v = brk A m v
 | 0, m, v, h1, h2 => by rw [brk_neg (by omega), brk_neg (by omega)]
 | n + 1, 0, v, h1, h2 => by rw [brk_neg (by omega), brk_neg (by omega)]
 | n + 1, m + 1, v, h1, h2 => by
   unfold brk
   split
   · rw [brk_stab hA n m (v - A) (by omega) (by omega)]
   · rfl
def brV (A v : Int) : Int := brk A v.toNat v
theorem brV_neg {A v : Int} (h : v <= 0) : brV A v = 0 := brk_neg h _
theorem brV_pos {A v : Int} (hA : 1 <= A) (h : 0 < v) : brV A v = v + brV A (v - A) := by
 unfold brV
 obtain ⟨n, hn⟩ : ∃ n, v.toNat = n + 1 := ⟨v.toNat - 1, by omega⟩
 rw [hn]
 show (if 0 < v then v + brk A n (v - A) else 0) = _
 rw [if_pos h, brk_stab hA n (v - A).toNat (v - A) (by omega) (by omega)]
theorem brV_nn {A : Int} (hA : 1 <= A) : ∀ (n : Nat) (v : Int), v.toNat <= n -> 0 <= brV A v
 | 0, v, h => by rw [brV_neg (by omega)]; omega
 | n + 1, v, h => by
   by_cases hv : 0 < v
   · have := brV_nn hA n (v - A) (by omega)
     rw [brV_pos hA hv]; omega
   · rw [brV_neg (by omega)]; omega
theorem brV_mono {A : Int} (hA : 1 <= A) : ∀ (n : Nat) (v w : Int), w.toNat <= n -> v <= w -> brV A v <= brV A w
 | 0, v, w, h, hv => by rw [brV_neg (by omega), brV_neg (by omega)]; omega
 | n + 1, v, w, h, hv => by
   by_cases h0 : 0 < v
   · have := brV_mono hA n (v - A) (w - A) (by omega) (by omega)
     rw [brV_pos hA h0, brV_pos hA (show 0 < w by omega)]; omega
   · rw [brV_neg (by omega)]; exact brV_nn hA _ w (Nat.le_refl _)
theorem brV_ge {A : Int} (hA : 1 <= A) : ∀ (c : Nat) (v : Int), (c : Int) * v - A * tr c <= brV A v
 | 0, v => by have := brV_nn hA _ v (Nat.le_refl _); simp only [tr]; omega
 | c + 1, v => by
   by_cases hv : 0 < v
   · have h := brV_ge hA c (v - A)
     rw [brV_pos hA hv]
     simp only [tr]
     push_cast
     rw [Int.mul_sub] at h
     rw [Int.add_mul, Int.mul_add, Int.mul_comm A (c : Int)]
     omega
   · rw [brV_neg (by omega)]
     have h1 : ((c + 1 : Nat) : Int) * v <= 0 := Int.mul_nonpos_of_nonneg_of_nonpos (by omega) (by omega)
     have h2 : 0 <= A * tr (c + 1) := Int.mul_nonneg (by omega) (tr_nn _)
     omega
theorem brV_eq {A : Int} (hA : 1 <= A) : ∀ (c : Nat) (v : Int), A * (c : Int) < v -> v <= A * ((c : Int) + 1) -> brV A v = ((c : Int) + 1) * v - A * tr (c + 1)
 | 0, v, h1, h2 => by
   have h0 : 0 < v := by simpa using h1
   have h3 : v <= A := by simpa using h2
   rw [brV_pos hA h0, brV_neg (by omega)]
   simp [tr]
 | c + 1, v, h1, h2 => by
   have hc : 0 <= A * (c : Int) := Int.mul_nonneg (by omega) (by omega)
   push_cast at h1 h2 ⊢
   rw [Int.mul_add, Int.mul_one] at h1
   rw [Int.mul_add, Int.mul_add, Int.mul_one] at h2
   have h := brV_eq hA c (v - A) (by omega) (by rw [Int.mul_add]; omega)
   rw [brV_pos hA (by omega), h]
   have e : tr (c + 1 + 1) = tr (c + 1) + ((c : Int) + 1) := by simp only [tr]; omega
   rw [e, Int.mul_sub, Int.mul_add A (tr (c + 1)), Int.mul_comm A ((c : Int) + 1), Int.add_mul ((c : Int) + 1) 1 v]
   omega
theorem brV_le {A : Int} (hA : 1 <= A) : ∀ (c : Nat) (v : Int), v <= A * (c : Int) -> 0 <= v -> brV A v <= (c : Int) * v
 | 0, v, h, h0 => by rw [brV_neg (by simpa using h)]; simp
 | c + 1, v, h, h0 => by
   by_cases hv : 0 < v
   · push_cast at h ⊢
     rw [Int.mul_add, Int.mul_one] at h
     rw [brV_pos hA hv, Int.add_mul]
     by_cases hw : 0 <= v - A
     · have i := brV_le hA c (v - A) (by omega) hw
       have : (c : Int) * (v - A) <= (c : Int) * v := Int.mul_le_mul_of_nonneg_left (by omega) (by omega)
       omega
     · have : 0 <= (c : Int) * v := Int.mul_nonneg (by omega) (by omega)
       rw [brV_neg (by omega)]; omega
   · rw [brV_neg (by omega)]
     exact Int.mul_nonneg (by omega) h0

def cntV (A d : Int) : Nat -> Int -> Int
 | 0, c => c
 | n + 1, c => if d > A * c * (c + 1) / 2 then cntV A d n (c + 1) else c
theorem cntV_sp {A d : Int} (hA : 1 <= A) (hd : d <= 4096 * A) : ∀ (n c : Nat), 4096 <= n + c -> 1 <= c -> (c = 1 \/ A * tr c < d) -> ∃ k : Nat, cntV A d n c = (k : Int) /\ c <= k /\ k <= max c 4096 /\ d <= A * tr (k + 1) /\ (k = 1 \/ A * tr k < d)
 | 0, c, h1, h2, h3 => by
   have h4 : 4096 * A <= A * tr (c + 1) := by
     have h := tr_ge c (by omega)
     rw [Int.mul_comm]
     exact Int.mul_le_mul_of_nonneg_left (by omega) (by omega)
   exact ⟨c, rfl, Nat.le_refl _, by omega, by omega, h3⟩
 | n + 1, c, h1, h2, h3 => by
   unfold cntV
   rw [dv2']
   by_cases h : d > A * tr (c + 1)
   · rw [if_pos h]
     by_cases hc : c < 4096
     · obtain ⟨k, e1, e2, e3, e4, e5⟩ := cntV_sp hA hd n (c + 1) (by omega) (by omega) (.inr h)
       exact ⟨k, by rw [<- e1]; push_cast; rfl, by omega, by omega, e4, e5⟩
     · have h4 : 4096 * A <= A * tr (c + 1) := by
         have h := tr_ge c (by omega)
         rw [Int.mul_comm]
         exact Int.mul_le_mul_of_nonneg_left (by omega) (by omega)
       omega
   · rw [if_neg h]
     exact ⟨c, rfl, Nat.le_refl _, by omega, by omega, h3⟩
def fstV (S A d : Int) : Int := if 64 * S <= d then S else mi S ((d + A * cntV A d 4096 1 * (cntV A d 4096 1 - 1) / 2) / cntV A d 4096 1)
def isF (S A d f : Int) : Prop := 0 <= f /\ f <= S /\ brV A f <= d /\ (f = S \/ d < brV A (f + 1))
theorem fstV_sp {S A d : Int} (hA : 1 <= A) (hS : 1 <= S) (hSA : S <= 64 * A) (hd : 0 <= d) : isF S A d (fstV S A d) := by
 unfold fstV
 split
 · rename_i h
   have := brV_le hA 64 S (by rw [Int.mul_comm] at hSA; exact hSA) (by omega)
   exact ⟨by omega, by omega, by omega, .inl rfl⟩
 · rename_i h
   obtain ⟨c, e1, e2, e3, e4, e5⟩ := cntV_sp hA (show d <= 4096 * A by omega) 4096 1 (by omega) (by omega) (.inl rfl)
   have e1' : cntV A d 4096 1 = (c : Int) := e1
   rw [e1', dv2]
   have hc : (0 : Int) < c := by omega
   have d1 := Int.mul_ediv_self_le (x := d + A * tr c) (k := (c : Int)) (by omega)
   have d2 := Int.lt_mul_ediv_self_add (x := d + A * tr c) hc
   generalize (d + A * tr c) / (c : Int) = v at *
   have et : tr (c + 1) = tr c + c := rfl
   have t2 := tr2 c
   have tn := tr_nn c
   have hAt : 0 <= A * tr c := Int.mul_nonneg (by omega) tn
   rw [et, Int.mul_add] at e4
   have u1 : v <= A * c := by
     have g1 : (c : Int) * v <= c * (A * c) := by
       have : (c : Int) * (A * c) = A * tr c + A * tr c + A * c := by
         have q : (c : Int) * (A * c) = A * (c * (c - 1)) + A * c := by
           rw [Int.mul_sub, Int.mul_sub, Int.mul_one, <- Int.mul_assoc, <- Int.mul_assoc, Int.mul_comm (c : Int) A]; omega
         rw [q, t2, Int.mul_comm 2 (tr c), <- Int.mul_assoc]; omega
       omega
     exact Int.le_of_mul_le_mul_left g1 hc
   have v0 : 0 <= v := by
     rcases Int.lt_or_le v 0 with g | g
     · have : (c : Int) * v <= c * (-1) := Int.mul_le_mul_of_nonneg_left (by omega) (by omega)
       omega
     · exact g
   have u2 : A * ((c : Int) - 1) <= v := by
     rcases e5 with rfl | e5
     · simpa using v0
     · have g1 : (c : Int) * (A * (c - 1)) = A * tr c + A * tr c := by
         rw [<- Int.mul_assoc, Int.mul_comm (c : Int) A, Int.mul_assoc, t2, Int.mul_comm 2, <- Int.mul_assoc]; omega
       have g2 : (c : Int) * (A * (c - 1)) < c * (v + 1) := by rw [Int.mul_add]; omega
       have := Int.lt_of_mul_lt_mul_left g2 (by omega)
       omega
   have b1 : brV A v <= d := by
     by_cases g : A * ((c : Int) - 1) < v
     · have q := brV_eq hA (c - 1) v (by rw [show ((c - 1 : Nat) : Int) = c - 1 by omega]; exact g) (by rw [show ((c - 1 : Nat) : Int) = c - 1 by omega]; rw [show (c : Int) - 1 + 1 = c by omega]; exact u1)
       rw [show ((c - 1 : Nat) : Int) + 1 = c by omega, show c - 1 + 1 = c by omega] at q
       omega
     · by_cases h1 : c = 1
       · subst h1
         have : v = 0 := by
           have : A * (((1 : Nat) : Int) - 1) = 0 := by simp
           omega
         rw [this, brV_neg (by omega)]; omega
       · have q := brV_eq hA (c - 2) v (by
           rw [show ((c - 2 : Nat) : Int) = (c : Int) - 1 - 1 by omega, Int.mul_sub]; omega) (by rw [show ((c - 2 : Nat) : Int) + 1 = (c : Int) - 1 by omega]; omega)
         rw [show ((c - 2 : Nat) : Int) + 1 = (c : Int) - 1 by omega, show c - 2 + 1 = c - 1 by omega] at q
         have ev : v = A * ((c : Int) - 1) := by omega
         have e6 : tr c = tr (c - 1) + ((c : Int) - 1) := by
           obtain ⟨k, rfl⟩ : ∃ k, c = k + 1 := ⟨c - 1, by omega⟩
           simp only [tr, Nat.add_sub_cancel]; omega
         have q2 : ((c : Int) - 1) * v = A * tr c + A * tr c - v := by
           have : (c : Int) * v = A * tr c + A * tr c := by
             rw [ev, <- Int.mul_assoc, Int.mul_comm (c : Int) A, Int.mul_assoc, t2, Int.mul_comm 2, <- Int.mul_assoc]; omega
           rw [Int.sub_mul, this]; omega
         have q3 : A * tr c = A * tr (c - 1) + v := by rw [e6, Int.mul_add, ev]
         rcases e5 with h | h
         · exact absurd h h1
         · omega
   have b2 : d < brV A (v + 1) := by
     have q := brV_ge hA c (v + 1)
     rw [Int.mul_add] at q
     omega
   rw [mi_eq]
   by_cases hv : v <= S
   · rw [show min S v = v by omega]
     exact ⟨v0, hv, b1, .inr b2⟩
   · rw [show min S v = S by omega]
     have := brV_mono hA _ S v (Nat.le_refl _) (by omega)
     exact ⟨by omega, by omega, by omega, .inl rfl⟩

theorem fst_pos {S A d : Int} (hA : 1 <= A) (hS : 1 <= S) (hSA : S <= 64 * A) (hd : 0 < d) : 1 <= fstV S A d := by
 obtain ⟨h1, h2, h3, h4⟩ := fstV_sp hA hS hSA (show 0 <= d by omega)
 rcases h4 with h4 | h4
 · omega
 · by_cases h : fstV S A d = 0
   · rw [h, brV_pos hA (by omega), brV_neg (by omega)] at h4; omega
   · omega
theorem brV_self {A v : Int} (hA : 1 <= A) : v <= brV A v := by
 by_cases h : 0 < v
 · have := brV_nn hA _ (v - A) (Nat.le_refl _)
   rw [brV_pos hA h]; omega
 · rw [brV_neg (by omega)]; omega
theorem fst_le {S A d : Int} (hA : 1 <= A) (hS : 1 <= S) (hSA : S <= 64 * A) (hd : 0 <= d) : 0 <= fstV S A d /\ fstV S A d <= S /\ fstV S A d <= d := by
 obtain ⟨h1, h2, h3, h4⟩ := fstV_sp hA hS hSA hd
 have := brV_self (v := fstV S A d) hA
 omega
def nxv (S A d v : Int) : Int := mi (v + A) (fstV S A d)
def stp (S A : Int) : Nat -> Int -> Int -> Int
 | 0, _, _ => 0
 | n + 1, d, v => if 0 < d \/ 0 < v then 1 + stp S A n (d - nxv S A d v) (nxv S A d v) else 0
def stN (d v : Int) : Nat := d.toNat + (if 0 < d \/ 0 < v then 1 else 0)
theorem nxv_in {S A d v : Int} (hA : 1 <= A) (hS : 1 <= S) (hSA : S <= 64 * A) (hd : 0 <= d) (hv : 0 <= v) : 0 <= nxv S A d v /\ nxv S A d v <= S /\ nxv S A d v <= d /\ (0 < d -> 1 <= nxv S A d v) := by
 have h1 := fst_le hA hS hSA hd
 unfold nxv
 rw [mi_eq]
 refine ⟨by omega, by omega, by omega, fun h => ?_⟩
 have := fst_pos hA hS hSA h
 omega
theorem stN_lt {S A d v : Int} (hA : 1 <= A) (hS : 1 <= S) (hSA : S <= 64 * A) (hd : 0 <= d) (hv : 0 <= v) (h : 0 < d \/ 0 < v) : stN (d - nxv S A d v) (nxv S A d v) < stN d v := by
 obtain ⟨h1, h2, h3, h4⟩ := nxv_in hA hS hSA hd hv
 unfold stN
 rw [if_pos h]
 by_cases h0 : 0 < d
 · have := h4 h0
   split <;> omega
 · rw [if_neg (by omega)]; omega
theorem stp_stab {S A : Int} (hA : 1 <= A) (hS : 1 <= S) (hSA : S <= 64 * A) : ∀ (n m : Nat) (d v : Int), 0 <= d -> 0 <= v -> stN d v <= n -> stN d v <= m -> stp S A n d v = stp S A m d v
 | n, m, d, v, hd, hv, h1, h2 => by
   by_cases h : 0 < d \/ 0 < v
   · have lt := stN_lt hA hS hSA hd hv h
     obtain ⟨g1, g2, g3, g4⟩ := nxv_in hA hS hSA hd hv
     obtain ⟨n, rfl⟩ : ∃ k, n = k + 1 := ⟨n - 1, by omega⟩
     obtain ⟨m, rfl⟩ : ∃ k, m = k + 1 := ⟨m - 1, by omega⟩
     unfold stp
     rw [if_pos h, if_pos h, stp_stab hA hS hSA n m _ _ (by omega) g1 (by omega) (by omega)]
   · cases n <;> cases m <;> simp [stp, h]
termination_by n => n
def stR (S A d v : Int) : Int := stp S A (stN d v) d v
theorem stR_go {S A d v : Int} (hA : 1 <= A) (hS : 1 <= S) (hSA : S <= 64 * A) (hd : 0 <= d) (hv : 0 <= v) (h : 0 < d \/ 0 < v) : stR S A d v = 1 + stR S A (d - nxv S A d v) (nxv S A d v) := by
 have lt := stN_lt hA hS hSA hd hv h
 obtain ⟨g1, g2, g3, g4⟩ := nxv_in hA hS hSA hd hv
 unfold stR
 obtain ⟨n, hn⟩ : ∃ k, stN d v = k + 1 := ⟨stN d v - 1, by omega⟩
 rw [hn]
 show (if 0 < d \/ 0 < v then 1 + stp S A n _ _ else 0) = _
 rw [if_pos h, stp_stab hA hS hSA n _ _ _ (by omega) g1 (by omega) (Nat.le_refl _)]
theorem stR_end {S A d v : Int} (h : ¬ (0 < d \/ 0 < v)) : stR S A d v = 0 := by
 unfold stR stN
 rw [if_neg h]
 cases d.toNat + 0 <;> simp [stp, h]
def stV (S A d : Int) : Int := stR S A d 0
def bkV (p ang : Int) : Int := (p - ang % 4294967296) % 4294967296
def tgL (p ang : Int) : Int := p - bkV p ang
def tgH (p ang : Int) : Int := p - bkV p ang + 4294967296
def tgO (a : Ax) (p ang : Int) : Bool := inA a (tgL p ang) || inA a (tgH p ang)
def tgW (a : Ax) (p ang : Int) : Bool := inA a (tgL p ang) && (!inA a (tgH p ang) || decide (p - tgL p ang <= tgH p ang - p))
def tgP (a : Ax) (p ang : Int) : Int := if tgW a p ang = true then tgL p ang else if inA a (tgH p ang) = true then tgH p ang else 0
def tgE (a : Ax) (p ang : Int) : Int := if tgO a p ang = true then 0 else 4
def dst (p q : Int) : Int := if p < q then q - p else p - q
theorem dst_eq (p q : Int) : dst p q = max (p - q) (q - p) := by unfold dst; split <;> omega
def isT (a : Ax) (p ang t : Int) : Prop := (a.mn <= t /\ t <= a.mx) /\ t % 4294967296 = ang % 4294967296 /\ ∀ q, a.mn <= q -> q <= a.mx -> q % 4294967296 = ang % 4294967296 -> dst t p < dst q p \/ dst t p = dst q p /\ t <= q
theorem bk_sp (p ang : Int) : 0 <= bkV p ang /\ bkV p ang < 4294967296 /\ (p - bkV p ang) % 4294967296 = ang % 4294967296 := by
 unfold bkV
 omega
theorem tg_sp {a : Ax} {p : Int} (ang : Int) (hp : a.mn <= p /\ p <= a.mx) : (tgO a p ang = true -> isT a p ang (tgP a p ang)) /\ (tgO a p ang = false -> ∀ q, a.mn <= q -> q <= a.mx -> ¬ q % 4294967296 = ang % 4294967296) := by
 have hb := bk_sp p ang
 have el : tgL p ang = p - bkV p ang := rfl
 have eh : tgH p ang = p - bkV p ang + 4294967296 := rfl
 generalize bkV p ang = b at *
 have ap : ∀ q : Int, q % 4294967296 = ang % 4294967296 -> q <= p - b \/ p - b + 4294967296 <= q := fun q h => by omega
 constructor
 · intro ho
   have hT : ∀ t, (t = p - b \/ t = p - b + 4294967296) -> t % 4294967296 = ang % 4294967296 := fun t h => by omega
   by_cases hw : tgW a p ang = true
   · have e : tgP a p ang = p - b := by unfold tgP; rw [if_pos hw, el]
     rw [e]
     unfold tgW at hw
     rw [Bool.and_eq_true, inA_iff, Bool.or_eq_true, Bool.not_eq_true', inA_no, decide_eq_true_eq, el, eh] at hw
     refine ⟨hw.1, by omega, fun q q1 q2 q3 => ?_⟩
     rw [dst_eq, dst_eq]
     have := ap q q3
     omega
   · have hh : inA a (tgH p ang) = true := by
       unfold tgO at ho
       unfold tgW at hw
       cases h1 : inA a (tgH p ang) with
       | true => rfl
       | false => rw [h1, Bool.or_false] at ho; rw [h1, ho] at hw; simp at hw
     have e : tgP a p ang = p - b + 4294967296 := by unfold tgP; rw [if_neg hw, if_pos hh, eh]
     rw [e]
     unfold tgW at hw
     rw [Bool.and_eq_true, inA_iff, Bool.or_eq_true, Bool.not_eq_true', inA_no, decide_eq_true_eq, el, eh] at hw
     rw [inA_iff, eh] at hh
     refine ⟨hh, by omega, fun q q1 q2 q3 => ?_⟩
     rw [dst_eq, dst_eq]
     have := ap q q3
     omega
 · intro ho q q1 q2 q3
   unfold tgO at ho
   rw [Bool.or_eq_false_iff, inA_no, inA_no, el, eh] at ho
   have := ap q q3
   omega

end Go.Proofs.YtmhhdedekblbnaaGreat.AtSl
