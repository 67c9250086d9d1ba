/-
 The evaluator: single operations, and that the model's operations do what it says.
 Conditions: those of each theorem.
-/
import Derived.Test.YtmhhdedekblbnaaGreatQEv0
set_option linter.unusedVariables false
set_option linter.unusedSimpArgs false
namespace Go.Proofs.YtmhhdedekblbnaaGreat.Ev
open Go.RowKit
variable {F : Type}
variable {ds : List Deferred} {ro : Option Nat}


def ofC : Value -> AC F
 | .int k n => .int k n
 | .bool b => .yes b
 | v => .lit v
def ofV : Value -> AV F
 | .agg cs => .w (.agg (cs.toList.map ofC))
 | v => .w (.one (ofC v))
theorem ofC_R (E : Env F) (v : Value) : (ofC v : AC F).R E v := by
 cases v <;> rfl
theorem ofCs_R (E : Env F) (l : List Value) : All2 (AC.R E) (l.map ofC : List (AC F)) l := by
 induction l with
 | nil => exact .nil
 | cons v l ih => exact .cons (ofC_R E v) ih
theorem ofV_R (E : Env F) (v : Value) : (ofV v : AV F).R E v := by
 cases v with
 | agg cs => exact ⟨cs.toList, by simp, ofCs_R E _⟩
 | _ => rfl

def AV.cells : AV F -> Option (List (AC F))
 | .w (.one c) => bif c.cellB then some [c] else none
 | .w (.agg cs) => bif cs.all AC.cellB then some cs else none
 | .tup _ => none
structure CellsE (E : Env F) : Prop where
 r : ∀ k j f arr, E.r k j = some (f, arr) -> ∀ (i : Nat) (v : Value), arr[i]? = some v -> isCell v = true
 h : ∀ f v, E.h f v -> isCell v = true
theorem AC.R.cell {E : Env F} (hE : CellsE E) {c : AC F} {v : Value} (hc : c.cellB = true) (H : c.R E v) : isCell v = true := by
 cases c with
 | int k n => cases (H : v = _); rfl
 | bool b => cases (H : v = _); rfl
 | yes b => cases (H : v = _); rfl
 | lit u => cases (H : v = _); exact hc
 | ptr b o => obtain ⟨_, _, rfl⟩ := H; rfl
 | slc b o len cap => obtain ⟨_, _, rfl⟩ := H; rfl
 | ext k j f c => obtain ⟨arr, h1, h2⟩ := H; exact hE.r k j f arr h1 c v h2
 | fnc f caps => obtain ⟨_, rfl, _⟩ := H; rfl
 | xel k j f i => obtain ⟨_, _, _, _, rfl⟩ := H; rfl
 | fv f => exact hE.h _ _ H
 | fel f i k o => obtain ⟨_, _, _, _, _, rfl⟩ := H; rfl
 | tip s n f => exact hE.h _ _ H.1
 | tok n sz => exact H.elim
 | arr ks l => exact H.elim
 | wsl b sz off len cap => obtain ⟨_, _, _, _, _, _, _, _, _, rfl⟩ := H; rfl
 | wel b sz e o => obtain ⟨_, _, _, _, _, rfl⟩ := H; rfl
 | mp kk vk D => exact H.elim
 | mpv b => obtain ⟨_, _, rfl⟩ := H; rfl
theorem isCell_cells {v : Value} (h : isCell v = true) : v.cells = #[v] := by cases v <;> first | rfl | cases h
theorem AC.R.cells_all {E : Env F} (hE : CellsE E) {cs : List (AC F)} {vs : List Value} (hc : cs.all AC.cellB = true) (H : All2 (AC.R E) cs vs) : ∀ v ∈ vs, isCell v = true := by
 induction H with
 | nil => intro v h; cases h
 | cons r _ ih =>
   simp only [List.all_cons, Bool.and_eq_true] at hc
   intro v h
   rcases List.mem_cons.1 h with rfl | h
   · exact r.cell hE hc.1
   · exact ih hc.2 v h
theorem AV.R.cells {E : Env F} (hE : CellsE E) {x : AV F} {u : Value} {cs : List (AC F)} (hc : x.cells = some cs) (H : x.R E u) :
   ∃ vs, u.cells = vs.toArray /\ All2 (AC.R E) cs vs /\ ∀ v ∈ vs, isCell v = true := by
 cases x with
 | tup l => cases hc
 | w x =>
   cases x with
   | one c =>
     simp only [AV.cells] at hc
     cases hb : c.cellB with
     | false => rw [hb] at hc; cases hc
     | true =>
       rw [hb] at hc; cases hc
       have h1 := AC.R.cell hE hb H
       exact ⟨[u], isCell_cells h1, .cons H .nil, fun v hv => by rw [List.mem_singleton.1 hv]; exact h1⟩
   | agg ds =>
     simp only [AV.cells] at hc
     cases hb : ds.all AC.cellB with
     | false => rw [hb] at hc; cases hc
     | true =>
       rw [hb] at hc; cases hc
       obtain ⟨vs, rfl, h2⟩ := H
       exact ⟨vs, rfl, h2, AC.R.cells_all hE hb h2⟩


def opnd (tm : List (Nat × AV F)) : Operand -> Option (AV F)
 | .tmp t => look t tm
 | .const v => some (ofV v)
 | .global g => some (.w (.one (.lit (.pointer (some ⟨g, 0, none⟩)))))
 | .func f => some (.w (.one (.fnc f [])))
def opnds (tm : List (Nat × AV F)) : List Operand -> Option (List (AV F))
 | [] => some []
 | x :: r => match opnd tm x with
   | some v => match opnds tm r with
     | some l => some (v :: l)
     | none => none
   | none => none
theorem opnd_R {E : Env F} {nt : Nat} {tm : List (Nat × AV F)} {a : Act} (H : Tms ds E nt tm a) {x : Operand} {v : AV F} (h : opnd tm x = some v) : v.R E (a.eval x) := by
 cases x with
 | tmp t =>
   obtain ⟨u, h1, h2⟩ := H.tm t v h
   show v.R E (a.tmps.getD t undef)
   rw [Array.getD_eq_getD_getElem?, h1]; exact h2
 | const c => cases h; exact ofV_R E c
 | global g => cases h; rfl
 | func f => cases h; exact ⟨[], rfl, .nil⟩
theorem opnds_R {E : Env F} {nt : Nat} {tm : List (Nat × AV F)} {a : Act} (H : Tms ds E nt tm a) : ∀ {xs : List Operand} {vs : List (AV F)}, opnds tm xs = some vs -> All2 (AV.R E) vs (xs.map a.eval)
 | [], _, h => by cases h; exact .nil
 | x :: r, vs, h => by
   simp only [opnds] at h
   cases h1 : opnd tm x with
   | none => rw [h1] at h; cases h
   | some v =>
     rw [h1] at h
     simp only at h
     cases h2 : opnds tm r with
     | none => rw [h2] at h; cases h
     | some l => rw [h2] at h; cases h; exact .cons (opnd_R H h1) (opnds_R H h2)


inductive Ex where
 | normal
 | exit (id : Nat)
 | ret
def Ex.to : Ex -> Exit
 | .normal => .normal
 | .exit id => .exit id
 | .ret => .ret
structure LpSp (F : Type) where
 W : List Nat
 fk : List (Nat × AV F) -> List (Nat × Blk F) -> Option Bool
 run : List (Nat × AV F) -> List (Nat × Blk F) -> Bool -> Option (Ex × List (Nat × AV F) × List (Nat × Blk F) × List (Bool × Bool))
def memN (i : Nat) (l : List Nat) : Bool := l.any fun j => Nat.beq j i
def keepT (l : List Nat) (tm : List (Nat × AV F)) : List (Nat × AV F) := tm.filter fun p => !memN p.1 l
def dstOps : List Oper -> List Nat
 | [] => []
 | o :: l => match o.dst with
   | some d => d :: dstOps l
   | none => dstOps l
def codeAt (c : Code) : List Bool -> Option Code
 | [] => some c
 | b :: r => match codeAt c r with
   | some (.seq x y) => some (bif b then y else x)
   | some (.cond _ x y) => some (bif b then y else x)
   | some (.block _ x) => some x
   | some (.loop x) => some x
   | _ => none
def loopAt (c : Code) (pos : List Bool) : Code := match codeAt c pos with | some (.loop x) => x | _ => .skip
def beqP : List Bool -> List Bool -> Bool
 | [], [] => true
 | a :: l, b :: k => (a == b) && beqP l k
 | _, _ => false
theorem beqP_eq : ∀ {l k : List Bool}, beqP l k = true -> l = k
 | [], [], _ => rfl
 | [], _ :: _, h => by cases h
 | _ :: _, [], h => by cases h
 | a :: l, b :: k, h => by
   simp only [beqP, Bool.and_eq_true, beq_iff_eq] at h
   rw [h.1, beqP_eq h.2]
def bodyOf (fn : Func) : Code := match fn.body with | some c => c | none => .skip
abbrev Lps (F : Type) := List ((Nat × List Bool) × LpSp F)
def lookLp : Lps F -> Nat -> List Bool -> Option (LpSp F)
 | [], _, _ => none
 | (k, sp) :: r, nt, pos => bif Nat.beq k.1 nt && beqP k.2 pos then some sp else lookLp r nt pos
structure Ctx (F : Type) where
 T : Nat -> Option TyI
 L : Nat -> Option (FnSp F)
 safe : TypeId -> Bool
 eqs : TypeId -> Bool
 slen : F -> Option Int
 sget : F -> Int -> Option (AC F)
 vlen : F -> Option Int
 vesz : F -> Nat
 vget : F -> Int -> Nat -> Option (AC F)
 vsub : F -> Int -> Int -> Option F
 vapp : F -> List (AC F) -> Nat -> Option F
 nil : TypeId -> Option F
 maps : Bool
 fns : FuncId -> Option Func
 lps : Lps F
 vrow : F -> Option (List (Option IntKind) × List (List Int))
 deref : F -> Option (Bool × F)
 mkp : TypeId -> List (AC F) -> Option F
 nilp : Option F

def un (vs : List (AV F)) (k : AV F -> Option (Out F)) : Option (Out F) := match vs with | [x] => k x | _ => none
def bi (vs : List (AV F)) (k : AV F -> AV F -> Option (Out F)) : Option (Out F) := match vs with | [x, y] => k x y | _ => none
def tri (vs : List (AV F)) (k : AV F -> AV F -> AV F -> Option (Out F)) : Option (Out F) := match vs with | [x, y, z] => k x y z | _ => none
def ret (v : AV F) : Option (Out F) := some ⟨v, [], []⟩
def ret1 (c : AC F) : Option (Out F) := some ⟨.w (.one c), [], []⟩

def TyI.aggB (i : TyI) : Bool := match i.desc with | .struct _ => true | .array _ _ => true | _ => false
def partOf (c : Ctx F) (t : TypeId) (cs : List (AC F)) (off : Nat) : Option (AV F) :=
 match c.T t with
 | some i => bif i.aggB then some (.w (.agg ((cs.drop off).take i.size))) else
   match cs[off]? with
   | some x => some (.w (.one x))
   | none => none
 | none => none

def arith (op : BinOp) (k : IntKind) (a b : Int) : Option (Out F) :=
 match op with
 | .add => ret1 (.int k (k.wrap (a + b)))
 | .sub => ret1 (.int k (k.wrap (a - b)))
 | .mul => ret1 (.int k (k.wrap (a * b)))
 | .quo => some ⟨.w (.one (.int k (k.wrap (a.tdiv b)))), [], [(decide (b = 0), false)]⟩
 | .rem => some ⟨.w (.one (.int k (a.tmod b))), [], [(decide (b = 0), false)]⟩
 | .and => ret1 (.int k (k.wrap (BitVec.ofInt k.bits a &&& BitVec.ofInt k.bits b).toNat))
 | .or => ret1 (.int k (k.wrap (BitVec.ofInt k.bits a ||| BitVec.ofInt k.bits b).toNat))
 | .xor => ret1 (.int k (k.wrap (BitVec.ofInt k.bits a ^^^ BitVec.ofInt k.bits b).toNat))
 | .andNot => ret1 (.int k (k.wrap (BitVec.ofInt k.bits a &&& ~~~BitVec.ofInt k.bits b).toNat))
 | .eql => ret1 (.bool (a == b))
 | .neq => ret1 (.bool (a != b))
 | .lss => ret1 (.bool (decide (a < b)))
 | .leq => ret1 (.bool (decide (a <= b)))
 | .gtr => ret1 (.bool (decide (a > b)))
 | .geq => ret1 (.bool (decide (a >= b)))
 | _ => none
def shifts (op : BinOp) (k : IntKind) (a b : Int) : Option (Out F) :=
 match op with
 | .shl => some ⟨.w (.one (.int k (k.wrap (a * 2 ^ (min b.toNat k.bits))))), [], [(decide (b < 0), false)]⟩
 | .shr => some ⟨.w (.one (.int k (a.fdiv (2 ^ (min b.toNat k.bits))))), [], [(decide (b < 0), false)]⟩
 | _ => none

def sLen (s : ByteArray) : Int := (s.size : Int)
def sAt (s : ByteArray) (i : Int) : Int := match s[i.toNat]? with
 | some b => (b.toNat : Int)
 | none => 0
def sSub (s : ByteArray) (a b : Int) : ByteArray := s.extract a.toNat b.toNat
def sCat (a b : ByteArray) : ByteArray := a ++ b
def sRune (n : Int) : ByteArray := Utf8.encode n
def sEq (a b : ByteArray) : Bool := a.toList == b.toList
def sLt (a b : ByteArray) : Bool := Op.bytesLess a.toList b.toList
def sBin (op : BinOp) (a b : ByteArray) : Option (Out F) :=
 match op with
 | .add => some ⟨.w (.one (.lit (.string (sCat a b)))), [], [(decide (sLen a + sLen b <= 9223372036854775807), true)]⟩
 | .eql => ret1 (.bool (sEq a b))
 | .neq => ret1 (.bool (!sEq a b))
 | .lss => ret1 (.bool (sLt a b))
 | .leq => ret1 (.bool (sLt a b || sEq a b))
 | .gtr => ret1 (.bool (!(sLt a b || sEq a b)))
 | .geq => ret1 (.bool (!sLt a b))
 | _ => none
def asB : AV F -> Option Bool
 | .w (.one (.bool b)) => some b
 | .w (.one (.yes b)) => some b
 | _ => none
def cEq : AC F -> AC F -> Option Bool
 | .int k a, .int k' b => bif decide (k = k') then some (a == b) else none
 | .bool a, .bool b => some (a == b)
 | .yes a, .bool b => some (a == b)
 | .bool a, .yes b => some (a == b)
 | .yes a, .yes b => some (a == b)
 | _, _ => none
def csEq : List (AC F) -> List (AC F) -> Option Bool
 | [], [] => some true
 | x :: l, y :: k => match cEq x y with
   | some a => match csEq l k with
     | some b => some (a && b)
     | none => none
   | none => none
 | _, _ => none
def kindC : Option TyI -> AC F -> Bool
 | some i, x => match i.desc, x with
   | .int k, .int k' _ => decide (k = k')
   | .bool, .bool _ => true
   | .bool, .yes _ => true
   | _, _ => false
 | none, _ => false
def fitsC (c : Ctx F) : Nat -> List Field -> Nat -> List (AC F) -> Bool
 | 0, _, _, _ => false
 | n + 1, [], _, xs => match xs with
   | [] => true
   | _ => false
 | n + 1, f :: fs, j, xs => match c.T f.type with
   | some ti => match ti.desc with
     | .struct gs => Nat.beq f.offset j && (c.eqs f.type && (Nat.ble ti.size xs.length && (fitsC c n gs.toList 0 (xs.take ti.size) && fitsC c n fs (j + ti.size) (xs.drop ti.size))))
     | _ => match xs with
       | x :: r => Nat.beq f.offset j && (kindC (some ti) x && fitsC c n fs (j + 1) r)
       | [] => false
   | none => false
def bin (c : Ctx F) (op : BinOp) (t : TypeId) (x y : AV F) : Option (Out F) :=
 match x, y with
 | .w (.one (.int k a)), .w (.one (.int k' b)) => match op with
   | .shl => shifts .shl k a b
   | .shr => shifts .shr k a b
   | op => bif decide (k = k') then arith op k a b else none
 | .w (.agg xs), .w (.agg ys) => bif c.eqs t then
     match c.T t with
     | some i => match i.desc with
       | .struct fs => bif fitsC c 64 fs.toList 0 xs then
         match csEq xs ys with
         | some b => match op with
           | .eql => ret1 (.bool b)
           | .neq => ret1 (.bool (!b))
           | _ => none
         | none => none
         else none
       | _ => none
     | none => none
   else none
 | .w (.one (.fnc _ _)), .w (.one (.lit .nilFunc)) => match c.T t with
   | some i => match i.desc with
     | .func _ _ _ => match op with
       | .eql => ret1 (.yes false)
       | .neq => ret1 (.yes true)
       | _ => none
     | _ => none
   | none => none
 | .w (.one (.fv f)), .w (.one (.lit (.pointer none))) => match c.deref f with
   | some (b, _) => match c.T t with
     | some i => match i.desc with
       | .pointer _ => match op with
         | .eql => ret1 (.bool b)
         | .neq => ret1 (.bool (!b))
         | _ => none
       | _ => none
     | none => none
   | none => none
 | .w (.one (.lit (.string a))), .w (.one (.lit (.string b))) => sBin op a b
 | x, y => match c.T t with
   | some i => match i.desc with
     | .bool => match asB x, asB y with
       | some a, some b => match op with
         | .eql => ret1 (.bool (a == b))
         | .neq => ret1 (.bool (!(a == b)))
         | _ => none
       | _, _ => none
     | _ => none
   | none => none
def unary (op : UnOp) (x : AV F) : Option (Out F) :=
 match op, x with
 | .neg, .w (.one (.int k n)) => ret1 (.int k (k.wrap (0 - n)))
 | .not, .w (.one (.bool b)) => ret1 (.bool (!b))
 | .not, .w (.one (.yes b)) => ret1 (.yes (!b))
 | _, _ => none
def conv (c : Ctx F) (src dst : TypeId) (x : AV F) : Option (Out F) :=
 match c.T src, c.T dst with
 | some _, some d => match d.desc, x with
   | .int k, .w (.one (.int _ n)) => ret1 (.int k (k.wrap n))
   | .string, .w (.one (.int _ n)) => ret1 (.lit (.string (sRune n)))
   | _, _ => none
 | _, _ => none
def fieldOf (c : Ctx F) (t : TypeId) (f : Nat) : Option Field :=
 match c.T t with
 | some i => match i.desc with
   | .struct fs => fs.toList[f]?
   | _ => none
 | none => none
def fillC (place : Nat -> Option (Nat × Nat)) (cells : List (AC F)) : List (Nat × AV F) -> Option (List (AC F))
 | [] => some cells
 | (i, v) :: rest => match place i with
   | none => none
   | some (off, size) => match v.cells with
     | none => none
     | some vs => bif Nat.beq vs.length size && Nat.ble (off + size) cells.length then fillC place (cells.take off ++ vs ++ cells.drop (off + size)) rest else none
def placesOf (c : Ctx F) : List Field -> Option (List (Nat × Nat))
 | [] => some []
 | f :: r => match c.T f.type with
   | some i => match placesOf c r with
     | some l => some ((f.offset, i.size) :: l)
     | none => none
   | none => none
def minmax (mx : Bool) (x y : AV F) : Option (AV F) :=
 match x, y with
 | .w (.one (.int k a)), .w (.one (.int _ b)) => some (.w (.one (.int k (bif mx then (if b > a then b else a) else (if b < a then b else a)))))
 | _, _ => none
def minmaxs (mx : Bool) (x : AV F) : List (AV F) -> Option (AV F)
 | [] => some x
 | y :: r => match minmax mx x y with
   | some z => minmaxs mx z r
   | none => none

def opersOf : Op -> List Operand
 | .move x | .assign x => [x]
 | .pick c a b => [c, a, b]
 | .box _ x => [x]
 | .build _ ps => ps.toList.map (·.2)
 | .buildSlice _ _ ps => ps.toList.map (·.2)
 | .load _ x => [x]
 | .nilCheck x => [x]
 | .store _ a v => [a, v]
 | .binOp _ _ x y _ => [x, y]
 | .unOp _ _ x => [x]
 | .convert _ _ x => [x]
 | .makeFunc _ _ cs => cs.toList
 | .fieldAddr _ x _ => [x]
 | .field _ x _ => [x]
 | .indexAddr _ x i => [x, i]
 | .index _ x i => [x, i]
 | .slice _ x lo hi _ => x :: (lo.toList ++ hi.toList)
 | .makeSlice _ l k => [l, k]
 | .makeMap _ r => r.toList
 | .lookup _ x i _ => [x, i]
 | .mapUpdate _ m k v => [m, k, v]
 | .insert _ m k v => [m, k, v]
 | .extract x _ => [x]
 | .call c => match c.callee with
   | .value f => f :: c.args.toList
   | .builtin _ => c.args.toList
   | .invoke _ _ => []
 | _ => []
def opersAt (β : Bool) : Op -> List Operand
 | .pick c a b => bif β then [c, a] else [c, b]
 | o => opersOf o
def callSpec (c : Ctx F) (vs : List (AV F)) : Option (FnSp F × List (AV F)) :=
 match vs with
 | .w (.one (.fnc f caps)) :: args => match c.L f with
   | some sp => some (sp, args ++ caps.map fun p => .w (.one (.ptr p.1 p.2)))
   | none => none
 | _ => none
def appBlocks (vs : List (AV F)) : List Nat := match vs with | [.w (.one (.tip s _ _)), .w (.one (.slc b _ _ _))] => [s, b] | [.w (.one (.wsl s _ _ _ _ _)), .w (.one (.slc b _ _ _))] => [s, b] | [.w (.one (.lit _)), .w (.one (.slc b _ _ _))] => [b] | _ => []
def cpBlocks (vs : List (AV F)) : List Nat := match vs with | [.w (.one (.wsl b _ _ _ _ _)), _] => [b] | _ => []
def blocksOf (c : Ctx F) (op : Op) (vs : List (AV F)) : List Nat :=
 match op with
 | .load _ _ => match vs with | [.w (.one (.ptr b _))] => [b] | [.w (.one (.wel b _ _ _ _))] => [b] | _ => []
 | .store _ _ _ => match vs with | [.w (.one (.ptr b _)), _] => [b] | [.w (.one (.wel b _ _ _ _)), _] => [b] | _ => []
 | .lookup _ _ _ _ => match vs with | [.w (.one (.mpv b)), _] => [b] | _ => []
 | .mapUpdate _ _ _ _ => match vs with | [.w (.one (.mpv b)), _, _] => [b] | _ => []
 | .insert _ _ _ _ => match vs with | [.w (.one (.mpv b)), _, _] => [b] | _ => []
 | .call k => match k.callee with
   | .value _ => match callSpec c vs with | some (sp, args) => sp.blocks args | none => []
   | .builtin .append => appBlocks vs
   | .builtin .copy => cpBlocks vs
   | .builtin .len => match vs with | [.w (.one (.mpv b))] => [b] | _ => []
   | _ => []
 | _ => []
def blk1 (bs : List (Blk F)) (k : Blk F -> Option (Out F)) : Option (Out F) := match bs with | [x] => k x | _ => none
def newBlk (slot : Nat) (t : TypeId) (cs : List (AC F)) : Option (Out F) := some ⟨.w (.one (.ptr slot 0)), [(slot, ⟨t, cs⟩)], []⟩

def gets (c : Ctx F) (f : F) (i : Int) (o : Nat) : Nat -> Option (List (AC F))
 | 0 => some []
 | n + 1 => match c.vget f i o with
   | some x => match gets c f i (o + 1) n with
     | some l => some (x :: l)
     | none => none
   | none => none
def endOf (d : Int) : Option (AV F) -> Option Int
 | none => some d
 | some (.w (.one (.int _ n))) => some n
 | _ => none

def keyB : Value -> Value -> Bool
 | .string a, .string b => sEq a b
 | .int _ a, .int _ b => decide (a = b)
 | .bool a, .bool b => a == b
 | _, _ => false
def mget : List (Value × Value) -> Value -> Option Value
 | [], _ => none
 | e :: r, k => bif keyB e.1 k then some e.2 else mget r k
def mput : List (Value × Value) -> Value -> Value -> List (Value × Value)
 | [], k, v => [(k, v)]
 | e :: r, k, v => bif keyB e.1 k then (k, v) :: r else e :: mput r k v
def mHas (D : List (Value × Value)) (k : Value) : Bool := (mget D k).isSome
def mB (D : List (Value × Value)) (k : Value) : Bool := match mget D k with | some (.bool b) => b | _ => false
def mI (D : List (Value × Value)) (k : Value) : Int := match mget D k with | some (.int _ n) => n | _ => 0
def mS (D : List (Value × Value)) (k : Value) : ByteArray := match mget D k with | some (.string s) => s | _ => ByteArray.empty
def mCell (vk : CK) (D : List (Value × Value)) (k : Value) : AC F :=
 match vk with
 | none => .lit (.string (mS D k))
 | some none => .bool (mB D k)
 | some (some q) => .int q (mI D k)
def ckD : TypeDesc -> Option CK
 | .string => some none
 | .bool => some (some none)
 | .int k => some (some (some k))
 | _ => none
def ckZ : CK -> Value -> Bool
 | none, .string s => Nat.beq s.size 0
 | some none, .bool b => !b
 | some (some k), .int k' n => decide (k = k') && decide (n = 0)
 | _, _ => false
def ckT (c : Ctx F) (t : TypeId) : Option CK := match c.T t with
 | some i => ckD i.desc
 | none => none
def evMkMap (c : Ctx F) (t : TypeId) (slot : Nat) : Option (Out F) :=
 match c.T t with
 | some ti => match ti.desc with
   | .map kt vt => match ckT c kt, ckT c vt with
     | some kk, some vk => bif c.maps && c.safe t then some ⟨.w (.one (.mpv slot)), [(slot, ⟨t, [.mp kk vk []]⟩)], []⟩ else none
     | _, _ => none
   | _ => none
 | none => none
def mapLook (c : Ctx F) (t : TypeId) (ok : Bool) (y : AV F) (blk : Blk F) : Option (Out F) :=
 match blk.cs, y with
 | [.mp kk vk D], .w (.one kc) => match c.T t, kc.lv with
   | some ti, some kv => match ti.desc with
     | .map kt vt => match ckT c kt, c.T vt with
       | some kk', some vi => bif decide (kk = kk') && ckOk kk kv && ckZ vk vi.zero then
           (bif ok then some ⟨.tup [.one (mCell vk D kv), .one (.bool (mHas D kv))], [], []⟩ else ret1 (mCell vk D kv))
         else none
       | _, _ => none
     | _ => none
   | _, _ => none
 | _, _ => none
def mapPut (c : Ctx F) (t : TypeId) (b : Nat) (y z : AV F) (blk : Blk F) : Option (Out F) :=
 match blk.cs, y, z with
 | [.mp kk vk D], .w (.one kc), .w (.one vc) => match c.T t, kc.lv, vc.lv with
   | some ti, some kv, some vv => match ti.desc with
     | .map kt _ => match ckT c kt with
       | some kk' => bif decide (kk = kk') && ckOk kk kv && ckOk vk vv && c.maps then
           some ⟨.w (.one (.lit undef)), [(b, ⟨blk.ty, [.mp kk vk (mput D kv vv)]⟩)], []⟩
         else none
       | none => none
     | _ => none
   | _, _, _ => none
 | _, _, _ => none
def mapLen (ts : List TypeId) (c : Ctx F) (blk : Blk F) : Option (Out F) :=
 match blk.cs, ts with
 | [.mp _ _ D], t :: _ => match c.T t with
   | some ti => match ti.desc with
     | .map _ _ => ret1 (.int .i64 (D.length : Int))
     | _ => none
   | none => none
 | _, _ => none

def lenT (l : List (List Int)) : Int := l.length
def cel (l : List (List Int)) (i : Int) (o : Nat) : Int := (l.getD i.toNat []).getD o 0
def kdC : Option IntKind -> Int -> AC F
 | some .i8, x => .lit (.string (decS x))
 | some k, x => .int k x
 | none, x => .bool (decide (x = 1))
def rowOf : List (Option IntKind) -> List (AC F) -> Option (List Int × List (AC F))
 | [], xs => some ([], xs)
 | some k :: ks, .int k' x :: xs => match decide (k = k') && !isS k with
   | true => match rowOf ks xs with
     | some (r, rest) => some (x :: r, rest)
     | none => none
   | false => none
 | some .i8 :: ks, .lit (.string s) :: xs => match rowOf ks xs with
   | some (r, rest) => some (encS s :: r, rest)
   | none => none
 | none :: ks, .bool b :: xs => match rowOf ks xs with
   | some (r, rest) => some ((bif b then 1 else 0) :: r, rest)
   | none => none
 | none :: ks, .yes b :: xs => match rowOf ks xs with
   | some (r, rest) => some ((bif b then 1 else 0) :: r, rest)
   | none => none
 | _, _ => none
def rowsA (ks : List (Option IntKind)) : Nat -> List (AC F) -> Option (List (List Int))
 | 0, [] => some []
 | 0, _ => none
 | m + 1, xs => match rowOf ks xs with
   | some (r, rest) => match rowsA ks m rest with
     | some l => some (r :: l)
     | none => none
   | none => none
def zeroT (n : Int) (w : Nat) : List (List Int) := List.replicate n.toNat (List.replicate w 0)
def mixR (w : Nat) (row : List Int) (o : Nat) (r : List Int) : List Int := bif Nat.beq o 0 && Nat.beq r.length w then r else (List.range w).map fun p => bif Nat.ble o p && Nat.blt p (o + r.length) then r.getD (p - o) 0 else row.getD p 0
def setT (w : Nat) (l : List (List Int)) (e : Int) (o : Nat) (r : List Int) : List (List Int) := l.set e.toNat (mixR w (l.getD e.toNat []) o r)
def ksZ : List Value -> Option (List (Option IntKind))
 | [] => some []
 | .int k n :: r => bif decide (n = 0) && !isS k then (match ksZ r with | some l => some (some k :: l) | none => none) else none
 | .bool b :: r => bif b then none else (match ksZ r with | some l => some (none :: l) | none => none)
 | .string s :: r => bif Nat.beq s.size 0 then (match ksZ r with | some l => some (some .i8 :: l) | none => none) else none
 | _ => none
def cutK (l : List (List Int)) (e : Int) : List (Option IntKind) -> Nat -> List (AC F)
 | [], _ => []
 | kd :: ks, o => kdC kd (cel l e o) :: cutK l e ks (o + 1)
def evMake (c : Ctx F) (t : TypeId) (slot : Nat) (x y : AV F) : Option (Out F) :=
 match x, y with
 | .w (.one (.int _ a)), .w (.one (.int _ b)) => match c.T t with
   | some ti => match ti.desc with
     | .slice e => match c.T e with
       | some ei => match ksZ ei.zero.cells.toList with
         | some ks => bif Nat.beq ei.size ks.length && Nat.blt 0 ks.length && Nat.ble ei.bytes 4096 && c.safe e then
             some ⟨.w (.one (.wsl slot 0 ks.length 0 a b)), [(slot, ⟨e, [.arr 0 ks (zeroT b ks.length)]⟩)], [(decide (0 <= a), true), (decide (a <= b), true), (decide (b <= 34359738368), true)]⟩ else none
         | none => none
       | none => none
     | _ => none
   | none => none
 | _, _ => none
def arrLoad (c : Ctx F) (t : TypeId) (v sz : Nat) (e : Int) (o : Nat) (blk : Blk F) : Option (Out F) :=
 match blk.cs with
 | [.arr v' ks l] => match c.T t with
   | some ti => bif Nat.beq sz ks.length then
       (bif ti.aggB then (bif Nat.ble (o + ti.size) ks.length then some ⟨.w (.agg (cutK l e ((ks.drop o).take ti.size) o)), [], [(Nat.beq v v', true), (decide (e < lenT l), true)]⟩ else none) else
         match ks[o]? with
         | some kd => some ⟨.w (.one (kdC kd (cel l e o))), [], [(Nat.beq v v', true), (decide (e < lenT l), true)]⟩
         | none => none)
       else none
   | none => none
 | _ => none
def arrStore (c : Ctx F) (t : TypeId) (b v sz : Nat) (e : Int) (o : Nat) (y : AV F) (blk : Blk F) : Option (Out F) :=
 match blk.cs with
 | [.arr v' ks l] => match c.T t, y.cells with
   | some i, some cs => bif Nat.beq sz ks.length && Nat.beq cs.length i.size && Nat.ble (o + cs.length) ks.length then
       match rowOf ((ks.drop o).take cs.length) cs with
       | some (r, []) => some ⟨.w (.one (.lit undef)), [(b, ⟨blk.ty, [.arr v' ks (setT ks.length l e o r)]⟩)], [(Nat.beq v v', true), (decide (e < lenT l), true)]⟩
       | _ => none
       else none
   | _, _ => none
 | _ => none
def arrAt (c : Ctx F) (t : TypeId) (b v sz : Nat) (off len i : Int) : Option (Out F) :=
 match c.T t with
 | some ti => match ti.desc with
   | .slice e => match c.T e with
     | some ei => bif Nat.beq ei.size sz then some ⟨.w (.one (.wel b v sz (off + i) 0)), [], [(decide (0 <= i), true), (decide (i < len), true)]⟩ else none
     | none => none
   | _ => none
 | none => none
def arrCut (c : Ctx F) (e : TypeId) (b v sz : Nat) (off len cap : Int) (lo hi : Option (AV F)) : Option (Out F) :=
 match c.T e with
 | some ei => bif Nat.beq ei.size sz then
     match endOf 0 lo, endOf len hi with
     | some a, some d => some ⟨.w (.one (.wsl b v sz (off + a) (d - a) (cap - a))), [], [(decide (0 <= a), true), (decide (a <= d), true), (decide (d <= cap), true)] ++ (match lo with | none => [] | some _ => [(decide (a < cap), true)])⟩
     | _, _ => none
   else none
 | none => none
def sliceOf (c : Ctx F) (t : TypeId) (x : AV F) (lo hi : Option (AV F)) : Option (Out F) :=
 match c.T t with
 | some ti => match ti.desc, x with
   | .slice e, .w (.one (.fv f)) => match c.T e, c.vlen f with
     | some ei, some n => bif Nat.beq ei.size (c.vesz f) then
         match endOf 0 lo, endOf n hi with
         | some a, some b => match c.vsub f a b with
           | some g => some ⟨.w (.one (.fv g)), [], [(decide (0 <= a), true), (decide (a <= b), true), (decide (b <= n), true)]⟩
           | none => none
         | _, _ => none
       else none
     | _, _ => none
   | .slice e, .w (.one (.slc k o len cap)) => match c.T e with
     | some ei => match endOf 0 lo, endOf (len : Int) hi with
       | some a, some b => some ⟨.w (.one (.slc k (bif Nat.beq cap a.toNat then o else o + a.toNat * ei.size) (b.toNat - a.toNat) (cap - a.toNat))), [], [(decide (0 <= a), true), (decide (a <= b), true), (decide (b <= (cap : Int)), true)]⟩
       | _, _ => none
     | none => none
   | .slice e, .w (.one (.wsl b v sz off len cap)) => arrCut c e b v sz off len cap lo hi
   | .string, .w (.one (.lit (.string s))) => match endOf 0 lo, endOf (sLen s) hi with
     | some a, some b => some ⟨.w (.one (.lit (.string (sSub s a b)))), [], [(decide (0 <= a), true), (decide (a <= b), true), (decide (b <= sLen s), true)]⟩
     | _, _ => none
   | .array m e, .w (.one (.ptr k o)) => match c.T e with
     | some ei => match endOf 0 lo, endOf (m : Int) hi with
       | some a, some b => some ⟨.w (.one (.slc k (bif Nat.beq m a.toNat then o else o + a.toNat * ei.size) (b.toNat - a.toNat) (m - a.toNat))), [], [(decide (0 <= a), true), (decide (a <= b), true), (decide (b <= (m : Int)), true)]⟩
       | _, _ => none
     | none => none
   | _, _ => none
 | none => none
def factB : AC F -> Bool
 | .int _ _ => true
 | .bool _ => true
 | .yes _ => true
 | .lit v => isCell v
 | .fv _ => true
 | _ => false
def Blk.row (b : Blk F) : Option (Nat × Nat) := match b.cs with | [.tok n sz] => some (n, sz) | _ => none
def evApp (c : Ctx F) (tt : List TypeId) (vs : List (AV F)) (bs : List (Blk F)) : Option (Out F) :=
 match vs, bs, tt with
 | [.w (.one (.tip s n f)), .w (.one (.slc _ o m _))], [tb, sb], [t, t'] =>
   match tb.row with
   | some q => match c.T t with
     | some ti => match ti.desc with
       | .slice e => match c.T e with
         | some ei => match c.vlen f with
           | some _ => match c.vapp f ((sb.cs.drop o).take (m * q.2)) m with
             | some g => bif Nat.beq t t' && Nat.beq e tb.ty && Nat.beq ei.size q.2 && Nat.beq (c.vesz f) q.2 && Nat.beq ei.zero.cells.size ei.size && Nat.blt 0 m && Nat.ble ei.bytes 4096 && Nat.blt 0 ei.bytes && Nat.ble (o + m * q.2) sb.cs.length && ((sb.cs.drop o).take (m * q.2)).all factB then
                 some ⟨.w (.one (.tip s (n + m) g)), [(s, ⟨tb.ty, [.tok (n + m) q.2]⟩)], [(decide (n = q.1), true), (decide (n + m <= 34359738368), true)]⟩ else none
             | none => none
           | none => none
         | none => none
       | _ => none
     | none => none
   | none => none
 | _, _, _ => none
def appFit (c : Ctx F) (t t' sz o m : Nat) (ty : TypeId) (sb : Blk F) : Bool :=
 match c.T t with
 | some ti => match ti.desc with
   | .slice e => match c.T e with
     | some ei => Nat.beq t t' && Nat.beq e ty && Nat.beq ei.size sz && Nat.beq ei.zero.cells.size ei.size && Nat.blt 0 m && Nat.ble ei.bytes 4096 && Nat.blt 0 ei.bytes && Nat.ble (o + m * sz) sb.cs.length && ((sb.cs.drop o).take (m * sz)).all factB
     | none => false
   | _ => false
 | none => false
def evAppA (c : Ctx F) (tt : List TypeId) (vs : List (AV F)) (bs : List (Blk F)) : Option (Out F) :=
 match vs, bs, tt with
 | [.w (.one (.wsl s v sz off len _)), .w (.one (.slc _ o m _))], [⟨ty, [.arr v' ks l]⟩, sb], [t, t'] =>
   match rowsA ks m ((sb.cs.drop o).take (m * sz)) with
   | some rs => bif appFit c t t' sz o m ty sb && Nat.beq ks.length sz then
       some ⟨.w (.one (.wsl s (v' + 1) sz 0 (len + (m : Int)) (len + (m : Int)))), [(s, ⟨ty, [.arr (v' + 1) ks (l.take len.toNat ++ rs)]⟩)], [(Nat.beq v v', true), (decide (off = 0), true), (decide (len <= lenT l), true), (decide (len + (m : Int) <= 34359738368), true)]⟩ else none
   | none => none
 | _, _, _ => evApp c tt vs bs
def evAppZ (c : Ctx F) (slot : Nat) (tt : List TypeId) (vs : List (AV F)) (bs : List (Blk F)) : Option (Out F) :=
 match vs, bs, tt with
 | [.w (.one (.lit (.slice none 0 0))), .w (.one (.slc b o m _))], [sb], [t, t'] => match c.T t with
   | some ti => match ti.desc with
     | .slice e => match c.T e with
       | some ei => match ksZ ei.zero.cells.toList with
         | some ks => match rowsA ks m ((sb.cs.drop o).take (m * ks.length)) with
           | some rs => bif appFit c t t' ks.length o m e sb && Nat.blt 0 ks.length && c.safe e then
               some ⟨.w (.one (.wsl slot 1 ks.length 0 (m : Int) (m : Int))), [(slot, ⟨e, [.arr 1 ks rs]⟩)], [(decide ((m : Int) <= 34359738368), true)]⟩ else none
           | none => none
         | none => none
       | none => none
     | _ => none
   | none => none
 | _, _, _ => none
def nilRow (c : Ctx F) (ty : TypeId) (slot : Nat) : Option (Out F) :=
 match c.nil ty, c.T ty with
 | some g, some ti => match ti.desc with
   | .slice e => bif Nat.blt 0 (c.vesz g) && c.safe e then some ⟨.w (.one (.tip slot 0 g)), [(slot, ⟨e, [.tok 0 (c.vesz g)]⟩)], []⟩ else none
   | _ => none
 | _, _ => none
def evAppN (c : Ctx F) (slot : Nat) (tt : List TypeId) (vs : List (AV F)) (bs : List (Blk F)) : Option (Out F) :=
 match vs, bs, tt with
 | [.w (.one (.lit (.slice none 0 0))), .w (.one (.slc b o m k))], [sb], [t, t'] => match nilRow c t slot with
   | some o1 => match o1.wr with
     | [(_, tb)] => match evApp c [t, t'] [o1.val, .w (.one (.slc b o m k))] [tb, sb] with
       | some out => match out.wr with
         | [p] => some ⟨out.val, p :: o1.wr, out.cd⟩
         | _ => none
       | none => none
     | _ => none
   | none => evAppZ c slot tt vs bs
 | _, _, _ => evAppA c tt vs bs
def evCopy (c : Ctx F) (tt : List TypeId) (vs : List (AV F)) (bs : List (Blk F)) : Option (Out F) :=
 match vs, bs, tt with
 | [.w (.one (.wsl b v sz off len _)), .w (.one (.fv f))], [⟨ty, [.arr v' ks l]⟩], [t, _] => match c.vrow f with
   | some (ks', A) => match c.T t with
     | some ti => match ti.desc with
       | .slice e => match c.T e with
         | some ei => bif Nat.beq ei.size 1 && Nat.beq sz 1 && Nat.beq ks.length 1 && decide (ks' = ks) then
             some ⟨.w (.one (.int .i64 (A.take len.toNat).length)), [(b, ⟨ty, [.arr v' ks (l.take off.toNat ++ A.take len.toNat ++ l.drop (off.toNat + (A.take len.toNat).length))]⟩)], [(Nat.beq v v', true), (decide (off + len <= lenT l), true)]⟩ else none
         | none => none
       | _ => none
     | none => none
   | none => none
 | _, _, _ => none
def evCore (c : Ctx F) (β : Bool) (slot : Nat) (ty : TypeId) (op : Op) (vs : List (AV F)) (bs : List (Blk F)) : Option (Out F) :=
 match op with
 | .move _ => un vs ret
 | .assign _ => un vs fun x => match x with
   | .w (.one (.lit (.slice none 0 0))) => match nilRow c ty slot with
     | some out => some out
     | none => ret x
   | _ => ret x
 | .pick _ _ _ => bi vs fun x y => match asB x with
   | some b => some ⟨y, [], [(b, β)]⟩
   | none => none
 | .alloc t => match c.T t with
   | some i => bif i.zero.cells.toList.all isCell then newBlk slot t (i.zero.cells.toList.map ofC) else none
   | none => none
 | .box t _ => un vs fun x => match x.cells with
   | some cs => newBlk slot t cs
   | none => none
 | .build t ps => match c.T t with
   | some i => match i.desc with
     | .struct fs => match placesOf c fs.toList with
       | some pl => match fillC (fun k => pl[k]?) (i.zero.cells.toList.map ofC) ((ps.toList.map (·.1)).zip vs) with
         | some cs => ret (.w (.agg cs))
         | none => none
       | none => none
     | .array _ e => match c.T e with
       | some ei => match fillC (fun k => some (k * ei.size, ei.size)) (i.zero.cells.toList.map ofC) ((ps.toList.map (·.1)).zip vs) with
         | some cs => ret (.w (.agg cs))
         | none => none
       | none => none
     | _ => none
   | none => none
 | .slice t _ lo hi mx => match mx, lo, hi, vs with
   | none, none, none, [x] => sliceOf c t x none none
   | none, none, some _, [x, h] => sliceOf c t x none (some h)
   | none, some _, none, [x, l] => sliceOf c t x (some l) none
   | none, some _, some _, [x, l, h] => sliceOf c t x (some l) (some h)
   | _, _, _, _ => none
 | .index t _ _ => bi vs fun x y => match x, y with
   | .w (.agg cs), .w (.one (.int _ i)) => match c.T t with
     | some ti => match ti.desc with
       | .array n e => match c.T e with
         | some ei => match partOf c e cs (i.toNat * ei.size) with
           | some v => some ⟨v, [], [(decide (0 <= i), true), (decide (i < (n : Int)), true)]⟩
           | none => none
         | none => none
       | _ => none
     | none => none
   | .w (.one (.lit (.string s))), .w (.one (.int _ i)) => match c.T t with
     | some ti => match ti.desc with
       | .string => some ⟨.w (.one (.int .u8 (sAt s i))), [], [(decide (0 <= i), true), (decide (i < sLen s), true)]⟩
       | _ => none
     | none => none
   | _, _ => none
 | .buildSlice t n ps => match c.T t with
   | some ti => match ti.desc with
     | .slice e => match c.T e with
       | some ei => bif Nat.ble (n * ei.size) 16777216 && Nat.blt 0 (n * ei.size) then
           match fillC (fun i => some (i * ei.size, ei.size)) (((List.range (n * ei.size)).map fun i => ei.zero.cells[i % ei.zero.cells.size]!).map ofC) ((ps.toList.map (·.1)).zip vs) with
           | some cs => some ⟨.w (.one (.slc slot 0 n n)), [(slot, ⟨e, cs⟩)], []⟩
           | none => none
         else none
       | none => none
     | _ => none
   | none => none
 | .load t _ => un vs fun x => match x with
   | .w (.one (.fel f i k o)) => match c.T t with
     | some ti => match c.vlen f with
       | some n => match gets c f i o (bif ti.aggB then ti.size else 1) with
         | some xs => bif Nat.beq k (c.vesz f) then
             some ⟨.w (bif ti.aggB then .agg xs else (match xs with | [y] => .one y | _ => .agg xs)), [], [(decide (0 <= i), true), (decide (i < n), true)]⟩ else none
         | none => none
       | none => none
     | none => none
   | .w (.one (.ptr _ o)) => blk1 bs fun blk => match c.T t with
     | some i => bif i.aggB then (bif Nat.ble (o + i.size) blk.cs.length then ret (.w (.agg ((blk.cs.drop o).take i.size))) else none) else
       match blk.cs[o]? with
       | some x => ret1 x
       | none => none
     | none => none
   | .w (.one (.xel _ _ f i)) => match c.T t with
     | some ti => bif ti.aggB then none else match c.slen f with
       | some n => match c.sget f i with
         | some y => some ⟨.w (.one y), [], [(decide (0 <= i), true), (decide (i < n), true)]⟩
         | none => none
       | none => none
     | none => none
   | .w (.one (.wel _ v sz e o)) => blk1 bs fun blk => arrLoad c t v sz e o blk
   | _ => none
 | .store t _ _ => bi vs fun x y => match x with
   | .w (.one (.ptr b o)) => blk1 bs fun blk => match c.T t, y.cells with
     | some i, some cs => bif Nat.beq cs.length i.size && Nat.ble (o + cs.length) blk.cs.length && c.safe blk.ty then
         some ⟨.w (.one (.lit undef)), [(b, ⟨blk.ty, blk.cs.take o ++ cs ++ blk.cs.drop (o + cs.length)⟩)], []⟩ else none
     | _, _ => none
   | .w (.one (.wel b v sz e o)) => blk1 bs fun blk => arrStore c t b v sz e o y blk
   | _ => none
 | .nilCheck _ => un vs fun x => match x with
   | .w (.one (.ptr _ _)) => ret x
   | .w (.one (.fnc _ _)) => ret x
   | .w (.one (.fv g)) => match c.deref g with
     | some (b, _) => some ⟨x, [], [(b, false)]⟩
     | none => none
   | _ => none
 | .binOp op t _ _ _ => bi vs (bin c op t)
 | .unOp op _ _ => un vs (unary op)
 | .convert s d _ => un vs (conv c s d)
 | .makeFunc fn first _ => match fn with
   | .func f => bif first.toList.isEmpty then
       (match vs.mapM fun v => (match v with | .w (.one (.ptr b o)) => some (b, o) | _ => none) with
       | some caps => ret1 (.fnc f caps)
       | none => none) else none
   | _ => none
 | .fieldAddr t _ f => un vs fun x => match x with
   | .w (.one (.fel g i k o)) => match fieldOf c t f with
     | some fl => match c.T fl.type with
       | some ti => bif Nat.beq ti.size 0 then none else ret1 (.fel g i k (o + fl.offset))
       | none => none
     | none => none
   | .w (.one (.ptr b o)) => match fieldOf c t f with
     | some fl => match c.T fl.type with
       | some i => bif Nat.beq i.size 0 then none else ret1 (.ptr b (o + fl.offset))
       | none => none
     | none => none
   | .w (.one (.wel b v sz e o)) => match fieldOf c t f with
     | some fl => match c.T fl.type with
       | some i => bif Nat.beq i.size 0 then none else ret1 (.wel b v sz e (o + fl.offset))
       | none => none
     | none => none
   | .w (.one (.fv g)) => match c.deref g with
     | some (b, g') => match fieldOf c t f with
       | some fl => match c.T fl.type with
         | some i => bif Nat.beq i.size 0 then none else some ⟨.w (.one (.fel g' 0 (c.vesz g') fl.offset)), [], [(b, false)]⟩
         | none => none
       | none => none
     | none => none
   | _ => none
 | .field t _ f => un vs fun x => match x with
   | .w (.agg cs) => match fieldOf c t f with
     | some fl => match partOf c fl.type cs fl.offset with
       | some v => ret v
       | none => none
     | none => none
   | _ => none
 | .indexAddr t _ _ => bi vs fun x y => match x, y with
   | .w (.one (.fv f)), .w (.one (.int _ i)) => match c.T t with
     | some ti => match ti.desc with
       | .slice e => match c.T e with
         | some ei => bif Nat.beq ei.size (c.vesz f) then
             match c.vlen f with
             | some n => some ⟨.w (.one (.fel f i (c.vesz f) 0)), [], [(decide (0 <= i), true), (decide (i < n), true)]⟩
             | none => none
           else none
         | none => none
       | _ => none
     | none => none
   | .w (.one (.slc b o n _)), .w (.one (.int _ i)) => match c.T t with
     | some ti => match ti.desc with
       | .slice e => match c.T e with
         | some ei => some ⟨.w (.one (.ptr b (o + i.toNat * ei.size))), [], [(decide (0 <= i), true), (decide (i < (n : Int)), true)]⟩
         | none => none
       | _ => none
     | none => none
   | .w (.one (.ptr b o)), .w (.one (.int _ i)) => match c.T t with
     | some ti => match ti.desc with
       | .array n e => match c.T e with
         | some ei => some ⟨.w (.one (.ptr b (o + i.toNat * ei.size))), [], [(decide (0 <= i), true), (decide (i < (n : Int)), true)]⟩
         | none => none
       | _ => none
     | none => none
   | .w (.one (.ext k j f 0)), .w (.one (.int _ i)) => match c.T t with
     | some ti => match ti.desc with
       | .slice e => match c.T e with
         | some ei => bif Nat.beq ei.size 1 then
             match c.slen f with
             | some n => some ⟨.w (.one (.xel k j f i)), [], [(decide (0 <= i), true), (decide (i < n), true)]⟩
             | none => none
           else none
         | none => none
       | _ => none
     | none => none
   | .w (.one (.wsl b v sz off len _)), .w (.one (.int _ i)) => arrAt c t b v sz off len i
   | _, _ => none
 | .makeSlice t _ _ => bi vs fun x y => evMake c t slot x y
 | .makeMap t r => match r, vs with
   | none, [] => evMkMap c t slot
   | some _, [.w (.one (.int _ _))] => evMkMap c t slot
   | _, _ => none
 | .lookup t _ _ ok => bi vs fun x y => match x with
   | .w (.one (.mpv _)) => blk1 bs fun blk => mapLook c t ok y blk
   | _ => none
 | .mapUpdate t _ _ _ => tri vs fun x y z => match x with
   | .w (.one (.mpv b)) => blk1 bs fun blk => mapPut c t b y z blk
   | _ => none
 | .insert t _ _ _ => tri vs fun x y z => match x with
   | .w (.one (.mpv b)) => blk1 bs fun blk => mapPut c t b y z blk
   | _ => none
 | .extract _ i => un vs fun x => match x with
   | .tup l => match l[i]? with
     | some v => ret (.w v)
     | none => none
   | _ => none
 | .call k => match k.callee with
   | .value _ => match callSpec c vs with
     | some (sp, args) => sp.run slot args bs
     | none => none
   | .builtin .append => evAppN c slot k.argTypes.toList vs bs
   | .builtin .copy => evCopy c k.argTypes.toList vs bs
   | .builtin .min => match vs with
     | x :: r => match minmaxs false x r with
       | some v => ret v
       | none => none
     | [] => none
   | .builtin .len => un vs fun x => match x with
     | .w (.one (.fv f)) => match k.argTypes.toList with
       | t :: _ => match c.T t with
         | some ti => match ti.desc with
           | .slice _ => match c.vlen f with
             | some n => ret1 (.int .i64 n)
             | none => none
           | _ => none
         | none => none
       | [] => none
     | .w (.one (.slc _ _ n _)) => match k.argTypes.toList with
       | t :: _ => match c.T t with
         | some ti => match ti.desc with
           | .slice _ => ret1 (.int .i64 (n : Int))
           | _ => none
         | none => none
       | [] => none
     | .w (.one (.ext _ _ f 0)) => match k.argTypes.toList with
       | t :: _ => match c.T t with
         | some ti => match ti.desc with
           | .slice _ => match c.slen f with
             | some n => ret1 (.int .i64 n)
             | none => none
           | _ => none
         | none => none
       | [] => none
     | .w (.one (.mpv _)) => blk1 bs fun blk => mapLen k.argTypes.toList c blk
     | .w (.one (.wsl _ _ _ _ n _)) => match k.argTypes.toList with
       | t :: _ => match c.T t with
         | some ti => match ti.desc with
           | .slice _ => ret1 (.int .i64 n)
           | _ => none
         | none => none
       | [] => none
     | .w (.one (.lit (.slice none 0 0))) => match k.argTypes.toList with
       | t :: _ => match c.T t with
         | some ti => match ti.desc with
           | .slice _ => ret1 (.int .i64 0)
           | _ => none
         | none => none
       | [] => none
     | .w (.one (.lit (.string s))) => match k.argTypes.toList with
       | t :: _ => match c.T t with
         | some ti => match ti.desc with
           | .string => ret1 (.int .i64 (sLen s))
           | _ => none
         | none => none
       | [] => none
     | _ => none
   | .builtin .max => match vs with
     | x :: r => match minmaxs true x r with
       | some v => ret v
       | none => none
     | [] => none
   | _ => none
 | _ => none


def vEq : Value -> Value -> Option Bool
 | .int k a, .int k' b => if k = k' then some (a == b) else none
 | .bool a, .bool b => some (a == b)
 | _, _ => none
def vsEq : List Value -> List Value -> Option Bool
 | [], [] => some true
 | x :: l, y :: k => match vEq x y, vsEq l k with
   | some a, some b => some (a && b)
   | _, _ => none
 | _, _ => none
def kindV : Option TyI -> Value -> Bool
 | some i, x => match i.desc, x with
   | .int k, .int k' _ => decide (k = k')
   | .bool, .bool _ => true
   | _, _ => false
 | none, _ => false
def fitsV (T : Nat -> Option TyI) (eqs : TypeId -> Bool) : Nat -> List Field -> Nat -> List Value -> Bool
 | 0, _, _, _ => false
 | n + 1, [], _, xs => match xs with
   | [] => true
   | _ => false
 | n + 1, f :: fs, j, xs => match T f.type with
   | some ti => match ti.desc with
     | .struct gs => Nat.beq f.offset j && (eqs f.type && (Nat.ble ti.size xs.length && (fitsV T eqs n gs.toList 0 (xs.take ti.size) && fitsV T eqs n fs (j + ti.size) (xs.drop ti.size))))
     | _ => match xs with
       | x :: r => Nat.beq f.offset j && (kindV (some ti) x && fitsV T eqs n fs (j + 1) r)
       | [] => false
   | none => false
def EqOk (P : Program) (T : Nat -> Option TyI) (eqs : TypeId -> Bool) : Prop :=
 ∀ t i fs, T t = some i -> i.desc = .struct fs -> eqs t = true -> ∀ (xs ys : List Value) (b : Bool) (x y : Operand) (w : World), fitsV T eqs 64 fs.toList 0 xs = true -> vsEq xs ys = some b ->
   (∀ op, op = .eql \/ op = .neq -> (eqGuard op t x y (.agg xs.toArray) (.agg ys.toArray)).run P w = .ok () w) /\ (Op.equal t (.agg xs.toArray) (.agg ys.toArray)).run P w = .ok b w
theorem kindC_R {E : Env F} {o : Option TyI} {x : AC F} {u : Value} (h : kindC o x = true) (hx : x.R E u) : kindV o u = true := by
 cases o with
 | none => cases h
 | some i =>
   simp only [kindC] at h
   simp only [kindV]
   split at h
   · rename_i k k' n hd; cases (hx : u = _); rw [hd]; exact h
   · rename_i b hd; cases (hx : u = _); rw [hd]
   · rename_i b hd; cases (hx : u = _); rw [hd]
   · cases h
theorem fitsC_R {E : Env F} {c : Ctx F} : ∀ {n : Nat} {fs : List Field} {j : Nat} {xs : List (AC F)} {us : List Value}, fitsC c n fs j xs = true -> All2 (AC.R E) xs us -> fitsV c.T c.eqs n fs j us = true
 | 0, fs, j, xs, us, h, H => by cases h
 | n + 1, [], j, xs, us, h, H => by
   cases H with
   | nil => rfl
   | cons => cases h
 | n + 1, f :: fs, j, xs, us, h, H => by
   simp only [fitsC] at h
   simp only [fitsV]
   split at h
   · rename_i ti hti
     split at h
     · rename_i gs hgs
       simp only [hti, hgs, Bool.and_eq_true] at h ⊢
       exact ⟨h.1, h.2.1, by rw [<- H.length]; exact h.2.2.1, fitsC_R h.2.2.2.1 (H.take _), fitsC_R h.2.2.2.2 (H.drop _)⟩
     · rename_i hne
       split at h
       · rename_i x r
         cases H with
         | cons q H =>
           simp only [Bool.and_eq_true] at h
           simp only [Bool.and_eq_true]
           exact ⟨h.1, kindC_R h.2.1 q, fitsC_R h.2.2 H⟩
       · cases h
   · cases h
theorem cEq_R {E : Env F} {x y : AC F} {u v : Value} {b : Bool} (h : cEq x y = some b) (hx : x.R E u) (hy : y.R E v) : vEq u v = some b := by
 cases x <;> cases y <;> simp only [cEq] at h <;> try cases h
 case int.int k a k' b' =>
   cases (hx : u = _); cases (hy : v = _)
   by_cases e : k = k'
   · simp [e] at h; simp [vEq, e, h]
   · simp [e] at h
 all_goals (cases (hx : u = _); cases (hy : v = _); rfl)
theorem csEq_R {E : Env F} {xs : List (AC F)} {us : List Value} (hx : All2 (AC.R E) xs us) : ∀ {ys vs b}, csEq xs ys = some b -> All2 (AC.R E) ys vs -> vsEq us vs = some b := by
 induction hx with
 | nil =>
   intro ys vs b h hy
   cases hy with
   | nil => exact h
   | cons => cases h
 | cons r _ ih =>
   intro ys vs b h hy
   cases hy with
   | nil => cases h
   | cons r' hy =>
     simp only [csEq] at h
     cases h1 : cEq _ _ with
     | none => rw [h1] at h; cases h
     | some p =>
       rw [h1] at h; simp only at h
       cases h2 : csEq _ _ with
       | none => rw [h2] at h; cases h
       | some q =>
         rw [h2] at h; cases h
         simp only [vsEq, cEq_R h1 r r', ih h2 hy]

section
variable {P : Program} {w : World}
theorem run_size {T : Nat -> Option TyI} (hT : TabOk P T) {t : TypeId} {i : TyI} (h : T t = some i) : (sizeOf t).run P w = .ok i.size w := by
 obtain ⟨h1, _, _⟩ := hT t i h
 cases hi : P.info? t with
 | none => rw [hi] at h1; cases h1
 | some info =>
   rw [hi] at h1
   simp only [Option.map_some, Option.some.injEq] at h1
   simp [sizeOf, typeInfo, hi, h1]
theorem run_zero {T : Nat -> Option TyI} (hT : TabOk P T) {t : TypeId} {i : TyI} (h : T t = some i) : (zeroValue t).run P w = .ok i.zero w := by
 obtain ⟨_, h1, _⟩ := hT t i h
 cases hi : P.info? t with
 | none => rw [hi] at h1; cases h1
 | some info =>
   rw [hi] at h1
   simp only [Option.bind_some] at h1
   simp [zeroValue, typeInfo, hi, h1]
theorem run_und {T : Nat -> Option TyI} (hT : TabOk P T) {t : TypeId} {i : TyI} (h : T t = some i) : (underlying t).run P w = .ok i.desc w := run_underlying (hT t i h).2.2 w
theorem run_agg {T : Nat -> Option TyI} (hT : TabOk P T) {t : TypeId} {i : TyI} (h : T t = some i) : (isAgg t).run P w = .ok i.aggB w := by
 simp only [isAgg, Sem.run_bind, run_und hT h, Result.andThen_ok]
 unfold TyI.aggB
 cases i.desc <;> rfl
end

abbrev Fr (ro : Option Nat) : Fence := { Fence.wide with round := ro }
theorem semAt_ok {P : Program} {o : Oper} {ρ : Operand -> Value} {w w' : World} {n : Next} (h : (execOp ρ o).run P w = .ok n w') (hn : ∀ d, n ≠ .defer d) : (o.semAt ro ρ).run P w = .ok n w' := by
 rw [Oper.semAt_eq]
 · exact h
 · intro c e
   simp only [execOp, e, Sem.run_bind, Sem.run_pure] at h
   cases hr : (resolve ρ c o.type).run P w with
   | ok d w1 => rw [hr] at h; simp only [Result.andThen] at h; cases h; exact hn _ rfl
   | halt x w1 => rw [hr] at h; cases h
theorem wp_value {P : Program} {o : Oper} {a : Act} {w w' : World} {u : Value} {K : Act -> World -> Prop} {Q : Exit -> Act -> World -> Prop} (h : (execOp a.eval o).run P w = .ok (.value u) w') (hK : K (a.put o.dst u) w') : o.wpIn (Fr ro) 0 P a w K Q := by
 unfold Oper.wpIn
 rw [semAt_ok h (by simp)]; exact ⟨fun _ _ => trivial, hK⟩
theorem wp_skipped {P : Program} {o : Oper} {a : Act} {w w' : World} {K : Act -> World -> Prop} {Q : Exit -> Act -> World -> Prop} (h : (execOp a.eval o).run P w = .ok .skip w') (hK : K (a.put o.dst undef) w') : o.wpIn (Fr ro) 0 P a w K Q := by
 unfold Oper.wpIn
 rw [semAt_ok h (by simp)]; exact ⟨fun _ _ => trivial, hK⟩
theorem wp_enter {P : Program} {o : Oper} {a : Act} {w w' : World} {f : FuncId} {args : Array Value} {K : Act -> World -> Prop} {Q : Exit -> Act -> World -> Prop} {R : Ending -> World -> Prop} (h : (execOp a.eval o).run P w = .ok (.enter f args) w')
   (hc : Calls P f args w' R) (hR : ∀ e w'', R e w'' -> ∃ v, e = .returned v /\ K (a.put o.dst v) w'') : o.wpIn (Fr ro) 0 P a w K Q := by
 unfold Oper.wpIn
 rw [semAt_ok h (by simp)]
 refine ⟨fun _ _ => trivial, fun h => (by cases h), (show CallsIn (Fr ro) _ P f args w' _ from (callsIn_wide (n := 0)).2 (hc.mono fun e w'' hr => ?_))⟩
 obtain ⟨v, rfl, hk⟩ := hR e w'' hr
 exact hk

theorem asB_R {E : Env F} {x : AV F} {b : Bool} {u : Value} (h : asB x = some b) (H : x.R E u) : u = .bool b := by
 rcases x with x | l
 · rcases x with c | cs
   · cases c <;> simp only [asB] at h <;> try cases h
     · exact H
     · exact H
   · cases h
 · cases h
theorem run_eqGuard_int (P : Program) (op : BinOp) (t : TypeId) (x y : Operand) (k k' : IntKind) (a b : Int) (w : World) : (eqGuard op t x y (.int k a) (.int k' b)).run P w = .ok () w := by
 unfold eqGuard
 cases op <;> rfl
theorem run_eqGuard_bool (P : Program) (op : BinOp) (t : TypeId) (x y : Operand) (a b : Bool) (w : World) : (eqGuard op t x y (.bool a) (.bool b)).run P w = .ok () w := by
 unfold eqGuard
 cases op <;> rfl
theorem arith_R {P : Program} {op : BinOp} {t : TypeId} {k : IntKind} {a b : Int} {out : Out F} (h : arith op k a b = some out) (hc : ∀ p ∈ out.cd, p.1 = p.2) (E : Env F) (w : World) :
   ∃ r, (binOp op t (.int k a) (.int k b)).run P w = .ok r w /\ out.val.R E r /\ out.wr = [] := by
 have hd : out.cd = [(decide (b = 0), false)] -> b ≠ 0 := fun e e0 => by
   have := hc (decide (b = 0), false) (by rw [e]; simp)
   simp [e0] at this
 cases op <;> simp only [arith, ret1] at h <;> try cases h
 case quo => exact ⟨_, by simp [binOp, Op.intDiv, hd rfl], rfl, rfl⟩
 case rem => exact ⟨_, by simp [binOp, Op.intDiv, hd rfl], rfl, rfl⟩
 all_goals exact ⟨_, by simp [binOp, Op.intArith, Op.intBits, Op.intCmp], rfl, rfl⟩
theorem shifts_R {P : Program} {op : BinOp} {t : TypeId} {k k' : IntKind} {a b : Int} {out : Out F} (h : shifts op k a b = some out) (hc : ∀ p ∈ out.cd, p.1 = p.2) (E : Env F) (w : World) :
   ∃ r, (binOp op t (.int k a) (.int k' b)).run P w = .ok r w /\ out.val.R E r /\ out.wr = [] := by
 have hd : out.cd = [(decide (b < 0), false)] -> ¬ b < 0 := fun e e0 => by
   have := hc (decide (b < 0), false) (by rw [e]; simp)
   simp [e0] at this
 cases op <;> simp only [shifts] at h <;> try cases h
 · exact ⟨_, by simp [binOp, Op.shift, hd rfl], rfl, rfl⟩
 · exact ⟨_, by simp [binOp, Op.shift, hd rfl], rfl, rfl⟩
theorem equalIn_bool {P : Program} {t : TypeId} (h : P.underlying t = some .bool) (a b : Bool) (w : World) (d : Nat) : (Op.equalIn (d + 1) t (.bool a) (.bool b)).run P w = .ok (a == b) w := by
 simp only [Op.equalIn, Sem.run_bind, run_underlying h, Result.andThen_ok, Sem.run_pure]
theorem equal_bool {P : Program} {t : TypeId} (h : P.underlying t = some .bool) (a b : Bool) (w : World) : (Op.equal t (.bool a) (.bool b)).run P w = .ok (a == b) w := equalIn_bool h a b w 9999
theorem run_eqGuard_fn (P : Program) (op : BinOp) (t : TypeId) (x y : Operand) (f : Fn) (a b : Array Value) (w : World) : (eqGuard op t x y (.func f a b) .nilFunc).run P w = .ok () w := by
 unfold eqGuard
 cases op <;> rfl
theorem equalIn_fn {P : Program} {t : TypeId} {ps rs : Array TypeId} {vr : Bool} (h : P.underlying t = some (.func ps rs vr)) (f : Fn) (a b : Array Value) (w : World) (d : Nat) : (Op.equalIn (d + 1) t (.func f a b) .nilFunc).run P w = .ok false w := by
 simp only [Op.equalIn, Sem.run_bind, run_underlying h, Result.andThen_ok, Sem.run_pure]
theorem equal_fn {P : Program} {t : TypeId} {ps rs : Array TypeId} {vr : Bool} (h : P.underlying t = some (.func ps rs vr)) (f : Fn) (a b : Array Value) (w : World) : (Op.equal t (.func f a b) .nilFunc).run P w = .ok false w := equalIn_fn h f a b w 9999
theorem run_eqGuard_ptr (P : Program) (op : BinOp) (t : TypeId) (x y : Operand) (a b : Option Addr) (w : World) : (eqGuard op t x y (.pointer a) (.pointer b)).run P w = .ok () w := by
 unfold eqGuard
 cases op <;> rfl
theorem equalIn_nil {P : Program} {t e : TypeId} (h : P.underlying t = some (.pointer e)) (w : World) (d : Nat) : (Op.equalIn (d + 1) t (.pointer none) (.pointer none)).run P w = .ok true w := by
 simp only [Op.equalIn, Sem.run_bind, run_underlying h, Result.andThen_ok, Sem.run_pure, Option.isNone_none]
theorem equalIn_ptr {P : Program} {t e : TypeId} (h : P.underlying t = some (.pointer e)) (a : Addr) (w : World) (d : Nat) : (Op.equalIn (d + 1) t (.pointer (some a)) (.pointer none)).run P w = .ok false w := by
 simp only [Op.equalIn, Sem.run_bind, run_underlying h, Result.andThen_ok, Sem.run_pure]
theorem equal_nil {P : Program} {t e : TypeId} (h : P.underlying t = some (.pointer e)) (w : World) : (Op.equal t (.pointer none) (.pointer none)).run P w = .ok true w := equalIn_nil h w 9999
theorem equal_ptr {P : Program} {t e : TypeId} (h : P.underlying t = some (.pointer e)) (a : Addr) (w : World) : (Op.equal t (.pointer (some a)) (.pointer none)).run P w = .ok false w := equalIn_ptr h a w 9999
theorem run_eqGuard_str (P : Program) (op : BinOp) (t : TypeId) (x y : Operand) (a b : ByteArray) (w : World) : (eqGuard op t x y (.string a) (.string b)).run P w = .ok () w := by
 unfold eqGuard
 cases op <;> rfl
theorem sBin_R {P : Program} {op : BinOp} {t : TypeId} {a b : ByteArray} {out : Out F} (h : sBin op a b = some out) (hc : ∀ p ∈ out.cd, p.1 = p.2) (E : Env F) (w : World) :
   ∃ r, (binOp op t (.string a) (.string b)).run P w = .ok r w /\ out.val.R E r /\ out.wr = [] := by
 cases op <;> simp only [sBin, ret1] at h <;> try cases h
 case add =>
   have h1 : sLen a + sLen b <= 9223372036854775807 := by
     have := hc (decide (sLen a + sLen b <= 9223372036854775807), true) (by simp)
     simpa using this
   refine ⟨.string (sCat a b), ?_, rfl, rfl⟩
   have h2 : ¬ (((a.size + b.size : Nat) : Int) > IntKind.i64.max) := by
     unfold sLen at h1
     rw [show IntKind.i64.max = 9223372036854775807 from by decide]
     omega
   simp only [binOp, Op.stringOp, h2, if_false, Sem.run_pure, sCat]
 all_goals exact ⟨_, by simp only [binOp, Op.stringOp, Sem.run_pure, sEq, sLt], rfl, rfl⟩
theorem bin_R {P : Program} {c : Ctx F} (hT : TabOk P c.T) (hE : EqOk P c.T c.eqs) {op : BinOp} {t : TypeId} {x y : AV F} {out : Out F} (h : bin c op t x y = some out) (hc : ∀ p ∈ out.cd, p.1 = p.2) {E : Env F} {u v : Value} (hx : x.R E u) (hy : y.R E v) (X Y : Operand) (w : World)
   (hD : ∀ f b g u, c.deref f = some (b, g) -> E.h f u -> (b = true /\ u = .pointer none) \/ (b = false /\ ∃ a, u = .pointer (some a))) :
   ∃ r, (do eqGuard op t X Y u v; binOp op t u v : Sem Value).run P w = .ok r w /\ out.val.R E r /\ out.wr = [] := by
 unfold bin at h
 split at h
 · rename_i k a k' b
   cases (hx : u = _); cases (hy : v = _)
   simp only [Sem.run_bind, run_eqGuard_int, Result.andThen_ok]
   split at h
   · exact shifts_R h hc E w
   · exact shifts_R h hc E w
   · by_cases e : k = k'
     · subst e; simp at h; exact arith_R h hc E w
     · simp [e] at h
 · rename_i xs ys
   obtain ⟨us, rfl, hu⟩ := hx
   obtain ⟨vs, rfl, hv⟩ := hy
   cases he : c.eqs t with
   | false => rw [he] at h; cases h
   | true =>
     rw [he] at h; simp only [cond_true] at h
     split at h
     · rename_i i hi
       split at h
       · rename_i fs hfs
         cases hz : fitsC c 64 fs.toList 0 xs with
         | false => rw [hz] at h; cases h
         | true =>
           rw [hz] at h; simp only [cond_true] at h
           split at h
           · rename_i b hb
             obtain ⟨g1, g2⟩ := hE t i fs hi hfs he us vs b X Y w (fitsC_R hz hu) (csEq_R hu hb hv)
             split at h
             · cases h
               refine ⟨.bool b, ?_, rfl, rfl⟩
               simp only [Sem.run_bind, g1 .eql (.inl rfl), Result.andThen_ok]
               simp [binOp, g2]
             · cases h
               refine ⟨.bool (!b), ?_, rfl, rfl⟩
               simp only [Sem.run_bind, g1 .neq (.inr rfl), Result.andThen_ok]
               simp [binOp, g2]
             · cases h
           · cases h
       · cases h
     · cases h
 · rename_i f caps
   obtain ⟨us, rfl, hus⟩ := (hx : AC.R E (.fnc f caps) u)
   cases (hy : v = _)
   split at h
   · rename_i i hi
     split at h
     · rename_i ps rs vr hd
       have hu : P.underlying t = some (.func ps rs vr) := hd ▸ (hT t i hi).2.2
       split at h
       · cases h
         refine ⟨.bool false, ?_, rfl, rfl⟩
         simp only [Sem.run_bind, run_eqGuard_fn, Result.andThen_ok]
         simp [binOp, equal_fn hu]
       · cases h
         refine ⟨.bool true, ?_, rfl, rfl⟩
         simp only [Sem.run_bind, run_eqGuard_fn, Result.andThen_ok]
         simp [binOp, equal_fn hu]
       · cases h
     · cases h
   · cases h
 · rename_i f
   cases (hy : v = _)
   split at h
   · rename_i b g hd
     split at h
     · rename_i i hi
       split at h
       · rename_i e he
         have hu : P.underlying t = some (.pointer e) := he ▸ (hT t i hi).2.2
         rcases hD f b g u hd hx with ⟨rfl, rfl⟩ | ⟨rfl, a, rfl⟩
         · split at h
           · cases h
             refine ⟨.bool true, ?_, rfl, rfl⟩
             simp only [Sem.run_bind, run_eqGuard_ptr, Result.andThen_ok]
             simp [binOp, equal_nil hu]
           · cases h
             refine ⟨.bool false, ?_, rfl, rfl⟩
             simp only [Sem.run_bind, run_eqGuard_ptr, Result.andThen_ok]
             simp [binOp, equal_nil hu]
           · cases h
         · split at h
           · cases h
             refine ⟨.bool false, ?_, rfl, rfl⟩
             simp only [Sem.run_bind, run_eqGuard_ptr, Result.andThen_ok]
             simp [binOp, equal_ptr hu]
           · cases h
             refine ⟨.bool true, ?_, rfl, rfl⟩
             simp only [Sem.run_bind, run_eqGuard_ptr, Result.andThen_ok]
             simp [binOp, equal_ptr hu]
           · cases h
       · cases h
     · cases h
   · cases h
 · rename_i a b
   cases (hx : u = _); cases (hy : v = _)
   simp only [Sem.run_bind, run_eqGuard_str, Result.andThen_ok]
   exact sBin_R h hc E w
 · split at h
   · rename_i i hi
     split at h
     · rename_i hd
       split at h
       · rename_i a b ha hb
         rw [asB_R ha hx, asB_R hb hy]
         have hu : P.underlying t = some .bool := hd ▸ (hT t i hi).2.2
         simp only [Sem.run_bind, run_eqGuard_bool, Result.andThen_ok]
         split at h
         · cases h; exact ⟨_, by simp [binOp, equal_bool hu], rfl, rfl⟩
         · cases h; exact ⟨_, by simp [binOp, equal_bool hu], rfl, rfl⟩
         · cases h
       · cases h
     · cases h
   · cases h
theorem unary_R {P : Program} {op : UnOp} {x : AV F} {out : Out F} (h : unary op x = some out) {E : Env F} {u : Value} (hx : x.R E u) (w : World) :
   ∃ r, (Op.unary op u).run P w = .ok r w /\ out.val.R E r /\ out.wr = [] := by
 unfold unary at h
 split at h
 · cases (hx : u = _); cases h; exact ⟨.int _ (IntKind.wrap _ (0 - _)), rfl, rfl, rfl⟩
 · cases (hx : u = _); cases h; exact ⟨_, by simp [Op.unary], rfl, rfl⟩
 · cases (hx : u = _); cases h; exact ⟨_, by simp [Op.unary], rfl, rfl⟩
 · cases h
theorem conv_R {P : Program} {c : Ctx F} (hT : TabOk P c.T) {s d : TypeId} {x : AV F} {out : Out F} (h : conv c s d x = some out) {E : Env F} {u : Value} (hx : x.R E u) (w : World) :
   ∃ r, (convert s d u).run P w = .ok r w /\ out.val.R E r /\ out.wr = [] := by
 unfold conv at h
 split at h
 · rename_i i j hi hj
   split at h
   · rename_i k k' n hk
     cases (hx : u = _); cases h
     refine ⟨.int k (k.wrap n), ?_, rfl, rfl⟩
     simp only [convert, Sem.run_bind, run_und hT hi, run_und hT hj, Result.andThen_ok, hk]
     cases i.desc <;> rfl
   · rename_i k' n hk
     cases (hx : u = _); cases h
     refine ⟨.string (sRune n), ?_, rfl, rfl⟩
     simp only [convert, Sem.run_bind, run_und hT hi, run_und hT hj, Result.andThen_ok, hk]
     cases i.desc <;> rfl
   · cases h
 · cases h


theorem All2.take_drop {α β : Type} {R : α -> β -> Prop} {l : List α} {k : List β} (H : All2 R l k) (o n : Nat) : All2 R ((l.drop o).take n) ((k.drop o).take n) := (H.drop o).take n
theorem isCell_one {v : Value} (h : isCell v = true) : v.oneCell' = true := by cases v <;> first | rfl | cases h
theorem cell_heap {w : World} {k o : Nat} {vs : List Value} {t : TypeId} {fr : Nat × Nat} (h : w.heap[k]? = some (.cells vs.toArray t fr)) : w.cell? ⟨k, o, none⟩ = vs[o]? := by
 simp [World.cell?, h]
theorem part_R {P : Program} {c : Ctx F} (hT : TabOk P c.T) {t : TypeId} {cs : List (AC F)} {off : Nat} {x : AV F} (h : partOf c t cs off = some x) {E : Env F} {vs : List Value} (hv : All2 (AC.R E) cs vs) (w : World) :
   ∃ r, (part t vs.toArray off).run P w = .ok r w /\ x.R E r := by
 unfold partOf at h
 split at h
 · rename_i i hi
   cases ha : i.aggB with
   | true =>
     rw [ha] at h; cases h
     refine ⟨.agg ((vs.drop off).take i.size).toArray, ?_, _, rfl, hv.take_drop off i.size⟩
     simp only [part, Sem.run_bind, run_agg hT hi, ha, Result.andThen_ok, if_true, run_size hT hi]
     simp [List.take_drop, List.extract_eq_take_drop, Nat.add_comm]
   | false =>
     rw [ha] at h; simp only [cond_false] at h
     split at h
     · rename_i y hy
       cases h
       obtain ⟨b, h1, h2⟩ := hv.get off y hy
       refine ⟨b, ?_, h2⟩
       simp [part, run_agg hT hi, ha, h1]
     · cases h
 · cases h
theorem load_R {P : Program} {c : Ctx F} (hT : TabOk P c.T) {t : TypeId} {i : TyI} (hi : c.T t = some i) {w : World} {k o : Nat} {vs : List Value} {ty : TypeId} (h : w.heap[k]? = some (.cells vs.toArray ty (0, 0)))
   (hl : i.aggB = true -> o + i.size <= vs.length) (hl' : i.aggB = false -> o < vs.length) :
   (Instr.loadAt t (.pointer (some ⟨k, o, none⟩))).run P w = .ok (if i.aggB then .agg ((vs.drop o).take i.size).toArray else vs.getD o undef) w := by
 simp only [Instr.loadAt, Instr.sureAddr, Sem.run_bind, Sem.run_pure, Result.andThen_ok]
 cases ha : i.aggB with
 | true =>
   have hlen : ((vs.drop o).take i.size).length = i.size := by
     have := hl ha
     simp; omega
   have hr : w.rangeAt k o ((vs.drop o).take i.size) := fun j v hj => by
     rw [cell_heap h]
     rw [List.getElem?_take] at hj
     split at hj
     · rw [List.getElem?_drop] at hj; exact hj
     · cases hj
   have hd : i.desc.isRow = true := by
     unfold TyI.aggB at ha
     cases hd : i.desc <;> rw [hd] at ha <;> first | rfl | cases ha
   have := run_loadVar_mid (P := P) w k o t ((vs.drop o).take i.size) i.desc hr (hT t i hi).2.2 hd (by rw [(hT t i hi).1, hlen])
   rw [this, if_pos rfl]
 | false =>
   have h1 := hl' ha
   simp only [loadVar, Sem.run_bind, run_agg hT hi, ha, Result.andThen_ok, Bool.false_eq_true, if_false, run_load, cell_heap h]
   rw [List.getElem?_eq_getElem h1]
   simp [List.getD, List.getElem?_eq_getElem h1]
theorem store_R {P : Program} {c : Ctx F} (hT : TabOk P c.T) {t : TypeId} {i : TyI} (hi : c.T t = some i) {w : World} {k o : Nat} {vs us : List Value} {ty : TypeId} (h : w.heap[k]? = some (.cells vs.toArray ty (0, 0))) {u : Value}
   (hu : u.cells = us.toArray) (hc : ∀ v ∈ us, isCell v = true) (hs : us.length = i.size) (hl : o + us.length <= vs.length) :
   (Instr.storeAt t (.pointer (some ⟨k, o, none⟩)) u).run P w = .ok () (w.setRow k (vs.take o ++ us ++ vs.drop (o + us.length)).toArray) := by
 have := run_storeCells_at (P := P) k o ty us 0 vs.toArray w h (by simpa using hl) (fun v hv => isCell_one (hc v hv))
 simp only [Nat.add_zero] at this
 simp only [Instr.storeAt, Instr.sureAddr, storeVar, Sem.run_bind, Sem.run_pure, Result.andThen_ok, run_size hT hi, hu]
 simp only [List.size_toArray, hs, ne_eq, not_true_eq_false, if_false]
 simpa [hs] using this

theorem run_places {P : Program} {c : Ctx F} (hT : TabOk P c.T) (w : World) : ∀ {fs : List Field} {pl : List (Nat × Nat)}, placesOf c fs = some pl ->
   (fs.mapM fun f => (do pure (f.offset, <- sizeOf f.type) : Sem (Nat × Nat))).run P w = .ok pl w
 | [], pl, h => by cases h; rfl
 | f :: r, pl, h => by
   simp only [placesOf] at h
   split at h
   · rename_i i hi
     split at h
     · rename_i l hl
       cases h
       have ih := run_places hT w hl
       rw [List.mapM_cons]
       simp only [Sem.run_bind, run_size hT hi, Result.andThen_ok, Sem.run_pure, ih]
     · cases h
   · cases h
theorem fold_cells (vs : List Value) : ∀ (j off : Nat) (cells : Array Value), off + j + vs.length <= cells.size ->
   (vs.zipIdx j).foldl (fun cs (x : Value × Nat) => cs.setIfInBounds (off + x.2) x.1) cells = (cells.toList.take (off + j) ++ vs ++ cells.toList.drop (off + j + vs.length)).toArray := by
 induction vs with
 | nil => intro j off cells _; simp
 | cons v vs ih =>
   intro j off cells h
   simp only [List.length_cons] at h
   simp only [List.zipIdx_cons, List.foldl_cons]
   rw [ih (j + 1) off (cells.setIfInBounds (off + j) v) (by simp; omega)]
   congr 1
   have e := list_seg_step cells.toList (off + j) v vs (by simp; omega)
   simpa [Array.toList_setIfInBounds, Nat.add_assoc] using e
theorem fill_R {E : Env F} (hE : CellsE E) (place : Nat -> Option (Nat × Nat)) :
   ∀ (l : List (Nat × AV F)) (us : List Value) (cells : List (AC F)) (vs : List Value) (cs : List (AC F)), fillC place cells l = some cs -> All2 (AC.R E) cells vs -> All2 (AV.R E) (l.map (·.2)) us ->
     ∃ ws, Instr.fill place vs.toArray ((l.map (·.1)).zip us) = some ws.toArray /\ All2 (AC.R E) cs ws
 | [], us, cells, vs, cs, h, hv, hu => by
   cases h
   cases hu
   exact ⟨vs, rfl, hv⟩
 | (i, x) :: l, us, cells, vs, cs, h, hv, hu => by
   cases hu with
   | cons hx hu =>
     rename_i u us
     simp only [fillC] at h
     split at h
     · cases h
     · rename_i off size hp
       split at h
       · cases h
       · rename_i xs hxs
         obtain ⟨ws, hw, hw2, _⟩ := hx.cells hE hxs
         cases hb : Nat.beq xs.length size && Nat.ble (off + size) cells.length with
         | false => rw [hb] at h; cases h
         | true =>
           rw [hb] at h; simp only [cond_true] at h
           simp only [Bool.and_eq_true] at hb
           have hb1 := Nat.eq_of_beq_eq_true hb.1
           have hb2 := Nat.le_of_ble_eq_true hb.2
           have h1 := hw2.length
           have h2 := hv.length
           obtain ⟨zs, g1, g2⟩ := fill_R hE place l us (cells.take off ++ xs ++ cells.drop (off + size)) (vs.take off ++ ws ++ vs.drop (off + size)) cs h (((hv.take off).append hw2).append (hv.drop (off + size))) hu
           refine ⟨zs, ?_, g2⟩
           simp only [List.map_cons, List.zip_cons_cons, Instr.fill, hp, hw]
           have hsz : ¬ (ws.toArray.size ≠ size \/ off + ws.toArray.size > vs.toArray.size) := by simp; omega
           have hf := fold_cells ws 0 off vs.toArray (by simp; omega)
           simp only [Nat.add_zero] at hf
           rw [if_neg (by simpa using hsz)]
           have e : Array.foldl (fun cs (x : Value × Nat) => cs.setIfInBounds (off + x.2) x.1) vs.toArray ws.toArray.zipIdx = (vs.take off ++ ws ++ vs.drop (off + size)).toArray := by
             rw [show ws.toArray.zipIdx = (ws.zipIdx).toArray from by simp]
             rw [List.foldl_toArray', hf]
             · simp [<- h1, hb1]
             · simp
           show Instr.fill place (Array.foldl (fun cs (x : Value × Nat) => cs.setIfInBounds (off + x.2) x.1) vs.toArray ws.toArray.zipIdx) _ = _
           rw [e]
           exact g1
theorem minmaxs_R {P : Program} {E : Env F} {mx : Bool} (w : World) : ∀ {l : List (AV F)} {us : List Value} {x v : AV F} {u : Value}, minmaxs mx x l = some v -> x.R E u -> All2 (AV.R E) l us ->
   ∃ r, (us.foldlM (if mx then Builtin.max2 else Builtin.min2) u).run P w = .ok r w /\ v.R E r
 | [], us, x, v, u, h, hx, hl => by
   cases h; cases hl
   exact ⟨u, by simp, hx⟩
 | y :: l, us, x, v, u, h, hx, hl => by
   cases hl with
   | cons hy hl =>
     simp only [minmaxs] at h
     split at h
     · rename_i z hz
       unfold minmax at hz
       split at hz
       · rename_i k a k' b
         cases hz
         cases (hx : u = _); cases (hy : _ = _)
         obtain ⟨r, h1, h2⟩ := minmaxs_R w h (u := .int k (bif mx then (if b > a then b else a) else (if b < a then b else a))) rfl hl
         refine ⟨r, ?_, h2⟩
         simp only [List.foldlM_cons, Sem.run_bind]
         cases mx
         · simpa [Builtin.min2] using h1
         · simpa [Builtin.max2] using h1
       · cases hz
     · cases h


theorem look3 {l m r : List Value} {j : Nat} (h : j < l.length) : (l ++ m ++ r).toArray[j]? = l[j]? := by
 rw [List.getElem?_toArray, List.append_assoc, List.getElem?_append_left h]
theorem look3m {l m r : List Value} {j : Nat} {u : Value} (h : m[j]? = some u) : (l ++ m ++ r).toArray[l.length + j]? = some u := by
 have hj : j < m.length := (List.getElem?_eq_some_iff.1 h).1
 rw [List.getElem?_toArray, List.append_assoc, List.getElem?_append_right (by omega), Nat.add_sub_cancel_left, List.getElem?_append_left hj, h]
theorem run_append_tip {P : Program} {w : World} {t ty e : TypeId} {i : TypeInfo} {z : Value} {size n m c : Nat} {v : Value} (ht : P.underlying t = some (.slice e)) (hi : P.info? e = some i) (hz : i.zero = some z) (hsize : i.size = size) (hzs : z.cells.size = size)
   (hv : (v = .slice none 0 0 /\ n = 0) \/ ∃ k cap cur, v = .slice (some ⟨k, 0, none⟩) n cap /\ w.heap[k]? = some (.cells cur e (0, 0)) /\ n <= cap /\ cap <= maxLen /\ cur.size = cap * size)
   (a : Addr) {news : List Value} (hl : news.length = m * size) (hnews : ∀ j u, news[j]? = some u -> w.cell? (a.add j) = some u) (h1 : ∀ u ∈ news, u.oneCell' = true) (hm : 0 < m) (h63 : n + m <= maxLen) (hbytes : (n + m) * i.bytes <= 140737488355328) :
   ∃ w' k cap cur, (Builtin.append_ #[t, t] ty #[v, .slice (some a) m c]).run P w = .ok (.slice (some ⟨k, 0, none⟩) (n + m) cap) w' /\ w'.os = w.os /\ w'.tape = w.tape /\ w'.output = w.output /\ w.heap.size <= w'.heap.size /\
     w'.heap[k]? = some (.cells cur e (0, 0)) /\ n + m <= cap /\ cap <= maxLen /\ cur.size = cap * size /\ (∀ j u, news[j]? = some u -> cur[n * size + j]? = some u) /\
     (∀ kv c', v = .slice (some ⟨kv, 0, none⟩) n c' -> ∀ j, j < n * size -> w'.cell? ⟨k, j, none⟩ = w'.cell? ⟨kv, j, none⟩) /\
     ((blkOf v = some k /\ (∀ j, j < w.heap.size -> j ≠ k -> w'.heap[j]? = w.heap[j]?) /\ ∃ c0, w.heap[k]? = some (.cells c0 e (0, 0)) /\ ∀ o, o < n * size -> cur[o]? = c0[o]?) \/
       (k = w.heap.size /\ ∀ j, j < w.heap.size -> w'.heap[j]? = w.heap[j]?)) := by
 subst hsize
 have hsmall : n + m <= 9223372036854775807 := by simp only [maxLen] at h63; omega
 have new1 : ∀ (o : Obj), (w.drew.alloc o).heap[w.heap.size]? = some o := fun o => by
   show (w.heap.push o)[w.heap.size]? = _
   simp
 have new2 : ∀ (o : Obj) (j : Nat), j < w.heap.size -> (w.drew.alloc o).heap[j]? = w.heap[j]? := fun o j hj => by
   show (w.heap.push o)[j]? = _
   rw [Array.getElem?_push, if_neg (by omega)]
 have new3 : ∀ (o : Obj), w.heap.size <= (w.drew.alloc o).heap.size := fun o => by
   show _ <= (w.heap.push o).size
   simp
 rcases hv with ⟨rfl, rfl⟩ | ⟨g, cap, cur, rfl, hg, hnc, hcm, hcs⟩
 · have hr := run_append_nil (P := P) w t ty e i z ht hi hz a m c news hl hnews hm (by omega) (by simp only [Nat.zero_add] at hbytes; omega)
   have hge := grownCap_ge w m 0 e
   refine ⟨w.drew.alloc (.cells (news.toArray ++ Builtin.zeroCells z.cells (grownCap w m 0 e - m)) e), w.heap.size, grownCap w m 0 e, ([] ++ news ++ (Builtin.zeroCells z.cells (grownCap w m 0 e - m)).toList).toArray, by rw [Nat.zero_add]; exact hr, rfl, rfl, rfl, new3 _, ?_, by omega, grownCap_le_maxLen w m 0 e (by omega), ?_, fun j u hu => ?_, fun kv c' h => (by cases h), .inr ⟨rfl, new2 _⟩⟩
   · rw [new1]; simp
   · simp only [List.nil_append, List.size_toArray, List.length_append, hl, Array.length_toList, size_zeroCells, hzs, <- Nat.add_mul]
     congr 1; omega
   · have := look3m (l := []) (r := (Builtin.zeroCells z.cells (grownCap w m 0 e - m)).toList) hu
     simpa using this
 · have hlen : (cur.toList.take (n * i.size)).length = n * i.size := by
     simp only [List.length_take, Array.length_toList, hcs]
     exact Nat.min_eq_left (Nat.mul_le_mul_right _ hnc)
   have htk : ∀ j, j < n * i.size -> (cur.toList.take (n * i.size))[j]? = cur[j]? := fun j hj => by
     rw [List.getElem?_take, if_pos hj, Array.getElem?_toList]
   by_cases hroom : n + m <= cap
   · have hfit : n * i.size + news.length <= cur.size := by rw [hl, hcs, <- Nat.add_mul]; exact Nat.mul_le_mul_right _ hroom
     have hr := run_append_room (P := P) w t ty e i ht hi g n cap cur hg a m c news hl hnews h1 hroom hfit
     refine ⟨_, g, cap, _, hr, rfl, rfl, rfl, by simp, setRow_heap w g cur _ e _ hg, hroom, hcm, ?_, fun j u hu => ?_, fun kv c' h j _ => (by cases h; rfl), .inl ⟨rfl, fun j _ hj => setRow_other w g j _ hj, cur, hg, fun o ho => ?_⟩⟩
     · simp only [List.size_toArray, List.length_append, List.length_drop, Array.length_toList, hlen]
       omega
     · have := look3m (l := cur.toList.take (n * i.size)) (r := cur.toList.drop (n * i.size + news.length)) hu
       rwa [hlen] at this
     · rw [look3 (by omega), htk o ho]
   · have holds : ∀ j u, (cur.toList.take (n * i.size))[j]? = some u -> w.cell? ((⟨g, 0, none⟩ : Addr).add j) = some u := fun j u hu => by
       have hj : j < n * i.size := by rw [<- hlen]; exact (List.getElem?_eq_some_iff.1 hu).1
       rw [htk j hj] at hu
       rw [Addr.add_lit]
       simp [World.cell?, hg, hu]
     have hr := run_append_grow (P := P) w t ty e i z ht hi hz ⟨g, 0, none⟩ n cap (cur.toList.take (n * i.size)) hlen holds a m c news hl hnews (by omega) (by omega) (growslice_fits (by omega) hbytes)
     have hge := grownCap_ge w (n + m) cap e
     have hgw : g < w.heap.size := (Array.getElem?_eq_some_iff.1 hg).1
     refine ⟨_, w.heap.size, grownCap w (n + m) cap e, (cur.toList.take (n * i.size) ++ news ++ (Builtin.zeroCells z.cells (grownCap w (n + m) cap e - (n + m))).toList).toArray, hr, rfl, rfl, rfl, new3 _, ?_, hge, grownCap_le_maxLen w (n + m) cap e h63, ?_, fun j u hu => ?_, fun kv c' h j hj => ?_, .inr ⟨rfl, new2 _⟩⟩
     · rw [new1]; congr 2; simp
     · simp only [List.size_toArray, List.length_append, hlen, hl, Array.length_toList, size_zeroCells, hzs, <- Nat.add_mul]
       congr 1; omega
     · have := look3m (l := cur.toList.take (n * i.size)) (r := (Builtin.zeroCells z.cells (grownCap w (n + m) cap e - (n + m))).toList) hu
       rwa [hlen] at this
     · cases h
       have e1 : (w.drew.alloc (.cells ((cur.toList.take (n * i.size)).toArray ++ news.toArray ++ Builtin.zeroCells z.cells (grownCap w (n + m) cap e - (n + m))) e)).cell? ⟨w.heap.size, j, none⟩ = cur[j]? := by
         have q := new1 (.cells ((cur.toList.take (n * i.size)).toArray ++ news.toArray ++ Builtin.zeroCells z.cells (grownCap w (n + m) cap e - (n + m))) e)
         simp only [World.cell?, q]
         have : ((cur.toList.take (n * i.size)).toArray ++ news.toArray ++ Builtin.zeroCells z.cells (grownCap w (n + m) cap e - (n + m))) = (cur.toList.take (n * i.size) ++ news ++ (Builtin.zeroCells z.cells (grownCap w (n + m) cap e - (n + m))).toList).toArray := by simp
         rw [this]
         show (cur.toList.take (n * i.size) ++ news ++ _).toArray[j]? = _
         rw [look3 (by omega), htk j hj]
       rw [e1]
       simp only [World.cell?, new2 _ g hgw, hg]
       simp

structure LpOk (P : Program) (I : Interp F) (nt : Nat) (x : Code) (sp : LpSp F) : Prop where
 keys : ∀ tm hp β ex outs wb cd, sp.run tm hp β = some (ex, outs, wb, cd) -> ∀ e ∈ outs, memN e.1 sp.W = true
 run : ∀ tm hp β ex outs wb cd, sp.run tm hp β = some (ex, outs, wb, cd) -> (∀ b, sp.fk tm hp = some b -> b = β) -> (∀ p ∈ cd, p.1 = p.2) -> ∀ (ro : Option Nat) (ds : List Deferred) (E : Env F) (w0 : Start) (a : Act) (w : World) (Q : Exit -> Act -> World -> Prop), Tms ds E nt tm a -> Mem I w0 E hp w ->
   (∀ E' a' w', E.le E' -> E'.m = E.m -> E'.r = E.r -> (∀ b, (∀ n, E.q b n = none) -> ∀ n, E'.q b n = none) -> Tms ds E' nt (outs ++ keepT sp.W tm) a' -> Mem I w0 E' (wb ++ hp) w' -> Q ex.to a' w') -> (Code.loop x).wpIn (Fr ro) 0 P Q a w
def LpsOk (P : Program) (I : Interp F) (lps : Lps F) (nt : Nat) (code : Code) : Prop := ∀ pos sp, lookLp lps nt pos = some sp -> ∀ x, codeAt code pos = some (.loop x) -> LpOk P I nt x sp
structure CtxOk (P : Program) (I : Interp F) (c : Ctx F) : Prop where
 tab : TabOk P c.T
 lib : LibOk P I c.L
 safe : ∀ t, c.safe t = true -> I.safe t = true
 eqs : EqOk P c.T c.eqs
 slen : c.slen = I.slen
 sget : c.sget = I.sget
 vlen : c.vlen = I.vlen
 vesz : c.vesz = I.vesz
 vget : c.vget = I.vget
 vsub : c.vsub = I.vsub
 vapp : c.vapp = I.vapp
 nil : c.nil = I.nil
 maps : c.maps = true -> I.maps = true
 tabB : TabB P c.T
 fns : ∀ f fn, c.fns f = some fn -> P.funcs[f]? = some fn /\ fn.body.isSome = true /\ (∀ args w, (callFunc f args).run P w = .ok (.enter f args) w) /\ LpsOk P I c.lps fn.ntmps (bodyOf fn)
 vrow : c.vrow = I.vrow
 deref : c.deref = I.deref
 mkp : c.mkp = I.mkp
 nilp : c.nilp = I.nilp

theorem Mem.cells {I : Interp F} {w0 : Start} {w : World} {E : Env F} {hp : List (Nat × Blk F)} (H : Mem I w0 E hp w) : CellsE E :=
 ⟨fun k j f arr h => (H.ext k j f arr h).2, fun f v h => I.hv_cell f _ w v (H.fv f v h)⟩
theorem un_some {vs : List (AV F)} {k : AV F -> Option (Out F)} {out : Out F} (h : un vs k = some out) : ∃ x, vs = [x] /\ k x = some out := by
 unfold un at h
 split at h
 · exact ⟨_, rfl, h⟩
 · cases h
theorem bi_some {vs : List (AV F)} {k : AV F -> AV F -> Option (Out F)} {out : Out F} (h : bi vs k = some out) : ∃ x y, vs = [x, y] /\ k x y = some out := by
 unfold bi at h
 split at h
 · exact ⟨_, _, rfl, h⟩
 · cases h
theorem blk1_some {bs : List (Blk F)} {k : Blk F -> Option (Out F)} {out : Out F} (h : blk1 bs k = some out) : ∃ x, bs = [x] /\ k x = some out := by
 unfold blk1 at h
 split at h
 · exact ⟨_, rfl, h⟩
 · cases h
theorem all2_one {α β : Type} {R : α -> β -> Prop} {x : α} {us : List β} (h : All2 R [x] us) : ∃ u, us = [u] /\ R x u := by
 cases h with
 | cons r h => cases h; exact ⟨_, rfl, r⟩
theorem all2_two {α β : Type} {R : α -> β -> Prop} {x y : α} {us : List β} (h : All2 R [x, y] us) : ∃ u v, us = [u, v] /\ R x u /\ R y v := by
 cases h with
 | cons r h =>
   cases h with
   | cons s h => cases h; exact ⟨_, _, rfl, r, s⟩
theorem looks_one {α : Type} {hp : List (Nat × α)} {b : Nat} {x : α} (h : looks hp [b] = some [x]) : look b hp = some x := by
 simp only [looks] at h
 split at h
 · rename_i y hy; rw [hy]; simpa using h
 · cases h
theorem field_of {c : Ctx F} {t : TypeId} {f : Nat} {fl : Field} (h : fieldOf c t f = some fl) : ∃ i fs, c.T t = some i /\ i.desc = .struct fs /\ fs[f]? = some fl := by
 unfold fieldOf at h
 split at h
 · rename_i i hi
   split at h
   · rename_i fs hfs
     exact ⟨i, fs, hi, hfs, by simpa using h⟩
   · cases h
 · cases h
theorem newBlk_sound {I : Interp F} {slot : Nat} {t : TypeId} {cs : List (AC F)} {out : Out F} (h : newBlk slot t cs = some out) {E : Env F} {hp : List (Nat × Blk F)} {w0 : Start} {w : World} (hm : Mem I w0 E hp w) (hs : Fresh slot E)
   {vs : List Value} (hv : All2 (AC.R E) cs vs) : ∃ E', But slot E E' /\ out.val.R E' (.pointer (some ⟨w.heap.size, 0, none⟩)) /\ Mem I w0 E' (out.wr ++ hp) { w with heap := w.heap.push (.cells vs.toArray t (0, 0)) } := by
 cases h
 exact ⟨E.setm slot w.heap.size, But.setm hs _, ⟨w.heap.size, if_pos rfl, rfl⟩, hm.alloc hs (blk := ⟨t, cs⟩) hv⟩

theorem mapM_ptr {E : Env F} : ∀ {vs : List (AV F)} {caps : List (Nat × Nat)} {us : List Value}, vs.mapM (fun v => (match v with | .w (.one (.ptr b o)) => some (b, o) | _ => none : Option (Nat × Nat))) = some caps -> All2 (AV.R E) vs us -> All2 (PtrR E) caps us
 | [], caps, us, h, hv => by
   cases hv
   have : caps = [] := by simpa using h.symm
   rw [this]; exact .nil
 | v :: vs, caps, us, h, hv => by
   cases hv with
   | cons hx hv =>
     rw [List.mapM_cons] at h
     split at h
     · rename_i b o
       cases hm : vs.mapM (fun v => (match v with | .w (.one (.ptr b o)) => some (b, o) | _ => none : Option (Nat × Nat))) with
       | none => rw [hm] at h; cases h
       | some l =>
         rw [hm] at h
         have : caps = (b, o) :: l := by simpa using h.symm
         rw [this]
         exact .cons hx (mapM_ptr hm hv)
     · cases h
theorem caps_R {E : Env F} {caps : List (Nat × Nat)} {us : List Value} (h : All2 (PtrR E) caps us) : All2 (AV.R E) (caps.map fun p => (.w (.one (.ptr p.1 p.2)) : AV F)) us := by
 induction h with
 | nil => exact .nil
 | cons r _ ih => exact .cons r ih

def Holds (I : Interp F) (D : Nat -> Nat -> Prop) (w : World) (f : F) (v : Value) : Prop := I.hv f D w v
theorem ac_is {I : Interp F} {D : Nat -> Nat -> Prop} {w : World} {E : Env F} {x : AC F} {v : Value} (h : x.is (fun f => I.hv f D) w v) : x.R (E.addh (Holds I D w)) v := by
 cases x <;> simp only [AC.is, AC.lv, Option.some.injEq] at h <;> first | exact h.symm | exact .inr h | cases h
theorem gets_R {I : Interp F} {c : Ctx F} (hg : c.vget = I.vget) (hz : c.vesz = I.vesz) {f : F} {n i : Int} {D : Nat -> Nat -> Prop} {w : World} {b off m cap : Nat} (hn : I.vlen f = some n) (h0 : 0 <= i) (h1 : i < n) (hv : I.hv f D w (.slice (some ⟨b, off, none⟩) m cap)) {E : Env F} :
   ∀ (k o : Nat) (xs : List (AC F)), gets c f i o k = some xs -> ∃ vs : List Value, vs.length = k /\ All2 (AC.R (E.addh (Holds I D w))) xs vs /\ ∀ j v, vs[j]? = some v -> w.cell? ⟨b, off + (i.toNat * I.vesz f + o) + j, none⟩ = some v /\ isCell v = true
 | 0, o, xs, h => by
   cases h
   exact ⟨[], rfl, .nil, fun j v h => by simp at h⟩
 | k + 1, o, xs, h => by
   simp only [gets] at h
   split at h
   · rename_i x hx
     split at h
     · rename_i l hl
       cases h
       rw [hg] at hx
       obtain ⟨v, q1, q2, q3⟩ := I.vget_ok f n i o x D w b off m cap hn hx h0 h1 hv
       obtain ⟨vs, g1, g2, g3⟩ := gets_R hg hz hn h0 h1 hv (E := E) k (o + 1) l hl
       refine ⟨v :: vs, by simp [g1], .cons (ac_is q3) g2, fun j u hj => ?_⟩
       cases j with
       | zero => simp at hj; subst hj; exact ⟨q1, q2⟩
       | succ j =>
         have := g3 j u (by simpa using hj)
         rw [show off + (i.toNat * I.vesz f + o) + (j + 1) = off + (i.toNat * I.vesz f + (o + 1)) + j by omega]
         exact this
     · cases h
   · cases h
theorem run_bounds {P : Program} {w : World} (isS : Bool) (len cap : Nat) {lo hi : Option Value} {a b : Int} (hlo : (lo = none /\ a = 0) \/ ∃ k, lo = some (.int k a)) (hhi : (hi = none /\ b = (len : Int)) \/ ∃ k, hi = some (.int k b))
   (h0 : 0 <= a) (h1 : a <= b) (h2 : b <= (cap : Int)) : (Instr.sliceBounds isS len cap lo hi none).run P w = .ok (a.toNat, b.toNat, cap) w := by
 have q1 : 0 <= b /\ b <= (cap : Int) := ⟨by omega, h2⟩
 have q2 : 0 <= a /\ a <= ((b.toNat : Nat) : Int) := ⟨h0, by omega⟩
 rcases hhi with ⟨rfl, rfl⟩ | ⟨k, rfl⟩ <;> rcases hlo with ⟨rfl, rfl⟩ | ⟨k', rfl⟩
 · simp [Instr.sliceBounds]
 · simp only [Int.toNat_natCast] at q2 ⊢
   simp only [Instr.sliceBounds, Instr.sliceBound, asIntOf, Sem.run_bind, Sem.run_pure, Result.andThen_ok, Sem.run_ite, if_pos q2]
 · simp only [Instr.sliceBounds, Instr.sliceBound, asIntOf, Sem.run_bind, Sem.run_pure, Result.andThen_ok, Sem.run_ite, if_pos q1]
   rfl
 · simp only [Instr.sliceBounds, Instr.sliceBound, asIntOf, Sem.run_bind, Sem.run_pure, Result.andThen_ok, Sem.run_ite, if_pos q1, if_pos q2]
theorem endOf_R {E : Env F} {d : Int} {l : Option (AV F)} {ul : Option Value} {a : Int} (h : endOf d l = some a) (hl : (l = none /\ ul = none) \/ ∃ y v, l = some y /\ ul = some v /\ y.R E v) : (ul = none /\ a = d) \/ ∃ k, ul = some (.int k a) := by
 unfold endOf at h
 split at h
 · cases h
   rcases hl with ⟨_, rfl⟩ | ⟨y, v, hy, _⟩
   · exact .inl ⟨rfl, rfl⟩
   · cases hy
 · rename_i k n
   cases h
   rcases hl with ⟨hy, _⟩ | ⟨y, v, hy, rfl, hv⟩
   · cases hy
   · cases hy
     exact .inr ⟨k, congrArg some hv⟩
 · cases h

theorem kdC_R (E : Env F) (kd : Option IntKind) (x : Int) : (kdC kd x : AC F).R E (kdV kd x) := by
 rcases kd with _ | k
 · rfl
 · cases k <;> rfl
theorem kdC_is {hv : F -> World -> Value -> Prop} {w : World} (kd : Option IntKind) (x : Int) : (kdC kd x : AC F).is hv w (kdV kd x) := by
 rcases kd with _ | k
 · rfl
 · cases k <;> rfl
theorem rowOf_R {E : Env F} : ∀ {ks : List (Option IntKind)} {xs rest : List (AC F)} {r : List Int} {us : List Value}, rowOf ks xs = some (r, rest) -> All2 (AC.R E) xs us -> r.length = ks.length /\ ∀ p k, ks[p]? = some k -> us[p]? = some (kdV k (r.getD p 0))
 | [], xs, rest, r, us, h, H => by cases h; exact ⟨rfl, fun p k h => by simp at h⟩
 | k0 :: ks, xs, rest, r, us, h, H => by
   have fin : ∀ {x : AC F} {xs' rest' : List (AC F)} {r' : List Int} {z : Int}, rowOf ks xs' = some (r', rest') -> All2 (AC.R E) (x :: xs') us -> (∀ u, x.R E u -> u = kdV k0 z) -> (z :: r').length = (k0 :: ks).length /\ ∀ p k, (k0 :: ks)[p]? = some k -> us[p]? = some (kdV k ((z :: r').getD p 0)) := by
     intro x xs' rest' r' z h0 H1 hx
     cases H1 with
     | cons q H2 =>
       obtain ⟨g1, g2⟩ := rowOf_R h0 H2
       refine ⟨by simp [g1], fun p k hp => ?_⟩
       cases p with
       | zero =>
         simp only [List.getElem?_cons_zero, Option.some.injEq] at hp
         subst hp
         simp [hx _ q]
       | succ p => simpa using g2 p k (by simpa using hp)
   cases k0 with
   | some k =>
     unfold rowOf at h
     split at h
     · cases ‹_ :: _ = []›
     · rename_i e
       cases e
       split at h
       · rename_i hk
         split at h
         · rename_i h0
           cases h
           simp only [Bool.and_eq_true, Bool.not_eq_true'] at hk
           obtain rfl := of_decide_eq_true hk.1
           exact fin h0 H fun u hu => by rw [kdV_int hk.2]; exact hu
         · cases h
       · cases h
     · rename_i e
       cases e
       split at h
       · rename_i h0
         cases h
         exact fin h0 H fun u hu => hu.trans (congrArg Value.string (dec_enc _).symm)
       · cases h
     · cases ‹_ = (none : Option IntKind) :: _›
     · cases ‹_ = (none : Option IntKind) :: _›
     · cases h
   | none =>
     have b10 : ∀ b : Bool, decide ((bif b then (1 : Int) else 0) = 1) = b := fun b => by cases b <;> rfl
     unfold rowOf at h
     split at h
     · cases ‹_ :: _ = []›
     · cases ‹(none : Option IntKind) :: _ = _›
     · cases ‹(none : Option IntKind) :: _ = _›
     · rename_i b _ e
       cases e
       split at h
       · rename_i h0
         cases h
         exact fin h0 H fun u hu => by rw [show u = .bool b from hu]; simp only [kdV, b10]
       · cases h
     · rename_i b _ e
       cases e
       split at h
       · rename_i h0
         cases h
         exact fin h0 H fun u hu => by rw [show u = .bool b from hu]; simp only [kdV, b10]
       · cases h
     · cases h
theorem mix_get {w : Nat} {row r : List Int} {o p : Nat} (hp : p < w) (h : o + r.length <= w) : (mixR w row o r).getD p 0 = if o <= p /\ p < o + r.length then r.getD (p - o) 0 else row.getD p 0 := by
 unfold mixR
 cases hb : (Nat.beq o 0 && Nat.beq r.length w) with
 | true =>
   simp only [Bool.and_eq_true] at hb
   have h1 := Nat.eq_of_beq_eq_true hb.1
   have h2 := Nat.eq_of_beq_eq_true hb.2
   subst h1
   rw [if_pos ⟨Nat.zero_le _, by omega⟩]; rfl
 | false =>
   simp only [cond_false, List.getD_eq_getElem?_getD, List.getElem?_map, List.getElem?_range hp, Option.map_some, Option.getD_some]
   by_cases q : o <= p /\ p < o + r.length
   · rw [if_pos q]
     have : (Nat.ble o p && Nat.blt p (o + r.length)) = true := by rw [Bool.and_eq_true, Nat.blt_eq]; exact ⟨Nat.ble_eq_true_of_le q.1, q.2⟩
     rw [this]; rfl
   · rw [if_neg q]
     have : (Nat.ble o p && Nat.blt p (o + r.length)) = false := by
       cases hq : (Nat.ble o p && Nat.blt p (o + r.length)) with
       | false => rfl
       | true =>
         rw [Bool.and_eq_true, Nat.blt_eq] at hq
         exact absurd ⟨Nat.le_of_ble_eq_true hq.1, hq.2⟩ q
     rw [this]; rfl
theorem seg_get {L us : List Value} {s i : Nat} (h : s + us.length <= L.length) : (L.take s ++ us ++ L.drop (s + us.length))[i]? = if i < s then L[i]? else if i < s + us.length then us[i - s]? else L[i]? := by
 have hl : (L.take s).length = s := by rw [List.length_take]; omega
 by_cases h1 : i < s
 · rw [if_pos h1, List.append_assoc, List.getElem?_append_left (by omega), List.getElem?_take, if_pos h1]
 · rw [if_neg h1]
   by_cases h2 : i < s + us.length
   · rw [if_pos h2, List.append_assoc, List.getElem?_append_right (by omega), hl, List.getElem?_append_left (by omega)]
   · rw [if_neg h2, List.getElem?_append_right (by simp; omega), List.getElem?_drop]
     congr 1
     simp; omega
theorem rowOf_rest : ∀ {ks : List (Option IntKind)} {xs rest : List (AC F)} {r : List Int}, rowOf ks xs = some (r, rest) -> rest = xs.drop ks.length /\ ks.length <= xs.length
 | [], xs, rest, r, h => by cases h; exact ⟨rfl, Nat.zero_le _⟩
 | k0 :: ks, xs, rest, r, h => by
   have fin : ∀ {x : AC F} {xs' rest' : List (AC F)} {r' : List Int}, rowOf ks xs' = some (r', rest') -> rest' = (x :: xs').drop (k0 :: ks).length /\ (k0 :: ks).length <= (x :: xs').length := fun h0 => by
     obtain ⟨g1, g2⟩ := rowOf_rest h0
     exact ⟨by simpa using g1, by simpa using g2⟩
   cases xs with
   | nil => cases k0 with
     | none => simp [rowOf] at h
     | some k => cases k <;> simp [rowOf] at h
   | cons x xs =>
     unfold rowOf at h
     split at h
     · cases ‹_ :: _ = []›
     · rename_i e1 e2
       cases e1; cases e2
       split at h
       · split at h
         · rename_i h0; cases h; exact fin h0
         · cases h
       · cases h
     · rename_i e1 e2
       cases e1; cases e2
       split at h
       · rename_i h0; cases h; exact fin h0
       · cases h
     · rename_i e1 e2
       cases e1; cases e2
       split at h
       · rename_i h0; cases h; exact fin h0
       · cases h
     · rename_i e1 e2
       cases e1; cases e2
       split at h
       · rename_i h0; cases h; exact fin h0
       · cases h
     · cases h
theorem set_arr {ks : List (Option IntKind)} {l : List (List Int)} {cur : Array Value} {e : Int} {o c : Nat} {r : List Int} {us : List Value} (hok : ArrOk ks l cur) (h0 : 0 <= e) (h1 : e < (l.length : Int)) (ho : o + r.length <= ks.length) (hul : us.length = r.length)
   (hr : ∀ p kd, ((ks.drop o).take r.length)[p]? = some kd -> us[p]? = some (kdV kd (r.getD p 0))) (hlc : l.length <= c) (hcs : cur.size = c * ks.length) :
   ArrOk ks (setT ks.length l e o r) (cur.toList.take (e.toNat * ks.length + o) ++ us ++ cur.toList.drop (e.toNat * ks.length + o + us.length)).toArray := by
 intro j hj p kd hp
 unfold setT at hj ⊢
 rw [List.length_set] at hj
 have hpn : p < ks.length := (List.getElem?_eq_some_iff.1 hp).1
 have he : e.toNat < l.length := by omega
 have hb : (e.toNat + 1) * ks.length <= c * ks.length := Nat.mul_le_mul_right _ (by omega)
 rw [Nat.add_mul, Nat.one_mul] at hb
 have hcl : cur.toList.length = c * ks.length := by rw [Array.length_toList, hcs]
 have eg : ∀ X : List Int, (l.set e.toNat X).getD j [] = if e.toNat = j then X else l.getD j [] := fun X => by
   rw [List.getD_eq_getElem?_getD, List.getElem?_set]
   by_cases q : e.toNat = j
   · rw [if_pos q, if_pos q, if_pos he]; rfl
   · rw [if_neg q, if_neg q, <- List.getD_eq_getElem?_getD]
 rw [List.getElem?_toArray, seg_get (by omega), eg]
 by_cases hje : e.toNat = j
 · subst hje
   rw [if_pos rfl, mix_get hpn ho]
   by_cases q : o <= p /\ p < o + r.length
   · rw [if_neg (by omega), if_pos (by omega), if_pos q]
     have := hr (p - o) kd (by rw [List.getElem?_take, if_pos (by omega), List.getElem?_drop, show o + (p - o) = p by omega]; exact hp)
     rw [<- this]
     congr 1; omega
   · rw [if_neg q]
     have hx : ¬ (e.toNat * ks.length + o <= e.toNat * ks.length + p /\ e.toNat * ks.length + p < e.toNat * ks.length + o + us.length) := by omega
     have := hok e.toNat hj p kd hp
     rw [<- Array.getElem?_toList] at this
     by_cases q2 : e.toNat * ks.length + p < e.toNat * ks.length + o
     · rw [if_pos q2]; exact this
     · rw [if_neg q2, if_neg (by omega)]; exact this
 · rw [if_neg hje]
   have hx : j * ks.length + p < e.toNat * ks.length + o \/ e.toNat * ks.length + o + us.length <= j * ks.length + p := by
     rcases Nat.lt_or_gt_of_ne hje with q | q
     · right
       have := Nat.mul_le_mul_right ks.length (show e.toNat + 1 <= j by omega)
       rw [Nat.add_mul, Nat.one_mul] at this; omega
     · left
       have := Nat.mul_le_mul_right ks.length (show j + 1 <= e.toNat by omega)
       rw [Nat.add_mul, Nat.one_mul] at this; omega
   have := hok j hj p kd hp
   rw [<- Array.getElem?_toList] at this
   rcases hx with q | q
   · rw [if_pos q]; exact this
   · rw [if_neg (by omega), if_neg (by omega)]; exact this
theorem cutK_R {E : Env F} {l : List (List Int)} {e : Int} {vs : List Value} : ∀ (ks : List (Option IntKind)) (o i : Nat), (∀ p kd, ks[p]? = some kd -> vs[i + p]? = some (kdV kd (cel l e (o + p)))) -> All2 (AC.R E) (cutK l e ks o) ((vs.drop i).take ks.length)
 | [], o, i, h => by simp; exact .nil
 | kd :: ks, o, i, h => by
   have h0 := h 0 kd rfl
   simp only [Nat.add_zero] at h0
   have hi : i < vs.length := (List.getElem?_eq_some_iff.1 h0).1
   rw [List.drop_eq_getElem_cons hi, List.length_cons, List.take_succ_cons]
   refine .cons ?_ (cutK_R ks (o + 1) (i + 1) fun p k hp => ?_)
   · rw [List.getElem?_eq_getElem hi] at h0
     rw [Option.some.inj h0]; exact kdC_R E kd _
   · have := h (p + 1) k (by simpa using hp)
     rw [show i + 1 + p = i + (p + 1) by omega, show o + 1 + p = o + (p + 1) by omega]; exact this
theorem ksZ_get : ∀ {vs : List Value} {ks : List (Option IntKind)}, ksZ vs = some ks -> ks.length = vs.length /\ ∀ (p : Nat) (kd : Option IntKind), ks[p]? = some kd -> vs[p]? = some (kdV kd 0)
 | [], ks, h => by cases h; exact ⟨rfl, fun p kd h => by simp at h⟩
 | v :: vs, ks, h => by
   have fin : ∀ {k0 : Option IntKind} {ks' : List (Option IntKind)}, ksZ vs = some ks' -> v = kdV k0 0 -> (k0 :: ks').length = (v :: vs).length /\ ∀ (p : Nat) (kd : Option IntKind), (k0 :: ks')[p]? = some kd -> (v :: vs)[p]? = some (kdV kd 0) := by
     intro k0 ks' h0 hv
     obtain ⟨g1, g2⟩ := ksZ_get h0
     refine ⟨by simp [g1], fun p kd hp => ?_⟩
     cases p with
     | zero =>
       simp only [List.getElem?_cons_zero, Option.some.injEq] at hp
       subst hp; simp [hv]
     | succ p => simpa using g2 p kd (by simpa using hp)
   cases v <;> simp only [ksZ] at h <;> try (cases h; done)
   case int k n =>
     cases hd : decide (n = 0) && !isS k with
     | false => rw [hd] at h; cases h
     | true =>
       rw [hd] at h
       simp only [cond_true] at h
       simp only [Bool.and_eq_true, Bool.not_eq_true'] at hd
       split at h
       · rename_i h0
         cases h
         obtain rfl := of_decide_eq_true hd.1
         exact fin h0 (kdV_int hd.2 0).symm
       · cases h
   case bool b =>
     cases b with
     | true => cases h
     | false =>
       simp only [cond_false] at h
       split at h
       · rename_i h0
         cases h
         exact fin h0 rfl
       · cases h
   case string z =>
     cases hd : Nat.beq z.size 0 with
     | false => rw [hd] at h; cases h
     | true =>
       rw [hd] at h
       simp only [cond_true] at h
       split at h
       · rename_i h0
         cases h
         refine fin h0 ?_
         have h1 := Nat.eq_of_beq_eq_true hd
         obtain ⟨a⟩ := z
         have h2 : a = #[] := Array.eq_empty_of_size_eq_zero h1
         subst h2
         rfl
       · cases h
theorem rowsA_R {E : Env F} {ks : List (Option IntKind)} : ∀ {m : Nat} {xs : List (AC F)} {l : List (List Int)} {us : List Value}, rowsA ks m xs = some l -> All2 (AC.R E) xs us -> l.length = m /\ us.length = m * ks.length /\ ∀ j, j < m -> ∀ o kd, ks[o]? = some kd -> us[j * ks.length + o]? = some (kdV kd ((l.getD j []).getD o 0))
 | 0, [], l, us, h, H => by
   cases h; cases H
   exact ⟨rfl, by simp, fun j hj => by omega⟩
 | 0, _ :: _, l, us, h, H => by cases h
 | m + 1, xs, l, us, h, H => by
   simp only [rowsA] at h
   split at h
   · rename_i r rest hr
     split at h
     · rename_i l' hl'
       cases h
       obtain ⟨r1, r2⟩ := rowOf_R hr H
       obtain ⟨us1, us2, rfl, e1, H2⟩ : ∃ us1 us2, us = us1 ++ us2 /\ us1.length = ks.length /\ All2 (AC.R E) rest us2 := by
         have := rowOf_rest hr
         obtain ⟨n1, n2⟩ := this
         refine ⟨us.take ks.length, us.drop ks.length, (List.take_append_drop _ _).symm, ?_, ?_⟩
         · rw [List.length_take, <- H.length]; omega
         · rw [n1]; exact H.drop _
       obtain ⟨g1, g2, g3⟩ := rowsA_R hl' H2
       refine ⟨by simp [g1], by rw [List.length_append, e1, g2, Nat.add_mul, Nat.one_mul]; omega, fun j hj o kd ho => ?_⟩
       have hol : o < ks.length := (List.getElem?_eq_some_iff.1 ho).1
       cases j with
       | zero =>
         have := r2 o kd ho
         simpa using this
       | succ j =>
         have := g3 j (by omega) o kd ho
         rw [show (j + 1) * ks.length + o = us1.length + (j * ks.length + o) by rw [e1, Nat.add_mul, Nat.one_mul]; omega, List.getElem?_append_right (by omega), Nat.add_sub_cancel_left]
         simpa using this
     · cases h
   · cases h
theorem make_sound {P : Program} {I : Interp F} {c : Ctx F} (hC : CtxOk P I c) {t : TypeId} {slot : Nat} {x y : AV F} {out : Out F} (h : evMake c t slot x y = some out) {E : Env F} {hp : List (Nat × Blk F)} {w0 : Start} {w : World} (hm : Mem I w0 E hp w) (hs : Fresh slot E)
   {u v : Value} (hx : x.R E u) (hy : y.R E v) (hc : ∀ p ∈ out.cd, p.1 = p.2) :
   ∃ E' r w', (Instr.makeSlice t u v).run P w = .ok r w' /\ But slot E E' /\ out.val.R E' r /\ Mem I w0 E' (out.wr ++ hp) w' := by
 have hT := hC.tab
 unfold evMake at h
 split at h
 · rename_i k1 a k2 b
   split at h
   · rename_i ti hti
     split at h
     · rename_i e he
       split at h
       · rename_i ei hei
         split at h
         · rename_i ks hks
           generalize hz : (Nat.beq ei.size ks.length && Nat.blt 0 ks.length && Nat.ble ei.bytes 4096 && c.safe e) = z at h
           cases z with
           | false => cases h
           | true =>
             cases h
             simp only [Bool.and_eq_true] at hz
             obtain ⟨⟨⟨z1, z2⟩, z3⟩, z4⟩ := hz
             have z1 := Nat.eq_of_beq_eq_true z1
             have z2 : 0 < ks.length := by rw [<- Nat.blt_eq]; exact z2
             have z3 := Nat.le_of_ble_eq_true z3
             have h0 : 0 <= a := of_decide_eq_true (hc (decide (0 <= a), true) (by simp))
             have h1 : a <= b := of_decide_eq_true (hc (decide (a <= b), true) (by simp))
             have h2 : b <= 34359738368 := of_decide_eq_true (hc (decide (b <= 34359738368), true) (by simp))
             cases (hx : u = _)
             cases (hy : v = _)
             obtain ⟨i1, i2, i3⟩ := hT _ _ hei
             have i4 := hC.tabB _ _ hei
             cases hinfo : P.info? e with
             | none => rw [hinfo] at i1; cases i1
             | some info =>
               rw [hinfo] at i1 i2 i4
               simp only [Option.map_some, Option.some.injEq, Option.bind_some] at i1 i2 i4
               have hby : (info.bytes : Int) * b <= 281474976710656 := by
                 rw [i4]
                 have : (ei.bytes : Int) * b <= 4096 * b := Int.mul_le_mul_of_nonneg_right (by omega) (by omega)
                 omega
               have hrun := run_make (P := P) w t e info ei.zero (he ▸ (hT _ _ hti).2.2) hinfo i2 k1 k2 a b h0 h1 hby (by omega)
               rw [i1, z1] at hrun
               have hlen : (zeroT b ks.length).length = b.toNat := by unfold zeroT; rw [List.length_replicate]
               obtain ⟨g1, g2⟩ := ksZ_get hks
               have hok : ArrOk ks (zeroT b ks.length) (madeCells ei.zero.cells (b.toNat * ks.length)) := by
                 intro j hj o kd ho
                 have hon : o < ks.length := (List.getElem?_eq_some_iff.1 ho).1
                 rw [hlen] at hj
                 have hjn : j * ks.length + o < b.toNat * ks.length := by
                   have := Nat.mul_le_mul_right ks.length (show j + 1 <= b.toNat by omega)
                   rw [Nat.add_mul, Nat.one_mul] at this; omega
                 have hzs : ei.zero.cells.size = ks.length := by rw [g1, Array.length_toList]
                 have e1 : ((zeroT b ks.length).getD j []).getD o 0 = 0 := by
                   simp [zeroT, List.getD_eq_getElem?_getD, List.getElem?_replicate, hj, hon]
                 rw [e1, <- g2 o kd ho, Array.getElem?_toList]
                 unfold madeCells
                 rw [Array.getElem?_map, Array.getElem?_range, if_pos hjn]
                 simp only [Option.map_some, hzs]
                 rw [Nat.mul_comm j, Nat.mul_add_mod, Nat.mod_eq_of_lt hon]
                 rw [getElem!_pos ei.zero.cells o (by omega), <- Array.getElem?_eq_getElem]
               have hna := hm.newarr hs (c := b.toNat) (Nat.le_of_eq hlen) z2 (hC.safe _ z4) (cur := madeCells ei.zero.cells (b.toNat * ks.length)) (by rw [size_madeCells]) (by simp only [maxLen]; omega) hok
               refine ⟨_, _, _, hrun, ?_, ⟨w.heap.size, b.toNat, b.toNat, setq_at E slot 0 _, by omega, h0, h1, by omega, by omega, ?_⟩, hna⟩
               · exact ⟨setq_le (hs.2.2 0), fun _ _ => rfl, fun _ _ _ => rfl, fun b' hb' hn' i => (setq_ne E _ fun h => hb' h.1).trans (hn' i)⟩
               · simp
         · cases h
       · cases h
     · cases h
   · cases h
 · cases h
theorem arrLoad_sound {P : Program} {I : Interp F} {c : Ctx F} (hC : CtxOk P I c) {t : TypeId} {b v0 sz : Nat} {e : Int} {o : Nat} {blk : Blk F} {out : Out F} (h : arrLoad c t v0 sz e o blk = some out) {E : Env F} {hp : List (Nat × Blk F)} {w0 : Start} {w : World} (hm : Mem I w0 E hp w)
   (hl : look b hp = some blk) {u : Value} (hx : AC.R E (.wel b v0 sz e o : AC F) u) (hc : ∀ p ∈ out.cd, p.1 = p.2) : ∃ r, (Instr.loadAt t u).run P w = .ok r w /\ out.val.R E r /\ out.wr = [] := by
 have hT := hC.tab
 unfold arrLoad at h
 split at h
 · rename_i v' ks l hcs
   split at h
   · rename_i ti hti
     cases hz : Nat.beq sz ks.length with
     | false => rw [hz] at h; cases h
     | true =>
       rw [hz] at h
       simp only [cond_true] at h
       obtain rfl := Nat.eq_of_beq_eq_true hz
       obtain ⟨ty, cs⟩ := blk
       cases (hcs : cs = _)
       obtain ⟨k, c0, cur, g1, g0, g2, g3, g4, g5, g6⟩ := hm.arr hl
       obtain ⟨k', n, q1, q2, q3, rfl⟩ := hx
       have hvv : Nat.beq v0 v' = true -> v0 = v' := Nat.eq_of_beq_eq_true
       have g2' : w.heap[k]? = some (.cells cur.toList.toArray ty (0, 0)) := g2
       have hcl : cur.toList.length = c0 * ks.length := by rw [Array.length_toList, g4]
       have hcell : e < lenT l -> ∀ p kd, ks[p]? = some kd -> cur.toList[e.toNat * ks.length + p]? = some (kdV kd (cel l e p)) := fun hel p kd hp => by
         unfold lenT at hel
         have := g3 e.toNat (by omega) p kd hp
         rw [<- Array.getElem?_toList] at this
         exact this
       cases ha : ti.aggB with
       | true =>
         rw [ha] at h
         simp only [cond_true] at h
         cases hle : Nat.ble (o + ti.size) ks.length with
         | false => rw [hle] at h; cases h
         | true =>
           rw [hle] at h; cases h
           have hle := Nat.le_of_ble_eq_true hle
           have hve := hvv (hc (Nat.beq v0 v', true) (by simp))
           subst hve
           rw [g1] at q1; cases q1
           have hb : (e.toNat + 1) * ks.length <= c0 * ks.length := Nat.mul_le_mul_right _ (by omega)
           rw [Nat.add_mul, Nat.one_mul] at hb
           have hel : e < lenT l := of_decide_eq_true (hc (decide (e < lenT l), true) (by simp))
           have hrun := load_R (P := P) (o := e.toNat * ks.length + o) hT hti g2' (fun _ => by omega) (fun q => by rw [ha] at q; cases q)
           rw [ha, if_pos rfl] at hrun
           refine ⟨_, hrun, ⟨_, rfl, ?_⟩, rfl⟩
           have hkl : ((ks.drop o).take ti.size).length = ti.size := by rw [List.length_take, List.length_drop]; omega
           have := cutK_R (E := E) (l := l) (e := e) (vs := cur.toList) ((ks.drop o).take ti.size) o (e.toNat * ks.length + o) fun p kd hp => by
             rw [List.getElem?_take] at hp
             split at hp
             · rw [List.getElem?_drop] at hp
               have := hcell hel (o + p) kd hp
               rw [Nat.add_assoc]; exact this
             · cases hp
           rw [hkl] at this
           exact this
       | false =>
         rw [ha] at h
         simp only [cond_false] at h
         split at h
         · rename_i kd hkd
           cases h
           have hve := hvv (hc (Nat.beq v0 v', true) (by simp))
           subst hve
           rw [g1] at q1; cases q1
           have hb : (e.toNat + 1) * ks.length <= c0 * ks.length := Nat.mul_le_mul_right _ (by omega)
           rw [Nat.add_mul, Nat.one_mul] at hb
           have hel : e < lenT l := of_decide_eq_true (hc (decide (e < lenT l), true) (by simp))
           have hon : o < ks.length := (List.getElem?_eq_some_iff.1 hkd).1
           have hrun := load_R (P := P) (o := e.toNat * ks.length + o) hT hti g2' (fun q => by rw [ha] at q; cases q) (fun _ => by omega)
           rw [ha] at hrun
           refine ⟨_, hrun, ?_, rfl⟩
           have := hcell hel o kd hkd
           have e1 : cur.toList.getD (e.toNat * ks.length + o) undef = kdV kd (cel l e o) := by
             rw [List.getD_eq_getElem?_getD, this]; rfl
           simp only [Bool.false_eq_true, if_false, e1]
           exact kdC_R E kd _
         · cases h
   · cases h
 · cases h
theorem arrStore_sound {P : Program} {I : Interp F} {c : Ctx F} (hC : CtxOk P I c) {t : TypeId} {b v0 sz : Nat} {e : Int} {o : Nat} {y : AV F} {blk : Blk F} {out : Out F} (h : arrStore c t b v0 sz e o y blk = some out) {E : Env F} {hp : List (Nat × Blk F)} {w0 : Start} {w : World} (hm : Mem I w0 E hp w)
   (hl : look b hp = some blk) {u v : Value} (hx : AC.R E (.wel b v0 sz e o : AC F) u) (hy : y.R E v) (hc : ∀ p ∈ out.cd, p.1 = p.2) : ∃ w', (Instr.storeAt t u v).run P w = .ok () w' /\ out.val.R E undef /\ Mem I w0 E (out.wr ++ hp) w' := by
 have hT := hC.tab
 unfold arrStore at h
 split at h
 · rename_i v' ks l hcs
   split at h
   · rename_i i cs hi hyc
     generalize hz : (Nat.beq sz ks.length && Nat.beq cs.length i.size && Nat.ble (o + cs.length) ks.length) = z at h
     cases z with
     | false => cases h
     | true =>
       simp only [cond_true] at h
       simp only [Bool.and_eq_true] at hz
       obtain ⟨⟨z1, z2⟩, z3⟩ := hz
       obtain rfl := Nat.eq_of_beq_eq_true z1
       have z2 := Nat.eq_of_beq_eq_true z2
       have z3 := Nat.le_of_ble_eq_true z3
       split at h
       · rename_i r hr
         cases h
         obtain ⟨ty, cs0⟩ := blk
         cases (hcs : cs0 = _)
         obtain ⟨k, c0, cur, g1, g0, g2, g3, g4, g5, g6⟩ := hm.arr hl
         have hel : e < lenT l := of_decide_eq_true (hc (decide (e < lenT l), true) (by simp))
         unfold lenT at hel
         obtain ⟨k', n, q1, q2, q3, rfl⟩ := hx
         have hve : v0 = v' := Nat.eq_of_beq_eq_true (hc (Nat.beq v0 v', true) (by simp))
         subst hve
         rw [g1] at q1; cases q1
         obtain ⟨us, y1, y2, y3⟩ := hy.cells hm.cells hyc
         have hul := y2.length
         obtain ⟨r1, r2⟩ := rowOf_R hr y2
         have hkl : ((ks.drop o).take cs.length).length = cs.length := by rw [List.length_take, List.length_drop]; omega
         rw [hkl] at r1
         have g2' : w.heap[k]? = some (.cells cur.toList.toArray ty (0, 0)) := g2
         have hb : (e.toNat + 1) * ks.length <= c0 * ks.length := Nat.mul_le_mul_right _ (by omega)
         rw [Nat.add_mul, Nat.one_mul] at hb
         have hcl : cur.toList.length = c0 * ks.length := by rw [Array.length_toList, g4]
         have hrun := store_R (P := P) (o := e.toNat * ks.length + o) hT hi g2' (u := v) y1 y3 (by omega) (by omega)
         refine ⟨_, hrun, rfl, ?_⟩
         refine hm.setarr (k := k) (cur := cur) (cur' := (cur.toList.take (e.toNat * ks.length + o) ++ us ++ cur.toList.drop (e.toNat * ks.length + o + us.length)).toArray) hl g1 g2 (by unfold setT; rw [List.length_set]; exact g0) ?_
           (set_arr g3 q2 hel (by omega) (by omega) (by rw [r1]; exact r2) g0 g4) rfl rfl rfl (Nat.le_of_eq (setRow_size _ _ _).symm) (fun j _ hj => setRow_other _ _ _ _ hj) (setRow_heap _ _ _ _ _ _ g2)
         simp only [List.size_toArray, List.length_append, List.length_take, List.length_drop, Array.length_toList]
         have : cur.size = cur.toList.length := by simp
         omega
       · cases h
   · cases h
 · cases h
theorem sliceOf_R {P : Program} {I : Interp F} {c : Ctx F} (hC : CtxOk P I c) {E : Env F} {hp : List (Nat × Blk F)} {w0 : Start} {w : World} (hm : Mem I w0 E hp w) {t : TypeId} {x : AV F} {l h : Option (AV F)} {out : Out F} (hs : sliceOf c t x l h = some out)
   {u : Value} {ul uh : Option Value} (hx : x.R E u) (hl : (l = none /\ ul = none) \/ ∃ y v, l = some y /\ ul = some v /\ y.R E v) (hh : (h = none /\ uh = none) \/ ∃ y v, h = some y /\ uh = some v /\ y.R E v) (hc : ∀ p ∈ out.cd, p.1 = p.2) :
   ∃ E' r, (Instr.sliceAt t u ul uh none).run P w = .ok r w /\ out.val.R E' r /\ out.wr = [] /\ (∀ s, But s E E') /\ Mem I w0 E' hp w := by
 have hT := hC.tab
 unfold sliceOf at hs
 split at hs
 · rename_i ti hi
   split at hs
   · rename_i e f he
     split at hs
     · rename_i ei n hei hn
       cases hz : Nat.beq ei.size (c.vesz f) with
       | false => rw [hz] at hs; cases hs
       | true =>
         rw [hz] at hs; simp only [cond_true] at hs
         split at hs
         · rename_i a b ha hb
           split at hs
           · rename_i g hg
             cases hs
             have h0 : 0 <= a := of_decide_eq_true (hc (decide (0 <= a), true) (by simp))
             have h1 : a <= b := of_decide_eq_true (hc (decide (a <= b), true) (by simp))
             have h2 : b <= n := of_decide_eq_true (hc (decide (b <= n), true) (by simp))
             rw [hC.vlen] at hn
             rw [hC.vsub] at hg
             have hsz := Nat.eq_of_beq_eq_true hz
             rw [hC.vesz] at hsz
             obtain ⟨p, m, cap, rfl, q2, q3, q4⟩ := I.vsub_ok f g n a b _ w u hg hn h0 h1 h2 (hm.fv _ _ hx)
             refine ⟨E.addh (Holds I (Dt w0 E hp) w), _, ?_, Or.inr q4, rfl, fun s => But.addh s _ _, hm.addh fun _ _ h => h⟩
             have hb2 : (uh = none /\ b = (m : Int)) \/ ∃ k, uh = some (.int k b) := by rw [<- q2]; exact endOf_R hb hh
             simp only [Instr.sliceAt, Instr.slice, Sem.run_bind, run_und hT hi, he, Result.andThen_ok, run_bounds true m cap (endOf_R ha hl) hb2 h0 h1 q3, run_size hT hei, Sem.run_pure, hsz]
           · cases hs
         · cases hs
     · cases hs
   · rename_i e k o len cap he
     split at hs
     · rename_i ei hei
       split at hs
       · rename_i a b ha hb
         cases hs
         have h0 : 0 <= a := of_decide_eq_true (hc (decide (0 <= a), true) (by simp))
         have h1 : a <= b := of_decide_eq_true (hc (decide (a <= b), true) (by simp))
         have h2 : b <= (cap : Int) := of_decide_eq_true (hc (decide (b <= (cap : Int)), true) (by simp))
         obtain ⟨m, g1, rfl⟩ := hx
         refine ⟨E, .slice (some ⟨m, bif Nat.beq cap a.toNat then o else o + a.toNat * ei.size, none⟩) (b.toNat - a.toNat) (cap - a.toNat), ?_, ⟨m, g1, rfl⟩, rfl, fun s => But.refl s E, hm⟩
         simp only [Instr.sliceAt, Instr.slice, Sem.run_bind, run_und hT hi, he, Result.andThen_ok, run_bounds true len cap (endOf_R ha hl) (endOf_R hb hh) h0 h1 h2, run_size hT hei, Sem.run_pure]
         by_cases e1 : cap = a.toNat
         · simp [e1]
         · have : Nat.beq cap a.toNat = false := by
             cases hq : Nat.beq cap a.toNat with
             | false => rfl
             | true => exact absurd (Nat.eq_of_beq_eq_true hq) e1
           simp [e1, this, Addr.add]
       · cases hs
     · cases hs
   · rename_i e b sz off len cap he
     unfold arrCut at hs
     split at hs
     · rename_i ei hei
       cases hz : Nat.beq ei.size sz with
       | false => rw [hz] at hs; cases hs
       | true =>
       rw [hz] at hs; simp only [cond_true] at hs
       obtain rfl := Nat.eq_of_beq_eq_true hz
       split at hs
       · rename_i a d ha hd
         cases hs
         have h0 : 0 <= a := of_decide_eq_true (hc (decide (0 <= a), true) (by simp))
         have h1 : a <= d := of_decide_eq_true (hc (decide (a <= d), true) (by simp))
         have h2 : d <= cap := of_decide_eq_true (hc (decide (d <= cap), true) (by simp))
         obtain ⟨m, n, c', g1, g2, g3, g4, g6, g5, rfl⟩ := hx
         have hd2 : (uh = none /\ d = (len.toNat : Int)) \/ ∃ k, uh = some (.int k d) := by rw [Int.toNat_of_nonneg g3]; exact endOf_R hd hh
         have hlo : a < cap \/ a = 0 := by
           cases hlq : l with
           | none => subst hlq; right; cases ha; rfl
           | some yl => subst hlq; left; exact of_decide_eq_true (hc (decide (a < cap), true) (by simp))
         refine ⟨E, .slice (some ⟨m, (off + a).toNat * ei.size, none⟩) (d - a).toNat (c' - a.toNat), ?_, ⟨m, n, c' - a.toNat, g1, by omega, by omega, by omega, by omega, by omega, rfl⟩, rfl, fun s => But.refl s E, hm⟩
         simp only [Instr.sliceAt, Instr.slice, Sem.run_bind, run_und hT hi, he, Result.andThen_ok, run_bounds true len.toNat c' (endOf_R ha hl) hd2 h0 h1 (by omega), run_size hT hei, Sem.run_pure]
         have e1 : d.toNat - a.toNat = (d - a).toNat := by omega
         have e3 : (off + a).toNat = off.toNat + a.toNat := by omega
         by_cases q : c' = a.toNat
         · have : a = 0 := by omega
           subst this
           simp [q]
         · simp [q, Addr.add, e1, e3, Nat.add_mul]
       · cases hs
     · cases hs
   · rename_i s he
     split at hs
     · rename_i a b ha hb
       cases hs
       have h0 : 0 <= a := of_decide_eq_true (hc (decide (0 <= a), true) (by simp))
       have h1 : a <= b := of_decide_eq_true (hc (decide (a <= b), true) (by simp))
       have h2 : b <= (s.size : Int) := of_decide_eq_true (hc (decide (b <= sLen s), true) (by simp))
       cases (hx : u = _)
       refine ⟨E, .string (sSub s a b), ?_, rfl, rfl, fun s => But.refl s E, hm⟩
       simp only [Instr.sliceAt, Instr.slice, Sem.run_bind, run_und hT hi, he, Result.andThen_ok, Option.isSome_none, Bool.false_eq_true, if_false, run_bounds false s.size s.size (endOf_R ha hl) (endOf_R hb hh) h0 h1 h2, Sem.run_pure]
       rfl
     · cases hs
   · rename_i m e k o he
     split at hs
     · rename_i ei hei
       split at hs
       · rename_i a b ha hb
         cases hs
         have h0 : 0 <= a := of_decide_eq_true (hc (decide (0 <= a), true) (by simp))
         have h1 : a <= b := of_decide_eq_true (hc (decide (a <= b), true) (by simp))
         have h2 : b <= (m : Int) := of_decide_eq_true (hc (decide (b <= (m : Int)), true) (by simp))
         obtain ⟨j, g1, rfl⟩ := hx
         refine ⟨E, .slice (some ⟨j, bif Nat.beq m a.toNat then o else o + a.toNat * ei.size, none⟩) (b.toNat - a.toNat) (m - a.toNat), ?_, ⟨j, g1, rfl⟩, rfl, fun s => But.refl s E, hm⟩
         simp only [Instr.sliceAt, Instr.sureAddr, Sem.run_bind, run_und hT hi, he, Result.andThen_ok, run_bounds false m m (endOf_R ha hl) (endOf_R hb hh) h0 h1 h2, run_size hT hei, Sem.run_pure]
         by_cases e1 : m = a.toNat
         · simp [e1]
         · have : Nat.beq m a.toNat = false := by
             cases hq : Nat.beq m a.toNat with
             | false => rfl
             | true => exact absurd (Nat.eq_of_beq_eq_true hq) e1
           simp [e1, this, Addr.add]
       · cases hs
     · cases hs
   · cases hs
 · cases hs
theorem looks_two {α : Type} {hp : List (Nat × α)} {b c : Nat} {x y : α} (h : looks hp [b, c] = some [x, y]) : look b hp = some x /\ look c hp = some y := by
 simp only [looks] at h
 split at h
 · rename_i u hu
   split at h
   · rename_i l hl
     split at hl
     · rename_i v hv
       cases hl
       cases h
       exact ⟨hu, hv⟩
     · cases hl
   · cases h
 · cases h
theorem fact_is {I : Interp F} {w0 : Start} {w : World} {E : Env F} {hp : List (Nat × Blk F)} (hm : Mem I w0 E hp w) : ∀ {xs : List (AC F)} {us : List Value}, xs.all factB = true -> All2 (AC.R E) xs us -> All2 (fun x u => isCell u = true /\ x.is (fun f => I.hv f (Dt w0 E hp)) w u) xs us
 | [], us, _, h => by cases h; exact .nil
 | x :: xs, us, hf, h => by
   cases h with
   | cons r h =>
     simp only [List.all_cons, Bool.and_eq_true] at hf
     obtain ⟨hf, hf2⟩ := hf
     refine .cons ?_ (fact_is hm hf2 h)
     cases x <;> simp only [factB] at hf <;> try (cases hf; done)
     case int k n => cases (r : _ = _); exact ⟨rfl, rfl⟩
     case bool b => cases (r : _ = _); exact ⟨rfl, rfl⟩
     case yes b => cases (r : _ = _); exact ⟨rfl, rfl⟩
     case lit v => cases (r : _ = _); exact ⟨hf, rfl⟩
     case fv f => exact ⟨I.hv_cell f _ w _ (hm.fv f _ r), hm.fv f _ r⟩
theorem row_cs {b : Blk F} {n sz : Nat} (h : b.row = some (n, sz)) : b.cs = [.tok n sz] := by
 unfold Blk.row at h
 split at h
 · rename_i e; rw [e]; cases h; rfl
 · cases h
theorem app_core {P : Program} {I : Interp F} {c : Ctx F} (hC : CtxOk P I c) {out : Out F} {E : Env F} {hp : List (Nat × Blk F)} {w0 : Start} {w : World} (hm : Mem I w0 E hp w) {s n b o m cap t t' n' sz : Nat} {f g : F} {tb sb : Blk F} {ti ei : TyI} {e : TypeId} {ln : Int}
   (h : (bif Nat.beq t t' && Nat.beq e tb.ty && Nat.beq ei.size sz && Nat.beq (c.vesz f) sz && Nat.beq ei.zero.cells.size ei.size && Nat.blt 0 m && Nat.ble ei.bytes 4096 && Nat.blt 0 ei.bytes && Nat.ble (o + m * sz) sb.cs.length && ((sb.cs.drop o).take (m * sz)).all factB then
                 some ⟨.w (.one (.tip s (n + m) g)), [(s, ⟨tb.ty, [.tok (n + m) sz]⟩)], [(decide (n = n'), true), (decide (n + m <= 34359738368), true)]⟩ else none) = some out)
   (hrow0 : tb.row = some (n', sz)) (hti : c.T t = some ti) (he : ti.desc = .slice e) (hei : c.T e = some ei) (hln : c.vlen f = some ln) (hg : c.vapp f ((sb.cs.drop o).take (m * sz)) m = some g)
   {us : List Value} (hR : All2 (AV.R E) [.w (.one (.tip s n f)), .w (.one (.slc b o m cap))] us) (hb : looks hp [s, b] = some [tb, sb]) (hc : ∀ p ∈ out.cd, p.1 = p.2) (ty : TypeId) :
   ∃ E' u w', (Builtin.append_ [t, t'].toArray ty us.toArray).run P w = .ok u w' /\ (∀ s, But s E E') /\ out.val.R E' u /\ Mem I w0 E' (out.wr ++ hp) w' := by
 have hT := hC.tab
 obtain ⟨u1, u2, rfl, hx, hy⟩ := all2_two hR
 obtain ⟨hl1, hl2⟩ := looks_two hb
 generalize hz : (Nat.beq t t' && Nat.beq e tb.ty && Nat.beq ei.size sz && Nat.beq (c.vesz f) sz && Nat.beq ei.zero.cells.size ei.size && Nat.blt 0 m && Nat.ble ei.bytes 4096 && Nat.blt 0 ei.bytes && Nat.ble (o + m * sz) sb.cs.length && ((sb.cs.drop o).take (m * sz)).all factB) = z at h
 cases z with
 | false => cases h
 | true =>
   cases h
   simp only [Bool.and_eq_true] at hz
   obtain ⟨⟨⟨⟨⟨⟨⟨⟨⟨z1, z2⟩, z3⟩, z4⟩, z5⟩, z6⟩, z10⟩, z7⟩, z8⟩, z9⟩ := hz
   have z1 := Nat.eq_of_beq_eq_true z1
   have z2 := Nat.eq_of_beq_eq_true z2
   have z3 := Nat.eq_of_beq_eq_true z3
   have z4 := Nat.eq_of_beq_eq_true z4
   have z5 := Nat.eq_of_beq_eq_true z5
   have z6 : 0 < m := by rw [<- Nat.blt_eq]; exact z6
   have z7 : 0 < ei.bytes := by rw [<- Nat.blt_eq]; exact z7
   have z8 := Nat.le_of_ble_eq_true z8
   subst z1
   subst z2
   have hn : n = n' := of_decide_eq_true (hc (decide (n = n'), true) (by simp))
   have hb1 : n + m <= 34359738368 := of_decide_eq_true (hc (decide (n + m <= 34359738368), true) (by simp))
   have hby : (n + m) * ei.bytes <= 140737488355328 := Nat.le_trans (Nat.mul_le_mul hb1 (Nat.le_of_ble_eq_true z10)) (by omega)
   subst hn
   obtain ⟨hx1, hx2⟩ := hx
   have htcs := row_cs hrow0
   have htok : tb.tok = some (n, sz) := by unfold Blk.tok; rw [htcs]
   obtain ⟨t1, t2, t3, t4⟩ := hm.tok s tb n sz hl1 htok
   have hrow : (u1 = .slice none 0 0 /\ n = 0) \/ ∃ k cap cur, u1 = .slice (some ⟨k, 0, none⟩) n cap /\ w.heap[k]? = some (.cells cur tb.ty (0, 0)) /\ n <= cap /\ cap <= maxLen /\ cur.size = cap * sz := by
     rcases t4 with ⟨h1, h2⟩ | ⟨k, cap, cur, h1, h2⟩ | ⟨_, _, _, _, _, _, _, _, h1, _⟩ | ⟨_, _, h1⟩ | ⟨_, h1, _⟩
     rotate_left 3
     · rw [htcs] at h1; cases h1
     · rw [hx2] at h1; cases h1
     · rw [hx2] at h1; cases h1; exact .inl ⟨rfl, h2⟩
     · rw [hx2] at h1; cases h1; exact .inr ⟨k, cap, cur, rfl, h2⟩
     · rw [hx2] at h1; cases h1
       obtain ⟨_, _, _, e, _⟩ := I.vlen_ok f ln _ w _ (by rw [<- hC.vlen]; exact hln) (hm.fv _ _ hx1)
       cases e
   obtain ⟨kb, y1, rfl⟩ := hy
   obtain ⟨kb', ws, y2, y3, y4⟩ := hm.hp b sb hl2 (hm.plain hl2 y1)
   rw [y1] at y2; cases y2
   have hwl := y4.length
   have hnl : ((ws.drop o).take (m * sz)).length = m * sz := by
     simp only [List.length_take, List.length_drop]; omega
   have hnR := y4.take_drop o (m * sz)
   have hnews : ∀ j u, ((ws.drop o).take (m * sz))[j]? = some u -> w.cell? ((⟨kb, o, none⟩ : Addr).add j) = some u := fun j u hu => by
     rw [Addr.add_lit]
     rw [cell_heap y3]
     rw [List.getElem?_take] at hu
     split at hu
     · rw [List.getElem?_drop] at hu; exact hu
     · cases hu
   have hone : ∀ u ∈ (ws.drop o).take (m * sz), u.oneCell' = true := fun u hu => by
     have : ∀ {xs : List (AC F)} {us : List Value}, All2 (fun x u => isCell u = true /\ x.is (fun f => I.hv f (Dt w0 E hp)) w u) xs us -> ∀ u ∈ us, isCell u = true := by
       intro xs us H
       induction H with
       | nil => intro u h; cases h
       | cons r _ ih =>
         intro u h
         rcases List.mem_cons.1 h with rfl | h
         · exact r.1
         · exact ih u h
     exact isCell_one (this (fact_is hm z9 hnR) u hu)
   obtain ⟨i1, i2, i3⟩ := hT _ _ hei
   have i4 := hC.tabB _ _ hei
   cases hinfo : P.info? tb.ty with
   | none => rw [hinfo] at i1; cases i1
   | some info =>
     rw [hinfo] at i1 i2 i4
     simp only [Option.map_some, Option.some.injEq, Option.bind_some] at i1 i2 i4
     have hnm : n + m <= 140737488355328 := Nat.le_trans (Nat.le_mul_of_pos_right _ z7) hby
     obtain ⟨w', k, cap', cur, r1, r2, r3, r4, r5, r6, r7, r8, r9, r10, r11, r12⟩ := run_append_tip (P := P) (ty := ty) (c := cap) (he ▸ (hT _ _ hti).2.2) hinfo i2 (i1.trans z3) (z5.trans z3) hrow ⟨kb, o, none⟩ hnl hnews hone z6 (by simp only [maxLen]; omega) (by rw [i4]; exact hby)
     have hgrow := hm.grow hl1 htok z6 hx2 r2 r3 r4 r5 r6 r7 r8 r9 r12
     have hq : E.q s (n + m) = none := t3 _ (by omega)
     have hvl : c.vlen f = some (n : Int) := by
       have hln' := hln
       rw [hC.vlen] at hln'
       obtain ⟨p, m0, c0, q1, q2, _⟩ := I.vlen_ok f ln _ w u1 hln' (hm.fv _ _ hx1)
       rw [hln, q2]
       rcases hrow with ⟨h1, h2⟩ | ⟨_, _, _, h1, _⟩
       · rw [h1] at q1; cases q1; rw [h2]
       · rw [h1] at q1; cases q1; rfl
     have hnR' := hnR.mono fun _ _ => AC.R.mono (setq_le (v := .slice (some ⟨k, 0, none⟩) (n + m) cap') hq)
     rw [hC.vapp] at hg
     rw [hC.vlen] at hvl
     have hvz : I.vesz f = sz := by rw [<- hC.vesz]; exact z4
     have hfact : I.hv g (Dt w0 (E.setq s (n + m) (.slice (some ⟨k, 0, none⟩) (n + m) cap')) ((s, ⟨tb.ty, [.tok (n + m) sz]⟩) :: hp)) w' (.slice (some ⟨k, 0, none⟩) (n + m) cap') := by
       refine I.vapp_ok f g _ m n _ w' u1 k cap' _ hg hvl (hgrow.fv f u1 hx1) (hrow.elim (fun h => .inl h.1) fun ⟨kv, c1, _, h, _⟩ => .inr ⟨kv, c1, h⟩) ?_ (fact_is hgrow z9 hnR') ?_ ?_ ?_ ⟨cur, _, _, r6, t2⟩ r7 r8 z6
       · rw [hvz]; have := hnR.length; omega
       · rw [hvz]; exact r11
       · intro j u hu
         rw [hvz]
         simp only [World.cell?, r6]
         rw [r10 j u hu]
         rfl
       · intro o' ho hd
         rw [hvz] at ho
         have hown : (E.setq s (n + m) (.slice (some ⟨k, 0, none⟩) (n + m) cap')).own s k := .inr ⟨n + m, _, setq_at E s _ _, rfl⟩
         rcases hd with hd | ⟨b', hb'⟩ | ⟨b', x', n1, sz1, v1, d1, d2, d3, d4, d5⟩
         · exact hgrow.apt s (n + m) _ k o' (setq_at E s _ _) rfl hd
         · have := hgrow.inj b' s k (.inl hb') hown
           subst this
           have := hgrow.exc b' k hb' (n + m)
           rw [setq_at] at this; cases this
         · have := hgrow.inj b' s k (.inr ⟨n1, v1, d3, d4⟩) hown
           subst this
           rw [look_cons] at d1
           simp at d1; subst d1
           cases d2
           have d5 : (n + m) * sz <= o' := d5
           omega
     refine ⟨(E.setq s (n + m) (.slice (some ⟨k, 0, none⟩) (n + m) cap')).addh (fun f' u => f' = g /\ u = .slice (some ⟨k, 0, none⟩) (n + m) cap'), _, w', r1, fun s' => ⟨(setq_le hq).trans (But.addh 0 _ _).le, fun _ _ => rfl, fun _ _ _ => rfl, fun b' _ hn' i => ?_⟩, ⟨.inr ⟨rfl, rfl⟩, setq_at E s _ _⟩, hgrow.addh fun f' u hf => by rw [hf.1, hf.2]; exact hfact⟩
     by_cases hs' : b' = s /\ i = n + m
     · rw [<- hs'.1, hn' n] at hx2; cases hx2
     · exact (setq_ne E _ hs').trans (hn' i)
theorem app_sound {P : Program} {I : Interp F} {c : Ctx F} (hC : CtxOk P I c) {tt : List TypeId} {vs : List (AV F)} {bs : List (Blk F)} {out : Out F} (h : evApp c tt vs bs = some out)
   {E : Env F} {hp : List (Nat × Blk F)} {w0 : Start} {w : World} (hm : Mem I w0 E hp w) {us : List Value} (hR : All2 (AV.R E) vs us)
   (hb : looks hp (appBlocks vs) = some bs) (hc : ∀ p ∈ out.cd, p.1 = p.2) (ty : TypeId) :
   ∃ E' u w', (Builtin.append_ tt.toArray ty us.toArray).run P w = .ok u w' /\ (∀ s, But s E E') /\ out.val.R E' u /\ Mem I w0 E' (out.wr ++ hp) w' := by
 have hT := hC.tab
 unfold evApp at h
 split at h
 · rename_i s n f b o m cap tb sb t t'
   split at h
   · rename_i q htok
     obtain ⟨n', sz⟩ := q
     split at h
     · rename_i ti hti
       split at h
       · rename_i e he
         split at h
         · rename_i ei hei
           split at h
           · rename_i ln hln
             split at h
             · rename_i g hg
               exact app_core hC hm h htok hti he hei hln hg hR hb hc ty
             · cases h
           · cases h
         · cases h
       · cases h
     · cases h
   · cases h
 · cases h
theorem nilRow_sound {P : Program} {I : Interp F} {c : Ctx F} (hC : CtxOk P I c) {ty : TypeId} {slot : Nat} {out : Out F} (hn : nilRow c ty slot = some out) {E : Env F} {hp : List (Nat × Blk F)} {w0 : Start} {w : World} (hm : Mem I w0 E hp w) (hs : Fresh slot E) :
   ∃ E1 e sz g, out = ⟨.w (.one (.tip slot 0 g)), [(slot, ⟨e, [.tok 0 sz]⟩)], []⟩ /\ But slot E E1 /\ AV.R E1 (.w (.one (.tip slot 0 g))) (.slice none 0 0) /\ Mem I w0 E1 ((slot, ⟨e, [.tok 0 sz]⟩) :: hp) w := by
 unfold nilRow at hn
 split at hn
 · rename_i g ti hg hti
   split at hn
   · rename_i e he
     cases hz : Nat.blt 0 (c.vesz g) && c.safe e with
     | false => rw [hz] at hn; cases hn
     | true =>
       rw [hz] at hn; cases hn
       simp only [Bool.and_eq_true] at hz
       have hsz : 0 < c.vesz g := by rw [<- Nat.blt_eq]; exact hz.1
       have hnr := hm.nilrow hs hsz (hC.safe _ hz.2)
       have hg' : I.nil ty = some g := by rw [<- hC.nil]; exact hg
       refine ⟨(E.setq slot 0 (.slice none 0 0)).addh (fun f u => f = g /\ u = .slice none 0 0), _, _, _, rfl, ⟨(setq_le (hs.2.2 0)).trans (But.addh 0 _ _).le, fun _ _ => rfl, fun _ _ _ => rfl, fun b' hb' hn' i => ?_⟩, ⟨.inr ⟨rfl, rfl⟩, setq_at E slot _ _⟩, hnr.addh fun f' u hf => by rw [hf.1, hf.2]; exact I.nil_ok ty g _ _ hg'⟩
       exact (setq_ne E _ fun h => hb' h.1).trans (hn' i)
   · cases hn
 · cases hn
theorem appFit_get {c : Ctx F} {t t' sz o m : Nat} {ty : TypeId} {sb : Blk F} (h : appFit c t t' sz o m ty sb = true) : ∃ ti ei, c.T t = some ti /\ ti.desc = .slice ty /\ c.T ty = some ei /\ t = t' /\ ei.size = sz /\ ei.zero.cells.size = sz /\ 0 < m /\ ei.bytes <= 4096 /\ 0 < ei.bytes /\ o + m * sz <= sb.cs.length /\ ((sb.cs.drop o).take (m * sz)).all factB = true := by
 unfold appFit at h
 split at h
 · rename_i ti hti
   split at h
   · rename_i e he
     split at h
     · rename_i ei hei
       simp only [Bool.and_eq_true] at h
       obtain ⟨⟨⟨⟨⟨⟨⟨⟨z1, z2⟩, z3⟩, z5⟩, z6⟩, z10⟩, z7⟩, z8⟩, z9⟩ := h
       have z1 := Nat.eq_of_beq_eq_true z1
       obtain rfl := Nat.eq_of_beq_eq_true z2
       have z3 := Nat.eq_of_beq_eq_true z3
       have z5 := Nat.eq_of_beq_eq_true z5
       exact ⟨ti, ei, hti, he, hei, z1, z3, z5.trans z3, by rw [<- Nat.blt_eq]; exact z6, Nat.le_of_ble_eq_true z10, by rw [<- Nat.blt_eq]; exact z7, Nat.le_of_ble_eq_true z8, z9⟩
     · cases h
   · cases h
 · cases h
theorem appA_core {P : Program} {I : Interp F} {c : Ctx F} (hC : CtxOk P I c) {E : Env F} {hp : List (Nat × Blk F)} {w0 : Start} {w : World} (hm : Mem I w0 E hp w) {s n N sz b o m cap t t' : Nat} {ks : List (Option IntKind)} {part rs : List (List Int)} {tb sb : Blk F}
   (hfit : appFit c t t' sz o m tb.ty sb = true) (hks : ks.length = sz) (hrs : rowsA ks m ((sb.cs.drop o).take (m * sz)) = some rs) (hl1 : look s hp = some tb) (hl2 : look b hp = some sb) (htok : tb.tok = some (n, sz)) (hlo : tb.lo = 0) {qv u1 u2 : Value} (hq : E.q s n = some qv) (hqb : blkOf qv = blkOf u1)
   (hv : (u1 = .slice none 0 0 /\ N = 0) \/ ∃ k cap cur, u1 = .slice (some ⟨k, 0, none⟩) N cap /\ w.heap[k]? = some (.cells cur tb.ty (0, 0)) /\ N <= cap /\ cap <= maxLen /\ cur.size = cap * sz /\ ∀ j, j < N -> ∀ p kd, ks[p]? = some kd -> cur[j * sz + p]? = some (kdV kd ((part.getD j []).getD p 0)))
   (hpl : part.length = N) (hy : AC.R E (.slc b o m cap : AC F) u2) (hb1 : N + m <= 34359738368) (ty : TypeId) :
   ∃ E' u w', (Builtin.append_ [t, t'].toArray ty #[u1, u2]).run P w = .ok u w' /\ (∀ s', But s' E E') /\ AC.R E' (.wsl s (n + 1) sz 0 ((N + m : Nat) : Int) ((N + m : Nat) : Int) : AC F) u /\ Mem I w0 E' ((s, ⟨tb.ty, [.arr (n + 1) ks (part ++ rs)]⟩) :: hp) w' := by
 have hT := hC.tab
 obtain ⟨ti, ei, hti, he, hei, rfl, z3, z5, z6, z10, z7, z8, z9⟩ := appFit_get hfit
 have hby : (N + m) * ei.bytes <= 140737488355328 := Nat.le_trans (Nat.mul_le_mul hb1 z10) (by omega)
 obtain ⟨t1, t2, t3, _⟩ := hm.tok s tb n sz hl1 htok
 have hrow : (u1 = .slice none 0 0 /\ N = 0) \/ ∃ k cap cur, u1 = .slice (some ⟨k, 0, none⟩) N cap /\ w.heap[k]? = some (.cells cur tb.ty (0, 0)) /\ N <= cap /\ cap <= maxLen /\ cur.size = cap * sz := hv.imp id fun ⟨k, cap, cur, h1, h2, h3, h4, h5, _⟩ => ⟨k, cap, cur, h1, h2, h3, h4, h5⟩
 obtain ⟨kb, y1, rfl⟩ := hy
 obtain ⟨kb', ws, y2, y3, y4⟩ := hm.hp b sb hl2 (hm.plain hl2 y1)
 rw [y1] at y2; cases y2
 have hwl := y4.length
 have hnl : ((ws.drop o).take (m * sz)).length = m * sz := by
   simp only [List.length_take, List.length_drop]; omega
 have hnR := y4.take_drop o (m * sz)
 have hnews : ∀ j u, ((ws.drop o).take (m * sz))[j]? = some u -> w.cell? ((⟨kb, o, none⟩ : Addr).add j) = some u := fun j u hu => by
   rw [Addr.add_lit]
   rw [cell_heap y3]
   rw [List.getElem?_take] at hu
   split at hu
   · rw [List.getElem?_drop] at hu; exact hu
   · cases hu
 have hone : ∀ u ∈ (ws.drop o).take (m * sz), u.oneCell' = true := fun u hu => by
   have : ∀ {xs : List (AC F)} {us : List Value}, All2 (fun x u => isCell u = true /\ x.is (fun f => I.hv f (Dt w0 E hp)) w u) xs us -> ∀ u ∈ us, isCell u = true := by
     intro xs us H
     induction H with
     | nil => intro u h; cases h
     | cons r _ ih =>
       intro u h
       rcases List.mem_cons.1 h with rfl | h
       · exact r.1
       · exact ih u h
   exact isCell_one (this (fact_is hm z9 hnR) u hu)
 obtain ⟨i1, i2, i3⟩ := hT _ _ hei
 have i4 := hC.tabB _ _ hei
 obtain ⟨g0, g1, g2⟩ := rowsA_R (E := E) hrs hnR
 cases hinfo : P.info? tb.ty with
 | none => rw [hinfo] at i1; cases i1
 | some info =>
   rw [hinfo] at i1 i2 i4
   simp only [Option.map_some, Option.some.injEq, Option.bind_some] at i1 i2 i4
   have hnm : N + m <= 140737488355328 := Nat.le_trans (Nat.le_mul_of_pos_right _ z7) hby
   obtain ⟨w', k, cap', cur, r1, r2, r3, r4, r5, r6, r7, r8, r9, r10, r11, r12⟩ := run_append_tip (P := P) (ty := ty) (c := cap) (n := N) (he ▸ (hT _ _ hti).2.2) hinfo i2 (i1.trans z3) z5 hrow ⟨kb, o, none⟩ hnl hnews hone z6 (by simp only [maxLen]; omega) (by rw [i4]; exact hby)
   have hlen : (part ++ rs).length = N + m := by rw [List.length_append, hpl, g0]
   have hok : ArrOk ks (part ++ rs) cur := by
     intro j hj p kd hp
     rw [hks]
     have hpn : p < sz := by rw [<- hks]; exact (List.getElem?_eq_some_iff.1 hp).1
     rcases Nat.lt_or_ge j N with q | q
     · have hjp : j * sz + p < N * sz := by
         have : (j + 1) * sz <= N * sz := Nat.mul_le_mul_right _ (by omega)
         rw [Nat.add_mul] at this; omega
       have e1 : (part ++ rs).getD j [] = part.getD j [] := by
         simp only [List.getD_eq_getElem?_getD]
         rw [List.getElem?_append_left (by omega)]
       rw [e1]
       rcases hv with ⟨_, h⟩ | ⟨k0, cap0, cur0, rfl, h2, _, _, _, h6⟩
       · omega
       · rw [<- h6 j q p kd hp]
         rcases r12 with ⟨a1, a2, c0, a3, a4⟩ | ⟨a1, a2⟩
         · have : k0 = k := by simpa [blkOf] using a1
           subst this
           rw [h2] at a3; cases a3
           exact a4 _ hjp
         · have := r11 k0 cap0 rfl _ hjp
           simp only [World.cell?, r6, a2 k0 (Array.getElem?_eq_some_iff.1 h2).1, h2] at this
           exact this
     · have e1 : (part ++ rs).getD j [] = rs.getD (j - N) [] := by
         simp only [List.getD_eq_getElem?_getD]
         rw [List.getElem?_append_right (by omega), hpl]
       rw [e1]
       rw [hlen] at hj
       have := g2 (j - N) (by omega) p kd hp
       rw [hks] at this
       have := r10 _ _ this
       rw [show N * sz + ((j - N) * sz + p) = j * sz + p by rw [<- Nat.add_assoc, <- Nat.add_mul, show N + (j - N) = j by omega]] at this
       exact this
   have hgrow := hm.growarr hl1 htok hq (ks := ks) (l' := part ++ rs) hks r2 r3 r4 r5 r6 (by rw [hlen]; exact r7) r8 r9 hok (r12.imp (fun ⟨a1, a2, c0, a3, _⟩ => ⟨hqb.trans a1, a2, ⟨c0, a3⟩, hlo⟩) id)
   have hnone : E.q s (n + 1) = none := t3 _ (by omega)
   refine ⟨_, _, w', r1, fun s' => ⟨setq_le hnone, fun _ _ => rfl, fun _ _ _ => rfl, fun b' _ hn' i => ?_⟩, ⟨k, cap', cap', setq_at E s (n + 1) _, Int.le_refl _, by omega, Int.le_refl _, by omega, by omega, by simp only [Int.toNat_zero, Nat.zero_mul, Int.toNat_natCast]⟩, hgrow⟩
   by_cases hs' : b' = s /\ i = n + 1
   · rw [<- hs'.1, hn' n] at hq; cases hq
   · exact (setq_ne E _ hs').trans (hn' i)
theorem appA_sound {P : Program} {I : Interp F} {c : Ctx F} (hC : CtxOk P I c) {tt : List TypeId} {vs : List (AV F)} {bs : List (Blk F)} {out : Out F} (h : evAppA c tt vs bs = some out)
   {E : Env F} {hp : List (Nat × Blk F)} {w0 : Start} {w : World} (hm : Mem I w0 E hp w) {us : List Value} (hR : All2 (AV.R E) vs us)
   (hb : looks hp (appBlocks vs) = some bs) (hc : ∀ p ∈ out.cd, p.1 = p.2) (ty : TypeId) :
   ∃ E' u w', (Builtin.append_ tt.toArray ty us.toArray).run P w = .ok u w' /\ (∀ s, But s E E') /\ out.val.R E' u /\ Mem I w0 E' (out.wr ++ hp) w' := by
 unfold evAppA at h
 split at h
 · rename_i s v sz off len cap0 b o m cap tyb v' ks l sb t t'
   split at h
   · rename_i rs hrs
     generalize hz : (appFit c t t' sz o m tyb sb && Nat.beq ks.length sz) = z at h
     cases z with
     | false => cases h
     | true =>
       cases h
       simp only [Bool.and_eq_true] at hz
       have hks := Nat.eq_of_beq_eq_true hz.2
       have hve : v = v' := Nat.eq_of_beq_eq_true (hc (Nat.beq v v', true) (by simp))
       have h0 : off = 0 := of_decide_eq_true (hc (decide (off = 0), true) (by simp))
       have h1 : len <= lenT l := of_decide_eq_true (hc (decide (len <= lenT l), true) (by simp))
       have h2 : len + (m : Int) <= 34359738368 := of_decide_eq_true (hc (decide (len + (m : Int) <= 34359738368), true) (by simp))
       subst hve h0
       obtain ⟨u1, u2, rfl, hx, hy⟩ := all2_two hR
       obtain ⟨hl1, hl2⟩ := looks_two hb
       obtain ⟨k, c0, c', q1, q2, q3, q4, q5, q6, rfl⟩ := hx
       obtain ⟨k', c1, cur, a1, a2, a3, a4, a5, a6, a7⟩ := hm.arr hl1
       rw [q1] at a1; cases a1
       unfold lenT at h1
       have ec : c' = c0 := by omega
       subst ec
       have e0 : (0 : Int).toNat * sz = 0 := by simp
       rw [e0]
       have hN : (l.take len.toNat).length = len.toNat := by rw [List.length_take]; omega
       have ht : (⟨tyb, [.arr v ks l]⟩ : Blk F).tok = some (v, sz) := by show some (v, ks.length) = _; rw [hks]
       have hp : ∀ j, j < len.toNat -> ∀ p kd, ks[p]? = some kd -> cur[j * sz + p]? = some (kdV kd (((l.take len.toNat).getD j []).getD p 0)) := fun j hj p kd hp => by
         have := a4 j (by omega) p kd hp
         rw [hks] at this
         rw [this]
         congr 3
         simp only [List.getD_eq_getElem?_getD]
         rw [List.getElem?_take, if_pos hj]
       have hv : (Value.slice (some ⟨k, 0, none⟩) len.toNat c' = .slice none 0 0 /\ len.toNat = 0) \/ ∃ k0 cap0 cur0, Value.slice (some ⟨k, 0, none⟩) len.toNat c' = .slice (some ⟨k0, 0, none⟩) len.toNat cap0 /\ w.heap[k0]? = some (.cells cur0 (⟨tyb, [.arr v ks l]⟩ : Blk F).ty (0, 0)) /\ len.toNat <= cap0 /\ cap0 <= maxLen /\ cur0.size = cap0 * sz /\ ∀ j, j < len.toNat -> ∀ p kd, ks[p]? = some kd -> cur0[j * sz + p]? = some (kdV kd (((l.take len.toNat).getD j []).getD p 0)) :=
         .inr ⟨k, c', cur, rfl, a3, by omega, a7, by rw [a5, hks], hp⟩
       obtain ⟨E', u, w', g1, g2, g3, g4⟩ := appA_core hC hm (N := len.toNat) (u1 := .slice (some ⟨k, 0, none⟩) len.toNat c') (tb := ⟨tyb, [.arr v ks l]⟩) hz.1 hks hrs hl1 hl2 ht rfl q1 rfl hv hN hy (by omega) ty
       refine ⟨E', u, w', g1, g2, ?_, g4⟩
       have e : ((len.toNat + m : Nat) : Int) = len + (m : Int) := by rw [Int.natCast_add, Int.toNat_of_nonneg q3]
       rw [e] at g3
       exact g3
   · cases h
 · exact app_sound hC h hm hR hb hc ty
theorem appZ_sound {P : Program} {I : Interp F} {c : Ctx F} (hC : CtxOk P I c) {slot : Nat} {tt : List TypeId} {vs : List (AV F)} {bs : List (Blk F)} {out : Out F} (h : evAppZ c slot tt vs bs = some out)
   {E : Env F} {hp : List (Nat × Blk F)} {w0 : Start} {w : World} (hm : Mem I w0 E hp w) {us : List Value} (hR : All2 (AV.R E) vs us)
   (hb : looks hp (appBlocks vs) = some bs) (hs : Fresh slot E) (hc : ∀ p ∈ out.cd, p.1 = p.2) (ty : TypeId) :
   ∃ E' u w', (Builtin.append_ tt.toArray ty us.toArray).run P w = .ok u w' /\ But slot E E' /\ out.val.R E' u /\ Mem I w0 E' (out.wr ++ hp) w' := by
 unfold evAppZ at h
 split at h
 · rename_i b o m cap sb t t'
   split at h
   · rename_i ti hti
     split at h
     · rename_i e he
       split at h
       · rename_i ei hei
         split at h
         · rename_i ks hks
           split at h
           · rename_i rs hrs
             generalize hz : (appFit c t t' ks.length o m e sb && Nat.blt 0 ks.length && c.safe e) = z at h
             cases z with
             | false => cases h
             | true =>
               cases h
               simp only [Bool.and_eq_true] at hz
               have h2 : (m : Int) <= 34359738368 := of_decide_eq_true (hc (decide ((m : Int) <= 34359738368), true) (by simp))
               obtain ⟨u1, u2, rfl, hx, hy⟩ := all2_two hR
               cases (hx : u1 = _)
               have hl := looks_one hb
               have hnr := hm.nilrow hs (by rw [<- Nat.blt_eq]; exact hz.1.2 : 0 < ks.length) (hC.safe _ hz.2)
               have hne : slot ≠ b := fun e' => by
                 obtain ⟨kb, y1, _⟩ := hy
                 rw [<- e', hs.1] at y1; cases y1
               have hle := setq_le (v := .slice none 0 0) (hs.2.2 0)
               have hb1 : But slot E (E.setq slot 0 (.slice none 0 0)) := ⟨hle, fun _ _ => rfl, fun _ _ _ => rfl, fun b' hb' hn' i => (setq_ne E _ fun h => hb' h.1).trans (hn' i)⟩
               obtain ⟨E', u, w', g1, g2, g3, g4⟩ := appA_core hC hnr (s := slot) (n := 0) (N := 0) (part := []) (tb := ⟨e, [.tok 0 ks.length]⟩) (sb := sb) (u1 := .slice none 0 0) (u2 := u2) hz.1.1 rfl hrs (by rw [look_cons, if_pos rfl]) (by rw [look_cons, if_neg hne]; exact hl) rfl (by show 0 * ks.length = 0; omega) (setq_at E slot 0 _) rfl
                 (.inl ⟨rfl, rfl⟩) rfl (AC.R.mono hle hy) (by omega) ty
               refine ⟨E', u, w', g1, ⟨hb1.le.trans (g2 slot).le, fun b' hb' => ((g2 slot).m b' hb').trans (hb1.m b' hb'), fun b' hb' j => ((g2 slot).r b' hb' j).trans (hb1.r b' hb' j), fun b' hb' hn => (g2 slot).q b' hb' (hb1.q b' hb' hn)⟩, ?_, ?_⟩
               · simp only [Nat.zero_add] at g3; exact g3
               · refine g4.congr fun i => ?_
                 show look i ((slot, _) :: hp) = look i ((slot, _) :: (slot, _) :: hp)
                 rw [look_cons, look_cons, look_cons]
                 split <;> rfl
           · cases h
         · cases h
       · cases h
     · cases h
   · cases h
 · cases h
theorem But.trans' {s : Nat} {E E1 E2 : Env F} (h : But s E E1) (k : But s E1 E2) : But s E E2 :=
 ⟨h.le.trans k.le, fun b hb => (k.m b hb).trans (h.m b hb), fun b hb j => (k.r b hb j).trans (h.r b hb j), fun b hb hn => k.q b hb (h.q b hb hn)⟩
theorem appN_sound {P : Program} {I : Interp F} {c : Ctx F} (hC : CtxOk P I c) {slot : Nat} {tt : List TypeId} {vs : List (AV F)} {bs : List (Blk F)} {out : Out F} (h : evAppN c slot tt vs bs = some out)
   {E : Env F} {hp : List (Nat × Blk F)} {w0 : Start} {w : World} (hm : Mem I w0 E hp w) {us : List Value} (hR : All2 (AV.R E) vs us)
   (hb : looks hp (appBlocks vs) = some bs) (hs : Fresh slot E) (hc : ∀ p ∈ out.cd, p.1 = p.2) (ty : TypeId) :
   ∃ E' u w', (Builtin.append_ tt.toArray ty us.toArray).run P w = .ok u w' /\ But slot E E' /\ out.val.R E' u /\ Mem I w0 E' (out.wr ++ hp) w' := by
 unfold evAppN at h
 split at h
 · rename_i b o m k sb t t'
   split at h
   · rename_i o1 hn
     obtain ⟨E1, e, sz, g, rfl, h1, h2, h3⟩ := nilRow_sound hC hn hm hs
     simp only at h
     split at h
     · rename_i out' hout
       split at h
       · rename_i p hp'
         cases h
         obtain ⟨u1, u2, rfl, hx, hy⟩ := all2_two hR
         cases (hx : u1 = _)
         have hl := looks_one hb
         have hne : slot ≠ b := fun e' => by
           obtain ⟨kb, y1, _⟩ := hy
           rw [<- e', hs.1] at y1; cases y1
         obtain ⟨E', u, w', q1, q2, q3, q4⟩ := app_sound hC hout h3 (us := [.slice none 0 0, u2]) (.cons h2 (.cons (AV.R.mono h1.le hy) .nil)) (by
           simp only [appBlocks, looks]
           rw [look_cons, if_pos rfl]
           simp only
           rw [look_cons, if_neg hne, hl]) hc ty
         refine ⟨E', u, w', q1, h1.trans' (q2 slot), q3, ?_⟩
         rw [hp'] at q4
         exact q4
       · cases h
     · cases h
   · exact appZ_sound hC h hm hR hb hs hc ty
 · obtain ⟨E', u, w', q1, q2, q3, q4⟩ := appA_sound hC h hm hR hb hc ty
   exact ⟨E', u, w', q1, q2 slot, q3, q4⟩

theorem sEq_iff (a b : ByteArray) : sEq a b = true ↔ a = b := by
 unfold sEq
 rw [ByteArray.toList_eq, ByteArray.toList_eq, beq_iff_eq]
 constructor
 · intro h
   cases a; cases b
   congr 1
   exact Array.toList_inj.1 h
 · intro h; rw [h]
theorem keyB_iff {kk : CK} {a b : Value} (ha : ckOk kk a = true) (hb : ckOk kk b = true) : keyB a b = true ↔ a = b := by
 rcases kk with _ | _ | k <;> cases a <;> simp only [ckOk] at ha <;> cases b <;> simp only [ckOk] at hb <;> try (first | (cases ha; done) | (cases hb; done))
 · simp [keyB, sEq_iff]
 · simp [keyB]
 · simp [keyB, <- of_decide_eq_true ha, <- of_decide_eq_true hb]
theorem ckOk_key {d : TypeDesc} {kk : CK} {v : Value} (hd : ckD d = some kk) (h : ckOk kk v = true) : Go.MapKept.IsKey d v := by
 cases d <;> simp only [ckD] at hd <;> cases hd <;> cases v <;> simp only [ckOk] at h <;> first | (cases h; done) | simp_all [Go.MapKept.IsKey]
def midx : List MapEntry -> Value -> Nat -> Option (Nat × Value)
 | [], _, _ => none
 | e :: r, k, i => bif keyB e.key k then some (i, e.val) else midx r k (i + 1)
theorem findNow_m {d : TypeDesc} {kk : CK} {k : Value} (hd : ckD d = some kk) (hk : ckOk kk k = true) : ∀ (es : List MapEntry) (i : Nat), (∀ e ∈ es, ckOk kk e.key = true) -> Instr.findNow d k es i = some (midx es k i)
 | [], _, _ => rfl
 | e :: es, i, h => by
   have he := h e (.head _)
   obtain ⟨r, hr, hiff⟩ := Go.MapKept.sameNow_of_keys (ckOk_key hd hk) (ckOk_key hd he)
   have hkb := keyB_iff he hk
   cases r with
   | true =>
     have : keyB e.key k = true := hkb.2 (hiff.1 rfl).symm
     simp [Instr.findNow, hr, midx, this]
   | false =>
     have : keyB e.key k = false := by
       cases hx : keyB e.key k with
       | false => rfl
       | true => have := hiff.2 (hkb.1 hx).symm; cases this
     simp only [Instr.findNow, hr, midx, this, cond_false]
     exact findNow_m hd hk es (i + 1) fun x hx => h x (.tail _ hx)
theorem midx_get {es : List MapEntry} {k : Value} : ∀ {i : Nat}, (midx es k i).map (·.2) = mget (es.map fun e => (e.key, e.val)) k := by
 induction es with
 | nil => intro i; rfl
 | cons e r ih =>
   intro i
   simp only [midx, List.map_cons, mget]
   cases keyB e.key k with
   | true => rfl
   | false => exact ih
theorem midx_some {k : Value} : ∀ {es : List MapEntry} {i j : Nat} {v : Value}, midx es k i = some (j, v) -> i <= j /\ ∃ e, es[j - i]? = some e /\ keyB e.key k = true /\ ∀ x, mput (es.map fun e => (e.key, e.val)) k x = ((es.modify (j - i) fun e => { e with key := k, val := x }).map fun e => (e.key, e.val))
 | [], _, _, _, h => by cases h
 | e :: r, i, j, v, h => by
   simp only [midx] at h
   cases hb : keyB e.key k with
   | true =>
     rw [hb] at h; cases h
     refine ⟨Nat.le_refl _, e, by simp, hb, fun x => ?_⟩
     simp [mput, hb]
   | false =>
     rw [hb] at h
     simp only [cond_false] at h
     obtain ⟨h1, e', h2, h3, h4⟩ := midx_some h
     have hj : j - i = (j - (i + 1)) + 1 := by omega
     refine ⟨by omega, e', by rw [hj]; simpa using h2, h3, fun x => ?_⟩
     rw [hj]
     simp only [List.map_cons, mput, hb, cond_false, List.modify_succ_cons]
     rw [h4 x]
theorem midx_none {k : Value} : ∀ {es : List MapEntry} {i : Nat}, midx es k i = none -> ∀ x, mput (es.map fun e => (e.key, e.val)) k x = (es.map fun e => (e.key, e.val)) ++ [(k, x)]
 | [], _, _, _ => rfl
 | e :: r, i, h, x => by
   simp only [midx] at h
   cases hb : keyB e.key k with
   | true => rw [hb] at h; cases h
   | false =>
     rw [hb] at h
     simp only [List.map_cons, mput, hb, cond_false, List.cons_append]
     rw [midx_none h x]
theorem lv_R {E : Env F} {x : AC F} {u v : Value} (h : x.lv = some v) (H : x.R E u) : u = v := by
 cases x <;> simp only [AC.lv] at h <;> first | (cases h; done) | (cases h; exact H)
theorem mCell_R {E : Env F} {vk : CK} {D : List (Value × Value)} {k v : Value} (h : mget D k = some v) (hv : ckOk vk v = true) : (mCell vk D k : AC F).R E v := by
 rcases vk with _ | _ | q <;> cases v <;> simp only [ckOk] at hv <;> try (cases hv; done)
 · show _ = Value.string (mS D k); simp [mS, h]
 · show _ = Value.bool (mB D k); simp [mB, h]
 · show _ = Value.int q (mI D k); simp [mI, h, of_decide_eq_true hv]
theorem mCell_Z {E : Env F} {vk : CK} {D : List (Value × Value)} {k v : Value} (h : mget D k = none) (hv : ckZ vk v = true) : (mCell vk D k : AC F).R E v := by
 rcases vk with _ | _ | q <;> cases v <;> simp only [ckZ] at hv <;> try (cases hv; done)
 · rename_i s
   show _ = Value.string (mS D k)
   have : s = ByteArray.empty := by
     have hs := Nat.eq_of_beq_eq_true hv
     obtain ⟨a⟩ := s
     show ByteArray.mk a = ByteArray.mk #[]
     congr 1
     exact Array.size_eq_zero_iff.1 hs
   simp [mS, h, this]
 · rename_i b
   show _ = Value.bool (mB D k)
   simp only [Bool.not_eq_true'] at hv
   simp [mB, h, hv]
 · rename_i k' n
   simp only [Bool.and_eq_true, decide_eq_true_eq] at hv
   show _ = Value.int q (mI D k)
   simp [mI, h, hv.1, hv.2]
theorem mput_ok {kk vk : CK} {D : List (Value × Value)} {k v : Value} (hk : ckOk kk k = true) (hv : ckOk vk v = true) (hD : ∀ e ∈ D, ckOk kk e.1 = true /\ ckOk vk e.2 = true) : ∀ e ∈ mput D k v, ckOk kk e.1 = true /\ ckOk vk e.2 = true := by
 induction D with
 | nil => intro e he; simp only [mput, List.mem_singleton] at he; rw [he]; exact ⟨hk, hv⟩
 | cons d r ih =>
   intro e he
   simp only [mput] at he
   cases hb : keyB d.1 k with
   | true =>
     rw [hb] at he
     rcases List.mem_cons.1 he with rfl | he
     · exact ⟨hk, hv⟩
     · exact hD e (.tail _ he)
   | false =>
     rw [hb] at he
     rcases List.mem_cons.1 he with rfl | he
     · exact hD _ (.head _)
     · exact ih (fun e he => hD e (.tail _ he)) e he
theorem mkMap_sound {P : Program} {I : Interp F} {c : Ctx F} (hC : CtxOk P I c) {t : TypeId} {slot : Nat} {out : Out F} (h : evMkMap c t slot = some out) {E : Env F} {hp : List (Nat × Blk F)} {w0 : Start} {w : World} (hm : Mem I w0 E hp w) (hs : Fresh slot E) :
   (∃ kt vt, P.underlying t = some (.map kt vt)) /\ ∃ E', But slot E E' /\ out.val.R E' (.map (some w.heap.size)) /\ Mem I w0 E' (out.wr ++ hp) { w with heap := w.heap.push (.map #[] 0) } := by
 unfold evMkMap at h
 split at h
 · rename_i ti hti
   split at h
   · rename_i kt vt hd
     split at h
     · rename_i kk vk hk hv
       cases hz : c.maps && c.safe t with
       | false => rw [hz] at h; cases h
       | true =>
         rw [hz] at h; cases h
         simp only [Bool.and_eq_true] at hz
         refine ⟨⟨kt, vt, hd ▸ (hC.tab _ _ hti).2.2⟩, E.setq slot 0 (.map (some w.heap.size)), ⟨setq_le (hs.2.2 0), fun _ _ => rfl, fun _ _ _ => rfl, fun b' hb' hn' i => (setq_ne E _ fun h => hb' h.1).trans (hn' i)⟩, ⟨_, setq_at E slot 0 _, rfl⟩, hm.newmap hs kk vk (hC.safe _ hz.2)⟩
     · cases h
   · cases h
 · cases h
theorem mapLook_sound {P : Program} {I : Interp F} {c : Ctx F} (hC : CtxOk P I c) {t : TypeId} {b : Nat} {ok : Bool} {y : AV F} {blk : Blk F} {out : Out F} (h : mapLook c t ok y blk = some out) {E : Env F} {hp : List (Nat × Blk F)} {w0 : Start} {w : World} (hm : Mem I w0 E hp w)
   (hl : look b hp = some blk) {u v : Value} (hx : AC.R E (.mpv b : AC F) u) (hy : y.R E v) : ∃ r, (Instr.lookup t u v ok).run P w = .ok r w /\ out.val.R E r /\ out.wr = [] := by
 obtain ⟨ty, cs⟩ := blk
 unfold mapLook at h
 split at h
 · rename_i kk vk D kc hcs
   dsimp only at hcs
   subst hcs
   split at h
   · rename_i ti kv hti hkv
     split at h
     · rename_i kt vt hd
       split at h
       · rename_i kk' vi hk hvi
         cases hz : decide (kk = kk') && ckOk kk kv && ckZ vk vi.zero with
         | false => rw [hz] at h; cases h
         | true =>
           rw [hz] at h
           simp only [Bool.and_eq_true, decide_eq_true_eq] at hz
           obtain ⟨⟨rfl, z2⟩, z3⟩ := hz
           obtain ⟨k, q1, rfl⟩ := hx
           obtain ⟨es, cl, g1, g2, g3⟩ := hm.map hl q1
           have hv : v = kv := lv_R hkv hy
           subst hv
           unfold ckT at hk
           split at hk
           · rename_i ki hki
             have hu := (hC.tab _ _ hki).2.2
             have hes : ∀ e ∈ es.toList, ckOk kk e.key = true := fun e he => (g3 (e.key, e.val) (by rw [<- g2]; exact List.mem_map.2 ⟨e, he, rfl⟩)).1
             have hf := findNow_m hk z2 es.toList 0 hes
             have hfk := Go.MapKept.run_findKey (w := w) hu hf
             have hmg := midx_get (es := es.toList) (k := v) (i := 0)
             rw [g2] at hmg
             have hck := Go.MapKept.run_checkKey (w := w) hu (ckOk_key hk z2) es.isEmpty 9999
             have hun := run_und hC.tab hti (w := w)
             rw [hd] at hun
             cases hmi : midx es.toList v 0 with
             | none =>
               rw [hmi] at hmg hfk
               have hm0 : mget D v = none := hmg.symm
               have hrun : ∀ cok, (Instr.lookup t (.map (some k)) v cok).run P w = .ok (if cok then .tuple #[vi.zero, .bool false] else vi.zero) w := fun cok => by
                 simp only [Instr.lookup, Sem.run_bind, hun, Result.andThen_ok, Go.MapKept.run_getObj_map g1, Sem.run_pure, hck, hfk, run_zero hC.tab hvi]
               have hR := mCell_Z (E := E) hm0 z3
               cases ok with
               | true => cases h; exact ⟨_, hrun true, ⟨[_, _], rfl, .cons hR (.cons (by show _ = Value.bool (mHas D v); simp [mHas, hm0]) .nil)⟩, rfl⟩
               | false => cases h; exact ⟨_, hrun false, hR, rfl⟩
             | some p =>
               obtain ⟨j, x⟩ := p
               rw [hmi] at hmg hfk
               have hm0 : mget D v = some x := hmg.symm
               have hx : ckOk vk x = true := by
                 obtain ⟨_, e, e1, e2, _⟩ := midx_some hmi
                 have := List.mem_of_getElem? e1
                 have hxe : e.val = x := by
                   have h1 : ∀ {es : List MapEntry} {i j : Nat} {e : MapEntry}, midx es v i = some (j, x) -> es[j - i]? = some e -> e.val = x := by
                     intro es
                     induction es with
                     | nil => intro i j e h; cases h
                     | cons a r ih =>
                       intro i j e h he
                       simp only [midx] at h
                       cases hb : keyB a.key v with
                       | true => rw [hb] at h; cases h; simp at he; rw [<- he]
                       | false =>
                         rw [hb] at h
                         have hle := (midx_some h).1
                         rw [show j - i = (j - (i + 1)) + 1 by omega] at he
                         exact ih h (by simpa using he)
                   exact h1 hmi e1
                 rw [<- hxe]
                 exact (g3 (e.key, e.val) (by rw [<- g2]; exact List.mem_map.2 ⟨e, this, rfl⟩)).2
               have hrun : ∀ cok, (Instr.lookup t (.map (some k)) v cok).run P w = .ok (if cok then .tuple #[x, .bool true] else x) w := fun cok => by
                 simp only [Instr.lookup, Sem.run_bind, hun, Result.andThen_ok, Go.MapKept.run_getObj_map g1, Sem.run_pure, hck, hfk]
               have hR := mCell_R (E := E) hm0 hx
               cases ok with
               | true => cases h; exact ⟨_, hrun true, ⟨[_, _], rfl, .cons hR (.cons (by show _ = Value.bool (mHas D v); simp [mHas, hm0]) .nil)⟩, rfl⟩
               | false => cases h; exact ⟨_, hrun false, hR, rfl⟩
           · cases hk
       · cases h
     · cases h
   · cases h
 · cases h
theorem mapPut_sound {P : Program} {I : Interp F} {c : Ctx F} (hC : CtxOk P I c) {t : TypeId} {b : Nat} {y z : AV F} {blk : Blk F} {out : Out F} (h : mapPut c t b y z blk = some out) {E : Env F} {hp : List (Nat × Blk F)} {w0 : Start} {w : World} (hm : Mem I w0 E hp w)
   (hl : look b hp = some blk) {u v x : Value} (hx : AC.R E (.mpv b : AC F) u) (hy : y.R E v) (hzR : z.R E x) : ∃ w', (Instr.mapUpdate t u v x).run P w = .ok () w' /\ out.val.R E undef /\ Mem I w0 E (out.wr ++ hp) w' := by
 obtain ⟨ty, cs⟩ := blk
 unfold mapPut at h
 split at h
 · rename_i kk vk D kc vc hcs
   dsimp only at hcs
   subst hcs
   split at h
   · rename_i ti kv vv hti hkv hvv
     split at h
     · rename_i kt vt hd
       split at h
       · rename_i kk' hk
         cases hz : decide (kk = kk') && ckOk kk kv && ckOk vk vv && c.maps with
         | false => rw [hz] at h; cases h
         | true =>
           rw [hz] at h; cases h
           simp only [Bool.and_eq_true, decide_eq_true_eq] at hz
           obtain ⟨⟨⟨rfl, z2⟩, z3⟩, z4⟩ := hz
           obtain ⟨k, q1, rfl⟩ := hx
           obtain ⟨es, cl, g1, g2, g3⟩ := hm.map hl q1
           have hv : v = kv := lv_R hkv hy
           subst hv
           have hv : x = vv := lv_R hvv hzR
           subst hv
           unfold ckT at hk
           split at hk
           · rename_i ki hki
             have hu := (hC.tab _ _ hki).2.2
             have hes : ∀ e ∈ es.toList, ckOk kk e.key = true := fun e he => (g3 (e.key, e.val) (by rw [<- g2]; exact List.mem_map.2 ⟨e, he, rfl⟩)).1
             have hf := findNow_m hk z2 es.toList 0 hes
             have hfk := Go.MapKept.run_findKey (w := w) hu hf
             have hck := Go.MapKept.run_checkKey (w := w) hu (ckOk_key hk z2) false 9999
             have hun := run_und hC.tab hti (w := w)
             rw [hd] at hun
             have hlt : k < w.heap.size := (Array.getElem?_eq_some_iff.1 g1).1
             cases hmi : midx es.toList v 0 with
             | none =>
               rw [hmi] at hfk
               refine ⟨{ w with heap := w.heap.setIfInBounds k (.map (es.push { key := v, val := x, born := cl }) (cl + 1)) }, ?_, rfl, ?_⟩
               · simp only [Instr.mapUpdate, Sem.run_bind, hun, Result.andThen_ok, Go.MapKept.run_getObj_map g1, hck, hfk, Go.MapKept.run_setObj_map _ g1]
               · refine hm.setmap (hC.maps z4) hl q1 g1 ⟨?_, mput_ok z2 z3 g3⟩ rfl rfl rfl (by simp) (fun j _ hj => by exact (Go.MapKept.heap_set g1).2 j hj) ((Go.MapKept.heap_set g1).1)
                 rw [<- g2, midx_none hmi x]; simp
             | some p =>
               obtain ⟨j, x0⟩ := p
               rw [hmi] at hfk
               obtain ⟨_, e, e1, e2, e3⟩ := midx_some hmi
               have hke : e.key = v := (keyB_iff (hes e (List.mem_of_getElem? e1)) z2).1 e2
               have e1' : es[j]? = some e := by rw [<- Array.getElem?_toList]; simpa using e1
               refine ⟨{ w with heap := w.heap.setIfInBounds k (.map (es.modify j fun e => { e with key := v, val := x }) cl) }, ?_, rfl, ?_⟩
               · simp only [Instr.mapUpdate, Sem.run_bind, hun, Result.andThen_ok, Go.MapKept.run_getObj_map g1, hck, hfk, e1', Option.map_some, Option.getD_some, hke, Go.MapKept.run_keyThatStays (ckOk_key hk z2), Go.MapKept.run_setObj_map _ g1]
               · refine hm.setmap (hC.maps z4) hl q1 g1 ⟨?_, mput_ok z2 z3 g3⟩ rfl rfl rfl (by simp) (fun j _ hj => by exact (Go.MapKept.heap_set g1).2 j hj) ((Go.MapKept.heap_set g1).1)
                 rw [<- g2, e3 x]; simp [Array.toList_modify]
           · cases hk
       · cases h
     · cases h
   · cases h
 · cases h
theorem tri_some {vs : List (AV F)} {k : AV F -> AV F -> AV F -> Option (Out F)} {out : Out F} (h : tri vs k = some out) : ∃ x y z, vs = [x, y, z] /\ k x y z = some out := by
 unfold tri at h
 split at h
 · exact ⟨_, _, _, rfl, h⟩
 · cases h
theorem all2_three {α β : Type} {R : α -> β -> Prop} {x y z : α} {us : List β} (h : All2 R [x, y, z] us) : ∃ u v w, us = [u, v, w] /\ R x u /\ R y v /\ R z w := by
 cases h with
 | cons r1 h => cases h with
   | cons r2 h => cases h with
     | cons r3 h => cases h; exact ⟨_, _, _, rfl, r1, r2, r3⟩
theorem copy_sound {P : Program} {I : Interp F} {c : Ctx F} (hC : CtxOk P I c) {tt : List TypeId} {vs : List (AV F)} {bs : List (Blk F)} {out : Out F} (h : evCopy c tt vs bs = some out)
   {E : Env F} {hp : List (Nat × Blk F)} {w0 : Start} {w : World} (hm : Mem I w0 E hp w) {us : List Value} (hR : All2 (AV.R E) vs us)
   (hb : looks hp (cpBlocks vs) = some bs) (hc : ∀ p ∈ out.cd, p.1 = p.2) (ty : TypeId) :
   ∃ u w', (Builtin.copy_ tt.toArray ty us.toArray).run P w = .ok u w' /\ out.val.R E u /\ Mem I w0 E (out.wr ++ hp) w' := by
 have hT := hC.tab
 unfold evCopy at h
 split at h
 · rename_i b v sz off len cap f tyb v' ks l t t'
   split at h
   · rename_i ks' A hrow
     split at h
     · rename_i ti hti
       split at h
       · rename_i e he
         split at h
         · rename_i ei hei
           generalize hz : (Nat.beq ei.size 1 && Nat.beq sz 1 && Nat.beq ks.length 1 && decide (ks' = ks)) = z at h
           cases z with
           | false => cases h
           | true =>
             cases h
             simp only [Bool.and_eq_true, decide_eq_true_eq] at hz
             obtain ⟨⟨⟨z1, z2⟩, z3⟩, z4⟩ := hz
             have z1 := Nat.eq_of_beq_eq_true z1
             obtain rfl := Nat.eq_of_beq_eq_true z2
             have z3 := Nat.eq_of_beq_eq_true z3
             subst z4
             have hve : v = v' := Nat.eq_of_beq_eq_true (hc (Nat.beq v v', true) (by simp))
             have hlen : off + len <= lenT l := of_decide_eq_true (hc (decide (off + len <= lenT l), true) (by simp))
             subst hve
             unfold lenT at hlen
             obtain ⟨kd, rfl⟩ : ∃ kd, ks' = [kd] := by
               cases ks' with
               | nil => simp at z3
               | cons a r => cases r with
                 | nil => exact ⟨a, rfl⟩
                 | cons => simp at z3
             obtain ⟨u1, u2, rfl, hx, hy⟩ := all2_two hR
             have hl1 : look b hp = _ := looks_one (show looks hp [b] = some _ from hb)
             obtain ⟨k, c0, c', q1, q2, q3, q4, q5, q6, rfl⟩ := hx
             obtain ⟨k', c1, cur, a1, a2, a3, a4, a5, a6, a7⟩ := hm.arr hl1
             rw [q1] at a1; cases a1
             simp only [List.length_cons, List.length_nil, Nat.zero_add, Nat.mul_one] at a5
             have hfv := I.vrow_ok f _ _ _ w u2 (by rw [<- hC.vrow]; exact hrow) (hm.fv f u2 hy)
             obtain ⟨i1, _, i3⟩ := hT _ _ hti
             obtain ⟨j1, _, _⟩ := hT _ _ hei
             rw [z1] at j1
             have hu : P.underlying t = some (.slice e) := he ▸ i3
             obtain ⟨p, cp, rfl, g1, g2, g3, g4⟩ := hfv
             have htk : (A.take len.toNat).length = min len.toNat A.length := List.length_take
             cases p with
             | none =>
               have hA : A = [] := List.length_eq_zero_iff.1 (g3 rfl)
               subst hA
               have hrun : (Builtin.copy_ [t, t'].toArray ty [Value.slice (some ⟨k, off.toNat * 1, none⟩) len.toNat c', .slice none ([] : List (List Int)).length cp].toArray).run P w = .ok (goInt 0) w := by
                 cases hq : P.info? e with
                 | none => simp [hq] at j1
                 | some i =>
                   have hi : i.size = 1 := by simpa [hq] using j1
                   simp [Builtin.copy_, run_underlying hu, Builtin.lenOf, Builtin.firstCells, sizeOf, typeInfo, hq, storeCells]
               refine ⟨_, w, hrun, (show goInt 0 = Value.int .i64 ((List.take len.toNat ([] : List (List Int))).length : Int) from by simp [goInt]), ?_⟩
               refine hm.congr fun i => ?_
               show look i ((b, _) :: hp) = look i hp
               rw [look_cons]
               split
               · rename_i e'; subst e'
                 rw [hl1]
                 simp
               · rfl
             | some ad =>
               obtain ⟨g5, g6⟩ := g4 ad rfl
               have hsrc : ∀ (j : Nat) (u : Value), ((A.take len.toNat).map fun r => kdV kd (r.getD 0 0))[j]? = some u -> w.cell? (ad.add j) = some u := fun j u hu' => by
                 rw [List.getElem?_map] at hu'
                 have hj : j < (A.take len.toNat).length := by
                   rcases Nat.lt_or_ge j (A.take len.toNat).length with q | q
                   · exact q
                   · rw [List.getElem?_eq_none q] at hu'; cases hu'
                 have := (g6 j (by omega) 0 kd rfl).2
                 rw [g5, Addr.add_lit]
                 simp only [List.length_cons, List.length_nil, Nat.zero_add, Nat.mul_one, Nat.add_zero] at this
                 rw [this, <- hu', List.getElem?_eq_getElem hj, List.getElem_take, List.getD_eq_getElem?_getD (l := A), List.getElem?_eq_getElem (by omega)]
                 rfl
               have hrun := run_copy_row (P := P) w t t' ty e k (off.toNat * 1) len.toNat c' ad A.length cp cur tyb ((A.take len.toNat).map fun r => kdV kd (r.getD 0 0)) hu j1 a3 (by rw [List.length_map, htk]; exact Nat.min_comm _ _) hsrc (by rw [List.length_map, htk]; omega) (fun u hu' => by
                 obtain ⟨r, _, rfl⟩ := List.mem_map.1 hu'
                 exact isCell_one (kdV_cell _ _))
               rw [List.length_map] at hrun
               refine ⟨_, _, hrun, rfl, ?_⟩
               refine hm.setarr (k := k) (cur := cur) hl1 q1 a3 ?_ ?_ ?_ rfl rfl rfl (Nat.le_of_eq (setRow_size _ _ _).symm) (fun j _ hj => setRow_other _ _ _ _ hj) (setRow_heap _ _ _ _ _ _ a3)
               · simp only [List.length_append, List.length_take, List.length_drop]; omega
               · simp only [List.size_toArray, List.length_append, List.length_take, List.length_drop, List.length_map, Array.length_toList]; omega
               · intro j hj o kd' ho
                 have ho0 : o = 0 := by
                   have := (List.getElem?_eq_some_iff.1 ho).1
                   simpa using this
                 subst ho0
                 simp only [List.getElem?_cons_zero, Option.some.injEq] at ho
                 subst ho
                 simp only [List.length_append, List.length_take, List.length_drop] at hj
                 simp only [List.length_cons, List.length_nil, Nat.zero_add, Nat.mul_one, Nat.add_zero]
                 have a4' : ∀ i, i < l.length -> cur.toList[i]? = some (kdV kd ((l.getD i []).getD 0 0)) := fun i hi => by
                   have := a4 i hi 0 kd rfl
                   simp only [List.length_cons, List.length_nil, Nat.zero_add, Nat.mul_one, Nat.add_zero] at this
                   rw [<- this, Array.getElem?_toList]
                 have hcl : cur.toList.length = c0 := by rw [Array.length_toList, a5]
                 have eo : (List.take off.toNat l).length = off.toNat := by rw [List.length_take]; omega
                 have ec : (List.take off.toNat cur.toList).length = off.toNat := by rw [List.length_take]; omega
                 rw [List.getElem?_toArray]
                 rcases Nat.lt_or_ge j off.toNat with q | q
                 · rw [List.append_assoc, List.getElem?_append_left (by rw [ec]; exact q), List.getElem?_take, if_pos q, a4' j (by omega)]
                   congr 3
                   simp only [List.getD_eq_getElem?_getD]
                   rw [List.append_assoc, List.getElem?_append_left (by rw [eo]; exact q), List.getElem?_take, if_pos q]
                 · rcases Nat.lt_or_ge (j - off.toNat) (A.take len.toNat).length with r | r
                   · rw [List.getElem?_append_left (by simp only [List.length_append, ec, List.length_map]; omega), List.getElem?_append_right (by rw [ec]; exact q), ec, List.getElem?_map, List.getElem?_eq_getElem r]
                     simp only [Option.map_some]
                     congr 2
                     simp only [List.getD_eq_getElem?_getD]
                     rw [List.getElem?_append_left (by simp only [List.length_append, eo]; omega), List.getElem?_append_right (by rw [eo]; exact q), eo, List.getElem?_eq_getElem r]
                     rfl
                   · have hk : j < l.length := by omega
                     rw [List.getElem?_append_right (by simp only [List.length_append, ec, List.length_map]; omega)]
                     simp only [List.length_append, ec, List.length_map]
                     rw [List.getElem?_drop, show off.toNat + (A.take len.toNat).length + (j - (off.toNat + (A.take len.toNat).length)) = j by omega, a4' j hk]
                     congr 3
                     simp only [List.getD_eq_getElem?_getD]
                     rw [List.getElem?_append_right (by simp only [List.length_append, eo]; omega)]
                     simp only [List.length_append, eo]
                     rw [List.getElem?_drop, show off.toNat + (A.take len.toNat).length + (j - (off.toNat + (A.take len.toNat).length)) = j by omega]
         · cases h
       · cases h
     · cases h
   · cases h
 · cases h
theorem core_sound {P : Program} {I : Interp F} {c : Ctx F} (hC : CtxOk P I c) {β : Bool} {slot nt : Nat} {o : Oper} {vs : List (AV F)} {bs : List (Blk F)} {out : Out F} (h : evCore c β slot o.type o.op vs bs = some out)
   {E : Env F} {tm : List (Nat × AV F)} {hp : List (Nat × Blk F)} {a : Act} {w0 : Start} {w : World} (hm : Mem I w0 E hp w) (hR : All2 (AV.R E) vs ((opersAt β o.op).map a.eval)) (hb : looks hp (blocksOf c o.op vs) = some bs)
   (hs : Fresh slot E) (hc : ∀ p ∈ out.cd, p.1 = p.2) {K : Act -> World -> Prop} {Q : Exit -> Act -> World -> Prop}
   (hK : ∀ E' w' u, But slot E E' -> out.val.R E' u -> Mem I w0 E' (out.wr ++ hp) w' -> K (a.put o.dst u) w') : o.wpIn (Fr ro) 0 P a w K Q := by
 have hT := hC.tab
 have pure1 : ∀ {u : Value}, (execOp a.eval o).run P w = .ok (.value u) w -> out.val.R E u -> out.wr = [] -> o.wpIn (Fr ro) 0 P a w K Q := fun hr hx hw =>
   wp_value hr (hK E w _ (But.refl slot E) hx (by rw [hw]; exact hm))
 obtain ⟨dst, op, ty, pos, after, guard⟩ := o
 cases op <;> simp only [evCore] at h <;> try (cases h; done)
 case move x =>
   obtain ⟨x', hvs, h2⟩ := un_some h; clear h; subst hvs; have h := h2; clear h2; (try dsimp only at h); cases h
   obtain ⟨u, hu, hx⟩ := all2_one hR
   have : u = a.eval x := by simpa [opersAt, opersOf] using hu.symm
   exact pure1 (u := a.eval x) (by simp [execOp]) (this ▸ hx) rfl
 case assign x =>
   obtain ⟨x', hvs, h2⟩ := un_some h; clear h; subst hvs; have h := h2; clear h2; (try dsimp only at h)
   obtain ⟨u, hu, hx⟩ := all2_one hR
   have hu : u = a.eval x := by simpa [opersAt, opersOf] using hu.symm
   have same : ret x' = some out -> Oper.wpIn (Fr ro) 0 P { dst, op := .assign x, type := ty, pos, after, guard } a w K Q := fun h => by
     cases h
     exact pure1 (u := a.eval x) (by simp [execOp]) (hu ▸ hx) rfl
   split at h
   · split at h
     · rename_i out' hn
       cases h
       unfold nilRow at hn
       split at hn
       · rename_i g ti hg hti
         split at hn
         · rename_i e he
           cases hz : Nat.blt 0 (c.vesz g) && c.safe e with
           | false => rw [hz] at hn; cases hn
           | true =>
             rw [hz] at hn; cases hn
             simp only [Bool.and_eq_true] at hz
             have hsz : 0 < c.vesz g := by rw [<- Nat.blt_eq]; exact hz.1
             have hnr := hm.nilrow hs hsz (hC.safe _ hz.2)
             have hu1 : a.eval x = .slice none 0 0 := by rw [<- hu]; exact hx
             have hg' : I.nil ty = some g := by rw [<- hC.nil]; exact hg
             refine wp_value (u := .slice none 0 0) (w' := w) (by simp [execOp, hu1]) (hK ((E.setq slot 0 (.slice none 0 0)).addh (fun f u => f = g /\ u = .slice none 0 0)) w _ ⟨(setq_le (hs.2.2 0)).trans (But.addh 0 _ _).le, fun _ _ => rfl, fun _ _ _ => rfl, fun b' hb' hn' i => ?_⟩ ⟨.inr ⟨rfl, rfl⟩, setq_at E slot _ _⟩ (hnr.addh fun f' u hf => by rw [hf.1, hf.2]; exact I.nil_ok ty g _ w hg'))
             exact (setq_ne E _ fun h => hb' h.1).trans (hn' i)
         · cases hn
       · cases hn
     · exact same h
   · exact same h
 case pick cc x y =>
   obtain ⟨x', y', hvs, h2⟩ := bi_some h; clear h; subst hvs; have h := h2; clear h2; (try dsimp only at h)
   obtain ⟨u, v, hu, hx, hy⟩ := all2_two hR
   split at h
   · rename_i b hb'
     cases h
     have hcb : b = β := hc (b, β) (by simp)
     have h1 := asB_R hb' hx
     cases β with
     | true =>
       simp [opersAt] at hu
       refine pure1 (u := v) ?_ hy rfl
       simp [execOp, hu.1, h1, asBool, hcb, hu.2]
     | false =>
       simp [opersAt] at hu
       refine pure1 (u := v) ?_ hy rfl
       simp [execOp, hu.1, h1, asBool, hcb, hu.2]
   · cases h
 case alloc t =>
   split at h
   · rename_i i hi
     cases hz : i.zero.cells.toList.all isCell with
     | false => rw [hz] at h; cases h
     | true =>
       rw [hz] at h; simp only [cond_true] at h
       obtain ⟨E', h1, h2, h3⟩ := newBlk_sound h hm hs (ofCs_R E _)
       refine wp_value (u := .pointer (some ⟨w.heap.size, 0, none⟩)) ?_ (hK E' _ _ h1 h2 h3)
       simp only [execOp, Instr.alloc, Sem.run_bind, run_zero hT hi, Result.andThen_ok, newVar, newRow, run_newObj, Sem.run_pure, Array.toArray_toList]
   · cases h
 case box t x =>
   obtain ⟨x', hvs, h2⟩ := un_some h; clear h; subst hvs; have h := h2; clear h2; (try dsimp only at h)
   obtain ⟨u, hu, hx⟩ := all2_one hR
   have hu : u = a.eval x := by simpa [opersAt, opersOf] using hu.symm
   split at h
   · rename_i cs hcs
     obtain ⟨ws, g1, g2, g3⟩ := hx.cells hm.cells hcs
     obtain ⟨E', h1, h2, h3⟩ := newBlk_sound h hm hs g2
     refine wp_value (u := .pointer (some ⟨w.heap.size, 0, none⟩)) ?_ (hK E' _ _ h1 h2 h3)
     simp only [execOp, Instr.box, Sem.run_bind, Result.andThen_ok, newVar, newRow, run_newObj, Sem.run_pure, <- hu, g1]
   · cases h
 case build t ps =>
   split at h
   · rename_i i hi
     split at h
     · rename_i fs hfs
       split at h
       · rename_i pl hpl
         split at h
         · rename_i cs hcs
           cases h
           have hlen : (ps.toList.map (·.1)).length = vs.length := by
             have := hR.length
             simp [opersAt, opersOf] at this
             simp [this]
           have hz1 : ((ps.toList.map (·.1)).zip vs).map (·.2) = vs := by rw [List.map_snd_zip]; omega
           have hz2 : ((ps.toList.map (·.1)).zip vs).map (·.1) = ps.toList.map (·.1) := by rw [List.map_fst_zip]; omega
           obtain ⟨ws, g1, g2⟩ := fill_R hm.cells _ _ ((opersAt β (.build t ps)).map a.eval) _ i.zero.cells.toList cs hcs (ofCs_R E _) (by rw [hz1]; exact hR)
           rw [hz2] at g1
           refine pure1 (u := .agg ws.toArray) ?_ ⟨ws, rfl, g2⟩ rfl
           have hp := run_places hT w hpl
           have hmm : (fs.mapM fun f => (do pure (f.offset, <- sizeOf f.type) : Sem (Nat × Nat))).run P w = .ok pl.toArray w := by
             rw [Array.mapM_eq_mapM_toList]
             simp only [Sem.run_map, hp, Result.andThen_ok]
           have hzip : (ps.map fun (x : Nat × Operand) => (x.1, a.eval x.2)).toList = (ps.toList.map (·.1)).zip ((opersAt β (.build t ps)).map a.eval) := by
             simp only [opersAt, opersOf, Array.toList_map, List.map_map]
             rw [List.zip_map']
             rfl
           simp only [execOp, Instr.build, Sem.run_bind, run_zero hT hi, run_und hT hi, Result.andThen_ok, hfs, hmm, hzip]
           have g1' : Instr.fill (fun x => pl.toArray[x]?) i.zero.cells ((ps.toList.map (·.1)).zip ((opersAt β (.build t ps)).map a.eval)) = some ws.toArray := by simpa using g1
           simp only [g1', Sem.run_pure, Result.andThen_ok]
         · cases h
       · cases h
     · rename_i m e he
       split at h
       · rename_i ei hei
         split at h
         · rename_i cs hcs
           cases h
           have hlen : (ps.toList.map (·.1)).length = vs.length := by
             have := hR.length
             simp [opersAt, opersOf] at this
             simp [this]
           have hz1 : ((ps.toList.map (·.1)).zip vs).map (·.2) = vs := by rw [List.map_snd_zip]; omega
           have hz2 : ((ps.toList.map (·.1)).zip vs).map (·.1) = ps.toList.map (·.1) := by rw [List.map_fst_zip]; omega
           obtain ⟨ws, g1, g2⟩ := fill_R hm.cells _ _ ((opersAt β (.build t ps)).map a.eval) _ i.zero.cells.toList cs hcs (ofCs_R E _) (by rw [hz1]; exact hR)
           rw [hz2] at g1
           refine pure1 (u := .agg ws.toArray) ?_ ⟨ws, rfl, g2⟩ rfl
           have hzip : (ps.map fun (x : Nat × Operand) => (x.1, a.eval x.2)).toList = (ps.toList.map (·.1)).zip ((opersAt β (.build t ps)).map a.eval) := by
             simp only [opersAt, opersOf, Array.toList_map, List.map_map]
             rw [List.zip_map']
             rfl
           have g1' : Instr.fill (fun x => some (x * ei.size, ei.size)) i.zero.cells ((ps.toList.map (·.1)).zip ((opersAt β (.build t ps)).map a.eval)) = some ws.toArray := by simpa using g1
           simp only [execOp, Instr.build, Sem.run_bind, run_zero hT hi, run_und hT hi, Result.andThen_ok, he, run_size hT hei, hzip, g1', Sem.run_pure]
         · cases h
       · cases h
     · cases h
   · cases h
 case slice t x lo hi mx =>
   have key : ∀ (l h' : Option (AV F)) (u : Value) (ul uh : Option Value) (x' : AV F), a.eval x = u -> lo.map a.eval = ul -> hi.map a.eval = uh -> mx = none -> x'.R E u -> ((l = none /\ ul = none) \/ ∃ y v, l = some y /\ ul = some v /\ y.R E v) ->
       ((h' = none /\ uh = none) \/ ∃ y v, h' = some y /\ uh = some v /\ y.R E v) -> sliceOf c t x' l h' = some out -> Oper.wpIn (Fr ro) 0 P { dst, op := .slice t x lo hi mx, type := ty, pos, after, guard } a w K Q := by
     intro l h' u ul uh x' hu hul huh hmx hx hl hh hs'
     subst hmx
     obtain ⟨E', r, g1, g2, g3, g4, g5⟩ := sliceOf_R hC hm hs' hx hl hh hc
     refine wp_value (u := r) (w' := w) ?_ (hK E' w r (g4 slot) g2 (by rw [g3]; exact g5))
     simp only [execOp, hu, hul, huh, Option.map_none, Sem.run_bind, g1, Result.andThen_ok, Sem.run_pure]
   split at h
   · rename_i x'
     obtain ⟨u, hu, hx⟩ := all2_one hR
     exact key none none u none none x' (by simpa [opersAt, opersOf] using hu) rfl rfl rfl hx (.inl ⟨rfl, rfl⟩) (.inl ⟨rfl, rfl⟩) h
   · rename_i ho x' h'
     obtain ⟨u, v, hu, hx, hy⟩ := all2_two hR
     obtain ⟨hu, hv'⟩ : a.eval x = u /\ a.eval ho = v := by simpa [opersAt, opersOf] using hu
     exact key none (some h') u none (some v) x' hu rfl (by simp [hv']) rfl hx (.inl ⟨rfl, rfl⟩) (.inr ⟨_, _, rfl, rfl, hy⟩) h
   · rename_i lo' x' l'
     obtain ⟨u, v, hu, hx, hy⟩ := all2_two hR
     obtain ⟨hu, hv'⟩ : a.eval x = u /\ a.eval lo' = v := by simpa [opersAt, opersOf] using hu
     exact key (some l') none u (some v) none x' hu (by simp [hv']) rfl rfl hx (.inr ⟨_, _, rfl, rfl, hy⟩) (.inl ⟨rfl, rfl⟩) h
   · rename_i lo' ho x' l' h'
     cases hR with
     | cons hx hR =>
       obtain ⟨v1, v2, hu, hy, hz⟩ := all2_two hR
       obtain ⟨e1, e2⟩ : a.eval lo' = v1 /\ a.eval ho = v2 := by simpa [opersAt, opersOf] using hu
       exact key (some l') (some h') _ (some v1) (some v2) x' rfl (by simp [e1]) (by simp [e2]) rfl hx (.inr ⟨_, _, rfl, rfl, hy⟩) (.inr ⟨_, _, rfl, rfl, hz⟩) h
   · cases h
 case index t x ix =>
   obtain ⟨x', y', hvs, h2⟩ := bi_some h; clear h; subst hvs; have h := h2; clear h2; (try dsimp only at h)
   obtain ⟨u, v, hu, hx, hy⟩ := all2_two hR
   obtain ⟨hxe, hve⟩ : a.eval x = u /\ a.eval ix = v := by simpa [opersAt, opersOf] using hu
   clear hu
   split at h
   · rename_i cs ik i
     split at h
     · rename_i ti hi
       split at h
       · rename_i n e he
         split at h
         · rename_i ei hei
           split at h
           · rename_i v' hv2
             cases h
             have h0 : 0 <= i := of_decide_eq_true (hc (decide (0 <= i), true) (by simp))
             have h1 : i < (n : Int) := of_decide_eq_true (hc (decide (i < (n : Int)), true) (by simp))
             obtain ⟨ws, rfl, g2⟩ := hx
             cases (hy : v = _)
             obtain ⟨r, q1, q2⟩ := part_R (P := P) hT hv2 g2 w
             refine pure1 (u := r) ?_ q2 rfl
             have hin : 0 <= i /\ i < (n : Int) := ⟨h0, h1⟩
             simp only [execOp, hxe, hve, Instr.index, asIntOf, Sem.run_bind, Sem.run_pure, Result.andThen_ok, run_und hT hi, he, if_pos hin, run_size hT hei, Sem.run_ite, q1]
           · cases h
         · cases h
       · cases h
     · cases h
   · rename_i s ik i
     split at h
     · rename_i ti hi
       split at h
       · rename_i he
         cases h
         have h0 : 0 <= i := of_decide_eq_true (hc (decide (0 <= i), true) (by simp))
         have h1 : i < (s.size : Int) := of_decide_eq_true (hc (decide (i < sLen s), true) (by simp))
         cases (hx : u = _)
         cases (hy : v = _)
         have hlt : i.toNat < s.size := by omega
         have hg : s[i.toNat]? = some (s[i.toNat]'hlt) := getElem?_pos s i.toNat hlt
         refine pure1 (u := .int .u8 (sAt s i)) ?_ rfl rfl
         simp only [execOp, hxe, hve, Instr.index, asIntOf, Sem.run_bind, Sem.run_pure, Result.andThen_ok, run_und hT hi, he, if_pos h0, hg, sAt]
       · cases h
     · cases h
   · cases h
 case buildSlice t n ps =>
   split at h
   · rename_i ti hi
     split at h
     · rename_i e he
       split at h
       · rename_i ei hei
         cases hz : Nat.ble (n * ei.size) 16777216 && Nat.blt 0 (n * ei.size) with
         | false => rw [hz] at h; cases h
         | true =>
           rw [hz] at h; simp only [cond_true] at h
           simp only [Bool.and_eq_true] at hz
           have z1 := Nat.le_of_ble_eq_true hz.1
           have z2 : 0 < n * ei.size := by rw [<- Nat.blt_eq]; exact hz.2
           split at h
           · rename_i cs hcs
             cases h
             have hlen : (ps.toList.map (·.1)).length = vs.length := by
               have := hR.length
               simp [opersAt, opersOf] at this
               simp [this]
             have hz1 : ((ps.toList.map (·.1)).zip vs).map (·.2) = vs := by rw [List.map_snd_zip]; omega
             have hz2 : ((ps.toList.map (·.1)).zip vs).map (·.1) = ps.toList.map (·.1) := by rw [List.map_fst_zip]; omega
             obtain ⟨ws, g1, g2⟩ := fill_R hm.cells _ _ ((opersAt β (.buildSlice t n ps)).map a.eval) _ ((List.range (n * ei.size)).map fun i => ei.zero.cells[i % ei.zero.cells.size]!) cs hcs (ofCs_R E _) (by rw [hz1]; exact hR)
             rw [hz2] at g1
             have hzip : (ps.map fun (x : Nat × Operand) => (x.1, a.eval x.2)).toList = (ps.toList.map (·.1)).zip ((opersAt β (.buildSlice t n ps)).map a.eval) := by
               simp only [opersAt, opersOf, Array.toList_map, List.map_map]
               rw [List.zip_map']
               rfl
             have hal := hm.alloc hs (blk := ⟨e, cs⟩) g2
             refine wp_value (u := .slice (some ⟨w.heap.size, 0, none⟩) n n) ?_ (hK _ _ _ (But.setm hs w.heap.size) ⟨w.heap.size, if_pos rfl, rfl⟩ hal)
             have hrange : (Array.range (n * ei.size)).map (fun i => ei.zero.cells[i % ei.zero.cells.size]!) = ((List.range (n * ei.size)).map fun i => ei.zero.cells[i % ei.zero.cells.size]!).toArray := by
               apply Array.ext'; simp
             have hn : ¬ n * ei.size > 2 ^ 24 := by omega
             have hn0 : ¬ n * ei.size = 0 := by omega
             simp only [execOp, Instr.buildSlice, Sem.run_bind, run_und hT hi, he, Result.andThen_ok, run_size hT hei, Sem.run_ite, if_neg hn, if_neg hn0, run_zero hT hei, Sem.run_pure, hzip, hrange, g1, newRow, run_newObj]
           · cases h
       · cases h
     · cases h
   · cases h
 case load t x =>
   obtain ⟨x', hvs, h2⟩ := un_some h; clear h; subst hvs; have h := h2; clear h2; (try dsimp only at h)
   obtain ⟨u, hu, hx⟩ := all2_one hR
   have hu : u = a.eval x := by simpa [opersAt, opersOf] using hu.symm
   split at h
   · rename_i f i k o
     split at h
     · rename_i ti hi
       split at h
       · rename_i n hn
         split at h
         · rename_i xs hxs
           cases hk : Nat.beq k (c.vesz f) with
           | false => rw [hk] at h; cases h
           | true =>
             rw [hk] at h; cases h
             have hk := Nat.eq_of_beq_eq_true hk
             rw [hC.vesz] at hk
             subst hk
             have h0 : 0 <= i := of_decide_eq_true (hc (decide (0 <= i), true) (by simp))
             have h1 : i < n := of_decide_eq_true (hc (decide (i < n), true) (by simp))
             obtain ⟨b, off, m, cap, g1, rfl⟩ := hx
             rw [hC.vlen] at hn
             obtain ⟨vs, z1, z2, z3⟩ := gets_R hC.vget hC.vesz hn h0 h1 (hm.fv _ _ g1) (E := E) _ o xs hxs
             have hr : w.rangeAt b (off + (i.toNat * I.vesz f + o)) vs := fun j v hj => (z3 j v hj).1
             cases ha : ti.aggB with
             | true =>
               rw [ha] at z1
               simp only [cond_true] at z1
               have hd : ti.desc.isRow = true := by
                 unfold TyI.aggB at ha
                 cases hd : ti.desc <;> rw [hd] at ha <;> first | rfl | cases ha
               have hrun := run_loadVar_mid (P := P) w b (off + (i.toNat * I.vesz f + o)) t vs ti.desc hr (hT t ti hi).2.2 hd (by rw [(hT t ti hi).1, z1])
               refine wp_value (u := .agg vs.toArray) (w' := w) ?_ (hK (E.addh (Holds I (Dt w0 E hp) w)) w _ (But.addh _ _ _) (by rw [ha]; exact ⟨vs, rfl, z2⟩) (hm.addh fun _ _ h => h))
               simp only [execOp, <- hu, Instr.loadAt, Instr.sureAddr, Sem.run_bind, Sem.run_pure, Result.andThen_ok, hrun]
             | false =>
               rw [ha] at z1 hxs
               simp only [cond_false] at z1 hxs
               match xs, vs, z1, z2, z3 with
               | [y], [v], _, z2, z3 =>
                 obtain ⟨v', hv', hy⟩ := all2_one z2
                 cases hv'
                 have hq := (z3 0 v rfl).1
                 refine wp_value (u := v) (w' := w) ?_ (hK (E.addh (Holds I (Dt w0 E hp) w)) w _ (But.addh _ _ _) (by rw [ha]; exact hy) (hm.addh fun _ _ h => h))
                 simp only [execOp, <- hu, Instr.loadAt, Instr.sureAddr, loadVar, Sem.run_bind, Sem.run_pure, Result.andThen_ok, run_agg hT hi, ha, Bool.false_eq_true, if_false, run_load]
                 simp only [Nat.add_zero] at hq
                 simp only [hq, Result.andThen_ok, Sem.run_pure]
               | [], _ :: _, _, z2, _ => cases z2
               | _ :: _ :: _, [_], _, z2, _ => cases z2 with | cons _ z2 => cases z2
         · cases h
       · cases h
     · cases h
   · rename_i b o
     obtain ⟨blk, hvs, h2⟩ := blk1_some h; clear h; subst hvs; have h := h2; clear h2; (try dsimp only at h)
     have hl := looks_one hb
     obtain ⟨k, g1, rfl⟩ := hx
     obtain ⟨k', ws, g1', g2, g3⟩ := hm.hp b blk hl (hm.plain hl g1)
     rw [g1] at g1'; cases g1'
     have hlen := g3.length
     split at h
     · rename_i i hi
       cases ha : i.aggB with
       | true =>
         rw [ha] at h; simp only [cond_true] at h
         cases hz : Nat.ble (o + i.size) blk.cs.length with
         | false => rw [hz] at h; cases h
         | true =>
           rw [hz] at h; cases h
           have hle := Nat.le_of_ble_eq_true hz
           refine pure1 (u := .agg ((ws.drop o).take i.size).toArray) ?_ ⟨_, rfl, g3.take_drop o i.size⟩ rfl
           have hrun := load_R (P := P) (o := o) hT hi g2 (fun _ => by omega) (fun e => by rw [ha] at e; cases e)
           simp only [execOp, <- hu, Sem.run_bind, hrun, ha, if_true, Result.andThen_ok, Sem.run_pure]
       | false =>
         rw [ha] at h; simp only [cond_false] at h
         split at h
         · rename_i y hy
           cases h
           obtain ⟨v, q1, q2⟩ := g3.get o y hy
           have hlt : o < ws.length := (List.getElem?_eq_some_iff.1 q1).1
           refine pure1 (u := v) ?_ q2 rfl
           have hrun := load_R (P := P) (o := o) hT hi g2 (fun e => by rw [ha] at e; cases e) (fun _ => hlt)
           simp only [execOp, <- hu, Sem.run_bind, hrun, ha, Bool.false_eq_true, if_false, Result.andThen_ok, Sem.run_pure]
           simp [List.getD, q1]
         · cases h
     · cases h
   · rename_i kk jj f i
     split at h
     · rename_i ti hi
       cases ha : ti.aggB with
       | true => rw [ha] at h; cases h
       | false =>
         rw [ha] at h; simp only [cond_false] at h
         split at h
         · rename_i n hn
           split at h
           · rename_i y hy
             cases h
             have h0 : 0 <= i := of_decide_eq_true (hc (decide (0 <= i), true) (by simp))
             have h1 : i < n := of_decide_eq_true (hc (decide (i < n), true) (by simp))
             obtain ⟨a', m, cap, g1, rfl⟩ := hx
             rw [hC.slen] at hn
             rw [hC.sget] at hy
             obtain ⟨v, q1, q2⟩ := I.sget_ok f n i y w a' m cap hn hy h0 h1 (hm.ext _ _ _ _ g1).1
             refine pure1 (u := v) ?_ (q1 E) rfl
             simp only [execOp, <- hu, Instr.loadAt, Instr.sureAddr, loadVar, Sem.run_bind, Sem.run_pure, Result.andThen_ok, run_agg hT hi, ha, Bool.false_eq_true, if_false, run_load, q2]
           · cases h
         · cases h
     · cases h
   · rename_i b sz e o
     obtain ⟨blk, hvs, h2⟩ := blk1_some h; clear h; subst hvs; have h := h2; clear h2; (try dsimp only at h)
     obtain ⟨r, g1, g2, g3⟩ := arrLoad_sound hC h hm (looks_one hb) hx hc
     refine pure1 (u := r) ?_ g2 g3
     simp only [execOp, <- hu, Sem.run_bind, g1, Result.andThen_ok, Sem.run_pure]
   · cases h
 case indexAddr t x ix =>
   obtain ⟨x', y', hvs, h2⟩ := bi_some h; clear h; subst hvs; have h := h2; clear h2; (try dsimp only at h)
   obtain ⟨u, v, hu, hx, hy⟩ := all2_two hR
   obtain ⟨hu, hv'⟩ : a.eval x = u /\ a.eval ix = v := by simpa [opersAt, opersOf] using hu
   split at h
   · rename_i f ik i
     split at h
     · rename_i ti hi
       split at h
       · rename_i e he
         split at h
         · rename_i ei hei
           cases hz : Nat.beq ei.size (c.vesz f) with
           | false => rw [hz] at h; cases h
           | true =>
             rw [hz] at h; simp only [cond_true] at h
             split at h
             · rename_i n hn
               cases h
               have h0 : 0 <= i := of_decide_eq_true (hc (decide (0 <= i), true) (by simp))
               have h1 : i < n := of_decide_eq_true (hc (decide (i < n), true) (by simp))
               have hsz := Nat.eq_of_beq_eq_true hz
               rw [hC.vlen] at hn
               obtain ⟨p, m, cap, q1, q2, q3, q4⟩ := I.vlen_ok f n _ w u hn (hm.fv _ _ hx)
               subst q1
               cases (hy : v = _)
               cases p with
               | none => have := q3 rfl; omega
               | some ad =>
                 obtain ⟨bk, off, pth⟩ := ad
                 have hpth := q4 _ rfl
                 simp only [Addr.mk.injEq, true_and] at hpth
                 subst hpth
                 refine pure1 (u := .pointer (some ⟨bk, off + i.toNat * c.vesz f, none⟩)) ?_ ⟨bk, off, m, cap, hx, by simp⟩ rfl
                 have hin : 0 <= i /\ i < (m : Int) := ⟨h0, by omega⟩
                 have hu2 : a.eval x = .slice (some ⟨bk, off, none⟩) m cap := by assumption
                 simp only [execOp, hu2, hv', Instr.indexAt, asIntOf, Sem.run_bind, Sem.run_pure, Result.andThen_ok, run_und hT hi, he, if_pos hin, run_size hT hei, hsz, Sem.run_ite, Addr.add_mid]
             · cases h
         · cases h
       · cases h
     · cases h
   · rename_i b o n cap ik i
     split at h
     · rename_i ti hi
       split at h
       · rename_i e he
         split at h
         · rename_i ei hei
           cases h
           have h0 : 0 <= i := of_decide_eq_true (hc (decide (0 <= i), true) (by simp))
           have h1 : i < (n : Int) := of_decide_eq_true (hc (decide (i < (n : Int)), true) (by simp))
           obtain ⟨k, g1, g2⟩ := hx
           have hu2 : a.eval x = .slice (some ⟨k, o, none⟩) n cap := hu.trans g2
           have hv2 : a.eval ix = .int ik i := hv'.trans hy
           refine pure1 (u := .pointer (some ⟨k, o + i.toNat * ei.size, none⟩)) ?_ ⟨k, g1, rfl⟩ rfl
           have hin : 0 <= i /\ i < (n : Int) := ⟨h0, h1⟩
           simp only [execOp, hu2, hv2, Instr.indexAt, asIntOf, Sem.run_bind, Sem.run_pure, Result.andThen_ok, run_und hT hi, he, if_pos hin, run_size hT hei, Sem.run_ite, Addr.add_mid]
         · cases h
       · cases h
     · cases h
   · rename_i b o ik i
     split at h
     · rename_i ti hi
       split at h
       · rename_i n e he
         split at h
         · rename_i ei hei
           cases h
           have h0 : 0 <= i := of_decide_eq_true (hc (decide (0 <= i), true) (by simp))
           have h1 : i < (n : Int) := of_decide_eq_true (hc (decide (i < (n : Int)), true) (by simp))
           obtain ⟨k, g1, g2⟩ := hx
           have hu2 : a.eval x = .pointer (some ⟨k, o, none⟩) := hu.trans g2
           have hv2 : a.eval ix = .int ik i := hv'.trans hy
           refine pure1 (u := .pointer (some ⟨k, o + i.toNat * ei.size, none⟩)) ?_ ⟨k, g1, rfl⟩ rfl
           have hin : 0 <= i /\ i < (n : Int) := ⟨h0, h1⟩
           simp only [execOp, hu2, hv2, Instr.indexAt, Instr.sureAddr, asIntOf, Sem.run_bind, Sem.run_pure, Result.andThen_ok, run_und hT hi, he, if_pos hin, run_size hT hei, Sem.run_ite, Addr.add_mid]
         · cases h
       · cases h
     · cases h
   · rename_i kk jj f ik i
     split at h
     · rename_i ti hi
       split at h
       · rename_i e he
         split at h
         · rename_i ei hei
           cases hz : Nat.beq ei.size 1 with
           | false => rw [hz] at h; cases h
           | true =>
             rw [hz] at h; simp only [cond_true] at h
             split at h
             · rename_i n hn
               cases h
               have h0 : 0 <= i := of_decide_eq_true (hc (decide (0 <= i), true) (by simp))
               have h1 : i < n := of_decide_eq_true (hc (decide (i < n), true) (by simp))
               obtain ⟨arr, g1, g2⟩ := hx
               rw [hC.slen] at hn
               obtain ⟨p, m, cap, q1, q2, q3⟩ := I.slen_ok f n w arr hn (hm.ext _ _ _ _ g1).1
               subst q1
               have hu2 : a.eval x = .slice p m cap := hu.trans (by simpa using g2 : Value.slice p m cap = u).symm
               cases p with
               | none => have := q3 rfl; omega
               | some ad =>
                 cases (hy : v = _)
                 refine pure1 (u := .pointer (some (ad.add i.toNat))) ?_ ⟨ad, m, cap, g1, rfl⟩ rfl
                 have hsz := Nat.eq_of_beq_eq_true hz
                 have hin : 0 <= i /\ i < (m : Int) := ⟨h0, by omega⟩
                 simp only [execOp, hu2, hv', Instr.indexAt, asIntOf, Sem.run_bind, Sem.run_pure, Result.andThen_ok, run_und hT hi, he, if_pos hin, run_size hT hei, hsz, Nat.mul_one, Sem.run_ite]
             · cases h
         · cases h
       · cases h
     · cases h
   · rename_i b sz off len cap ik i
     unfold arrAt at h
     split at h
     · rename_i ti hi
       split at h
       · rename_i e he
         split at h
         · rename_i ei hei
           cases hz : Nat.beq ei.size sz with
           | false => rw [hz] at h; cases h
           | true =>
             rw [hz] at h; cases h
             obtain rfl := Nat.eq_of_beq_eq_true hz
             have h0 : 0 <= i := of_decide_eq_true (hc (decide (0 <= i), true) (by simp))
             have h1 : i < len := of_decide_eq_true (hc (decide (i < len), true) (by simp))
             obtain ⟨k, n, c', g1, g2, g3, g4, g6, g5, e5⟩ := hx
             have hu2 := hu.trans e5
             have hv2 : a.eval ix = .int ik i := hv'.trans hy
             have e3 : (off + i).toNat = off.toNat + i.toNat := by omega
             refine pure1 (u := .pointer (some ⟨k, off.toNat * ei.size + i.toNat * ei.size, none⟩)) ?_ ⟨k, n, g1, by omega, by omega, by rw [e3, Nat.add_mul]; rfl⟩ rfl
             have hin : 0 <= i /\ i < ((len.toNat : Nat) : Int) := ⟨h0, by omega⟩
             simp only [execOp, hu2, hv2, Instr.indexAt, asIntOf, Sem.run_bind, Sem.run_pure, Result.andThen_ok, run_und hT hi, he, if_pos hin, run_size hT hei, Sem.run_ite, Addr.add_mid]
         · cases h
       · cases h
     · cases h
   · cases h
 case store t x y =>
   obtain ⟨x', y', hvs, h2⟩ := bi_some h; clear h; subst hvs; have h := h2; clear h2; (try dsimp only at h)
   obtain ⟨u, v, hu, hx, hy⟩ := all2_two hR
   obtain ⟨hu, hv'⟩ : a.eval x = u /\ a.eval y = v := by simpa [opersAt, opersOf] using hu
   split at h
   · rename_i b o
     obtain ⟨blk, hvs, h2⟩ := blk1_some h; clear h; subst hvs; have h := h2; clear h2; (try dsimp only at h)
     have hl := looks_one hb
     obtain ⟨k, g1, rfl⟩ := hx
     obtain ⟨k', ws, g1', g2, g3⟩ := hm.hp b blk hl (hm.plain hl g1)
     rw [g1] at g1'; cases g1'
     have hlen := g3.length
     split at h
     · rename_i i cs hi hcs
       cases hz : Nat.beq cs.length i.size && Nat.ble (o + cs.length) blk.cs.length && c.safe blk.ty with
       | false => rw [hz] at h; cases h
       | true =>
         rw [hz] at h; cases h
         simp only [Bool.and_eq_true] at hz
         have hz1 := Nat.eq_of_beq_eq_true hz.1.1
         have hz2 := Nat.le_of_ble_eq_true hz.1.2
         obtain ⟨us, q1, q2, q3⟩ := hy.cells hm.cells hcs
         have hl2 := q2.length
         have hrun := store_R (P := P) (o := o) hT hi g2 (u := v) q1 q3 (by omega) (by omega)
         refine wp_skipped (w' := w.setRow k (ws.take o ++ us ++ ws.drop (o + us.length)).toArray) ?_ (hK E _ undef (But.refl slot E) rfl ?_)
         · simp only [execOp, hu, hv', Sem.run_bind, hrun, Result.andThen_ok, Sem.run_pure]
         · refine hm.write hl g1 (hC.safe _ hz.2) (vs := ws.take o ++ us ++ ws.drop (o + us.length)) ?_ rfl rfl rfl (setRow_size _ _ _) (fun j hj => setRow_other _ _ _ _ hj) (setRow_heap _ _ _ _ _ _ g2)
           rw [<- hl2]
           exact ((g3.take o).append q2).append (g3.drop _)
     · cases h
   · rename_i b sz e o
     obtain ⟨blk, hvs, h2⟩ := blk1_some h; clear h; subst hvs; have h := h2; clear h2; (try dsimp only at h)
     obtain ⟨w', g1, g2, g3⟩ := arrStore_sound hC h hm (looks_one hb) hx hy hc
     refine wp_skipped (w' := w') ?_ (hK E _ undef (But.refl slot E) g2 g3)
     simp only [execOp, hu, hv', Sem.run_bind, g1, Result.andThen_ok, Sem.run_pure]
   · cases h
 case makeSlice t x y =>
   obtain ⟨x', y', hvs, h2⟩ := bi_some h; clear h; subst hvs; have h := h2; clear h2; (try dsimp only at h)
   obtain ⟨u, v, hu, hx, hy⟩ := all2_two hR
   obtain ⟨hu, hv'⟩ : a.eval x = u /\ a.eval y = v := by simpa [opersAt, opersOf] using hu
   obtain ⟨E', r, w', g1, g2, g3, g4⟩ := make_sound hC h hm hs hx hy hc
   refine wp_value (u := r) (w' := w') ?_ (hK E' _ _ g2 g3 g4)
   simp only [execOp, hu, hv', Sem.run_bind, g1, Result.andThen_ok, Sem.run_pure]
 case makeMap t r =>
   split at h
   · rename_i hvs
     obtain ⟨_, E', g2, g3, g4⟩ := mkMap_sound hC h hm hs
     exact wp_value (u := .map (some w.heap.size)) (w' := { w with heap := w.heap.push (.map #[] 0) }) (by simp [execOp, Instr.makeMap, newObj, Sem.run]) (hK E' _ _ g2 g3 g4)
   · rename_i x q n
     obtain ⟨⟨kt, vt, hu⟩, E', g2, g3, g4⟩ := mkMap_sound hC h hm hs
     obtain ⟨u, hu2, hx⟩ := all2_one hR
     have hu2 : a.eval x = u := by simpa [opersAt, opersOf] using hu2
     cases (hx : u = _)
     exact wp_value (u := .map (some w.heap.size)) (w' := { w with heap := w.heap.push (.map #[] 0) }) (by simp [execOp, Instr.makeMap, newObj, Sem.run, hu2, asInt, asIntOf, run_underlying hu, Result.andThen]) (hK E' _ _ g2 g3 g4)
   · cases h
 case lookup t x y ok =>
   obtain ⟨x', y', hvs, h2⟩ := bi_some h; clear h; subst hvs; have h := h2; clear h2; (try dsimp only at h)
   obtain ⟨u, v, hu, hx, hy⟩ := all2_two hR
   obtain ⟨hu, hv'⟩ : a.eval x = u /\ a.eval y = v := by simpa [opersAt, opersOf] using hu
   split at h
   · rename_i b
     obtain ⟨blk, hvs, h2⟩ := blk1_some h; clear h; subst hvs; have h := h2; clear h2; (try dsimp only at h)
     obtain ⟨r, g1, g2, g3⟩ := mapLook_sound hC h hm (looks_one hb) hx hy
     refine pure1 (u := r) ?_ g2 g3
     simp only [execOp, hu, hv', Sem.run_bind, g1, Result.andThen_ok, Sem.run_pure]
   · cases h
 case mapUpdate t x y z =>
   obtain ⟨x', y', z', hvs, h2⟩ := tri_some h; clear h; subst hvs; have h := h2; clear h2; (try dsimp only at h)
   obtain ⟨u, v, q, hu, hx, hy, hz⟩ := all2_three hR
   obtain ⟨hu, hv', hq⟩ : a.eval x = u /\ a.eval y = v /\ a.eval z = q := by simpa [opersAt, opersOf] using hu
   split at h
   · rename_i b
     obtain ⟨blk, hvs, h2⟩ := blk1_some h; clear h; subst hvs; have h := h2; clear h2; (try dsimp only at h)
     obtain ⟨w', g1, g2, g3⟩ := mapPut_sound hC h hm (looks_one hb) hx hy hz
     refine wp_skipped (w' := w') ?_ (hK E _ undef (But.refl slot E) g2 g3)
     simp only [execOp, hu, hv', hq, Sem.run_bind, g1, Result.andThen_ok, Sem.run_pure]
   · cases h
 case insert t x y z =>
   obtain ⟨x', y', z', hvs, h2⟩ := tri_some h; clear h; subst hvs; have h := h2; clear h2; (try dsimp only at h)
   obtain ⟨u, v, q, hu, hx, hy, hz⟩ := all2_three hR
   obtain ⟨hu, hv', hq⟩ : a.eval x = u /\ a.eval y = v /\ a.eval z = q := by simpa [opersAt, opersOf] using hu
   split at h
   · rename_i b
     obtain ⟨blk, hvs, h2⟩ := blk1_some h; clear h; subst hvs; have h := h2; clear h2; (try dsimp only at h)
     obtain ⟨w', g1, g2, g3⟩ := mapPut_sound hC h hm (looks_one hb) hx hy hz
     refine wp_skipped (w' := w') ?_ (hK E _ undef (But.refl slot E) g2 g3)
     simp only [execOp, hu, hv', hq, Sem.run_bind, g1, Result.andThen_ok, Sem.run_pure]
   · cases h
 case binOp op t x y yt =>
   obtain ⟨x', y', hvs, h2⟩ := bi_some h; clear h; subst hvs; have h := h2; clear h2; (try dsimp only at h)
   obtain ⟨u, v, hu, hx, hy⟩ := all2_two hR
   obtain ⟨hu, hv'⟩ : a.eval x = u /\ a.eval y = v := by simpa [opersAt, opersOf] using hu
   obtain ⟨r, g1, g2, g3⟩ := bin_R hT hC.eqs h hc hx hy x y w (fun f b g u hd hf => by
     rw [hC.deref] at hd
     rcases I.deref_ok f b g _ w u hd (hm.fv f u hf) with h | ⟨h1, k, off, h2, _⟩
     · exact .inl h
     · exact .inr ⟨h1, _, h2⟩)
   refine pure1 (u := r) ?_ g2 g3
   simp only [execOp, hu, hv', Sem.run_bind (x := (do eqGuard op t x y u v; binOp op t u v : Sem Value)), g1, Result.andThen_ok, Sem.run_pure]
 case nilCheck x =>
   obtain ⟨x', hvs, h2⟩ := un_some h; clear h; subst hvs; have h := h2; clear h2; (try dsimp only at h)
   obtain ⟨u, hu, hx⟩ := all2_one hR
   have hu : u = a.eval x := by simpa [opersAt, opersOf] using hu.symm
   split at h
   · rename_i b o
     cases h
     have hx2 := hx
     obtain ⟨k, g1, g2⟩ := hx2
     refine pure1 (u := u) ?_ hx rfl
     simp [execOp, <- hu, g2]
   · rename_i f caps
     cases h
     have hx2 := hx
     obtain ⟨us, g1, g2⟩ := hx2
     refine pure1 (u := u) ?_ hx rfl
     simp [execOp, <- hu, g1]
   · rename_i g
     split at h
     · rename_i b g' hd
       cases h
       have hb : b = false := hc (b, false) (by simp)
       rw [hC.deref] at hd
       rcases I.deref_ok g b g' _ w u hd (hm.fv g u hx) with ⟨q, _⟩ | ⟨_, k, off, q, _⟩
       · rw [hb] at q; cases q
       · refine pure1 (u := u) ?_ hx rfl
         simp [execOp, <- hu, q]
     · cases h
   · cases h
 case unOp op t x =>
   obtain ⟨x', hvs, h2⟩ := un_some h; clear h; subst hvs; have h := h2; clear h2; (try dsimp only at h)
   obtain ⟨u, hu, hx⟩ := all2_one hR
   have hu : u = a.eval x := by simpa [opersAt, opersOf] using hu.symm
   obtain ⟨r, g1, g2, g3⟩ := unary_R (P := P) h hx w
   refine pure1 (u := r) ?_ g2 g3
   simp only [execOp, <- hu, Sem.run_bind, g1, Result.andThen_ok, Sem.run_pure]
 case convert s d x =>
   obtain ⟨x', hvs, h2⟩ := un_some h; clear h; subst hvs; have h := h2; clear h2; (try dsimp only at h)
   obtain ⟨u, hu, hx⟩ := all2_one hR
   have hu : u = a.eval x := by simpa [opersAt, opersOf] using hu.symm
   obtain ⟨r, g1, g2, g3⟩ := conv_R hT h hx w
   refine pure1 (u := r) ?_ g2 g3
   simp only [execOp, <- hu, Sem.run_bind, g1, Result.andThen_ok, Sem.run_pure]
 case makeFunc fn first cs =>
   split at h
   · rename_i f
     cases hz : first.toList.isEmpty with
     | false => rw [hz] at h; cases h
     | true =>
       rw [hz] at h; simp only [cond_true] at h
       split at h
       · rename_i caps hcaps
         cases h
         have hf : first = #[] := by simpa using hz
         have := mapM_ptr hcaps hR
         refine pure1 (u := .func (.func f) #[] (cs.map a.eval)) ?_ ⟨cs.toList.map a.eval, by congr 1; apply Array.ext'; simp, by simpa [opersAt, opersOf] using this⟩ rfl
         simp [execOp, Instr.makeFunc, hf]
       · cases h
   · cases h
 case fieldAddr t x f =>
   obtain ⟨x', hvs, h2⟩ := un_some h; clear h; subst hvs; have h := h2; clear h2; (try dsimp only at h)
   obtain ⟨u, hu, hx⟩ := all2_one hR
   have hu : u = a.eval x := by simpa [opersAt, opersOf] using hu.symm
   split at h
   · rename_i g i k o
     split at h
     · rename_i fl hfl
       split at h
       · rename_i ti hi
         cases hz : Nat.beq ti.size 0 with
         | true => rw [hz] at h; cases h
         | false =>
           rw [hz] at h; cases h
           obtain ⟨j, fs, h1, h2, h3⟩ := field_of hfl
           obtain ⟨b, off, n, cap, g1, rfl⟩ := hx
           refine pure1 (u := .pointer (some ⟨b, off + (i.toNat * k + o) + fl.offset, none⟩)) ?_ ⟨b, off, n, cap, g1, by rw [show off + (i.toNat * k + o) + fl.offset = off + (i.toNat * k + (o + fl.offset)) by omega]⟩ rfl
           have hne : ¬ ti.size = 0 := fun e => by rw [e] at hz; cases hz
           simp only [execOp, <- hu, Instr.fieldAt, Instr.sureAddr, fieldPlace, Sem.run_bind, run_und hT h1, Result.andThen_ok, h2, h3, Sem.run_pure, run_size hT hi, Sem.run_ite, if_neg hne, Addr.add_mid]
       · cases h
     · cases h
   · rename_i b o
     split at h
     · rename_i fl hfl
       split at h
       · rename_i i hi
         cases hz : Nat.beq i.size 0 with
         | true => rw [hz] at h; cases h
         | false =>
           rw [hz] at h; cases h
           obtain ⟨j, fs, h1, h2, h3⟩ := field_of hfl
           obtain ⟨k, g1, rfl⟩ := hx
           refine pure1 (u := .pointer (some ⟨k, o + fl.offset, none⟩)) ?_ ⟨k, g1, rfl⟩ rfl
           have hne : ¬ i.size = 0 := fun e => by rw [e] at hz; cases hz
           simp only [execOp, <- hu, Instr.fieldAt, Instr.sureAddr, fieldPlace, Sem.run_bind, run_und hT h1, Result.andThen_ok, h2, h3, Sem.run_pure, run_size hT hi, Sem.run_ite, if_neg hne, Addr.add_mid]
       · cases h
     · cases h
   · rename_i b sz e o
     split at h
     · rename_i fl hfl
       split at h
       · rename_i i hi
         cases hz : Nat.beq i.size 0 with
         | true => rw [hz] at h; cases h
         | false =>
           rw [hz] at h; cases h
           obtain ⟨j, fs, h1, h2, h3⟩ := field_of hfl
           obtain ⟨k, n, g1, g2, g3, rfl⟩ := hx
           refine pure1 (u := .pointer (some ⟨k, e.toNat * sz + o + fl.offset, none⟩)) ?_ ⟨k, n, g1, g2, g3, by rw [Nat.add_assoc]⟩ rfl
           have hne : ¬ i.size = 0 := fun e => by rw [e] at hz; cases hz
           simp only [execOp, <- hu, Instr.fieldAt, Instr.sureAddr, fieldPlace, Sem.run_bind, run_und hT h1, Result.andThen_ok, h2, h3, Sem.run_pure, run_size hT hi, Sem.run_ite, if_neg hne, Addr.add_mid]
       · cases h
     · cases h
   · rename_i g
     split at h
     · rename_i b g' hd
       split at h
       · rename_i fl hfl
         split at h
         · rename_i i hi
           cases hz : Nat.beq i.size 0 with
           | true => rw [hz] at h; cases h
           | false =>
             rw [hz] at h; cases h
             have hb : b = false := hc (b, false) (by simp)
             rw [hC.deref] at hd
             rcases I.deref_ok g b g' _ w u hd (hm.fv g u hx) with ⟨q, _⟩ | ⟨_, k, off, q, n, cap, hg⟩
             · rw [hb] at q; cases q
             · subst q
               obtain ⟨j, fs, h1, h2, h3⟩ := field_of hfl
               have hne : ¬ i.size = 0 := fun e => by rw [e] at hz; cases hz
               refine wp_value (u := .pointer (some ⟨k, off + fl.offset, none⟩)) (w' := w) ?_ (hK (E.addh (Holds I (Dt w0 E hp) w)) w _ (But.addh _ _ _) ⟨k, off, n, cap, Or.inr hg, by simp⟩ (hm.addh fun _ _ h => h))
               simp only [execOp, <- hu, Instr.fieldAt, Instr.sureAddr, fieldPlace, Sem.run_bind, run_und hT h1, Result.andThen_ok, h2, h3, Sem.run_pure, run_size hT hi, Sem.run_ite, if_neg hne, Addr.add_mid]
         · cases h
       · cases h
     · cases h
   · cases h
 case field t x f =>
   obtain ⟨x', hvs, h2⟩ := un_some h; clear h; subst hvs; have h := h2; clear h2; (try dsimp only at h)
   obtain ⟨u, hu, hx⟩ := all2_one hR
   have hu : u = a.eval x := by simpa [opersAt, opersOf] using hu.symm
   split at h
   · rename_i cs
     split at h
     · rename_i fl hfl
       split at h
       · rename_i v hv'
         cases h
         obtain ⟨j, fs, h1, h2, h3⟩ := field_of hfl
         obtain ⟨ws, rfl, g2⟩ := hx
         obtain ⟨r, q1, q2⟩ := part_R (P := P) hT hv' g2 w
         refine pure1 (u := r) ?_ q2 rfl
         simp only [execOp, <- hu, Instr.field, Sem.run_bind, run_und hT h1, Result.andThen_ok, h2, h3, asAgg, Sem.run_pure, q1]
       · cases h
     · cases h
   · cases h
 case extract x i =>
   obtain ⟨x', hvs, h2⟩ := un_some h; clear h; subst hvs; have h := h2; clear h2; (try dsimp only at h)
   obtain ⟨u, hu, hx⟩ := all2_one hR
   have hu : u = a.eval x := by simpa [opersAt, opersOf] using hu.symm
   split at h
   · rename_i l
     split at h
     · rename_i v hv'
       cases h
       obtain ⟨ws, rfl, g2⟩ := hx
       obtain ⟨r, q1, q2⟩ := g2.get i v hv'
       refine pure1 (u := r) ?_ q2 rfl
       simp [execOp, <- hu, Instr.extract, q1]
     · cases h
   · cases h
 case call k =>
   split at h
   · rename_i f hf
     split at h
     · rename_i sp args hsp
       have hbl : blocksOf c (.call k) vs = sp.blocks args := by simp only [blocksOf, hf, hsp]
       rw [hbl] at hb
       unfold callSpec at hsp
       split at hsp
       · rename_i fi caps args'
         split at hsp
         · rename_i sp' hL
           cases hsp
           have hops : opersAt β (.call k) = f :: k.args.toList := by simp only [opersAt, opersOf, hf]
           have hR' : All2 (AV.R E) (.w (.one (.fnc fi caps)) :: args') (a.eval f :: k.args.toList.map a.eval) := by simpa [hops] using hR
           cases hR' with
           | cons hfv hargs =>
             obtain ⟨us, hfe, hus⟩ := hfv
             rcases hC.lib _ _ hL with ⟨hok, hcf⟩ | hdir
             rotate_left
             · obtain ⟨hw, u, h1, h2⟩ := hdir E w slot _ _ bs out h (hargs.append (caps_R hus)) hc
               have hrun : (execOp a.eval { dst, op := .call k, type := ty, pos, after, guard }).run P w = .ok (.value u) w := by
                 simp only [execOp, resolve, hf, hfe, Deferred.ofValue, Sem.run_bind, Sem.run_pure, Result.andThen_ok, invoke]
                 have e1 : (k.args.map a.eval ++ us.toArray) = (k.args.toList.map a.eval ++ us).toArray := by apply Array.ext'; simp
                 first | (rw [e1]; exact h1) | (simp only [Array.empty_append, e1, h1]) | (simpa using h1)
               exact wp_value hrun (hK E w u (But.refl _ _) h2 (by rw [hw]; exact hm))
             · have hcall := hok E hp w slot _ _ bs out w0.out h (hargs.append (caps_R hus)) hb hm.here hs hc
               have hrun : (execOp a.eval { dst, op := .call k, type := ty, pos, after, guard }).run P w = .ok (.enter fi (k.args.toList.map a.eval ++ us).toArray) w := by
                 simp only [execOp, resolve, hf, hfe, Deferred.ofValue, Sem.run_bind, Sem.run_pure, Result.andThen_ok, invoke, hcf]
                 simp
               refine wp_enter hrun hcall ?_
               rintro e w' ⟨E', u, h1, rfl, h3, h4⟩
               exact ⟨u, rfl, hK E' w' u h1 h3 (hm.trans h4)⟩
         · cases hsp
       · cases hsp
     · cases h
   · rename_i hf
     have hops : opersAt β (.call k) = k.args.toList := by simp only [opersAt, opersOf, hf]
     rw [hops] at hR
     have hbl : blocksOf c (.call k) vs = appBlocks vs := by simp only [blocksOf, hf]
     rw [hbl] at hb
     obtain ⟨E', u, w', h1, h2, h3, h4⟩ := appN_sound hC h hm hR hb hs hc ty
     refine wp_value (u := u) (w' := w') ?_ (hK E' w' u h2 h3 h4)
     have e1 : (k.args.toList.map a.eval).toArray = k.args.map a.eval := by apply Array.ext'; simp
     rw [e1, Array.toArray_toList] at h1
     simp only [execOp, resolve, hf, Sem.run_bind, Sem.run_pure, Result.andThen_ok, invoke, builtin, h1]
   · rename_i hf
     have hops : opersAt β (.call k) = k.args.toList := by simp only [opersAt, opersOf, hf]
     rw [hops] at hR
     have hbl : blocksOf c (.call k) vs = cpBlocks vs := by simp only [blocksOf, hf]
     rw [hbl] at hb
     obtain ⟨u, w', h1, h2, h3⟩ := copy_sound hC h hm hR hb hc ty
     refine wp_value (u := u) (w' := w') ?_ (hK E w' u (But.refl _ _) h2 h3)
     have e1 : (k.args.toList.map a.eval).toArray = k.args.map a.eval := by apply Array.ext'; simp
     rw [e1, Array.toArray_toList] at h1
     simp only [execOp, resolve, hf, Sem.run_bind, Sem.run_pure, Result.andThen_ok, invoke, builtin, h1]
   · rename_i hf
     split at h
     · rename_i x r
       split at h
       · rename_i v hv'
         cases h
         have hops : opersAt β (.call k) = k.args.toList := by simp only [opersAt, opersOf, hf]
         rw [hops] at hR
         generalize hL : k.args.toList.map a.eval = us at hR
         cases hR with
         | cons hx hr =>
           rename_i u us
           obtain ⟨q, q1, q2⟩ := minmaxs_R (P := P) w hv' hx hr
           refine pure1 (u := q) ?_ q2 rfl
           simp only [Bool.false_eq_true, if_false] at q1
           have hL' : (k.args.map a.eval).toList = u :: us := by simpa using hL
           simp only [execOp, resolve, hf, Sem.run_bind, Sem.run_pure, Result.andThen_ok, invoke, builtin, Builtin.min_, hL', q1]
       · cases h
     · cases h
   · rename_i hf
     obtain ⟨x', hvs, h2⟩ := un_some h; clear h; subst hvs; have h := h2; clear h2; (try dsimp only at h)
     have hops : opersAt β (.call k) = k.args.toList := by simp only [opersAt, opersOf, hf]
     rw [hops] at hR
     obtain ⟨u, hu, hx⟩ := all2_one hR
     split at h
     · rename_i f
       split at h
       · rename_i t rest hat
         split at h
         · rename_i ti hi
           split at h
           · rename_i e he
             split at h
             · rename_i n hn
               cases h
               rw [hC.vlen] at hn
               obtain ⟨p, m, cap, q1, q2, _, _⟩ := I.vlen_ok f n _ w u hn (hm.fv _ _ hx)
               subst q1
               refine pure1 (u := .int .i64 n) ?_ rfl rfl
               have h1 : (k.args.map a.eval)[0]? = some (.slice p m cap) := by
                 have : (k.args.map a.eval).toList = [.slice p m cap] := by simpa using hu
                 rw [<- Array.getElem?_toList, this]; rfl
               have h2 : k.argTypes[0]? = some t := by rw [<- Array.getElem?_toList, hat]; rfl
               simp only [execOp, resolve, hf, Sem.run_bind, Sem.run_pure, Result.andThen_ok, invoke, builtin, Builtin.len_, h1, h2, run_und hT hi, he, goInt, <- q2]
             · cases h
           · cases h
         · cases h
       · cases h
     · rename_i b o n cap
       split at h
       · rename_i t rest hat
         split at h
         · rename_i ti hi
           split at h
           · rename_i e he
             cases h
             obtain ⟨m, g1, g2⟩ := hx
             subst g2
             refine pure1 (u := .int .i64 (n : Int)) ?_ rfl rfl
             have h1 : (k.args.map a.eval)[0]? = some (.slice (some ⟨m, o, none⟩) n cap) := by
               have : (k.args.map a.eval).toList = [.slice (some ⟨m, o, none⟩) n cap] := by simpa using hu
               rw [<- Array.getElem?_toList, this]; rfl
             have h2 : k.argTypes[0]? = some t := by rw [<- Array.getElem?_toList, hat]; rfl
             simp only [execOp, resolve, hf, Sem.run_bind, Sem.run_pure, Result.andThen_ok, invoke, builtin, Builtin.len_, h1, h2, run_und hT hi, he, goInt]
           · cases h
         · cases h
       · cases h
     · rename_i kk jj f
       split at h
       · rename_i t rest hat
         split at h
         · rename_i ti hi
           split at h
           · rename_i e he
             split at h
             · rename_i n hn
               cases h
               obtain ⟨arr, g1, g2⟩ := hx
               rw [hC.slen] at hn
               obtain ⟨p, m, cap, q1, q2, q3⟩ := I.slen_ok f n w arr hn (hm.ext _ _ _ _ g1).1
               subst q1
               cases (by simpa using g2 : Value.slice p m cap = u)
               refine pure1 (u := .int .i64 n) ?_ rfl rfl
               have h1 : (k.args.map a.eval)[0]? = some (.slice p m cap) := by
                 have : (k.args.map a.eval).toList = [.slice p m cap] := by simpa using hu
                 rw [<- Array.getElem?_toList, this]; rfl
               have h2 : k.argTypes[0]? = some t := by rw [<- Array.getElem?_toList, hat]; rfl
               simp only [execOp, resolve, hf, Sem.run_bind, Sem.run_pure, Result.andThen_ok, invoke, builtin, Builtin.len_, h1, h2, run_und hT hi, he, goInt, <- q2]
             · cases h
           · cases h
         · cases h
       · cases h
     · rename_i b
       obtain ⟨blk, hvs, h2⟩ := blk1_some h; clear h; subst hvs; have h := h2; clear h2; (try dsimp only at h)
       obtain ⟨tb, cs⟩ := blk
       unfold mapLen at h
       split at h
       · rename_i kk vk D t rest hcs hat
         dsimp only at hcs
         subst hcs
         split at h
         · rename_i ti hi
           split at h
           · rename_i kt vt he
             cases h
             have hb' : looks hp [b] = some [⟨tb, [.mp kk vk D]⟩] := by simpa [blocksOf, hf] using hb
             obtain ⟨q, q1, rfl⟩ := hx
             obtain ⟨es, cl, g1, g2, g3⟩ := hm.map (looks_one hb') q1
             refine pure1 (u := .int .i64 (D.length : Int)) ?_ rfl rfl
             have h1 : (k.args.map a.eval)[0]? = some (.map (some q)) := by
               have : (k.args.map a.eval).toList = [.map (some q)] := by simpa using hu
               rw [<- Array.getElem?_toList, this]; rfl
             have h2 : k.argTypes[0]? = some t := by rw [<- Array.getElem?_toList, hat]; rfl
             have h3 : es.size = D.length := by rw [<- g2]; simp
             simp only [execOp, resolve, hf, Sem.run_bind, Sem.run_pure, Result.andThen_ok, invoke, builtin, Builtin.len_, h1, h2, run_und hT hi, he, goInt, Go.MapKept.run_getObj_map g1, h3]
           · cases h
         · cases h
       · cases h
     · rename_i b sz off n cap
       split at h
       · rename_i t rest hat
         split at h
         · rename_i ti hi
           split at h
           · rename_i e he
             cases h
             obtain ⟨m, q, c', g1, g2, g3, g4, g6, g5, rfl⟩ := hx
             refine pure1 (u := .int .i64 n) ?_ rfl rfl
             have h1 : (k.args.map a.eval)[0]? = some (.slice (some ⟨m, off.toNat * sz, none⟩) n.toNat c') := by
               have : (k.args.map a.eval).toList = [.slice (some ⟨m, off.toNat * sz, none⟩) n.toNat c'] := by simpa using hu
               rw [<- Array.getElem?_toList, this]; rfl
             have h2 : k.argTypes[0]? = some t := by rw [<- Array.getElem?_toList, hat]; rfl
             simp only [execOp, resolve, hf, Sem.run_bind, Sem.run_pure, Result.andThen_ok, invoke, builtin, Builtin.len_, h1, h2, run_und hT hi, he, goInt, Int.toNat_of_nonneg g3]
           · cases h
         · cases h
       · cases h
     · split at h
       · rename_i t rest hat
         split at h
         · rename_i ti hi
           split at h
           · rename_i e he
             cases h
             cases (hx : u = _)
             refine pure1 (u := .int .i64 0) ?_ rfl rfl
             have h1 : (k.args.map a.eval)[0]? = some (.slice none 0 0) := by
               have : (k.args.map a.eval).toList = [.slice none 0 0] := by simpa using hu
               rw [<- Array.getElem?_toList, this]; rfl
             have h2 : k.argTypes[0]? = some t := by rw [<- Array.getElem?_toList, hat]; rfl
             simp only [execOp, resolve, hf, Sem.run_bind, Sem.run_pure, Result.andThen_ok, invoke, builtin, Builtin.len_, h1, h2, run_und hT hi, he, goInt]
             rfl
           · cases h
         · cases h
       · cases h
     · rename_i s
       split at h
       · rename_i t rest hat
         split at h
         · rename_i ti hi
           split at h
           · rename_i he
             cases h
             cases (hx : u = _)
             refine pure1 (u := .int .i64 (sLen s)) ?_ rfl rfl
             have h1 : (k.args.map a.eval)[0]? = some (.string s) := by
               have : (k.args.map a.eval).toList = [.string s] := by simpa using hu
               rw [<- Array.getElem?_toList, this]; rfl
             have h2 : k.argTypes[0]? = some t := by rw [<- Array.getElem?_toList, hat]; rfl
             simp only [execOp, resolve, hf, Sem.run_bind, Sem.run_pure, Result.andThen_ok, invoke, builtin, Builtin.len_, h1, h2, run_und hT hi, he, goInt]
             rfl
           · cases h
         · cases h
       · cases h
     · cases h
   · rename_i hf
     split at h
     · rename_i x r
       split at h
       · rename_i v hv'
         cases h
         have hops : opersAt β (.call k) = k.args.toList := by simp only [opersAt, opersOf, hf]
         rw [hops] at hR
         generalize hL : k.args.toList.map a.eval = us at hR
         cases hR with
         | cons hx hr =>
           rename_i u us
           obtain ⟨q, q1, q2⟩ := minmaxs_R (P := P) w hv' hx hr
           refine pure1 (u := q) ?_ q2 rfl
           simp only [if_true] at q1
           have hL' : (k.args.map a.eval).toList = u :: us := by simpa using hL
           simp only [execOp, resolve, hf, Sem.run_bind, Sem.run_pure, Result.andThen_ok, invoke, builtin, Builtin.max_, hL', q1]
       · cases h
     · cases h
   · cases h
end Go.Proofs.YtmhhdedekblbnaaGreat.Ev
