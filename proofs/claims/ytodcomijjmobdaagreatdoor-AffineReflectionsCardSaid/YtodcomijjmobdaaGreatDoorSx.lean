/- A symbolic run of code without loops: what a body does, computed; one theorem takes the place of a walk. -/
import Derived.Test.YtodcomijjmobdaaGreatDoorN2
import Derived.Orders
import Derived.ChangeKeysEq
set_option linter.unusedVariables false
set_option linter.unusedSimpArgs false
namespace Go.Proofs.YtodcomijjmobdaaGreatDoor.SX
open Go.RowKit

/-! Symbolic values: cells, values, results. -/
inductive SP where
  | at (i : Nat)
  | lit (v : Value)
  | ptr (b o : Nat)
  | slc (b o len cap : Nat)
inductive SC where
  | p (x : SP)
  | fn (f : FuncId) (caps : List SP)
inductive S1 where
  | c (x : SC)
  | agg (l : List SC)
inductive SV where
  | one (x : S1)
  | tup (l : List S1)

/-! Words that keep the lists of atoms short. -/
@[reducible] def SC.pa (i : Nat) : SC := .p (.at i)
@[reducible] def S1.ca (i : Nat) : S1 := .c (.p (.at i))
def rg : Nat → Nat → List SC
  | _, 0 => []
  | i, n + 1 => .p (.at i) :: rg (i + 1) n
@[reducible] def S1.ga (i n : Nat) : S1 := .agg (rg i n)
abbrev Env := Nat → Value
section
variable (γ : Nat → Nat) (ρ : Env)
def SP.den : SP → Value
  | .at i => ρ i
  | .lit v => v
  | .ptr b o => .pointer (some ⟨γ b, o, none⟩)
  | .slc b o n c => .slice (some ⟨γ b, o, none⟩) n c
def SC.den : SC → Value
  | .p x => x.den γ ρ
  | .fn f l => .func (.func f) #[] (l.map (SP.den γ ρ)).toArray
def S1.den : S1 → Value
  | .c x => x.den γ ρ
  | .agg l => .agg (l.map (SC.den γ ρ)).toArray
def SV.den : SV → Value
  | .one x => x.den γ ρ
  | .tup l => .tuple (l.map (S1.den γ ρ)).toArray
end

/-- Which box lies where; a box that is not there yet lies nowhere. -/
abbrev Places := Nat → Option Nat
def gam (α : Places) : Nat → Nat := fun b => (α b).getD 0
def SP.ok (α : Places) : SP → Prop
  | .ptr b _ => (α b).isSome = true
  | .slc b _ _ _ => (α b).isSome = true
  | _ => True
def SC.ok (α : Places) : SC → Prop
  | .p x => x.ok α
  | .fn _ l => ∀ x ∈ l, x.ok α
def S1.ok (α : Places) : S1 → Prop
  | .c x => x.ok α
  | .agg l => ∀ x ∈ l, x.ok α
def SV.ok (α : Places) : SV → Prop
  | .one x => x.ok α
  | .tup l => ∀ x ∈ l, x.ok α

/-! Logs: the last entry stands first. -/
def lk {β : Type} (k : Nat) : List (Nat × β) → Option β
  | [] => none
  | (j, x) :: l => match Nat.beq j k with
    | true => some x
    | false => lk k l
def sel {β : Type} (ks : List Nat) (l : List (Nat × β)) : List (Nat × β) :=
  ks.filterMap fun k => match lk k l with
    | some x => some (k, x)
    | none => none

structure St where
  tl : List (Nat × SV)
  ml : List (Nat × SC)
structure Eff where
  tw : List (Nat × SV)
  cw : List (Nat × SC)
def Eff.app (E : Eff) (S : St) : St := ⟨E.tw ++ S.tl, E.cw ++ S.ml⟩

/-- The stride of the boxes. -/
def stride : Nat := 1024

def tSize (P : Program) (t : TypeId) : Option Nat := match P.info? t with
  | some i => some i.size
  | none => none
def isAggD : TypeDesc → Bool
  | .struct _ | .array _ _ => true
  | _ => false
def tAgg (P : Program) (t : TypeId) : Option Bool := match P.underlying t with
  | some d => some (isAggD d)
  | none => none
def tField (P : Program) (t : TypeId) (f : Nat) : Option Field := match P.underlying t with
  | some (.struct fs) => fs[f]?
  | _ => none
def tZero (P : Program) (t : TypeId) : Option (List Value) := match P.info? t with
  | some i => match i.zero with
    | some v => some v.cells.toList
    | none => none
  | none => none

def ofVal : Value → S1
  | .agg cs => .agg (cs.toList.map fun v => .p (.lit v))
  | v => .c (.p (.lit v))
def S1.cells : S1 → List SC
  | .c x => [x]
  | .agg l => l
def tmpsOf (xs : List Operand) : List Nat := xs.filterMap fun
  | .tmp t => some t
  | _ => none
def guardTmp (ops : Array Oper) (o : Oper) : List Nat := match o.guard with
  | some (j, _) => match ops[j]? with
    | some p => match p.dst with
      | some t => [t]
      | none => []
    | none => []
  | none => []
def trIdx (ops : Array Oper) (o : Oper) : List Nat := tmpsOf o.op.operands.toList ++ guardTmp ops o
def ev (tr : List (Nat × SV)) : Operand → Option SV
  | .tmp t => lk t tr
  | .const v => some (.one (ofVal v))
  | .global g => some (.one (.c (.p (.lit (.pointer (some ⟨g, 0, none⟩))))))
  | .func f => some (.one (.c (.fn f [])))
def ev1 (tr : List (Nat × SV)) (x : Operand) : Option S1 := match ev tr x with
  | some (.one y) => some y
  | _ => none
def evs (tr : List (Nat × SV)) : List Operand → Option (List S1)
  | [] => some []
  | x :: l => match ev1 tr x with
    | some y => match evs tr l with
      | some r => some (y :: r)
      | none => none
    | none => none
def SP.boxes : SP → List Nat
  | .ptr b _ => [b]
  | .slc b _ _ _ => [b]
  | _ => []
def SC.boxes : SC → List Nat
  | .p x => x.boxes
  | .fn _ l => l.flatMap SP.boxes
def S1.boxes : S1 → List Nat
  | .c x => x.boxes
  | .agg l => l.flatMap SC.boxes
def SV.boxes : SV → List Nat
  | .one x => x.boxes
  | .tup l => l.flatMap S1.boxes
def keys (b o n : Nat) : List Nat := (List.range n).map fun i => b * stride + 1 + (o + i)
def crIdx (P : Program) (tr : List (Nat × SV)) (nb : Nat) (o : Oper) : List Nat :=
  match o.op with
  | .load t x => match ev1 tr x, tSize P t with
    | some (.c (.p (.ptr b off))), some n => keys b off n
    | _, _ => []
  | .store t x _ => match ev1 tr x, tSize P t with
    | some (.c (.p (.ptr b off))), some n => b * stride :: keys b off n
    | _, _ => []
  | .box _ _ | .alloc _ | .buildSlice _ _ _ => [nb * stride]
  | .call _ => (tr.flatMap fun x => x.2.boxes).flatMap fun b => keys b 0 128
  | _ => []
def rd (ml : List (Nat × SC)) : List Nat → Option (List SC)
  | [] => some []
  | k :: ks => match lk k ml with
    | some x => match rd ml ks with
      | some r => some (x :: r)
      | none => none
    | none => none

def rdBox (ml : List (Nat × SC)) (b off n : Nat) : Option (List SC) := if Nat.ble 1 n && Nat.ble (off + n + 2) stride then rd ml (keys b off n) else none
def one (ag : Bool) (l : List SC) : Option S1 := match ag, l with
  | true, l => some (.agg l)
  | false, [x] => some (.c x)
  | _, _ => none

/-! What must hold besides. -/
inductive EK where
  | normal
  | exit (id : Nat)
  | ret
/-- Kinds of cells that are compared one by one. -/
inductive FK where
  | b
  | i (k : IntKind)
  | s
inductive Ob where
  | isB (i : Nat) (b : Bool)
  | isI (i j : Nat)
  | prim (op : Op) (t : TypeId) (tr : List (Nat × SV)) (res : SV)
  | op2 (bo : Bool) (op : BinOp) (x y : SC) (n : Nat)
  | op1 (op : UnOp) (x : SC) (n : Nat)
  | eqs (neg : Bool) (ks : List FK) (l m : List SC) (n : Nat)
  | cvt (k : IntKind) (x : SC) (n : Nat)
  | len (x : SC) (n : Nat)
  | call (f : FuncId) (args : List S1) (res : SV) (mem : List (Nat × SC))
  | callv (i : Nat) (args : List S1) (res : SV) (mem : List (Nat × SC))
  | callF (f : FuncId) (args : List S1) (t : TypeId) (l : List SC) (n : Nat) (mem : List (Nat × SC))
  | code (c : Code) (S : St) (X : List (Nat × SV)) (Y : List (Nat × SC)) (e : EK)
inductive Hint where
  | b (x : Bool)
  | lp (tl : List (Nat × SV)) (ml : List (Nat × SC)) (n : Nat) (e : EK)
  | fr (n : Nat)
  | ix (j : Nat)
structure Aux where
  nb : Nat
  n : Nat
  ds : List Hint
  kn : List (Nat × Bool)

def decB (i : Nat) (x : Aux) : Option (Bool × Aux) := match lk i x.kn with
  | some b => some (b, x)
  | none => match x.ds with
    | .b b :: ds => some (b, { x with ds := ds, kn := (i, b) :: x.kn })
    | _ => none
/-- A bool: known, or decided. -/
def asB (v : S1) (x : Aux) : Option (Bool × List Ob × Aux) := match v with
  | .c (.p (.lit (.bool b))) => some (b, [], x)
  | .c (.p (.at i)) => match decB i x with
    | some (b, x') => some (b, [.isB i b], x')
    | none => none
  | _ => none
def want (ops : Array Oper) (tr : List (Nat × SV)) (o : Oper) (x : Aux) : Option (Bool × List Ob × Aux) := match o.guard with
  | none => some (true, [], x)
  | some (j, b) => match ops[j]? with
    | some p => match p.dst with
      | some t => match lk t tr with
        | some (.one (.c (.p (.lit (.tuple _))))) => some (false, [], x)
        | some (.one v) => match asB v x with
          | some (r, obs, x') => some ((r == b), obs, x')
          | none => none
        | _ => none
      | none => none
    | none => none

def ats (n k : Nat) : List SC := (List.range k).map fun j => .p (.at (n + j))
def shape1 (P : Program) (t : TypeId) (n : Nat) : Option (S1 × Nat) := match tAgg P t with
  | some true => match tSize P t with
    | some k => some (.agg (ats n k), n + k)
    | none => none
  | some false => some (.c (.p (.at n)), n + 1)
  | none => none
def shapes (P : Program) : List TypeId → Nat → Option (List S1 × Nat)
  | [], n => some ([], n)
  | t :: ts, n => match shape1 P t n with
    | some (y, n') => match shapes P ts n' with
      | some (r, m) => some (y :: r, m)
      | none => none
    | none => none
def shape (P : Program) (t : TypeId) (n : Nat) : Option (SV × Nat) := match P.info? t with
  | some i => match i.desc with
    | .tuple ts => match shapes P ts.toList n with
      | some (r, m) => some (.tup r, m)
      | none => none
    | _ => match shape1 P t n with
      | some (y, m) => some (.one y, m)
      | none => none
  | none => none

def callable (P : Program) (f : FuncId) : Bool := match P.funcs[f]? with
  | some fn => !(fn.name == "runtime.NumGoroutine") && fn.body.isSome
  | none => false
def SP.shut : SP → Bool
  | .ptr _ _ => false
  | .slc _ _ _ _ => false
  | _ => true
def SC.shut : SC → Bool
  | .p x => x.shut
  | .fn _ l => l.all SP.shut
def S1.shut : S1 → Bool
  | .c x => x.shut
  | .agg l => l.all SC.shut
def SV.shut : SV → Bool
  | .one x => x.shut
  | .tup l => l.all S1.shut
/-- Fit for one cell. -/
def SC.fit : SC → Bool
  | .p (.lit v) => v.oneCell'
  | _ => true
def number {β : Type} (k : Nat) : List β → List (Nat × β)
  | [] => []
  | x :: l => (k, x) :: number (k + 1) l
def prims : Op → Bool
  | .nilCheck _ | .binOp .. | .unOp .. | .convert .. | .slice .. | .index .. | .indexAddr .. | .load .. | .field .. | .lookup .. | .makeInterface .. | .typeAssert .. => true
  | .call c => match c.callee with
    | .builtin _ => true
    | _ => false
  | _ => false
def prim (P : Program) (tr : List (Nat × SV)) (o : Oper) (x : Aux) : Option (SV × List (Nat × SC) × List Ob × Aux) :=
  if prims o.op && tr.all (fun y => y.2.shut) && (tmpsOf o.op.operands.toList).all (fun t => (lk t tr).isSome) then
    match shape P o.type x.n with
    | some (r, n') => some (r, [], [.prim o.op o.type tr r], { x with n := n' })
    | none => none
  else none
def flatFs (F : TypeId → Option (List FK)) : Nat → List Field → Option (List FK)
  | _, [] => some []
  | o, f :: fs => if f.name != "_" && Nat.beq f.offset o then match F f.type with
      | some ks => match flatFs F (o + ks.length) fs with
        | some r => some (ks ++ r)
        | none => none
      | none => none
    else none
def rep {β : Type} : Nat → List β → List β
  | 0, _ => []
  | n + 1, l => l ++ rep n l
def uno (P : Program) (t : TypeId) (k : FK) : Option (List FK) := match tSize P t with
  | some m => if Nat.beq m 1 then some [k] else none
  | none => none
/-- The cells of a type that is made of bools, numbers and strings. -/
def flat (P : Program) : Nat → TypeId → Option (List FK)
  | 0, _ => none
  | d + 1, t => match P.underlying t with
    | some .bool => uno P t .b
    | some (.int k) => uno P t (.i k)
    | some .string => uno P t .s
    | some (.struct fs) => if P.stoodInHeld t then none else match flatFs (flat P d) 0 fs.toList with
      | some ks => match tSize P t with
        | some n => if Nat.beq n ks.length then some ks else none
        | none => none
      | none => none
    | some (.array n e) => match flat P d e with
      | some ks => match tSize P e, tSize P t with
        | some k, some m => if Nat.beq k ks.length && Nat.beq m (n * ks.length) then some (rep n ks) else none
        | _, _ => none
      | none => none
    | _ => none
def basic : TypeDesc → Bool
  | .bool | .int _ | .string => true
  | _ => false
/-- Two basic values. -/
def sem2 (bo : Bool) (op : BinOp) (x y : Value) : Option Value := match x, y with
  | .int k a, .int k' b => if k = k' then match op with
      | .add => some (.int k (k.wrap (a + b)))
      | .sub => some (.int k (k.wrap (a - b)))
      | .mul => some (.int k (k.wrap (a * b)))
      | .quo => if b = 0 then none else some (.int k (k.wrap (a.tdiv b)))
      | .rem => if b = 0 then none else some (.int k (a.tmod b))
      | .eql => some (.bool (a == b))
      | .neq => some (.bool (a != b))
      | .lss => some (.bool (decide (a < b)))
      | .leq => some (.bool (decide (a ≤ b)))
      | .gtr => some (.bool (decide (a > b)))
      | .geq => some (.bool (decide (a ≥ b)))
      | _ => none
    else none
  | .string a, .string b => match op with
    | .add => if ((a.size + b.size : Nat) : Int) > IntKind.i64.max then none else some (.string (a ++ b))
    | .eql => some (.bool (a.toList == b.toList))
    | .neq => some (.bool (!(a.toList == b.toList)))
    | .lss => some (.bool (Op.bytesLess a.toList b.toList))
    | .leq => some (.bool (Op.bytesLess a.toList b.toList || a.toList == b.toList))
    | .gtr => some (.bool (!(Op.bytesLess a.toList b.toList || a.toList == b.toList)))
    | .geq => some (.bool (!(Op.bytesLess a.toList b.toList)))
    | _ => none
  | .bool a, .bool b => if bo then match op with
      | .eql => some (.bool (a == b))
      | .neq => some (.bool (!(a == b)))
      | _ => none
    else none
  | _, _ => none
def sem1 (op : UnOp) (x : Value) : Option Value := match op, x with
  | .not, .bool b => some (.bool (!b))
  | .neg, .int k n => some (.int k (k.wrap (0 - n)))
  | _, _ => none
def isBoolD : TypeDesc → Bool
  | .bool => true
  | _ => false
def op2s : BinOp → Bool
  | .add | .sub | .mul | .quo | .rem | .eql | .neq | .lss | .leq | .gtr | .geq => true
  | _ => false
def eqNeg : BinOp → Option Bool
  | .eql => some false
  | .neq => some true
  | _ => none
/-- Two known values. -/
def fold2 (bo : Bool) (op : BinOp) (a b : SC) : Option Value := match a, b with
  | .p (.lit u), .p (.lit v) => sem2 bo op u v
  | _, _ => none
def fold1 (op : UnOp) (a : SC) : Option Value := match a with
  | .p (.lit u) => sem1 op u
  | _ => none
def atom (n : Nat) : SV := .one (.c (.p (.at n)))
def binS (P : Program) (op : BinOp) (t : TypeId) (u v : S1) (x : Aux) : Option (SV × List (Nat × SC) × List Ob × Aux) :=
  match u, v with
  | .c a, .c b => match P.underlying t with
    | some d => match fold2 (isBoolD d) op a b with
      | some r => some (.one (.c (.p (.lit r))), [], [], x)
      | none => if basic d && op2s op && a.shut && b.shut then some (atom x.n, [], [.op2 (isBoolD d) op a b x.n], { x with n := x.n + 1 }) else none
    | none => none
  | .agg l, .agg m => match eqNeg op, flat P 10 t, tAgg P t with
    | some neg, some ks, some true => if !P.eqGuardType P.depth t && Nat.beq ks.length l.length && Nat.beq ks.length m.length && l.all SC.shut && m.all SC.shut then
        some (atom x.n, [], [.eqs neg ks l m x.n], { x with n := x.n + 1 })
      else none
    | _, _, _ => none
  | _, _ => none
def put {β : Type} (l : List β) (off : Nat) : List β → List β
  | [] => l
  | y :: r => put (l.set off y) (off + 1) r
def fillS (tr : List (Nat × SV)) (place : Nat → Option (Nat × Nat)) (l : List SC) : List (Nat × Operand) → Option (List SC)
  | [] => some l
  | (i, x) :: rest => match place i, ev1 tr x with
    | some (off, k), some y => if y.cells.all SC.fit && Nat.beq y.cells.length k && Nat.ble (off + y.cells.length) l.length then fillS tr place (put l off y.cells) rest else none
    | _, _ => none
def lits (v : Value) : List SC := v.cells.toList.map fun v => .p (.lit v)
def builtS (P : Program) (t : TypeId) (tr : List (Nat × SV)) (parts : List (Nat × Operand)) : Option (List SC) :=
  match P.info? t, P.underlying t with
  | some it, some (.array _ e) => match it.zero, P.info? e with
    | some z, some ie => fillS tr (fun i => some (i * ie.size, ie.size)) (lits z) parts
    | _, _ => none
  | some it, some (.struct fields) => match it.zero, fields.toList.mapM (fun f => (P.info? f.type).map fun i => (f.offset, i.size)) with
    | some z, some places => fillS tr (places.toArray[·]?) (lits z) parts
    | _, _ => none
  | _, _ => none
def capsOf : List S1 → Option (List SP)
  | [] => some []
  | .c (.p x) :: r => match capsOf r with
    | some l => some (x :: l)
    | none => none
  | _ => none
def boxVal (b : Nat) : Option Nat → SP
  | none => .ptr b 0
  | some n => .slc b 0 n n
/-- A bound that is known. -/
def bnd (tr : List (Nat × SV)) (d : Nat) : Option Operand → Option Nat
  | none => some d
  | some y => match ev1 tr y with
    | some (.c (.p (.lit (.int _ (.ofNat j))))) => some j
    | _ => none
/-- A new box. -/
def newBox (cr : List (Nat × SC)) (t : TypeId) (l : List SC) (k : Option Nat) (x : Aux) : Option (SV × List (Nat × SC) × List Ob × Aux) :=
  match lk (x.nb * stride) cr with
  | some _ => none
  | none => if l.all SC.fit && Nat.ble (l.length + 2) stride then
      some (.one (.c (.p (boxVal x.nb k))), (x.nb * stride, .fn t []) :: number (x.nb * stride + 1) l, [], { x with nb := x.nb + 1 })
    else none
/-- What an operation puts into its slot, what it writes, what must hold for it. -/
def opv (P : Program) (tr : List (Nat × SV)) (cr : List (Nat × SC)) (o : Oper) (x : Aux) : Option (SV × List (Nat × SC) × List Ob × Aux) :=
  match o.op with
  | .move y | .assign y => match ev tr y with
    | some v => some (v, [], [], x)
    | none => none
  | .pick c a b => match ev1 tr c with
    | some v => match asB v x with
      | some (r, obs, x') => match ev tr (if r then a else b) with
        | some v => some (v, [], obs, x')
        | none => none
      | none => none
    | none => none
  | .box t y => match ev1 tr y with
    | some v => newBox cr t v.cells none x
    | none => none
  | .alloc t => match tZero P t with
    | some l => newBox cr t (l.map fun v => .p (.lit v)) none x
    | none => none
  | .build t parts => match builtS P t tr parts.toList with
    | some r => some (.one (.agg r), [], [], x)
    | none => none
  | .buildSlice t len parts => match P.underlying t with
    | some (.slice e) => match tSize P e, P.info? e with
      | some k, some i => match i.zero with
        | some z => if Nat.ble 1 (len * k) && Nat.ble (len * k) 1000 then
            match fillS tr (fun i => some (i * k, k)) ((List.range (len * k)).map fun i => .p (.lit (z.cells[i % z.cells.size]!))) parts.toList with
            | some l => newBox cr e l (some len) x
            | none => none
          else none
        | none => none
      | _, _ => none
    | _ => none
  | .load t y => match ev1 tr y with
    | some (.c (.p (.ptr b off))) => match tAgg P t, tSize P t with
      | some ag, some n => match rdBox cr b off n with
        | some l => match one ag l with
          | some v => some (.one v, [], [], x)
          | none => none
        | none => none
      | _, _ => none
    | _ => prim P tr o x
  | .store t y z => match ev1 tr y, ev1 tr z, tSize P t with
    | some (.c (.p (.ptr b off))), some v, some n => match rdBox cr b off n, lk (b * stride) cr with
      | some _, some (.fn _ []) => if v.cells.all SC.fit && Nat.beq v.cells.length n then
          some (.one (.c (.p (.lit undef))), number (b * stride + 1 + off) v.cells, [], x)
        else none
      | _, _ => none
    | _, _, _ => none
  | .fieldAddr s y f => match tField P s f, ev1 tr y with
    | some fld, some (.c (.p (.ptr b off))) => match tSize P fld.type with
      | some (_ + 1) => some (.one (.c (.p (.ptr b (off + fld.offset)))), [], [], x)
      | _ => none
    | _, _ => none
  | .field s y f => match tField P s f, ev1 tr y with
    | some fld, some (.agg l) => match tAgg P fld.type, tSize P fld.type with
      | some true, some n => some (.one (.agg ((l.drop fld.offset).take n)), [], [], x)
      | some false, some _ => match l[fld.offset]? with
        | some v => some (.one (.c v), [], [], x)
        | none => none
      | _, _ => none
    | _, _ => none
  | .extract y i => match ev tr y with
    | some (.tup l) => match l[i]? with
      | some v => some (.one v, [], [], x)
      | none => none
    | _ => none
  | .nilCheck y => match ev1 tr y with
    | some (.c (.p (.ptr b off))) => some (.one (.c (.p (.ptr b off))), [], [], x)
    | some (.c (.fn f l)) => some (.one (.c (.fn f l)), [], [], x)
    | _ => prim P tr o x
  | .makeFunc (.func f) first caps => match first.toList, evs tr caps.toList with
    | [], some l => match capsOf l with
      | some c => some (.one (.c (.fn f c)), [], [], x)
      | none => none
    | _, _ => none
  | .indexAddr t y i => match ev1 tr y, ev1 tr i, P.underlying t with
    | some (.c (.p (.ptr b off))), some (.c (.p (.lit (.int _ (.ofNat j))))), some (.array len e) => match tSize P e with
      | some k => if Nat.ble (j + 1) len then some (.one (.c (.p (.ptr b (off + j * k)))), [], [], x) else none
      | none => none
    | some (.c (.p (.slc b off n _))), some (.c (.p (.lit (.int _ (.ofNat j))))), some (.slice e) => match tSize P e with
      | some k => if Nat.ble (j + 1) n then some (.one (.c (.p (.ptr b (off + j * k)))), [], [], x) else none
      | none => none
    | some (.c (.p (.ptr b off))), some (.c (.p (.at m))), some (.array len e) => match x.ds with
      | .ix j :: ds => match tSize P e with
        | some k => if Nat.ble (j + 1) len then some (.one (.c (.p (.ptr b (off + j * k)))), [], [.isI m j], { x with ds := ds }) else none
        | none => none
      | _ => prim P tr o x
    | some (.c (.p (.slc b off n _))), some (.c (.p (.at m))), some (.slice e) => match x.ds with
      | .ix j :: ds => match tSize P e with
        | some k => if Nat.ble (j + 1) n then some (.one (.c (.p (.ptr b (off + j * k)))), [], [.isI m j], { x with ds := ds }) else none
        | none => none
      | _ => prim P tr o x
    | _, _, _ => prim P tr o x
  | .index t y i => match ev1 tr y, ev1 tr i, P.underlying t with
    | some (.agg l), some (.c (.p (.lit (.int _ (.ofNat j))))), some (.array len e) => match tAgg P e, tSize P e with
      | some true, some k => if Nat.ble (j + 1) len then some (.one (.agg ((l.drop (j * k)).take k)), [], [], x) else none
      | some false, some k => match l[j * k]? with
        | some v => if Nat.ble (j + 1) len then some (.one (.c v), [], [], x) else none
        | none => none
      | _, _ => none
    | some (.agg l), some (.c (.p (.at m))), some (.array len e) => match x.ds with
      | .ix j :: ds => match tAgg P e, tSize P e with
        | some true, some k => if Nat.ble (j + 1) len then some (.one (.agg ((l.drop (j * k)).take k)), [], [.isI m j], { x with ds := ds }) else none
        | some false, some k => match l[j * k]? with
          | some v => if Nat.ble (j + 1) len then some (.one (.c v), [], [.isI m j], { x with ds := ds }) else none
          | none => none
        | _, _ => none
      | _ => prim P tr o x
    | _, _, _ => prim P tr o x
  | .binOp op t y z _ => match ev1 tr y, ev1 tr z with
    | some u, some v => match binS P op t u v x with
      | some r => some r
      | none => prim P tr o x
    | _, _ => prim P tr o x
  | .unOp op _ y => match ev1 tr y with
    | some (.c a) => match fold1 op a with
      | some r => some (.one (.c (.p (.lit r))), [], [], x)
      | none => if a.shut then some (atom x.n, [], [.op1 op a x.n], { x with n := x.n + 1 }) else none
    | _ => none
  | .convert src dst y => match ev1 tr y, P.underlying src, P.underlying dst with
    | some (.c (.p (.lit (.int _ v)))), some (.int _), some (.int k) => some (.one (.c (.p (.lit (.int k (k.wrap v))))), [], [], x)
    | some (.c a), some (.int _), some (.int k) => if a.shut then some (atom x.n, [], [.cvt k a x.n], { x with n := x.n + 1 }) else none
    | _, _, _ => prim P tr o x
  | .call c => match c.callee with
    | .value f => match ev1 tr f, evs tr c.args.toList, shape P o.type x.n with
      | some (.c (.fn g caps)), some l, some (r, n') => if callable P g then
          some (r, [], [.call g (l ++ caps.map fun y => .c (.p y)) r cr], { x with n := n' })
        else none
      | some (.c (.p (.at i))), some l, some (r, n') => some (r, [], [.callv i l r cr], { x with n := n' })
      | _, _, _ => none
    | .builtin .len => match c.args.toList, c.argTypes.toList with
      | [y], t :: _ => match ev1 tr y, P.underlying t with
        | some (.c (.p (.slc _ _ n _))), some (.slice _) => some (.one (.c (.p (.lit (.int .i64 (n : Int))))), [], [], x)
        | some (.c (.p (.lit (.string s)))), some .string => some (.one (.c (.p (.lit (.int .i64 (s.size : Int))))), [], [], x)
        | some (.c a), some .string => if a.shut then some (atom x.n, [], [.len a x.n], { x with n := x.n + 1 }) else none
        | _, _ => prim P tr o x
      | _, _ => prim P tr o x
    | .builtin _ => prim P tr o x
    | _ => none
  | .slice t y lo hi none => match ev1 tr y, P.underlying t with
    | some (.c (.p (.ptr b off))), some (.array n e) => match tSize P e, bnd tr 0 lo, bnd tr n hi with
      | some k, some l, some h => if Nat.ble l h && Nat.ble h n && Nat.ble (l + 1) n then some (.one (.c (.p (.slc b (off + l * k) (h - l) (n - l)))), [], [], x) else none
      | _, _, _ => none
    | some (.c (.p (.slc b off n cap))), some (.slice e) => match tSize P e, bnd tr 0 lo, bnd tr n hi with
      | some k, some l, some h => if Nat.ble l h && Nat.ble h cap && Nat.ble (l + 1) cap then some (.one (.c (.p (.slc b (off + l * k) (h - l) (cap - l)))), [], [], x) else none
      | _, _, _ => none
    | _, _ => prim P tr o x
  | _ => prim P tr o x

structure Info where
  E : Eff
  tr : List Nat
  cr : List Nat
def opAt (P : Program) (nt : Nat) (ops : Array Oper) (S : St) (o : Oper) (x : Aux) : Option (Info × List Ob × Aux) :=
  let ti := trIdx ops o
  let tr := sel ti S.tl
  match want ops tr o x with
  | none => none
  | some (false, obs, x') => match o.dst with
    | none => some (⟨⟨[], []⟩, ti, []⟩, obs, x')
    | some d => if Nat.ble (d + 1) nt then some (⟨⟨[(d, .one (.c (.p (.lit undef))))], []⟩, ti, []⟩, obs, x') else none
  | some (true, obs, x') =>
    let ci := crIdx P tr x'.nb o
    match opv P tr (sel ci S.ml) o x' with
    | none => none
    | some (v, cw, obs2, x'') => match o.dst with
      | none => some (⟨⟨[], cw⟩, ti, ci⟩, obs ++ obs2, x'')
      | some d => if Nat.ble (d + 1) nt then some (⟨⟨[(d, v)], cw⟩, ti, ci⟩, obs ++ obs2, x'') else none
def opsAt (P : Program) (nt : Nat) (ops : Array Oper) : List Oper → St → Aux → Option (List Info × St × List Ob × Aux)
  | [], S, x => some ([], S, [], x)
  | o :: l, S, x => match opAt P nt ops S o x with
    | none => none
    | some (I, obs, x') => match opsAt P nt ops l (I.E.app S) x' with
      | none => none
      | some (Is, S', obs', x'') => some (I :: Is, S', obs ++ obs', x'')

/-! Whether the order matters. -/
def hit (a b : List Nat) : Bool := a.any fun x => b.any fun y => Nat.beq x y
def Info.tk (I : Info) : List Nat := I.E.tw.map (·.1)
def Info.ck (I : Info) : List Nat := I.E.cw.map (·.1)
def clash (i j : Info) : Bool := hit i.tk (j.tr ++ j.tk) || hit j.tk i.tr || hit i.ck (j.cr ++ j.ck) || hit j.ck i.cr
/-- The operations ahead of each, by number. -/
def edges (o : Oper) : List Nat := o.after.toList.filterMap fun e => if Region.binds .any e then some e.on else none
def ahead (o : Oper) (acc : List (List Nat)) : List Nat := (edges o).flatMap fun e => e :: acc.getD e []
def aheads (acc : List (List Nat)) : List Oper → List (List Nat)
  | [] => acc
  | o :: l => aheads (acc ++ [(ahead o acc).eraseDups]) l
def freeOf (Is : List Info) (j : Nat) (J : Info) (bj : List Nat) : Bool :=
  (List.range j).all fun i => match Is[i]? with
    | some I => !clash I J || bj.any (Nat.beq i)
    | none => false
def okDraw (ops : List Oper) (Is : List Info) : Bool :=
  let bs := aheads [] ops
  (List.range ops.length).all fun j => match ops[j]?, Is[j]?, bs[j]? with
    | some o, some J, some bj => (edges o).all (fun e => Nat.blt e j) && freeOf Is j J bj
    | _, _, _ => false

/-- A call whose slice lies in a box of its own, behind all that there was: a hint tells its length. -/
def frAt (P : Program) (nt n : Nat) (o : Oper) (S : St) (x : Aux) : Option (St × List Ob × Aux) := match o.guard, o.dst, o.op with
  | none, some d, .call c => match c.callee, P.underlying o.type with
    | .value f, some (.slice e) => match ev1 (sel (tmpsOf [f]) S.tl) f, evs (sel (tmpsOf c.args.toList) S.tl) c.args.toList, tSize P e with
      | some (.c (.fn g [])), some l, some k => if callable P g && Nat.ble (d + 1) nt then
          match newBox (sel [x.nb * stride] S.ml) e (ats x.n (n * k)) (some n) { x with n := x.n + n * k } with
          | some (v, cw, _, x') => some (⟨(d, v) :: S.tl, cw ++ S.ml⟩, [.callF g l e (ats x.n (n * k)) n (sel (((sel (tmpsOf c.args.toList) S.tl).flatMap fun x => x.2.boxes).flatMap fun b => keys b 0 128) S.ml)], x')
          | none => none
        else none
      | _, _, _ => none
    | _, _ => none
  | _, _, _ => none
def frOps (P : Program) (nt : Nat) (ops : Array Oper) (n : Nat) : List Oper → St → Aux → Option (St × List Ob × Aux)
  | [], _, _ => none
  | o :: l, S, x => match frAt P nt n o S x with
    | some (S1, obs, x1) => match opsAt P nt ops l S1 x1 with
      | some (_, S2, obs2, x2) => some (S2, obs ++ obs2, x2)
      | none => none
    | none => match opAt P nt ops S o x with
      | some (I, obs, x1) => match frOps P nt ops n l (I.E.app S) x1 with
        | some (S2, obs2, x2) => some (S2, obs ++ obs2, x2)
        | none => none
      | none => none
def frX (P : Program) (nt : Nat) (ops : Array Oper) (draw : Bool) (S : St) (x : Aux) : Option (St × List Ob × Aux) := match draw, x.ds with
  | false, .fr n :: ds => frOps P nt ops n ops.toList S { x with ds := ds }
  | _, _ => none

/-! Code. -/
/-- Round after round, till it is left. -/
def loopN (r : St → Aux → Option (EK × St × List Ob × Aux)) : Nat → St → Aux → Option (EK × St × List Ob × Aux)
  | 0, _, _ => none
  | n + 1, S, x => match r S x with
    | none => none
    | some (.normal, S', obs, x') => match loopN r n S' x' with
      | none => none
      | some (e, S'', obs', x'') => some (e, S'', obs ++ obs', x'')
    | some (.exit j, S', obs, x') => some (.exit j, S', obs, x')
    | some (.ret, S', obs, x') => some (.ret, S', obs, x')
def exs (P : Program) (nt : Nat) : Code → St → Aux → Option (EK × St × List Ob × Aux)
  | .skip, S, x | .label _, S, x => some (.normal, S, [], x)
  | .ret, S, x => some (.ret, S, [], x)
  | .exit id, S, x => some (.exit id, S, [], x)
  | .region _ ops draw, S, x => match frX P nt ops draw S x with
    | some (S', obs, x') => some (.normal, S', obs, x')
    | none => match opsAt P nt ops ops.toList S x with
      | none => none
      | some (Is, S', obs, x') => if draw && !okDraw ops.toList Is then none else some (.normal, S', obs, x')
  | .seq a b, S, x => match exs P nt a S x with
    | none => none
    | some (.normal, S', obs, x') => match exs P nt b S' x' with
      | none => none
      | some (e, S'', obs', x'') => some (e, S'', obs ++ obs', x'')
    | some (.exit j, S', obs, x') => some (.exit j, S', obs, x')
    | some (.ret, S', obs, x') => some (.ret, S', obs, x')
  | .cond c a b, S, x => match ev1 (sel (tmpsOf [c]) S.tl) c with
    | none => none
    | some v => match asB v x with
      | none => none
      | some (true, obs, x') => match exs P nt a S x' with
        | none => none
        | some (e, S', obs', x'') => some (e, S', obs ++ obs', x'')
      | some (false, obs, x') => match exs P nt b S x' with
        | none => none
        | some (e, S', obs', x'') => some (e, S', obs ++ obs', x'')
  | .block id c, S, x => match exs P nt c S x with
    | none => none
    | some (.exit j, S', obs, x') => if Nat.beq j id then some (.normal, S', obs, x') else some (.exit j, S', obs, x')
    | some (.normal, S', obs, x') => some (.normal, S', obs, x')
    | some (.ret, S', obs, x') => some (.ret, S', obs, x')
  | .loop c, S, x => match x.ds with
    | .lp tl ml n e :: ds => some (e, ⟨tl ++ S.tl, ml ++ S.ml⟩, [.code (.loop c) S tl ml e], { x with n := n, ds := ds })
    | _ => loopN (exs P nt c) 80 S x
  | _, _, _ => none
def outs (P : Program) (S : St) : List ResultVar → Option (List S1)
  | [] => some []
  | .tmp t :: l => match lk t S.tl with
    | some (.one v) => match outs P S l with
      | some r => some (v :: r)
      | none => none
    | _ => none
  | .cell t ty :: r => match lk t S.tl with
    | some (.one (.c (.p (.ptr b off)))) => match tAgg P ty, tSize P ty with
      | some ag, some n => match rdBox S.ml b off n with
        | some l => match one ag l, outs P S r with
          | some v, some vs => some (v :: vs)
          | _, _ => none
        | none => none
      | _, _ => none
    | _ => none
/-- Each decision once. -/
def dedup (seen : List (Nat × Bool)) : List Ob → List Ob
  | [] => []
  | o :: l => match o with
    | .isB i b => if seen.any (fun p => Nat.beq p.1 i && p.2 == b) then dedup seen l else .isB i b :: dedup ((i, b) :: seen) l
    | o => o :: dedup seen l
def outV : List S1 → SV
  | [x] => .one x
  | l => .tup l
/-- Boxes that were there before: what they hold, in their order. -/
def extLog : Nat → List (TypeId × List SC) → List (Nat × SC)
  | _, [] => []
  | b, (t, l) :: r => (b * stride, .fn t [.lit undef]) :: (number (b * stride + 1) l ++ extLog (b + 1) r)
/-- A function from its first operation to its results. -/
def runF (P : Program) (fn : Func) (args : List S1) (X : List (TypeId × List SC)) (n : Nat) (ds : List Hint) : Option (SV × List Ob) := match fn.body with
  | none => none
  | some c => match exs P fn.ntmps c ⟨number 0 (args.map .one), extLog 0 X⟩ ⟨X.length, n, ds, []⟩ with
    | some (.normal, S, obs, _) | some (.ret, S, obs, _) => match outs P S fn.results.toList with
      | some l => if l.all S1.shut then some (outV l, dedup [] obs) else none
      | none => none
    | _ => none
/-- A function at arguments of its parameters' shapes, what it captured behind them: atoms 0, 1, .. -/
def argsOf (P : Program) (fn : Func) : Option (List S1 × Nat) := match shapes P fn.params.toList 0 with
  | some (args, n) => some (args ++ (ats n fn.nfree).map .c, n + fn.nfree)
  | none => none
def runA (P : Program) (fn : Func) (ds : List Hint) : Option (SV × List Ob) := match argsOf P fn with
  | some (args, n) => runF P fn args [] n ds
  | none => none
theorem lk_cons {β : Type} (k j : Nat) (x : β) (l : List (Nat × β)) : lk k ((j, x) :: l) = if j = k then some x else lk k l := by
  have e : lk k ((j, x) :: l) = (match Nat.beq j k with | true => some x | false => lk k l) := rfl
  rw [e]
  clear e
  cases h : Nat.beq j k with
  | true => rw [if_pos (Nat.eq_of_beq_eq_true h)]
  | false => rw [if_neg (fun e => by rw [e, Nat.beq_refl] at h; exact Bool.noConfusion h)]
theorem lk_sel {β : Type} (l : List (Nat × β)) (k : Nat) : ∀ ks : List Nat, lk k (sel ks l) = if k ∈ ks then lk k l else none
  | [] => by simp [sel, lk]
  | k0 :: ks => by
    have ih := lk_sel l k ks
    unfold sel at ih ⊢
    rw [List.filterMap_cons]
    cases h : lk k0 l with
    | none =>
      simp only []
      rw [ih]
      by_cases e : k = k0
      · subst e; simp [h]
      · simp [e]
    | some x =>
      simp only []
      rw [lk_cons, ih]
      by_cases e : k0 = k
      · subst e; simp [h]
      · simp [e, Ne.symm e]
theorem lk_sel_some {β : Type} {l : List (Nat × β)} {k : Nat} {ks : List Nat} {x : β} (h : lk k (sel ks l) = some x) : k ∈ ks ∧ lk k l = some x := by
  rw [lk_sel] at h
  split at h
  · exact ⟨by assumption, h⟩
  · simp at h
theorem sel_congr {β : Type} {l m : List (Nat × β)} {ks : List Nat} (h : ∀ k ∈ ks, lk k l = lk k m) : sel ks l = sel ks m := by
  unfold sel
  induction ks with
  | nil => rfl
  | cons k ks ih =>
    rw [List.filterMap_cons, List.filterMap_cons, h k (by simp), ih (fun k' hk => h k' (by simp [hk]))]
theorem lk_append {β : Type} (k : Nat) (m : List (Nat × β)) : ∀ l : List (Nat × β), lk k (l ++ m) = match lk k l with | some x => some x | none => lk k m
  | [] => rfl
  | (j, x) :: l => by
    rw [List.cons_append, lk_cons, lk_cons, lk_append k m l]
    split <;> rfl
theorem lk_number {β : Type} (k : Nat) : ∀ (l : List β) (s : Nat), lk k (number s l) = if s ≤ k then l[k - s]? else none
  | [], s => by simp [number, lk]
  | x :: l, s => by
    rw [number, lk_cons, lk_number k l (s + 1)]
    by_cases h : s = k
    · subst h; simp
    · rw [if_neg h]
      by_cases h2 : s ≤ k
      · rw [if_pos h2, if_pos (by omega), show k - s = (k - (s + 1)) + 1 by omega, List.getElem?_cons_succ]
      · rw [if_neg h2, if_neg (by omega)]
theorem mem_lk {β : Type} {k : Nat} {x : β} : ∀ {l : List (Nat × β)}, lk k l = some x → (k, x) ∈ l
  | (j, y) :: l, h => by
    rw [lk_cons] at h
    split at h
    · rename_i e; subst e; cases h; simp
    · exact List.mem_cons_of_mem _ (mem_lk h)

/-! More places. -/
def Ext (α α' : Places) : Prop := ∀ b g, α b = some g → α' b = some g
theorem Ext.refl (α : Places) : Ext α α := fun _ _ h => h
theorem Ext.trans {α α' α'' : Places} (h : Ext α α') (k : Ext α' α'') : Ext α α'' := fun b g e => k b g (h b g e)
section
variable {α α' : Places} {ρ : Env}
theorem SP.up (h : Ext α α') {x : SP} (hx : x.ok α) : x.ok α' ∧ x.den (gam α') ρ = x.den (gam α) ρ := by
  cases x with
  | «at» i => exact ⟨trivial, rfl⟩
  | lit v => exact ⟨trivial, rfl⟩
  | ptr b o =>
    obtain ⟨g, hg⟩ := Option.isSome_iff_exists.1 hx
    have h2 := h b g hg
    exact ⟨by simp [SP.ok, h2], by simp [SP.den, gam, hg, h2]⟩
  | slc b o n c =>
    obtain ⟨g, hg⟩ := Option.isSome_iff_exists.1 hx
    have h2 := h b g hg
    exact ⟨by simp [SP.ok, h2], by simp [SP.den, gam, hg, h2]⟩
theorem up_list {β : Type} {d : β → Value} {d' : β → Value} {p p' : β → Prop} {l : List β} (hl : ∀ x ∈ l, p x) (h : ∀ x, p x → p' x ∧ d' x = d x) : (∀ x ∈ l, p' x) ∧ l.map d' = l.map d :=
  ⟨fun x hx => (h x (hl x hx)).1, List.map_congr_left fun x hx => (h x (hl x hx)).2⟩
theorem SC.up (h : Ext α α') {x : SC} (hx : x.ok α) : x.ok α' ∧ x.den (gam α') ρ = x.den (gam α) ρ := by
  cases x with
  | p x => exact SP.up h hx
  | fn f l =>
    have := up_list (p := SP.ok α) hx (fun x hx => SP.up (ρ := ρ) h hx)
    exact ⟨this.1, by simp only [SC.den, this.2]⟩
theorem S1.up (h : Ext α α') {x : S1} (hx : x.ok α) : x.ok α' ∧ x.den (gam α') ρ = x.den (gam α) ρ := by
  cases x with
  | c x => exact SC.up h hx
  | agg l =>
    have := up_list (p := SC.ok α) hx (fun x hx => SC.up (ρ := ρ) h hx)
    exact ⟨this.1, by simp only [S1.den, this.2]⟩
theorem SV.up (h : Ext α α') {x : SV} (hx : x.ok α) : x.ok α' ∧ x.den (gam α') ρ = x.den (gam α) ρ := by
  cases x with
  | one x => exact S1.up h hx
  | tup l =>
    have := up_list (p := S1.ok α) hx (fun x hx => S1.up (ρ := ρ) h hx)
    exact ⟨this.1, by simp only [SV.den, this.2]⟩
theorem SP.shut_ok {x : SP} (h : x.shut = true) (α : Places) : x.ok α := by cases x <;> first | trivial | simp [SP.shut] at h
theorem SP.shut_den {x : SP} (h : x.shut = true) (γ γ' : Nat → Nat) : x.den γ ρ = x.den γ' ρ := by cases x <;> first | rfl | simp [SP.shut] at h
theorem SC.shut_ok {x : SC} (h : x.shut = true) (α : Places) : x.ok α := by
  cases x with
  | p x => exact SP.shut_ok h α
  | fn f l => exact fun x hx => SP.shut_ok (List.all_eq_true.1 h x hx) α
theorem SC.shut_den {x : SC} (h : x.shut = true) (γ γ' : Nat → Nat) : x.den γ ρ = x.den γ' ρ := by
  cases x with
  | p x => exact SP.shut_den h γ γ'
  | fn f l => simp only [SC.den]; rw [List.map_congr_left fun x hx => SP.shut_den (List.all_eq_true.1 h x hx) γ γ']
theorem S1.shut_ok {x : S1} (h : x.shut = true) (α : Places) : x.ok α := by
  cases x with
  | c x => exact SC.shut_ok h α
  | agg l => exact fun x hx => SC.shut_ok (List.all_eq_true.1 h x hx) α
theorem S1.shut_den {x : S1} (h : x.shut = true) (γ γ' : Nat → Nat) : x.den γ ρ = x.den γ' ρ := by
  cases x with
  | c x => exact SC.shut_den h γ γ'
  | agg l => simp only [S1.den]; rw [List.map_congr_left fun x hx => SC.shut_den (List.all_eq_true.1 h x hx) γ γ']
theorem SV.shut_ok {x : SV} (h : x.shut = true) (α : Places) : x.ok α := by
  cases x with
  | one x => exact S1.shut_ok h α
  | tup l => exact fun x hx => S1.shut_ok (List.all_eq_true.1 h x hx) α
theorem SV.shut_den {x : SV} (h : x.shut = true) (γ γ' : Nat → Nat) : x.den γ ρ = x.den γ' ρ := by
  cases x with
  | one x => exact S1.shut_den h γ γ'
  | tup l => simp only [SV.den]; rw [List.map_congr_left fun x hx => S1.shut_den (List.all_eq_true.1 h x hx) γ γ']
theorem ofVal_den (v : Value) (γ : Nat → Nat) : (ofVal v).den γ ρ = v := by
  cases v <;> first | rfl | (simp [ofVal, S1.den, SC.den, SP.den, Function.comp_def])
theorem ofVal_ok (v : Value) : (ofVal v).ok α := by
  cases v <;> first | trivial | (intro x hx; simp at hx; obtain ⟨y, _, rfl⟩ := hx; trivial)
theorem S1.cells_ok {x : S1} (h : x.ok α) : ∀ y ∈ x.cells, y.ok α := by
  cases x with
  | c x => intro y hy; simp [S1.cells] at hy; subst hy; exact h
  | agg l => exact h
end
theorem ats_ok {α : Places} (n k : Nat) : ∀ x ∈ ats n k, x.ok α := by
  intro x hx
  simp only [ats, List.mem_map] at hx
  obtain ⟨j, _, rfl⟩ := hx
  trivial
theorem shape1_ok {P : Program} {α : Places} {t : TypeId} {n m : Nat} {y : S1} (h : shape1 P t n = some (y, m)) : y.ok α := by
  unfold shape1 at h
  split at h
  · split at h
    · cases h; exact ats_ok _ _
    · simp at h
  · cases h; trivial
  · simp at h
theorem shapes_ok {P : Program} {α : Places} : ∀ {ts : List TypeId} {n m : Nat} {l : List S1}, shapes P ts n = some (l, m) → ∀ y ∈ l, y.ok α
  | [], n, m, l, h => by simp [shapes] at h; obtain ⟨rfl, _⟩ := h; simp
  | t :: ts, n, m, l, h => by
    unfold shapes at h
    split at h
    · rename_i y n' h1
      split at h
      · rename_i r m' h2
        cases h
        intro z hz
        rcases List.mem_cons.1 hz with rfl | hz
        · exact shape1_ok h1
        · exact shapes_ok h2 z hz
      · simp at h
    · simp at h
theorem shape_ok {P : Program} {α : Places} {t : TypeId} {n m : Nat} {v : SV} (h : shape P t n = some (v, m)) : v.ok α := by
  unfold shape at h
  split at h
  · split at h
    · split at h
      · rename_i h2; cases h; exact shapes_ok h2
      · simp at h
    · split at h
      · rename_i h2; cases h; exact shape1_ok h2
      · simp at h
  · simp at h

/-! Memory and symbols together. -/
def cellIs (ρ : Env) (α : Places) (ml : List (Nat × SC)) (cs : List Value) (b o : Nat) : Prop :=
  match lk (b * stride + 1 + o) ml with
  | some x => x.ok α ∧ cs[o]? = some (x.den (gam α) ρ)
  | none => cs[o]? = none
def roIs (ρ : Env) (α : Places) (ml : List (Nat × SC)) (w : World) (g b o : Nat) : Prop :=
  match lk (b * stride + 1 + o) ml with
  | some x => x.ok α ∧ w.cell? ⟨g, o, none⟩ = some (x.den (gam α) ρ)
  | none => True
/-- A box of the call's own, or one that was there before and is only read. -/
def BoxIs (w0 : World) (ρ : Env) (α : Places) (ml : List (Nat × SC)) (w : World) (b g : Nat) : Prop :=
  ∃ ty caps, lk (b * stride) ml = some (.fn ty caps) ∧
    ((caps = [] ∧ w0.heap.size ≤ g ∧ ∃ cs, Blk w g ty cs ∧ ∀ o, o + 1 < stride → cellIs ρ α ml cs b o) ∨ (caps ≠ [] ∧ g < w0.heap.size ∧ ∀ o, o + 1 < stride → roIs ρ α ml w g b o))
structure Rel (w0 : World) (ρ : Env) (nt : Nat) (S : St) (α : Places) (a : Act) (w : World) : Prop where
  size : a.tmps.size = nt
  defs : a.defers = []
  tmp : ∀ t v, lk t S.tl = some v → a.tmps[t]? = some (v.den (gam α) ρ) ∧ v.ok α
  box : ∀ b g, α b = some g → BoxIs w0 ρ α S.ml w b g
  off : ∀ b, α b = none → ∀ o, o < stride → lk (b * stride + o) S.ml = none
  inj : ∀ b b' g, α b = some g → α b' = some g → w0.heap.size ≤ g → b = b'
  below : Below w0.heap.size w0 w

theorem then2 {a b c : World} (h : Below a.heap.size a b) (k : Below b.heap.size b c) : Below a.heap.size a c := Below.trans h (Below.mono k h.size)
section
variable {P : Program} {w0 w w' : World} {ρ : Env} {nt : Nat} {S : St} {α α' : Places} {a : Act}
theorem BoxIs.lt {ml : List (Nat × SC)} {b g : Nat} (h : BoxIs w0 ρ α ml w b g) (hb : Below w0.heap.size w0 w) : g < w.heap.size := by
  obtain ⟨ty, caps, _, ⟨_, _, cs, h1, _⟩ | ⟨_, h1, _⟩⟩ := h
  · exact h1.lt
  · exact Nat.lt_of_lt_of_le h1 hb.size
theorem BoxIs.get {ml : List (Nat × SC)} {b g o : Nat} {x : SC} (h : BoxIs w0 ρ α ml w b g) (ho : o + 1 < stride) (hx : lk (b * stride + 1 + o) ml = some x) : x.ok α ∧ w.cell? ⟨g, o, none⟩ = some (x.den (gam α) ρ) := by
  obtain ⟨ty, caps, _, ⟨_, _, cs, h1, h2⟩ | ⟨_, _, h2⟩⟩ := h
  · have := h2 o ho
    unfold cellIs at this
    rw [hx] at this
    exact ⟨this.1, h1.cell this.2⟩
  · have := h2 o ho
    unfold roIs at this
    rw [hx] at this
    exact this
theorem BoxIs.own {ml : List (Nat × SC)} {b g : Nat} {ty : FuncId} (h : BoxIs w0 ρ α ml w b g) (hf : lk (b * stride) ml = some (.fn ty [])) : w0.heap.size ≤ g ∧ ∃ cs, Blk w g ty cs ∧ ∀ o, o + 1 < stride → cellIs ρ α ml cs b o := by
  obtain ⟨ty', caps, h0, ⟨_, h1, cs, h2⟩ | ⟨h1, _⟩⟩ := h
  · rw [hf] at h0
    cases h0
    exact ⟨h1, cs, h2⟩
  · rw [hf] at h0
    cases h0
    exact absurd rfl h1
theorem BoxIs.keep {ml : List (Nat × SC)} {b g : Nat} (h : BoxIs w0 ρ α ml w b g) (hb0 : Below w0.heap.size w0 w) (hb : Below w.heap.size w w') : BoxIs w0 ρ α ml w' b g := by
  obtain ⟨ty, caps, h0, ⟨h1, h2, cs, h3, h4⟩ | ⟨h1, h2, h3⟩⟩ := h
  · exact ⟨ty, caps, h0, .inl ⟨h1, h2, cs, h3.keep hb, h4⟩⟩
  · refine ⟨ty, caps, h0, .inr ⟨h1, h2, fun o ho => ?_⟩⟩
    have h4 := h3 o ho
    unfold roIs at h4 ⊢
    split at h4
    · exact ⟨h4.1, (hb.cell (p := ⟨g, o, none⟩) (Nat.lt_of_lt_of_le h2 hb0.size)).trans h4.2⟩
    · trivial
/-- A box under other logs and more places. -/
theorem BoxIs.turn {ml ml' : List (Nat × SC)} {b g : Nat} {ρ' : Env} {α' : Places} (h : BoxIs w0 ρ α ml w b g) (hf : lk (b * stride) ml' = lk (b * stride) ml)
    (hc : ∀ o, o + 1 < stride → (lk (b * stride + 1 + o) ml = none ∧ lk (b * stride + 1 + o) ml' = none) ∨ ∃ x x', lk (b * stride + 1 + o) ml = some x ∧ lk (b * stride + 1 + o) ml' = some x' ∧ (x.ok α → x'.ok α' ∧ x'.den (gam α') ρ' = x.den (gam α) ρ)) : BoxIs w0 ρ' α' ml' w b g := by
  obtain ⟨ty, caps, h0, ⟨h1, h2, cs, h3, h4⟩ | ⟨h1, h2, h3⟩⟩ := h
  · refine ⟨ty, caps, by rw [hf]; exact h0, .inl ⟨h1, h2, cs, h3, fun o ho => ?_⟩⟩
    have h5 := h4 o ho
    unfold cellIs at h5 ⊢
    rcases hc o ho with ⟨e1, e2⟩ | ⟨x, x', e1, e2, e3⟩
    · rw [e1] at h5; rw [e2]; exact h5
    · rw [e1] at h5; rw [e2]
      obtain ⟨e4, e5⟩ := e3 h5.1
      exact ⟨e4, by rw [e5]; exact h5.2⟩
  · refine ⟨ty, caps, by rw [hf]; exact h0, .inr ⟨h1, h2, fun o ho => ?_⟩⟩
    have h5 := h3 o ho
    unfold roIs at h5 ⊢
    rcases hc o ho with ⟨e1, e2⟩ | ⟨x, x', e1, e2, e3⟩
    · rw [e2]; trivial
    · rw [e1] at h5; rw [e2]
      obtain ⟨e4, e5⟩ := e3 h5.1
      exact ⟨e4, by rw [e5]; exact h5.2⟩
theorem Rel.later (h : Rel w0 ρ nt S α a w) (hb : Below w.heap.size w w') : Rel w0 ρ nt S α a w' :=
  ⟨h.size, h.defs, h.tmp, fun b g hg => (h.box b g hg).keep h.below hb, h.off, h.inj, then2 h.below hb⟩
theorem Rel.drew (h : Rel w0 ρ nt S α a w) : Rel w0 ρ nt S α a w.drew := h.later (Below.refl _ _).drew
theorem Rel.eval (h : Rel w0 ρ nt S α a w) {ti : List Nat} {x : Operand} {v : SV} (hv : ev (sel ti S.tl) x = some v) : a.eval x = v.den (gam α) ρ ∧ v.ok α := by
  cases x with
  | tmp t =>
    obtain ⟨h1, h2⟩ := h.tmp t v (lk_sel_some hv).2
    refine ⟨?_, h2⟩
    show a.tmps.getD t undef = _
    rw [Array.getD_eq_getD_getElem?, h1]
    rfl
  | const c => cases hv; exact ⟨(ofVal_den c _).symm, ofVal_ok c⟩
  | global g => cases hv; exact ⟨rfl, trivial⟩
  | func f => cases hv; exact ⟨rfl, fun x hx => by simp at hx⟩
theorem ev1_ev {tr : List (Nat × SV)} {x : Operand} {v : S1} (h : ev1 tr x = some v) : ev tr x = some (.one v) := by
  unfold ev1 at h
  split at h
  · rename_i y h1; cases h; exact h1
  · simp at h
theorem Rel.eval1 (h : Rel w0 ρ nt S α a w) {ti : List Nat} {x : Operand} {v : S1} (hv : ev1 (sel ti S.tl) x = some v) : a.eval x = v.den (gam α) ρ ∧ v.ok α :=
  h.eval (ev1_ev hv)
theorem Rel.evals (h : Rel w0 ρ nt S α a w) {ti : List Nat} : ∀ {l : List Operand} {vs : List S1}, evs (sel ti S.tl) l = some vs → l.map a.eval = vs.map (S1.den (gam α) ρ) ∧ ∀ v ∈ vs, v.ok α
  | [], vs, hv => by cases hv; exact ⟨rfl, fun v hv => by simp at hv⟩
  | x :: l, vs, hv => by
    unfold evs at hv
    split at hv
    · rename_i y hy
      split at hv
      · rename_i r hr
        cases hv
        obtain ⟨h1, h2⟩ := h.eval1 hy
        obtain ⟨h3, h4⟩ := h.evals hr
        refine ⟨by simp [h1, h3], fun v hv => ?_⟩
        rcases List.mem_cons.1 hv with rfl | hv
        · exact h2
        · exact h4 v hv
      · simp at hv
    · simp at hv
end

/-! Types. -/
section
variable {P : Program} {w : World} {t : TypeId}
theorem run_tSize {n : Nat} (h : tSize P t = some n) : (sizeOf t).run P w = .ok n w := by
  unfold tSize at h
  split at h
  · rename_i i hi; cases h; simp [sizeOf, typeInfo, hi]
  · simp at h
theorem run_tAgg {b : Bool} (h : tAgg P t = some b) : (isAgg t).run P w = .ok b w := by
  unfold tAgg at h
  split at h
  · rename_i d hd
    cases h
    unfold isAgg
    rw [Sem.run_bind, run_underlying hd]
    cases d <;> rfl
  · simp at h
theorem run_tZero {l : List Value} (h : tZero P t = some l) : ∃ v, (zeroValue t).run P w = .ok v w ∧ v.cells.toList = l := by
  unfold tZero at h
  split at h
  · rename_i i hi
    split at h
    · rename_i v hv
      cases h
      exact ⟨v, by simp [zeroValue, typeInfo, hi, hv], rfl⟩
    · simp at h
  · simp at h
theorem run_tField {f : Nat} {fld : Field} (h : tField P t f = some fld) : ∃ fs, P.underlying t = some (.struct fs) ∧ fs[f]? = some fld := by
  unfold tField at h
  split at h
  · rename_i fs hd; exact ⟨fs, hd, h⟩
  · simp at h
end

/-! Cells of a block, read and written in a row. -/
theorem put_get {β : Type} : ∀ (vs : List β) (l : List β) (off j : Nat), off + vs.length ≤ l.length → (put l off vs)[j]? = if off ≤ j ∧ j < off + vs.length then vs[j - off]? else l[j]?
  | [], l, off, j, h => by
    rw [put, if_neg]
    simp only [List.length_nil]
    omega
  | y :: r, l, off, j, h => by
    simp only [List.length_cons] at h ⊢
    rw [put, put_get r (l.set off y) (off + 1) j (by simp; omega)]
    by_cases h1 : off + 1 ≤ j ∧ j < off + 1 + r.length
    · rw [if_pos h1, if_pos (by omega), show j - off = (j - (off + 1)) + 1 by omega, List.getElem?_cons_succ]
    · rw [if_neg h1]
      by_cases h2 : j = off
      · subst h2
        rw [if_pos (by omega), Nat.sub_self, List.getElem?_cons_zero, List.getElem?_set_self (by omega)]
      · rw [if_neg (by omega), List.getElem?_set_ne (by omega)]
theorem addr_add (g off n : Nat) : (⟨g, off, none⟩ : Addr).add n = ⟨g, off + n, none⟩ := by
  unfold Addr.add
  split
  · rename_i h; subst h; rfl
  · rfl
section
variable {P : Program} {w : World}
theorem run_cellsAt (g off : Nat) : ∀ (vs : List Value) (i : Nat) (acc : Array Value), (∀ j v, vs[j]? = some v → w.cell? ⟨g, off + (i + j), none⟩ = some v) →
    (loadCellsFrom ⟨g, off, none⟩ i vs.length acc).run P w = .ok (acc ++ vs.toArray) w
  | [], i, acc, _ => by simp [loadCellsFrom]
  | v :: vs, i, acc, h => by
    have h0 := h 0 v rfl
    rw [Nat.add_zero] at h0
    have ih := run_cellsAt g off vs (i + 1) (acc.push v) (fun j u hj => by
      have := h (j + 1) u (by simpa using hj)
      rwa [show off + (i + 1 + j) = off + (i + (j + 1)) by omega])
    simp only [List.length_cons, loadCellsFrom, Sem.run_bind, addr_add, run_load, h0, Result.andThen, ih]
    simp
theorem run_storeAt (g : Nat) (E : TypeId) : ∀ (vs cs : List Value) (off i : Nat) (w : World), Blk w g E cs → (∀ v ∈ vs, v.oneCell' = true) → off + i + vs.length ≤ cs.length →
    ∃ w', (storeCells ⟨g, off, none⟩ vs i).run P w = .ok () w' ∧ Blk w' g E (put cs (off + i) vs) ∧ (∀ g' E' cs', g' ≠ g → Blk w g' E' cs' → Blk w' g' E' cs') ∧ (∀ B, B ≤ g → Below B w w')
  | [], cs, off, i, w, hB, _, _ => ⟨w, rfl, hB, fun _ _ _ _ h => h, fun _ _ => Below.refl _ _⟩
  | v :: vs, cs, off, i, w, hB, hv, hl => by
    simp only [List.length_cons] at hl
    obtain ⟨x, hx⟩ : ∃ x, cs[off + i]? = some x := ⟨cs[off + i]'(by omega), List.getElem?_eq_getElem (by omega)⟩
    have hc := hB.cell hx
    have hf := hB.free (j := off + i) (by omega)
    have h1 := run_store P w ⟨g, off + i, none⟩ v .plain (hv v (by simp))
    rw [hc, hf] at h1
    obtain ⟨w', e, k1, k2, k3⟩ := run_storeAt g E vs (cs.set (off + i) v) off (i + 1) (w.setCell ⟨g, off + i, none⟩ v) (hB.set (off + i) v) (fun u hu => hv u (by simp [hu])) (by simp; omega)
    refine ⟨w', ?_, ?_, ?_, ?_⟩
    · rw [storeCells, Sem.run_bind, addr_add, h1]
      exact e
    · rw [put]; exact k1
    · intro g' E' cs' hne h2
      exact k2 g' E' cs' hne (h2.setOther (fun e => hne e.symm) v)
    · intro B hBg
      exact (Below.setCell (Below.refl _ _) hBg v).trans (k3 B hBg)
end

/-! What must hold besides, in the model's words. -/
def Mem (γ : Nat → Nat) (ρ : Env) (mem : List (Nat × SC)) (w : World) : Prop :=
  ∀ k x, lk k mem = some x → w.cell? ⟨γ (k / stride), k % stride - 1, none⟩ = some (x.den γ ρ)
def EK.to : EK → Exit
  | .normal => .normal
  | .exit id => .exit id
  | .ret => .ret
def eta (tr : List (Nat × SV)) (ρ : Env) : Operand → Value
  | .tmp t => match lk t tr with
    | some v => v.den (fun _ => 0) ρ
    | none => undef
  | .const v => v
  | .global g => .pointer (some ⟨g, 0, none⟩)
  | .func f => .func (.func f) #[] #[]
def FK.fits : FK → Value → Bool
  | .b, .bool _ => true
  | .i k, .int k' _ => decide (k = k')
  | .s, .string _ => true
  | _, _ => false
def kinds : List FK → List Value → Bool
  | [], [] => true
  | k :: ks, v :: vs => k.fits v && kinds ks vs
  | _, _ => false
def eqCell : Value → Value → Bool
  | .bool a, .bool b => a == b
  | .int _ a, .int _ b => a == b
  | .string a, .string b => a.toList == b.toList
  | _, _ => false
def eqL : List Value → List Value → Bool
  | x :: xs, y :: ys => eqCell x y && eqL xs ys
  | _, _ => true
def Ob.holds (P : Program) (w0 : World) (ρ : Env) (nt : Nat) : Ob → Prop
  | .isB i b => ρ i = .bool b
  | .isI i j => ρ i = .int .i64 (j : Int)
  | .prim op t tr r => ∀ w, Below w0.heap.size w0 w → (execOp (eta tr ρ) ⟨none, op, t, "", #[], none⟩).run P w = .ok (.value (r.den (fun _ => 0) ρ)) w
  | .op2 bo op x y n => sem2 bo op (x.den (fun _ => 0) ρ) (y.den (fun _ => 0) ρ) = some (ρ n)
  | .op1 op x n => sem1 op (x.den (fun _ => 0) ρ) = some (ρ n)
  | .eqs neg ks l m n => kinds ks (l.map (SC.den (fun _ => 0) ρ)) = true ∧ kinds ks (m.map (SC.den (fun _ => 0) ρ)) = true ∧ ρ n = .bool (neg != eqL (l.map (SC.den (fun _ => 0) ρ)) (m.map (SC.den (fun _ => 0) ρ)))
  | .cvt k x n => ∃ k' v, x.den (fun _ => 0) ρ = .int k' v ∧ ρ n = .int k (k.wrap v)
  | .len x n => ∃ s : ByteArray, x.den (fun _ => 0) ρ = .string s ∧ ρ n = .int .i64 (s.size : Int)
  | .call f args r mem => ∀ γ w, Below w0.heap.size w0 w → Mem γ ρ mem w →
      Calls P f (args.map (S1.den γ ρ)).toArray w fun e w' => e = .returned (r.den γ ρ) ∧ Below w.heap.size w w'
  | .callF f args t l n mem => ∀ γ w, Below w0.heap.size w0 w → Mem γ ρ mem w →
      Calls P f (args.map (S1.den γ ρ)).toArray w fun e w' => e = .returned (.slice (some ⟨w.heap.size, 0, none⟩) n n) ∧ w' = w.alloc (.cells (l.map (SC.den γ ρ)).toArray t)
  | .callv i args r mem => ∃ g first caps, ρ i = .func (.func g) first caps ∧ callable P g = true ∧ ∀ γ w, Below w0.heap.size w0 w → Mem γ ρ mem w →
      Calls P g (first ++ (args.map (S1.den γ ρ)).toArray ++ caps) w fun e w' => e = .returned (r.den γ ρ) ∧ Below w.heap.size w w'
  | .code c S X Y e => ∀ α a w Q, Rel w0 ρ nt S α a w → (∀ α' a' w', Ext α α' → Rel w0 ρ nt ⟨X ++ S.tl, Y ++ S.ml⟩ α' a' w' → Q e.to a' w') → c.wp P Q a w

section
variable {P : Program} {w0 w : World} {ρ : Env} {nt : Nat} {S : St} {α : Places} {a : Act}
theorem fit_den (hρ : ∀ i, (ρ i).oneCell' = true) {x : SC} (h : x.fit = true) (γ : Nat → Nat) : (x.den γ ρ).oneCell' = true := by
  cases x with
  | p x => cases x with
    | «at» i => exact hρ i
    | lit v => exact h
    | ptr b o => rfl
    | slc b o n c => rfl
  | fn f l => rfl
theorem cells_den (hρ : ∀ i, (ρ i).oneCell' = true) {v : S1} (h : ∀ x ∈ v.cells, x.fit = true) (γ : Nat → Nat) : (v.den γ ρ).cells = (v.cells.map (SC.den γ ρ)).toArray := by
  cases v with
  | agg l => rfl
  | c x =>
    have h1 := fit_den hρ (h x (by simp [S1.cells])) γ
    show (x.den γ ρ).cells = #[x.den γ ρ]
    generalize x.den γ ρ = u at h1 ⊢
    cases u <;> first | rfl | simp [Value.oneCell'] at h1

/-- An operation does what its symbols say. -/
def Did (P : Program) (w0 : World) (ρ : Env) (nt : Nat) (S : St) (α : Places) (a : Act) (w : World) (o : Oper) (v : SV) (cw : List (Nat × SC)) : Prop :=
  (∃ u α' w', ((execOp a.eval o).run P w = .ok (.value u) w' ∨ ((execOp a.eval o).run P w = .ok .skip w' ∧ u = undef)) ∧ Ext α α' ∧ u = v.den (gam α') ρ ∧ v.ok α' ∧ Rel w0 ρ nt ⟨S.tl, cw ++ S.ml⟩ α' a w')
  ∨ (∃ f args, (execOp a.eval o).run P w = .ok (.enter f args) w ∧ cw = [] ∧ v.ok α ∧ Calls P f args w fun e w' => e = .returned (v.den (gam α) ρ) ∧ Below w.heap.size w w')
theorem did_value {o : Oper} {v : SV} (hR : Rel w0 ρ nt S α a w) (h : (execOp a.eval o).run P w = .ok (.value (v.den (gam α) ρ)) w) (hv : v.ok α) : Did P w0 ρ nt S α a w o v [] :=
  .inl ⟨_, α, w, .inl h, Ext.refl α, rfl, hv, hR⟩

def boxWal (g : Nat) : Option Nat → Value
  | none => .pointer (some ⟨g, 0, none⟩)
  | some n => .slice (some ⟨g, 0, none⟩) n n
theorem newBox_did {ci : List Nat} {t : TypeId} {l : List SC} {k : Option Nat} {x x' : Aux} {v : SV} {cw : List (Nat × SC)} {obs : List Ob} (hR : Rel w0 ρ nt S α a w)
    (h : newBox (sel ci S.ml) t l k x = some (v, cw, obs, x')) (hci : x.nb * stride ∈ ci) (hl : ∀ y ∈ l, y.ok α) :
    ∃ α', Ext α α' ∧ v.den (gam α') ρ = boxWal w.heap.size k ∧ v.ok α' ∧ (∀ y ∈ l, y.fit = true) ∧ Rel w0 ρ nt ⟨S.tl, cw ++ S.ml⟩ α' a (w.alloc (.cells (l.map (SC.den (gam α) ρ)).toArray t)) := by
  unfold newBox at h
  split at h
  · simp at h
  · rename_i hn
    split at h
    · rename_i hc
      cases h
      simp only [Bool.and_eq_true, List.all_eq_true] at hc
      obtain ⟨hfit, hsz⟩ := hc
      have hsz := Nat.le_of_ble_eq_true hsz
      rw [lk_sel, if_pos hci] at hn
      have hnone : α x.nb = none := by
        cases h : α x.nb with
        | none => rfl
        | some g =>
          obtain ⟨ty, caps, h2, _⟩ := hR.box _ _ h
          rw [hn] at h2
          simp at h2
      have hoff := hR.off _ hnone
      let α' : Places := fun b => if b = x.nb then some w.heap.size else α b
      have hE : Ext α α' := fun b g hb => by
        show (if b = x.nb then some w.heap.size else α b) = some g
        rw [if_neg (fun e => by rw [e, hnone] at hb; simp at hb)]
        exact hb
      have hnew : α' x.nb = some w.heap.size := if_pos rfl
      have hkey : ∀ b o, b ≠ x.nb → o < stride → lk (b * stride + o) ((x.nb * stride, SC.fn t []) :: number (x.nb * stride + 1) l ++ S.ml) = lk (b * stride + o) S.ml := by
        intro b o hb ho
        have hne : ¬ (x.nb * stride = b * stride + o) := by simp only [stride] at ho ⊢; omega
        rw [List.cons_append, lk_cons, if_neg hne, lk_append, lk_number]
        by_cases hle : x.nb * stride + 1 ≤ b * stride + o
        · rw [if_pos hle, List.getElem?_eq_none (by simp only [stride] at ho hsz hle ⊢; omega)]
        · rw [if_neg hle]
      refine ⟨α', hE, ?_, ?_, hfit, ?_⟩
      · cases k <;> simp [SV.den, S1.den, SC.den, SP.den, gam, hnew, boxVal, boxWal]
      · cases k <;> simp [SV.ok, S1.ok, SC.ok, SP.ok, hnew, boxVal]
      · have hb0 : w0.heap.size ≤ w.heap.size := hR.below.size
        have hW : ∀ b g, α b = some g → g < w.heap.size := fun b g hg => by
          exact (hR.box b g hg).lt hR.below
        refine ⟨hR.size, hR.defs, ?_, ?_, ?_, ?_, hR.below.alloc hb0 _⟩
        · intro t' v' hv'
          obtain ⟨h1, h2⟩ := hR.tmp t' v' hv'
          obtain ⟨h3, h4⟩ := SV.up (ρ := ρ) hE h2
          exact ⟨by rw [h4]; exact h1, h3⟩
        · intro b g hg
          by_cases hb : b = x.nb
          · subst hb
            rw [hnew] at hg
            cases hg
            refine ⟨t, [], ?_, .inl ⟨rfl, hb0, l.map (SC.den (gam α) ρ), ?_, ?_⟩⟩
            · show lk _ ((x.nb * stride, SC.fn t []) :: number (x.nb * stride + 1) l ++ S.ml) = _
              rw [List.cons_append, lk_cons, if_pos rfl]
            · have := Blk.new w (l.map (SC.den (gam α) ρ)).toArray t
              simpa using this
            · intro o ho
              show match lk (x.nb * stride + 1 + o) ((x.nb * stride, SC.fn t []) :: number (x.nb * stride + 1) l ++ S.ml) with
                | some y => y.ok α' ∧ (l.map (SC.den (gam α) ρ))[o]? = some (y.den (gam α') ρ)
                | none => (l.map (SC.den (gam α) ρ))[o]? = none
              rw [List.cons_append, lk_cons, if_neg (by omega), lk_append, lk_number, if_pos (by omega), show x.nb * stride + 1 + o - (x.nb * stride + 1) = o by omega]
              cases hlo : l[o]? with
              | some y =>
                obtain ⟨h3, h4⟩ := SC.up (ρ := ρ) hE (hl y (List.mem_of_getElem? hlo))
                exact ⟨h3, by simp [hlo, h4]⟩
              | none =>
                simp only []
                rw [show x.nb * stride + 1 + o = x.nb * stride + (1 + o) by omega, hoff (1 + o) (by omega)]
                simp only []
                simp only [List.getElem?_map, hlo]
                rfl
          · have hg' : α b = some g := by
              have : α' b = α b := if_neg hb
              rw [← this]; exact hg
            have hB := (hR.box b g hg').keep hR.below ((Below.refl w.heap.size w).alloc (Nat.le_refl _) (.cells (l.map (SC.den (gam α) ρ)).toArray t))
            refine hB.turn ?_ (fun o ho => ?_)
            · have := hkey b 0 hb (by simp [stride])
              simp only [Nat.add_zero] at this
              exact this
            · have e := hkey b (1 + o) hb (by omega)
              rw [show b * stride + 1 + o = b * stride + (1 + o) by omega]
              cases hlo : lk (b * stride + (1 + o)) S.ml with
              | none => exact .inl ⟨rfl, by rw [← hlo]; exact e⟩
              | some y => exact .inr ⟨y, y, rfl, by rw [← hlo]; exact e, fun h6 => SC.up hE h6⟩
        · intro b hb o ho
          have hb' : b ≠ x.nb := fun e => by rw [e, hnew] at hb; simp at hb
          have hb2 : α b = none := by
            have : α' b = α b := if_neg hb'
            rw [← this]; exact hb
          rw [hkey b o hb' ho]
          exact hR.off b hb2 o ho
        · intro b b' g hb hb' hgw
          have f : ∀ b g, α' b = some g → (b = x.nb ∧ g = w.heap.size) ∨ (b ≠ x.nb ∧ α b = some g) := by
            intro b g hg
            by_cases e : b = x.nb
            · subst e; rw [hnew] at hg; cases hg; exact .inl ⟨rfl, rfl⟩
            · exact .inr ⟨e, by have : α' b = α b := if_neg e
                                rw [← this]; exact hg⟩
          rcases f b g hb with ⟨h1, h2⟩ | ⟨h1, h2⟩ <;> rcases f b' g hb' with ⟨h3, h4⟩ | ⟨h3, h4⟩
          · rw [h1, h3]
          · have := hW _ _ h4; omega
          · have := hW _ _ h2; omega
          · exact hR.inj _ _ _ h2 h4 hgw
    · simp at h

theorem rd_get {ml : List (Nat × SC)} : ∀ {ks : List Nat} {l : List SC}, rd ml ks = some l → l.length = ks.length ∧ ∀ (j k : Nat), ks[j]? = some k → ∃ x : SC, lk k ml = some x ∧ l[j]? = some x
  | [], l, h => by cases h; exact ⟨rfl, fun j k hk => by simp at hk⟩
  | k :: ks, l, h => by
    unfold rd at h
    split at h
    · rename_i x hx
      split at h
      · rename_i r hr
        cases h
        obtain ⟨h1, h2⟩ := rd_get hr
        refine ⟨by simp [h1], fun j k' hk => ?_⟩
        cases j with
        | zero => simp at hk; subst hk; exact ⟨x, hx, rfl⟩
        | succ j => simp at hk; simpa using h2 j k' hk
      · simp at h
    · simp at h
/-- What a box holds from a place on. -/
theorem Rel.cells (hR : Rel w0 ρ nt S α a w) {b off n g : Nat} {l : List SC} {ml : List (Nat × SC)} (hml : ∀ k x, lk k ml = some x → lk k S.ml = some x) (hg : α b = some g) (h : rdBox ml b off n = some l) :
    1 ≤ n ∧ off + n + 2 ≤ stride ∧ l.length = n ∧ (∀ y ∈ l, y.ok α) ∧ (∀ j y, l[j]? = some y → w.cell? ⟨g, off + j, none⟩ = some (y.den (gam α) ρ)) ∧ ∃ y, lk (b * stride + 1 + (off + (n - 1))) S.ml = some y := by
  unfold rdBox at h
  split at h
  · rename_i hle
    simp only [Bool.and_eq_true] at hle
    obtain ⟨h0, hle⟩ := hle
    have h0 := Nat.le_of_ble_eq_true h0
    have hle := Nat.le_of_ble_eq_true hle
    obtain ⟨h1, h2⟩ := rd_get h
    have hlen : l.length = n := by rw [h1]; simp [keys]
    have key : ∀ j y, l[j]? = some y → y.ok α ∧ w.cell? ⟨g, off + j, none⟩ = some (y.den (gam α) ρ) := by
      intro j y hy
      have hj : j < n := by
        rw [← hlen]
        exact (List.getElem?_eq_some_iff.1 hy).1
      obtain ⟨x, hx, hx2⟩ := h2 j (b * stride + 1 + (off + j)) (by simp [keys, hj])
      rw [hy] at hx2
      cases hx2
      exact (hR.box b g hg).get (by omega) (hml _ _ hx)
    refine ⟨h0, hle, hlen, ?_, fun j y hy => (key j y hy).2, ?_⟩
    · intro y hy
      obtain ⟨j, hj⟩ := List.getElem?_of_mem hy
      exact (key j y hj).1
    · have hk : (keys b off n)[n - 1]? = some (b * stride + 1 + (off + (n - 1))) := by
        unfold keys
        rw [List.getElem?_map, List.getElem?_range (by omega)]
        rfl
      obtain ⟨x, hx, _⟩ := h2 _ _ hk
      exact ⟨x, hml _ _ hx⟩
  · simp at h
end

section
variable {P : Program} {w0 w : World} {ρ : Env} {nt : Nat} {S : St} {α : Places} {a : Act}
theorem free_den {v : SV} (h : ∀ α, v.ok α) (γ : Places) : v.den (gam γ) ρ = v.den (fun _ => 0) ρ :=
  (SV.up (ρ := ρ) (α := fun _ => none) (α' := γ) (fun _ _ h => by simp at h) (h _)).2
theorem prim_did {ti : List Nat} {o : Oper} {x x' : Aux} {v : SV} {cw : List (Nat × SC)} {obs : List Ob} (hR : Rel w0 ρ nt S α a w)
    (h : prim P (sel ti S.tl) o x = some (v, cw, obs, x')) (hob : ∀ b ∈ obs, b.holds P w0 ρ nt) : Did P w0 ρ nt S α a w o v cw := by
  unfold prim at h
  split at h
  · rename_i hc
    simp only [Bool.and_eq_true, List.all_eq_true] at hc
    obtain ⟨⟨h1, h2⟩, h3⟩ := hc
    split at h
    · rename_i r n' hs
      cases h
      have hr := hob _ (List.mem_singleton.2 rfl) w hR.below
      have e : execOp a.eval o = execOp (eta (sel ti S.tl) ρ) ⟨none, o.op, o.type, "", #[], none⟩ := by
        show execOp a.eval o = execOp (eta (sel ti S.tl) ρ) o
        refine execOp_congr o (fun cs b e => by rw [e] at h1; simp [prims] at h1) (fun y hy => ?_)
        cases y with
        | tmp t =>
          have ht : t ∈ tmpsOf o.op.operands.toList := by
            unfold tmpsOf
            rw [List.mem_filterMap]
            exact ⟨.tmp t, by simpa using hy, rfl⟩
          have h4 := h3 t ht
          obtain ⟨u, hu⟩ := Option.isSome_iff_exists.1 h4
          have h5 := (hR.eval (x := .tmp t) (ti := ti) hu).1
          rw [h5]
          show _ = match lk t (sel ti S.tl) with | some v => v.den (fun _ => 0) ρ | none => undef
          rw [hu]
          exact SV.shut_den (h2 _ (mem_lk hu)) _ _
        | const c => rfl
        | global g => rfl
        | func f => rfl
      refine did_value hR ?_ (shape_ok hs)
      rw [e, hr, free_den (fun α => shape_ok hs)]
    · simp at h
  · simp at h

theorem ptr_at {b off : Nat} (h : (SV.one (.c (.p (.ptr b off)))).ok α) : ∃ g, α b = some g ∧ (SV.one (.c (.p (.ptr b off)))).den (gam α) ρ = .pointer (some ⟨g, off, none⟩) := by
  obtain ⟨g, hg⟩ := Option.isSome_iff_exists.1 h
  exact ⟨g, hg, by simp [SV.den, S1.den, SC.den, SP.den, gam, hg]⟩

theorem store_did {ti ci : List Nat} {o : Oper} {t : TypeId} {y z : Operand} {b off n : Nat} {u : S1} {l : List SC} (hρ : ∀ i, (ρ i).oneCell' = true) (hR : Rel w0 ρ nt S α a w) (ho : o.op = .store t y z)
    (h1 : ev1 (sel ti S.tl) y = some (.c (.p (.ptr b off)))) (h2 : ev1 (sel ti S.tl) z = some u) (h3 : tSize P t = some n)
    (h4 : rdBox (sel ci S.ml) b off n = some l) {fty : FuncId} (hfl : lk (b * stride) (sel ci S.ml) = some (.fn fty [])) (h5 : ∀ x ∈ u.cells, x.fit = true) (h6 : u.cells.length = n) :
    Did P w0 ρ nt S α a w o (.one (.c (.p (.lit undef)))) (number (b * stride + 1 + off) u.cells) := by
  obtain ⟨e1, k1⟩ := hR.eval1 h1
  obtain ⟨e2, k2⟩ := hR.eval1 h2
  obtain ⟨g, hg, e3⟩ := ptr_at (ρ := ρ) k1
  obtain ⟨hn1, hst, hl, hok, hget, ylast, hylast⟩ := hR.cells (fun k x hx => (lk_sel_some hx).2) hg h4
  have hty := (lk_sel_some hfl).2
  obtain ⟨hw0, cs, hB, hcell⟩ := (hR.box b g hg).own hty
  have hle : off + n ≤ cs.length := by
    have h8 := hcell (off + (n - 1)) (by omega)
    unfold cellIs at h8
    rw [hylast] at h8
    have := (List.getElem?_eq_some_iff.1 h8.2).1
    omega
  have hcells := cells_den hρ h5 (gam α)
  obtain ⟨w', r1, r2, r3, r4⟩ := run_storeAt (P := P) g fty (u.cells.map (SC.den (gam α) ρ)) cs off 0 w hB (by
    intro v hv
    obtain ⟨x, hx, rfl⟩ := List.mem_map.1 hv
    exact fit_den hρ (h5 x hx) _) (by simp [h6]; omega)
  rw [Nat.add_zero] at r2
  have hrun : (execOp a.eval o).run P w = .ok .skip w' := by
    have e1' : a.eval y = .pointer (some ⟨g, off, none⟩) := e1.trans e3
    simp only [execOp, ho, e1', e2, Instr.storeAt, Instr.sureAddr, pure_bind, storeVar, Sem.run_bind, run_tSize h3, Result.andThen, hcells]
    rw [if_neg (by simp [h6])]
    rw [r1]
    rfl
  refine .inl ⟨undef, α, w', .inr ⟨hrun, rfl⟩, Ext.refl α, rfl, trivial, ?_⟩
  have hkey : ∀ b' o, o < stride → (b' ≠ b ∨ o < 1 + off ∨ 1 + off + n ≤ o) → lk (b' * stride + o) (number (b * stride + 1 + off) u.cells ++ S.ml) = lk (b' * stride + o) S.ml := by
    intro b' o ho hh
    rw [lk_append, lk_number]
    by_cases hle : b * stride + 1 + off ≤ b' * stride + o
    · rw [if_pos hle, List.getElem?_eq_none (by simp only [stride] at ho hst hle ⊢; omega)]
    · rw [if_neg hle]
  refine ⟨hR.size, hR.defs, hR.tmp, ?_, ?_, hR.inj, hR.below.trans (r4 _ hw0)⟩
  · intro b' g' hg'
    by_cases hb : b' = b
    · subst hb
      rw [hg] at hg'
      cases hg'
      refine ⟨fty, [], ?_, .inl ⟨rfl, hw0, put cs off (u.cells.map (SC.den (gam α) ρ)), r2, ?_⟩⟩
      · have := hkey b' 0 (by simp [stride]) (.inr (.inl (by omega)))
        simp only [Nat.add_zero] at this
        show lk (b' * stride) (number _ _ ++ S.ml) = _
        rw [this]; exact hty
      · intro o ho
        show match lk (b' * stride + 1 + o) (number (b' * stride + 1 + off) u.cells ++ S.ml) with
          | some x => x.ok α ∧ (put cs off (u.cells.map (SC.den (gam α) ρ)))[o]? = some (x.den (gam α) ρ)
          | none => (put cs off (u.cells.map (SC.den (gam α) ρ)))[o]? = none
        rw [put_get _ _ _ _ (by simp [h6]; omega)]
        by_cases hin : off ≤ o ∧ o < off + n
        · rw [if_pos (by simp [h6]; omega), lk_append, lk_number, if_pos (by omega), show b' * stride + 1 + o - (b' * stride + 1 + off) = o - off by omega]
          obtain ⟨x, hx⟩ : ∃ x, u.cells[o - off]? = some x := ⟨u.cells[o - off]'(by omega), List.getElem?_eq_getElem (by omega)⟩
          rw [hx]
          exact ⟨S1.cells_ok k2 x (List.mem_of_getElem? hx), by simp [hx]⟩
        · rw [if_neg (by simp [h6]; omega), show b' * stride + 1 + o = b' * stride + (1 + o) by omega, hkey b' (1 + o) (by omega) (.inr (by omega)), ← show b' * stride + 1 + o = b' * stride + (1 + o) by omega]
          exact hcell o ho
    · have hc : ∀ o, o < stride → lk (b' * stride + o) (number (b * stride + 1 + off) u.cells ++ S.ml) = lk (b' * stride + o) S.ml := fun o ho => hkey b' o ho (.inl hb)
      have hB' : BoxIs w0 ρ α S.ml w' b' g' := by
        obtain ⟨ty', caps', p0, ⟨p1, p2, cs', p3, p4⟩ | ⟨p1, p2, p3⟩⟩ := hR.box b' g' hg'
        · have hne : g' ≠ g := fun e => hb (hR.inj _ _ _ hg' (e ▸ hg) p2)
          exact ⟨ty', caps', p0, .inl ⟨p1, p2, cs', r3 g' ty' cs' hne p3, p4⟩⟩
        · refine ⟨ty', caps', p0, .inr ⟨p1, p2, fun o ho => ?_⟩⟩
          have p4 := p3 o ho
          unfold roIs at p4 ⊢
          split at p4
          · exact ⟨p4.1, ((r4 _ hw0).cell (p := ⟨g', o, none⟩) p2).trans p4.2⟩
          · trivial
      refine hB'.turn ?_ (fun o ho => ?_)
      · have := hc 0 (by simp [stride])
        simpa using this
      · have e := hc (1 + o) (by omega)
        rw [show b' * stride + 1 + o = b' * stride + (1 + o) by omega]
        cases hlo : lk (b' * stride + (1 + o)) S.ml with
        | none => exact .inl ⟨rfl, by rw [← hlo]; exact e⟩
        | some y => exact .inr ⟨y, y, rfl, by rw [← hlo]; exact e, fun h6 => ⟨h6, rfl⟩⟩
  · intro b' hb' o ho
    have hb : b' ≠ b := fun e => by rw [e, hg] at hb'; simp at hb'
    show lk (b' * stride + o) (number _ _ ++ S.ml) = none
    rw [hkey b' o ho (.inl hb)]
    exact hR.off b' hb' o ho

theorem load_run {ml : List (Nat × SC)} {b off n g : Nat} {l : List SC} {ag : Bool} {t : TypeId} {v : S1} (hR : Rel w0 ρ nt S α a w) (hml : ∀ k x, lk k ml = some x → lk k S.ml = some x) (hg : α b = some g)
    (h3 : tAgg P t = some ag) (h4 : tSize P t = some n) (h : rdBox ml b off n = some l) (h5 : one ag l = some v) :
    (loadVar t ⟨g, off, none⟩).run P w = .ok (v.den (gam α) ρ) w ∧ v.ok α := by
  obtain ⟨_, hst, hl, hok, hget, _⟩ := hR.cells hml hg h
  unfold one at h5
  split at h5
  · cases h5
    refine ⟨?_, hok⟩
    have e := run_cellsAt (P := P) (w := w) g off (l.map (SC.den (gam α) ρ)) 0 #[] (fun j u hu => by
      simp only [List.getElem?_map, Option.map_eq_some_iff] at hu
      obtain ⟨y, hy, rfl⟩ := hu
      rw [Nat.zero_add]
      exact hget j y hy)
    simp only [List.length_map, hl] at e
    unfold loadVar loadCells
    simp only [Sem.run_bind, run_tAgg h3, Result.andThen, if_true, run_tSize h4, e]
    simp [S1.den]
  · cases h5
    rename_i x
    refine ⟨?_, hok x (by simp)⟩
    have h6 := hget 0 x rfl
    rw [Nat.add_zero] at h6
    unfold loadVar
    simp only [Sem.run_bind, run_tAgg h3, Result.andThen, Bool.false_eq_true, if_false, run_load, h6]
    rfl
  · simp at h5
end

section
variable {P : Program} {w0 w : World} {ρ : Env} {nt : Nat} {S : St} {α : Places} {a : Act}
theorem asB_den {v : S1} {x x' : Aux} {r : Bool} {obs : List Ob} (h : asB v x = some (r, obs, x')) (hob : ∀ b ∈ obs, b.holds P w0 ρ nt) (γ : Nat → Nat) : v.den γ ρ = .bool r := by
  unfold asB at h
  split at h
  · cases h; rfl
  · split at h
    · rename_i b x'' hd
      cases h
      exact hob _ (List.mem_singleton.2 rfl)
    · simp at h
  · simp at h
theorem fold_put : ∀ (vs l : List Value) (off k : Nat), (vs.zipIdx k).foldl (fun cs (p : Value × Nat) => cs.setIfInBounds (off + p.2) p.1) l.toArray = (put l (off + k) vs).toArray
  | [], l, off, k => rfl
  | v :: vs, l, off, k => by
    rw [List.zipIdx_cons, List.foldl_cons, put, show off + k + 1 = off + (k + 1) by omega, ← fold_put vs (l.set (off + k) v) off (k + 1)]
    simp
theorem put_ok {β : Type} {p : β → Prop} : ∀ {vs l : List β} {off : Nat}, (∀ x ∈ l, p x) → (∀ x ∈ vs, p x) → ∀ x ∈ put l off vs, p x
  | [], l, off, hl, _ => hl
  | v :: vs, l, off, hl, hv => by
    rw [put]
    refine put_ok (fun x hx => ?_) (fun x hx => hv x (by simp [hx]))
    rcases List.mem_or_eq_of_mem_set hx with h | h
    · exact hl x h
    · subst h; exact hv _ (by simp)
theorem put_map {β γ : Type} (f : β → γ) : ∀ (vs l : List β) (off : Nat), (put l off vs).map f = put (l.map f) off (vs.map f)
  | [], l, off => rfl
  | v :: vs, l, off => by rw [put, List.map_cons, put, put_map f vs, List.map_set]
theorem fill_den (hρ : ∀ i, (ρ i).oneCell' = true) {ti : List Nat} (hR : Rel w0 ρ nt S α a w) (place : Nat → Option (Nat × Nat)) :
    ∀ {parts : List (Nat × Operand)} {l r : List SC}, fillS (sel ti S.tl) place l parts = some r → (∀ x ∈ l, x.ok α) →
      Instr.fill place (l.map (SC.den (gam α) ρ)).toArray (parts.map fun p => (p.1, a.eval p.2)) = some (r.map (SC.den (gam α) ρ)).toArray ∧ (∀ x ∈ r, x.ok α)
  | [], l, r, h, hl => by
    cases h
    exact ⟨rfl, hl⟩
  | (i, y) :: rest, l, r, h, hl => by
    unfold fillS at h
    split at h
    · rename_i off k v hf hv
      split at h
      · rename_i hc
        simp only [Bool.and_eq_true, List.all_eq_true] at hc
        obtain ⟨⟨h1, h2⟩, h3⟩ := hc
        have h2 := Nat.eq_of_beq_eq_true h2
        have h3 := Nat.le_of_ble_eq_true h3
        obtain ⟨k1, k2⟩ := hR.eval1 hv
        have hcells := cells_den hρ h1 (gam α)
        obtain ⟨h4, h5⟩ := fill_den hρ hR place h (put_ok hl (S1.cells_ok k2))
        refine ⟨?_, h5⟩
        rw [List.map_cons, Instr.fill]
        simp only [hf, k1, hcells]
        rw [if_neg (by simp [h2]; omega)]
        rw [← h4, put_map]
        congr 1
        rw [← Array.foldl_toList, Array.toList_zipIdx]
        have := fold_put (v.cells.map (SC.den (gam α) ρ)) (l.map (SC.den (gam α) ρ)) off 0
        simpa using this
      · simp at h
    · simp at h
theorem lits_den (v : Value) (γ : Nat → Nat) : (lits v).map (SC.den γ ρ) = v.cells.toList := by
  unfold lits
  rw [List.map_map]
  exact List.map_id'' (fun _ => rfl) _
theorem lits_ok (v : Value) : ∀ x ∈ lits v, x.ok α := by
  intro x hx
  obtain ⟨y, _, rfl⟩ := List.mem_map.1 hx
  trivial
theorem built_den (hρ : ∀ i, (ρ i).oneCell' = true) {ti : List Nat} (hR : Rel w0 ρ nt S α a w) {t : TypeId} {parts : List (Nat × Operand)} {r : List SC} (h : builtS P t (sel ti S.tl) parts = some r) :
    P.built t (parts.map fun p => (p.1, a.eval p.2)) = some (r.map (SC.den (gam α) ρ)).toArray ∧ ∀ x ∈ r, x.ok α := by
  unfold builtS at h
  unfold Program.built
  split at h
  · rename_i it n e h1 h2
    rw [h1, h2]
    simp only []
    split at h
    · rename_i z ie h3 h4
      simp only [h3, h4]
      have := fill_den hρ hR _ h (lits_ok z)
      rw [lits_den] at this
      simpa using this
    · simp at h
  · rename_i it fields h1 h2
    rw [h1, h2]
    simp only []
    split at h
    · rename_i z pl h3 h4
      simp only [h3, h4]
      have := fill_den hρ hR _ h (lits_ok z)
      rw [lits_den] at this
      simpa using this
    · simp at h
  · simp at h
end

/-! Basic operations. -/
section
variable {P : Program} {w0 w : World} {ρ : Env} {nt : Nat} {a : Act} {γ : Nat → Nat}
theorem execOp_bin {o : Oper} {η : Operand → Value} {op : BinOp} {t yt : TypeId} {y z : Operand} (ho : o.op = .binOp op t y z yt) : (execOp η o).run P w = ((do eqGuard op t y z (η y) (η z); binOp op t (η y) (η z) : Sem Value).run P w).andThen fun v w' => .ok (.value v) w' := by
  unfold execOp
  simp only [ho, Sem.run_bind]
  rfl
theorem guard_basic {op : BinOp} {t : TypeId} {y z : Operand} {u v : Value} (h : u.oneCell' = true) (h2 : u ≠ .nilIface) : eqGuard op t y z u v = pure () := by
  cases u <;> first
    | exact absurd rfl h2
    | (simp [Value.oneCell'] at h; done)
    | (cases op <;> cases v <;> rfl)
theorem sem2_run {bo : Bool} {op : BinOp} {t : TypeId} {d : TypeDesc} {u v r : Value} (hd : P.underlying t = some d) (hbo : bo = isBoolD d) (h : sem2 bo op u v = some r) : (binOp op t u v).run P w = .ok r w ∧ u.oneCell' = true ∧ u ≠ .nilIface := by
  unfold sem2 at h
  split at h
  · rename_i k a k' b
    split at h
    · rename_i hk
      subst hk
      refine ⟨?_, rfl, by simp⟩
      cases op <;> simp only [] at h <;> (try (simp at h; done)) <;> (try split at h) <;> (try (simp at h; done)) <;> cases h <;> simp [binOp, Op.intArith, Op.intCmp, Op.intDiv, *]
    · simp at h
  · refine ⟨?_, rfl, by simp⟩
    cases op <;> simp only [] at h <;> (try (simp at h; done)) <;> (try split at h) <;> (try (simp at h; done)) <;> cases h <;> simp [binOp, Op.stringOp, *]
    rename_i hx
    have : IntKind.i64.max = 9223372036854775807 := rfl
    omega
  · split at h
    · rename_i hb
      subst hb
      have hd' : d = .bool := by cases d <;> first | rfl | simp [isBoolD] at hbo
      subst hd'
      refine ⟨?_, rfl, by simp⟩
      cases op <;> simp only [] at h <;> (try (simp at h; done)) <;> cases h <;> simp [binOp, Op.equal, Op.maxDepth, run_equalIn_bool, hd]
    · simp at h
  · simp at h
theorem sem1_run {op : UnOp} {u r : Value} (h : sem1 op u = some r) : (Op.unary op u).run P w = .ok r w := by
  unfold sem1 at h
  split at h
  · cases h; rfl
  · cases h; rfl
  · simp at h

/-! Comparison cell by cell. -/
theorem kinds_length : ∀ {ks : List FK} {xs : List Value}, kinds ks xs = true → xs.length = ks.length
  | [], [], _ => rfl
  | [], _ :: _, h => by simp [kinds] at h
  | _ :: _, [], h => by simp [kinds] at h
  | k :: ks, x :: xs, h => by
    simp only [kinds, Bool.and_eq_true] at h
    simp [kinds_length h.2]
theorem kinds_append : ∀ {k1 k2 : List FK} {xs : List Value}, kinds (k1 ++ k2) xs = true → kinds k1 (xs.take k1.length) = true ∧ kinds k2 (xs.drop k1.length) = true
  | [], k2, xs, h => ⟨by simp [kinds], by simpa using h⟩
  | k :: k1, k2, [], h => by simp [kinds] at h
  | k :: k1, k2, x :: xs, h => by
    simp only [List.cons_append, kinds, Bool.and_eq_true] at h
    obtain ⟨h1, h2⟩ := kinds_append h.2
    simp [kinds, h.1, h1, h2]
theorem eqL_append : ∀ (a b c d : List Value), a.length = c.length → eqL (a ++ b) (c ++ d) = (eqL a c && eqL b d)
  | [], b, [], d, _ => by simp [eqL]
  | x :: a, b, y :: c, d, h => by
    simp only [List.cons_append, eqL, eqL_append a b c d (by simpa using h), Bool.and_assoc]
  | [], _, _ :: _, _, h => by simp at h
  | _ :: _, _, [], _, h => by simp at h
/-- A value that holds these cells. -/
def VW (P : Program) (t : TypeId) (xs : List Value) (v : Value) : Prop := (tAgg P t = some true ∧ v = .agg xs.toArray) ∨ (tAgg P t = some false ∧ xs = [v])
theorem rep_length {β : Type} (l : List β) : ∀ n : Nat, (rep n l).length = n * l.length
  | 0 => by simp [rep]
  | n + 1 => by rw [rep, List.length_append, rep_length l n, Nat.add_mul]; omega
theorem uno_some {t : TypeId} {k : FK} {ks : List FK} (h : uno P t k = some ks) : [k] = ks ∧ tSize P t = some 1 := by
  unfold uno at h
  split at h
  · rename_i m hm
    split at h
    · rename_i hb
      cases h
      exact ⟨rfl, by rw [hm, Nat.eq_of_beq_eq_true hb]⟩
    · simp at h
  · simp at h
theorem flat_agg {d : Nat} {t : TypeId} {ks : List FK} (h : flat P d t = some ks) : (tAgg P t = some true ∧ tSize P t = some ks.length) ∨ (tAgg P t = some false ∧ ks.length = 1) := by
  cases d with
  | zero => simp [flat] at h
  | succ d =>
    unfold flat at h
    split at h
    · rename_i hd; obtain ⟨rfl, _⟩ := uno_some h; exact .inr ⟨by simp [tAgg, hd, isAggD], rfl⟩
    · rename_i hd; obtain ⟨rfl, _⟩ := uno_some h; exact .inr ⟨by simp [tAgg, hd, isAggD], rfl⟩
    · rename_i hd; obtain ⟨rfl, _⟩ := uno_some h; exact .inr ⟨by simp [tAgg, hd, isAggD], rfl⟩
    · rename_i fs hd
      split at h
      · simp at h
      · split at h
        · split at h
          · rename_i n hn
            split at h
            · rename_i hb
              cases h
              obtain rfl := Nat.eq_of_beq_eq_true hb
              exact .inl ⟨by simp [tAgg, hd, isAggD], hn⟩
            · simp at h
          · simp at h
        · simp at h
    · rename_i n e hd
      split at h
      · rename_i ks' hks
        split at h
        · rename_i k m hk hm
          split at h
          · rename_i hb
            cases h
            simp only [Bool.and_eq_true] at hb
            refine .inl ⟨by simp [tAgg, hd, isAggD], ?_⟩
            rw [hm, Nat.eq_of_beq_eq_true hb.2, rep_length]
          · simp at h
        · simp at h
      · simp at h
    · simp at h
theorem part_flat {d : Nat} {t : TypeId} {ks : List FK} {xs : List Value} {off : Nat} (h : flat P d t = some ks) (hl : off + ks.length ≤ xs.length) :
    ∃ v, (part t xs.toArray off).run P w = .ok v w ∧ VW P t ((xs.drop off).take ks.length) v := by
  rcases flat_agg h with ⟨h2, h3⟩ | ⟨h1, h2⟩
  · refine ⟨.agg ((xs.drop off).take ks.length).toArray, ?_, .inl ⟨h2, rfl⟩⟩
    unfold part
    simp only [Sem.run_bind, run_tAgg h2, Result.andThen_ok, if_true, run_tSize h3]
    simp
  · obtain ⟨v, hv⟩ : ∃ v, xs[off]? = some v := ⟨xs[off]'(by omega), List.getElem?_eq_getElem (by omega)⟩
    refine ⟨v, ?_, .inr ⟨h1, ?_⟩⟩
    · unfold part
      have : xs.toArray[off]? = some v := by simpa using hv
      simp only [Sem.run_bind, run_tAgg h1, Result.andThen_ok, Bool.false_eq_true, if_false, this]
      rfl
    · rw [h2, List.drop_eq_getElem_cons (by omega)]
      have := (List.getElem?_eq_some_iff.1 hv).2
      simp [this]
theorem equal_flat : ∀ (d : Nat) {t : TypeId} {ks : List FK}, flat P d t = some ks → ∀ {e : Nat}, d ≤ e → ∀ {xs ys : List Value} {u v : Value}, VW P t xs u → VW P t ys v → kinds ks xs = true → kinds ks ys = true →
    (Op.equalIn e t u v).run P w = .ok (eqL xs ys) w
  | 0, t, ks, h, _, _, _, _, _, _, _, _, _, _ => by simp [flat] at h
  | d + 1, t, ks, h, e, he, xs, ys, u, v, hu, hv, kx, ky => by
    obtain ⟨e, rfl⟩ : ∃ e', e = e' + 1 := ⟨e - 1, by omega⟩
    have one : ∀ {D : TypeDesc}, P.underlying t = some D → isAggD D = false → xs = [u] ∧ ys = [v] := by
      intro D hD hf
      have : tAgg P t = some false := by simp [tAgg, hD, hf]
      rcases hu with ⟨h1, _⟩ | ⟨_, h1⟩
      · rw [this] at h1; simp at h1
      · rcases hv with ⟨h2, _⟩ | ⟨_, h2⟩
        · rw [this] at h2; simp at h2
        · exact ⟨h1, h2⟩
    unfold flat at h
    split at h
    · rename_i hd
      obtain ⟨rfl, _⟩ := uno_some h
      obtain ⟨rfl, rfl⟩ := one hd rfl
      cases u <;> simp [kinds, FK.fits] at kx
      cases v <;> simp [kinds, FK.fits] at ky
      rw [run_equalIn_bool' w e t _ _ hd]
      simp [eqL, eqCell]
    · rename_i k hd
      obtain ⟨rfl, _⟩ := uno_some h
      obtain ⟨rfl, rfl⟩ := one hd rfl
      cases u <;> simp [kinds, FK.fits] at kx
      cases v <;> simp [kinds, FK.fits] at ky
      rename_i k1 a k2 b
      subst kx ky
      rw [run_equalIn_int w e t _ _ _ _ hd]
      simp [eqL, eqCell]
    · rename_i hd
      obtain ⟨rfl, _⟩ := uno_some h
      obtain ⟨rfl, rfl⟩ := one hd rfl
      cases u <;> simp [kinds, FK.fits] at kx
      cases v <;> simp [kinds, FK.fits] at ky
      rw [run_equalIn_string w e t _ _ hd]
      simp [eqL, eqCell]
    · rename_i fs hd
      split at h
      · simp at h
      · rename_i hp
        split at h
        · rename_i ks' hks
          split at h
          · rename_i n hn
            split at h
            · rename_i hb
              cases h
              have ha : tAgg P t = some true := by simp [tAgg, hd, isAggD]
              have eu : u = .agg xs.toArray := by
                rcases hu with ⟨_, h1⟩ | ⟨h1, _⟩
                · exact h1
                · rw [ha] at h1; simp at h1
              have ev : v = .agg ys.toArray := by
                rcases hv with ⟨_, h1⟩ | ⟨h1, _⟩
                · exact h1
                · rw [ha] at h1; simp at h1
              subst eu ev
              have hf : P.fieldsOf t = fs := by simp [Program.fieldsOf, hd]
              rw [run_equalIn_struct w e t _ _ (by rw [hf]; exact hd) (by simpa using hp), hf]
              have key : ∀ (fs : List Field) (o : Nat) (ks : List FK), flatFs (flat P d) o fs = some ks → o ≤ xs.length → o ≤ ys.length → kinds ks (xs.drop o) = true → kinds ks (ys.drop o) = true →
                  (Op.eqFields e xs.toArray ys.toArray fs).run P w = .ok (eqL (xs.drop o) (ys.drop o)) w := by
                intro fs
                induction fs with
                | nil =>
                  intro o ks hk ox oy k1 k2
                  cases hk
                  have h1 := List.eq_nil_of_length_eq_zero (kinds_length k1)
                  rw [h1]
                  rfl
                | cons f fs ih =>
                  intro o ks hk ox oy k1 k2
                  unfold flatFs at hk
                  split at hk
                  · rename_i hc
                    simp only [Bool.and_eq_true, bne_iff_ne, ne_eq] at hc
                    obtain ⟨hc1, hc2⟩ := hc
                    have hc2 := Nat.eq_of_beq_eq_true hc2
                    split at hk
                    · rename_i kf hkf
                      split at hk
                      · rename_i r hr
                        cases hk
                        obtain ⟨a1, a2⟩ := kinds_append k1
                        obtain ⟨b1, b2⟩ := kinds_append k2
                        have l1 := kinds_length k1
                        have l2 := kinds_length k2
                        simp only [List.length_drop, List.length_append] at l1 l2
                        obtain ⟨u1, p1, q1⟩ := part_flat (w := w) (off := o) hkf (by omega : o + kf.length ≤ xs.length)
                        obtain ⟨v1, p2, q2⟩ := part_flat (w := w) (off := o) hkf (by omega : o + kf.length ≤ ys.length)
                        have e1 := equal_flat d hkf (by omega : d ≤ e) q1 q2 a1 b1
                        have e2 := ih (o + kf.length) r hr (by omega) (by omega) (by rw [← List.drop_drop]; exact a2) (by rw [← List.drop_drop]; exact b2)
                        have e3 : eqL (xs.drop o) (ys.drop o) = (eqL ((xs.drop o).take kf.length) ((ys.drop o).take kf.length) && eqL (xs.drop (o + kf.length)) (ys.drop (o + kf.length))) := by
                          have := eqL_append ((xs.drop o).take kf.length) ((xs.drop o).drop kf.length) ((ys.drop o).take kf.length) ((ys.drop o).drop kf.length) (by simp; omega)
                          rw [List.take_append_drop, List.take_append_drop, List.drop_drop, List.drop_drop] at this
                          exact this
                        rw [Op.eqFields, if_pos hc1, hc2]
                        simp only [Sem.run_bind, p1, p2, Result.andThen_ok, e1, Sem.run_ite]
                        rw [e3, e2]
                        cases eqL ((xs.drop o).take kf.length) ((ys.drop o).take kf.length) <;> simp
                      · simp at hk
                    · simp at hk
                  · simp at hk
              have := key fs.toList 0 ks hks (Nat.zero_le _) (Nat.zero_le _) (by simpa using kx) (by simpa using ky)
              simpa using this
            · simp at h
          · simp at h
        · simp at h
    · rename_i n el hd
      split at h
      · rename_i ks' hks
        split at h
        · rename_i k m hk hm
          split at h
          · rename_i hb
            cases h
            simp only [Bool.and_eq_true] at hb
            have hke := Nat.eq_of_beq_eq_true hb.1
            have ha : tAgg P t = some true := by simp [tAgg, hd, isAggD]
            have eu : u = .agg xs.toArray := by
              rcases hu with ⟨_, h1⟩ | ⟨h1, _⟩
              · exact h1
              · rw [ha] at h1; simp at h1
            have ev : v = .agg ys.toArray := by
              rcases hv with ⟨_, h1⟩ | ⟨h1, _⟩
              · exact h1
              · rw [ha] at h1; simp at h1
            subst eu ev
            obtain ⟨i, hi⟩ : ∃ i, P.info? el = some i := by
              unfold tSize at hk
              split at hk
              · exact ⟨_, by assumption⟩
              · simp at hk
            have hc : P.cellsOf el = ks'.length := by
              unfold tSize at hk
              rw [hi] at hk
              simp only [Option.some.injEq] at hk
              rw [← hke, ← hk]
              simp [Program.cellsOf, hi]
            rw [run_equalIn_array w e xs.toArray ys.toArray hd hi, hc]
            have key : ∀ (n a : Nat), (a + n) * ks'.length ≤ xs.length → (a + n) * ks'.length ≤ ys.length → kinds (rep n ks') (xs.drop (a * ks'.length)) = true → kinds (rep n ks') (ys.drop (a * ks'.length)) = true →
                (Op.eqItems e el ks'.length xs.toArray ys.toArray (List.range' a n)).run P w = .ok (eqL (xs.drop (a * ks'.length)) (ys.drop (a * ks'.length))) w := by
              intro n
              induction n with
              | zero =>
                intro a _ _ k1 k2
                have h1 := List.eq_nil_of_length_eq_zero (kinds_length k1)
                have h2 := List.eq_nil_of_length_eq_zero (kinds_length k2)
                rw [h1, h2]
                rfl
              | succ n ih =>
                intro a ox oy k1 k2
                obtain ⟨a1, a2⟩ := kinds_append k1
                obtain ⟨b1, b2⟩ := kinds_append k2
                have es : (a + (n + 1)) * ks'.length = a * ks'.length + ks'.length + n * ks'.length := by rw [Nat.add_mul, Nat.add_mul]; omega
                have et : (a + 1) * ks'.length = a * ks'.length + ks'.length := by rw [Nat.add_mul]; omega
                rw [es] at ox oy
                obtain ⟨u1, p1, q1⟩ := part_flat (w := w) (off := a * ks'.length) hks (by omega : a * ks'.length + ks'.length ≤ xs.length)
                obtain ⟨v1, p2, q2⟩ := part_flat (w := w) (off := a * ks'.length) hks (by omega : a * ks'.length + ks'.length ≤ ys.length)
                have e1 := equal_flat d hks (by omega : d ≤ e) q1 q2 a1 b1
                have ev : (a + 1 + n) * ks'.length = a * ks'.length + ks'.length + n * ks'.length := by rw [Nat.add_mul, Nat.add_mul]; omega
                have e2 := ih (a + 1) (by omega) (by omega) (by rw [et, ← List.drop_drop]; exact a2) (by rw [et, ← List.drop_drop]; exact b2)
                have e3 : eqL (xs.drop (a * ks'.length)) (ys.drop (a * ks'.length)) = (eqL ((xs.drop (a * ks'.length)).take ks'.length) ((ys.drop (a * ks'.length)).take ks'.length) && eqL (xs.drop (a * ks'.length + ks'.length)) (ys.drop (a * ks'.length + ks'.length))) := by
                  have := eqL_append ((xs.drop (a * ks'.length)).take ks'.length) ((xs.drop (a * ks'.length)).drop ks'.length) ((ys.drop (a * ks'.length)).take ks'.length) ((ys.drop (a * ks'.length)).drop ks'.length) (by simp; omega)
                  rw [List.take_append_drop, List.take_append_drop, List.drop_drop, List.drop_drop] at this
                  exact this
                rw [List.range'_succ, Op.eqItems]
                simp only [Sem.run_bind, p1, p2, Result.andThen_ok, e1, Sem.run_ite]
                rw [e3, e2, et]
                cases eqL ((xs.drop (a * ks'.length)).take ks'.length) ((ys.drop (a * ks'.length)).take ks'.length) <;> simp
            have l1 := kinds_length kx
            have l2 := kinds_length ky
            rw [rep_length] at l1 l2
            have := key n 0 (by rw [Nat.zero_add, l1]; exact Nat.le_refl _) (by rw [Nat.zero_add, l2]; exact Nat.le_refl _) (by simpa using kx) (by simpa using ky)
            rw [List.range_eq_range']
            simpa using this
          · simp at h
        · simp at h
      · simp at h
    · simp at h

theorem binS_run {op : BinOp} {t : TypeId} {u v : S1} {x x' : Aux} {r : SV} {cw : List (Nat × SC)} {obs : List Ob} (h : binS P op t u v x = some (r, cw, obs, x')) (hob : ∀ b ∈ obs, b.holds P w0 ρ nt) :
    (∀ y z : Operand, (do eqGuard op t y z (u.den γ ρ) (v.den γ ρ); binOp op t (u.den γ ρ) (v.den γ ρ) : Sem Value).run P w = .ok (r.den γ ρ) w) ∧ cw = [] ∧ ∀ α, r.ok α := by
  unfold binS at h
  split at h
  · rename_i a b
    split at h
    · rename_i d hd
      split at h
      · rename_i r' hf
        cases h
        unfold fold2 at hf
        split at hf
        · obtain ⟨k1, k2, k3⟩ := sem2_run (w := w) hd rfl hf
          refine ⟨fun y z => ?_, rfl, fun _ => trivial⟩
          rename_i u v
          have k4 : eqGuard op t y z u v = pure () := guard_basic k2 k3
          show (do eqGuard op t y z u v; binOp op t u v : Sem Value).run P w = _
          rw [k4]
          exact k1
        · simp at hf
      split at h
      · rename_i hc
        cases h
        simp only [Bool.and_eq_true] at hc
        have h1 : sem2 (isBoolD d) op (a.den (fun _ => 0) ρ) (b.den (fun _ => 0) ρ) = some (ρ x.n) := hob _ (List.mem_singleton.2 rfl)
        rw [← SC.shut_den hc.1.2 γ, ← SC.shut_den hc.2 γ] at h1
        obtain ⟨k1, k2, k3⟩ := sem2_run (w := w) hd rfl h1
        refine ⟨fun y z => ?_, rfl, fun _ => trivial⟩
        have k4 : eqGuard op t y z (a.den γ ρ) (b.den γ ρ) = pure () := guard_basic k2 k3
        show (do eqGuard op t y z (a.den γ ρ) (b.den γ ρ); binOp op t (a.den γ ρ) (b.den γ ρ) : Sem Value).run P w = _
        rw [k4]
        exact k1
      · simp at h
    · simp at h
  · rename_i l m
    split at h
    · rename_i neg ks hn hf ht
      split at h
      · rename_i hc
        cases h
        simp only [Bool.and_eq_true, Bool.not_eq_true'] at hc
        obtain ⟨⟨⟨⟨c1, c2⟩, c3⟩, c4⟩, c5⟩ := hc
        obtain ⟨h1, h2, h3⟩ : kinds ks (l.map (SC.den (fun _ => 0) ρ)) = true ∧ kinds ks (m.map (SC.den (fun _ => 0) ρ)) = true ∧ ρ x.n = .bool (neg != eqL (l.map (SC.den (fun _ => 0) ρ)) (m.map (SC.den (fun _ => 0) ρ))) := hob _ (List.mem_singleton.2 rfl)
        have e1 : l.map (SC.den γ ρ) = l.map (SC.den (fun _ => 0) ρ) := List.map_congr_left fun y hy => SC.shut_den (List.all_eq_true.1 c4 y hy) _ _
        have e2 : m.map (SC.den γ ρ) = m.map (SC.den (fun _ => 0) ρ) := List.map_congr_left fun y hy => SC.shut_den (List.all_eq_true.1 c5 y hy) _ _
        refine ⟨fun y z => ?_, rfl, fun _ => trivial⟩
        show (do eqGuard op t y z (.agg (l.map (SC.den γ ρ)).toArray) (.agg (m.map (SC.den γ ρ)).toArray); binOp op t (.agg (l.map (SC.den γ ρ)).toArray) (.agg (m.map (SC.den γ ρ)).toArray) : Sem Value).run P w = .ok (ρ x.n) w
        rw [e1, e2, h3, Sem.run_bind, run_eqGuard_agg w op t y z _ _ c1, Result.andThen_ok]
        rcases flat_agg hf with ⟨g2, g3⟩ | ⟨g1, g2⟩
        · have g4 := equal_flat (w := w) 10 hf (show 10 ≤ 10000 by omega) (.inl ⟨g2, rfl⟩) (.inl ⟨g2, rfl⟩) h1 h2
          cases op <;> simp [eqNeg] at hn
          · subst hn; rw [run_eql_struct, g4]; simp
          · subst hn; rw [run_neq_struct, g4]; simp
        · rw [ht] at g1
          simp at g1
      · simp at h
    · simp at h
  · simp at h

theorem cvt_run {src dst : TypeId} {k0 k k' : IntKind} {v : Int} (hs : P.underlying src = some (.int k0)) (hd : P.underlying dst = some (.int k)) : (convert src dst (.int k' v)).run P w = .ok (.int k (k.wrap v)) w := by
  simp [convert, run_underlying hs, run_underlying hd, Conv.intToInt]
theorem len_run {o : Oper} {c : Call} {η : Operand → Value} {y : Operand} {t : TypeId} {ts : List TypeId} {s : ByteArray} (ho : o.op = .call c) (hc : c.callee = .builtin .len) (hy : c.args.toList = [y]) (ht : c.argTypes.toList = t :: ts)
    (hd : P.underlying t = some .string) (e : η y = .string s) : (execOp η o).run P w = .ok (.value (.int .i64 (s.size : Int))) w := by
  have h1 : c.args = #[y] := by rw [← Array.toArray_toList (xs := c.args), hy]
  have h2 : c.argTypes[0]? = some t := by rw [← Array.getElem?_toList, ht]; rfl
  unfold execOp
  simp only [ho]
  unfold resolve
  simp only [hc, pure_bind]
  unfold invoke
  simp only [builtin]
  simp [Builtin.len_, h1, h2, e, run_underlying hd, goInt]
theorem lens_run {o : Oper} {c : Call} {η : Operand → Value} {y : Operand} {t e : TypeId} {ts : List TypeId} {A : Option Addr} {n cap : Nat} (ho : o.op = .call c) (hc : c.callee = .builtin .len) (hy : c.args.toList = [y]) (ht : c.argTypes.toList = t :: ts)
    (hd : P.underlying t = some (.slice e)) (e : η y = .slice A n cap) : (execOp η o).run P w = .ok (.value (.int .i64 (n : Int))) w := by
  have h1 : c.args = #[y] := by rw [← Array.toArray_toList (xs := c.args), hy]
  have h2 : c.argTypes[0]? = some t := by rw [← Array.getElem?_toList, ht]; rfl
  unfold execOp
  simp only [ho]
  unfold resolve
  simp only [hc, pure_bind]
  unfold invoke
  simp only [builtin]
  simp [Builtin.len_, h1, h2, e, run_underlying hd, goInt]
end

section
variable {P : Program} {w0 w : World} {ρ : Env} {nt : Nat} {S : St} {α : Places} {a : Act}
theorem caps_den : ∀ {l : List S1} {c : List SP}, capsOf l = some c → (∀ v ∈ l, v.ok α) → l.map (S1.den (gam α) ρ) = c.map (SP.den (gam α) ρ) ∧ ∀ y ∈ c, y.ok α
  | [], c, h, _ => by cases h; exact ⟨rfl, fun y hy => by simp at hy⟩
  | v :: r, c, h, hl => by
    unfold capsOf at h
    split at h
    · rename_i heq; simp at heq
    · rename_i x r' heq
      cases heq
      split at h
      · rename_i l hl2
        cases h
        obtain ⟨h1, h2⟩ := caps_den hl2 (fun v hv => hl v (by simp [hv]))
        refine ⟨by simp [h1, S1.den, SC.den], fun y hy => ?_⟩
        rcases List.mem_cons.1 hy with rfl | hy
        · exact hl (.c (.p y)) (by simp)
        · exact h2 y hy
      · simp at h
    · simp at h
theorem callable_spec {f : FuncId} (h : callable P f = true) (args : Array Value) : (callFunc f args).run P w = .ok (.enter f args) w := by
  unfold callable at h
  split at h
  · rename_i fn hf
    simp only [Bool.and_eq_true, Bool.not_eq_true'] at h
    obtain ⟨h1, h2⟩ := h
    obtain ⟨c, hc⟩ := Option.isSome_iff_exists.1 h2
    simp only [callFunc, Sem.run_bind, run_program, Result.andThen, hf]
    rw [if_neg (by simp [h1]), if_neg (by simp [hc])]
    rfl
  · simp at h
theorem call_run {o : Oper} {c : Call} {f : Operand} {g : FuncId} {first caps : Array Value} (ho : o.op = .call c) (hc : c.callee = .value f) (hf : a.eval f = .func (.func g) first caps) (hg : callable P g = true) :
    (execOp a.eval o).run P w = .ok (.enter g (first ++ c.args.map a.eval ++ caps)) w := by
  unfold execOp
  simp only [ho]
  unfold resolve
  simp only [hc, hf, Deferred.ofValue, pure_bind]
  unfold invoke
  exact callable_spec hg _
theorem mem_here {ci : List Nat} {bs : List Nat} (hR : Rel w0 ρ nt S α a w) (hci : ci = bs.flatMap fun b => keys b 0 128) : Mem (gam α) ρ (sel ci S.ml) w := by
  intro k x hk
  obtain ⟨h1, h2⟩ := lk_sel_some hk
  subst hci
  simp only [keys, List.mem_flatMap, List.mem_map, List.mem_range] at h1
  obtain ⟨b, _, i, hi, rfl⟩ := h1
  cases hα : α b with
  | none =>
    have := hR.off b hα (1 + i) (by simp only [stride]; omega)
    rw [show b * stride + 1 + (0 + i) = b * stride + (1 + i) by omega, this] at h2
    simp at h2
  | some g =>
    rw [show b * stride + 1 + (0 + i) = b * stride + 1 + i by omega] at h2 ⊢
    have h6 := (hR.box b g hα).get (o := i) (by simp only [stride]; omega) h2
    have e1 : (b * stride + 1 + i) / stride = b := by simp only [stride]; omega
    have e2 : (b * stride + 1 + i) % stride - 1 = i := by simp only [stride]; omega
    rw [e1, e2]
    have e3 : gam α b = g := by simp [gam, hα]
    rw [e3]
    exact h6.2

theorem opv_did (hρ : ∀ i, (ρ i).oneCell' = true) {ti : List Nat} {o : Oper} {x x' : Aux} {v : SV} {cw : List (Nat × SC)} {obs : List Ob} (hR : Rel w0 ρ nt S α a w)
    (h : opv P (sel ti S.tl) (sel (crIdx P (sel ti S.tl) x.nb o) S.ml) o x = some (v, cw, obs, x')) (hob : ∀ b ∈ obs, b.holds P w0 ρ nt) : Did P w0 ρ nt S α a w o v cw := by
  have hml : ∀ ci k y, lk k (sel ci S.ml) = some y → lk k S.ml = some y := fun ci k y hy => (lk_sel_some hy).2
  unfold opv at h
  split at h
  case h_1 y ho =>   -- move
    split at h
    · rename_i u hu
      cases h
      obtain ⟨e, k⟩ := hR.eval hu
      exact did_value hR (by simp only [execOp, ho]; rw [e]; rfl) k
    · simp at h
  case h_2 y ho =>   -- assign
    split at h
    · rename_i u hu
      cases h
      obtain ⟨e, k⟩ := hR.eval hu
      exact did_value hR (by simp only [execOp, ho]; rw [e]; rfl) k
    · simp at h
  case h_3 c y z ho =>   -- pick
    split at h
    · rename_i u hu
      split at h
      · rename_i r obs' x'' hb
        split at h
        · rename_i v' hv
          cases h
          have e1 := (hR.eval1 hu).1
          have e2 := asB_den (P := P) (w0 := w0) (ρ := ρ) (nt := nt) hb hob (gam α)
          obtain ⟨e3, k⟩ := hR.eval hv
          refine did_value hR ?_ k
          simp only [execOp, ho, e1, e2, asBool, pure_bind]
          cases r
          · simp only [Bool.false_eq_true, if_false] at e3 ⊢; rw [e3]; rfl
          · simp only [if_true] at e3 ⊢; rw [e3]; rfl
        · simp at h
      · simp at h
    · simp at h
  case h_4 t y ho =>   -- box
    split at h
    · rename_i u hu
      obtain ⟨e, k⟩ := hR.eval1 hu
      have hci : x.nb * stride ∈ crIdx P (sel ti S.tl) x.nb o := by simp [crIdx, ho]
      obtain ⟨α', h1, h2, h3, h4, h5⟩ := newBox_did hR h hci (S1.cells_ok k)
      have hc := cells_den hρ h4 (gam α)
      refine .inl ⟨_, α', _, .inl ?_, h1, h2.symm, h3, h5⟩
      simp only [execOp, ho, e, Instr.box, newVar, newRow, hc]
      rfl
    · simp at h
  case h_5 t ho =>   -- alloc
    split at h
    · rename_i l hl
      have hci : x.nb * stride ∈ crIdx P (sel ti S.tl) x.nb o := by simp [crIdx, ho]
      obtain ⟨α', h1, h2, h3, h4, h5⟩ := newBox_did hR h hci (fun y hy => by obtain ⟨z, _, rfl⟩ := List.mem_map.1 hy; trivial)
      obtain ⟨z, hz, hz2⟩ := run_tZero (P := P) (w := w) hl
      refine .inl ⟨_, α', _, .inl ?_, h1, h2.symm, h3, h5⟩
      have e : (List.map (SC.den (gam α) ρ) (l.map fun v => SC.p (.lit v))).toArray = z.cells := by
        rw [List.map_map, ← hz2]
        have : (SC.den (gam α) ρ ∘ fun v => SC.p (.lit v)) = id := rfl
        rw [this, List.map_id]
      rw [e]
      simp only [execOp, ho, Instr.alloc, newVar, newRow, Sem.run_bind, hz, Result.andThen]
      rfl
    · simp at h
  case h_6 t parts ho =>   -- build
    split at h
    · rename_i r hr
      cases h
      obtain ⟨h1, h2⟩ := built_den hρ hR hr
      refine did_value hR ?_ h2
      have := run_build (P := P) w t (parts.map fun p => (p.1, a.eval p.2)) _ (by simpa using h1)
      simp only [execOp, ho, Sem.run_bind]
      rw [this]
      rfl
    · simp at h
  case h_7 t len parts ho =>   -- buildSlice
    split at h
    · rename_i e hd
      split at h
      · rename_i k i hk hi
        split at h
        · rename_i z hz
          split at h
          · rename_i hc
            simp only [Bool.and_eq_true] at hc
            have hc1 := Nat.le_of_ble_eq_true hc.1
            have hc2 := Nat.le_of_ble_eq_true hc.2
            split at h
            · rename_i l hl
              have hci : x.nb * stride ∈ crIdx P (sel ti S.tl) x.nb o := by simp [crIdx, ho]
              obtain ⟨f1, f2⟩ := fill_den hρ hR _ hl (fun y hy => by obtain ⟨z, _, rfl⟩ := List.mem_map.1 hy; trivial)
              obtain ⟨α', h1, h2, h3, h4, h5⟩ := newBox_did hR h hci f2
              refine .inl ⟨_, α', _, .inl ?_, h1, h2.symm, h3, h5⟩
              have e0 : (List.map (SC.den (gam α) ρ) ((List.range (len * k)).map fun i => SC.p (.lit (z.cells[i % z.cells.size]!)))).toArray = (Array.range (len * k)).map (z.cells[· % z.cells.size]!) := by
                apply Array.ext'
                simp [Function.comp_def, SC.den, SP.den]
              rw [e0] at f1
              have e1 : (zeroValue e).run P w = .ok z w := by simp [zeroValue, typeInfo, hi, hz]
              simp only [execOp, ho, Instr.buildSlice, Sem.run_bind, run_underlying hd, Result.andThen_ok, run_tSize hk]
              rw [if_neg (by omega), if_neg (by omega)]
              simp only [Sem.run_bind, e1, Result.andThen_ok, Sem.run_pure, Array.toList_map, f1]
              rfl
            · simp at h
          · simp at h
        · simp at h
      · simp at h
    · simp at h
  case h_8 t y ho =>   -- load
    split at h
    · rename_i b off hy
      split at h
      · rename_i ag n hag hn
        split at h
        · rename_i l hl
          split at h
          · rename_i u hu
            cases h
            obtain ⟨e, k⟩ := hR.eval1 hy
            obtain ⟨g, hg, e3⟩ := ptr_at (ρ := ρ) k
            obtain ⟨h1, h2⟩ := load_run hR (hml _) hg hag hn hl hu
            refine did_value hR ?_ h2
            have e' : a.eval y = .pointer (some ⟨g, off, none⟩) := e.trans e3
            simp only [execOp, ho, e', Instr.loadAt, Instr.sureAddr, pure_bind, Sem.run_bind, h1, Result.andThen]
            rfl
          · simp at h
        · simp at h
      · simp at h
    · exact prim_did hR h hob
  case h_9 t y z ho =>   -- store
    split at h
    · rename_i b off u n hy hz hn
      split at h
      · rename_i l fty hl hfl
        split at h
        · rename_i hc
          cases h
          simp only [Bool.and_eq_true, List.all_eq_true] at hc
          exact store_did hρ hR ho hy hz hn hl hfl hc.1 (Nat.eq_of_beq_eq_true hc.2)
        · simp at h
      · simp at h
    · simp at h
  case h_10 s y f ho =>   -- fieldAddr
    split at h
    · rename_i fld b off hf hy
      split at h
      · rename_i m hm
        cases h
        obtain ⟨e, k⟩ := hR.eval1 hy
        obtain ⟨g, hg, e3⟩ := ptr_at (ρ := ρ) k
        obtain ⟨fs, h1, h2⟩ := run_tField hf
        have k' : (SV.one (.c (.p (.ptr b (off + fld.offset))))).ok α := k
        refine did_value hR ?_ k'
        obtain ⟨g', hg', e4⟩ := ptr_at (ρ := ρ) k'
        rw [hg] at hg'
        cases hg'
        have e' : a.eval y = .pointer (some ⟨g, off, none⟩) := e.trans e3
        rw [e4]
        simp only [execOp, ho, e', Instr.fieldAt, Sem.run_bind, run_underlying h1, Result.andThen, h2, Instr.sureAddr, pure_bind, fieldPlace, run_tSize hm, addr_add]
        rw [if_neg (by omega)]
        rfl
      · simp at h
    · simp at h
  case h_11 s y f ho =>   -- field
    split at h
    · rename_i fld l hf hy
      split at h
      · rename_i n hag hn
        cases h
        obtain ⟨e, k⟩ := hR.eval1 hy
        obtain ⟨fs, h1, h2⟩ := run_tField hf
        refine did_value hR ?_ (fun z hz => k z (List.mem_of_mem_drop (List.mem_of_mem_take hz)))
        simp only [execOp, ho, e, Instr.field, S1.den, Sem.run_bind, run_underlying h1, Result.andThen, h2, asAgg, pure_bind, part, run_tAgg hag, if_true, run_tSize hn, Sem.run_pure]
        simp [SV.den, S1.den, List.map_drop, List.map_take]
      · rename_i n hag hn
        split at h
        · rename_i u hu
          cases h
          obtain ⟨e, k⟩ := hR.eval1 hy
          obtain ⟨fs, h1, h2⟩ := run_tField hf
          refine did_value hR ?_ (k u (List.mem_of_getElem? hu))
          have h3 : (l.map (SC.den (gam α) ρ)).toArray[fld.offset]? = some (u.den (gam α) ρ) := by simp [hu]
          simp only [execOp, ho, e, Instr.field, S1.den, Sem.run_bind, run_underlying h1, Result.andThen, h2, asAgg, pure_bind, part, run_tAgg hag, Bool.false_eq_true, if_false, h3]
          rfl
        · simp at h
      · simp at h
    · simp at h
  case h_12 y i ho =>   -- extract
    split at h
    · rename_i l hy
      split at h
      · rename_i u hu
        cases h
        obtain ⟨e, k⟩ := hR.eval hy
        refine did_value hR ?_ (k u (List.mem_of_getElem? hu))
        have h3 : (l.map (S1.den (gam α) ρ)).toArray[i]? = some (u.den (gam α) ρ) := by simp [hu]
        simp only [execOp, ho, e, Instr.extract, SV.den, Sem.run_bind, h3]
        rfl
      · simp at h
    · simp at h
  case h_13 y ho =>   -- nilCheck
    split at h
    · rename_i b off hy
      cases h
      obtain ⟨e, k⟩ := hR.eval1 hy
      obtain ⟨g, hg, e3⟩ := ptr_at (ρ := ρ) k
      refine did_value hR ?_ k
      have e' : a.eval y = .pointer (some ⟨g, off, none⟩) := e.trans e3
      rw [e3]
      simp only [execOp, ho, e']
      rfl
    · rename_i f l hy
      cases h
      obtain ⟨e, k⟩ := hR.eval1 hy
      refine did_value hR ?_ k
      have e' : a.eval y = .func (.func f) #[] (l.map (SP.den (gam α) ρ)).toArray := e
      simp only [execOp, ho, e']
      rfl
    · exact prim_did hR h hob
  case h_14 f first caps ho =>   -- makeFunc
    split at h
    · rename_i l hf hl
      split at h
      · rename_i c hc
        cases h
        obtain ⟨h1, h2⟩ := hR.evals hl
        obtain ⟨h3, h4⟩ := caps_den (ρ := ρ) hc h2
        refine did_value hR ?_ h4
        have e1 : first = #[] := Array.toList_eq_nil_iff.1 hf
        clear hf
        have e2 : caps.map a.eval = (c.map (SP.den (gam α) ρ)).toArray := by
          rw [← h3, ← h1]
          exact (Array.toArray_toList (xs := caps.map a.eval)).symm.trans (by rw [Array.toList_map])
        subst e1
        simp only [execOp, ho, Instr.makeFunc, e2]
        simp [SV.den, S1.den, SC.den]
      · simp at h
    · simp at h
  case h_15 t y i ho =>   -- indexAddr
    split at h
    · rename_i b off ki j len e hy hi hd
      split at h
      · rename_i k hk
        split at h
        · rename_i hj
          cases h
          have hj := Nat.le_of_ble_eq_true hj
          obtain ⟨e1, k1⟩ := hR.eval1 hy
          obtain ⟨e2, _⟩ := hR.eval1 hi
          obtain ⟨g, hg, e3⟩ := ptr_at (ρ := ρ) k1
          have k' : (SV.one (.c (.p (.ptr b (off + j * k))))).ok α := k1
          obtain ⟨g', hg', e4⟩ := ptr_at (ρ := ρ) k'
          rw [hg] at hg'
          cases hg'
          refine did_value hR ?_ k'
          have e1' : a.eval y = .pointer (some ⟨g, off, none⟩) := e1.trans e3
          have e2' : a.eval i = .int ki ((j : Nat) : Int) := e2
          rw [e4]
          simp only [execOp, ho, e1', e2', Instr.indexAt, asIntOf, pure_bind, Sem.run_bind, run_underlying hd, Result.andThen_ok, Instr.sureAddr]
          rw [if_pos ⟨by omega, by omega⟩]
          simp only [Sem.run_bind, run_tSize hk, Result.andThen_ok, addr_add, Int.toNat_natCast]
          rfl
        · simp at h
      · simp at h
    · rename_i b off n cap ki j e hy hi hd
      split at h
      · rename_i k hk
        split at h
        · rename_i hj
          cases h
          have hj := Nat.le_of_ble_eq_true hj
          obtain ⟨e1, k1⟩ := hR.eval1 hy
          obtain ⟨e2, _⟩ := hR.eval1 hi
          obtain ⟨g, hg⟩ := Option.isSome_iff_exists.1 (show (α b).isSome = true from k1)
          have k' : (SV.one (.c (.p (.ptr b (off + j * k))))).ok α := k1
          obtain ⟨g', hg', e4⟩ := ptr_at (ρ := ρ) k'
          rw [hg] at hg'
          cases hg'
          refine did_value hR ?_ k'
          have e1' : a.eval y = .slice (some ⟨g, off, none⟩) n cap := by
            have : gam α b = g := by simp [gam, hg]
            rw [← this]; exact e1
          have e2' : a.eval i = .int ki ((j : Nat) : Int) := e2
          rw [e4]
          simp only [execOp, ho, e1', e2', Instr.indexAt, asIntOf, pure_bind, Sem.run_bind, run_underlying hd, Result.andThen_ok]
          rw [if_pos ⟨by omega, by omega⟩]
          simp only [Sem.run_bind, run_tSize hk, Result.andThen_ok, addr_add, Int.toNat_natCast]
          rfl
        · simp at h
      · simp at h
    · rename_i b off m len e hy hi hd
      split at h
      · rename_i j ds hds
        split at h
        · rename_i k hk
          split at h
          · rename_i hj
            cases h
            have hj := Nat.le_of_ble_eq_true hj
            obtain ⟨e1, k1⟩ := hR.eval1 hy
            obtain ⟨e2, _⟩ := hR.eval1 hi
            obtain ⟨g, hg, e3⟩ := ptr_at (ρ := ρ) k1
            have k' : (SV.one (.c (.p (.ptr b (off + j * k))))).ok α := k1
            obtain ⟨g', hg', e4⟩ := ptr_at (ρ := ρ) k'
            rw [hg] at hg'
            cases hg'
            refine did_value hR ?_ k'
            have e1' : a.eval y = .pointer (some ⟨g, off, none⟩) := e1.trans e3
            have e2' : a.eval i = .int .i64 ((j : Nat) : Int) := e2.trans (hob _ (List.mem_singleton.2 rfl))
            rw [e4]
            simp only [execOp, ho, e1', e2', Instr.indexAt, asIntOf, pure_bind, Sem.run_bind, run_underlying hd, Result.andThen_ok, Instr.sureAddr]
            rw [if_pos ⟨by omega, by omega⟩]
            simp only [Sem.run_bind, run_tSize hk, Result.andThen_ok, addr_add, Int.toNat_natCast]
            rfl
          · simp at h
        · simp at h
      · exact prim_did hR h hob
    · rename_i b off n cap m e hy hi hd
      split at h
      · rename_i j ds hds
        split at h
        · rename_i k hk
          split at h
          · rename_i hj
            cases h
            have hj := Nat.le_of_ble_eq_true hj
            obtain ⟨e1, k1⟩ := hR.eval1 hy
            obtain ⟨e2, _⟩ := hR.eval1 hi
            obtain ⟨g, hg⟩ := Option.isSome_iff_exists.1 (show (α b).isSome = true from k1)
            have k' : (SV.one (.c (.p (.ptr b (off + j * k))))).ok α := k1
            obtain ⟨g', hg', e4⟩ := ptr_at (ρ := ρ) k'
            rw [hg] at hg'
            cases hg'
            refine did_value hR ?_ k'
            have e1' : a.eval y = .slice (some ⟨g, off, none⟩) n cap := by
              have : gam α b = g := by simp [gam, hg]
              rw [← this]; exact e1
            have e2' : a.eval i = .int .i64 ((j : Nat) : Int) := e2.trans (hob _ (List.mem_singleton.2 rfl))
            rw [e4]
            simp only [execOp, ho, e1', e2', Instr.indexAt, asIntOf, pure_bind, Sem.run_bind, run_underlying hd, Result.andThen_ok]
            rw [if_pos ⟨by omega, by omega⟩]
            simp only [Sem.run_bind, run_tSize hk, Result.andThen_ok, addr_add, Int.toNat_natCast]
            rfl
          · simp at h
        · simp at h
      · exact prim_did hR h hob
    · exact prim_did hR h hob
  case h_16 t y i ho =>   -- index
    split at h
    · rename_i l ki j len e hy hi hd
      split at h
      · rename_i k hag hk
        split at h
        · rename_i hj
          cases h
          have hj := Nat.le_of_ble_eq_true hj
          obtain ⟨e1, k1⟩ := hR.eval1 hy
          obtain ⟨e2, _⟩ := hR.eval1 hi
          refine did_value hR ?_ (fun z hz => k1 z (List.mem_of_mem_drop (List.mem_of_mem_take hz)))
          have e2' : a.eval i = .int ki ((j : Nat) : Int) := e2
          simp only [execOp, ho, e1, e2', Instr.index, S1.den, asIntOf, pure_bind, Sem.run_bind, run_underlying hd, Result.andThen_ok]
          rw [if_pos ⟨by omega, by omega⟩]
          simp only [Sem.run_bind, run_tSize hk, Result.andThen_ok, part, run_tAgg hag, if_true, Int.toNat_natCast]
          simp [SV.den, S1.den, List.map_drop, List.map_take]
        · simp at h
      · rename_i k hag hk
        split at h
        · rename_i u hu
          split at h
          · rename_i hj
            cases h
            have hj := Nat.le_of_ble_eq_true hj
            obtain ⟨e1, k1⟩ := hR.eval1 hy
            obtain ⟨e2, _⟩ := hR.eval1 hi
            refine did_value hR ?_ (k1 u (List.mem_of_getElem? hu))
            have e2' : a.eval i = .int ki ((j : Nat) : Int) := e2
            have h3 : (l.map (SC.den (gam α) ρ)).toArray[j * k]? = some (u.den (gam α) ρ) := by simp [hu]
            simp only [execOp, ho, e1, e2', Instr.index, S1.den, asIntOf, pure_bind, Sem.run_bind, run_underlying hd, Result.andThen_ok]
            rw [if_pos ⟨by omega, by omega⟩]
            simp only [Sem.run_bind, run_tSize hk, Result.andThen_ok, part, run_tAgg hag, Bool.false_eq_true, if_false, Int.toNat_natCast, h3]
            rfl
          · simp at h
        · simp at h
      · simp at h
    · rename_i l m len e hy hi hd
      split at h
      · rename_i j ds hds
        split at h
        · rename_i k hag hk
          split at h
          · rename_i hj
            cases h
            have hj := Nat.le_of_ble_eq_true hj
            obtain ⟨e1, k1⟩ := hR.eval1 hy
            obtain ⟨e2, _⟩ := hR.eval1 hi
            refine did_value hR ?_ (fun z hz => k1 z (List.mem_of_mem_drop (List.mem_of_mem_take hz)))
            have e2' : a.eval i = .int .i64 ((j : Nat) : Int) := e2.trans (hob _ (List.mem_singleton.2 rfl))
            simp only [execOp, ho, e1, e2', Instr.index, S1.den, asIntOf, pure_bind, Sem.run_bind, run_underlying hd, Result.andThen_ok]
            rw [if_pos ⟨by omega, by omega⟩]
            simp only [Sem.run_bind, run_tSize hk, Result.andThen_ok, part, run_tAgg hag, if_true, Int.toNat_natCast]
            simp [SV.den, S1.den, List.map_drop, List.map_take]
          · simp at h
        · rename_i k hag hk
          split at h
          · rename_i u hu
            split at h
            · rename_i hj
              cases h
              have hj := Nat.le_of_ble_eq_true hj
              obtain ⟨e1, k1⟩ := hR.eval1 hy
              obtain ⟨e2, _⟩ := hR.eval1 hi
              refine did_value hR ?_ (k1 u (List.mem_of_getElem? hu))
              have e2' : a.eval i = .int .i64 ((j : Nat) : Int) := e2.trans (hob _ (List.mem_singleton.2 rfl))
              have h3 : (l.map (SC.den (gam α) ρ)).toArray[j * k]? = some (u.den (gam α) ρ) := by simp [hu]
              simp only [execOp, ho, e1, e2', Instr.index, S1.den, asIntOf, pure_bind, Sem.run_bind, run_underlying hd, Result.andThen_ok]
              rw [if_pos ⟨by omega, by omega⟩]
              simp only [Sem.run_bind, run_tSize hk, Result.andThen_ok, part, run_tAgg hag, Bool.false_eq_true, if_false, Int.toNat_natCast, h3]
              rfl
            · simp at h
          · simp at h
        · simp at h
      · exact prim_did hR h hob
    · exact prim_did hR h hob
  case h_17 op t y z yt ho =>   -- binOp
    split at h
    · rename_i u v' hu hv
      split at h
      · rename_i r hr
        rw [h] at hr
        obtain ⟨e1, k1⟩ := hR.eval1 hu
        obtain ⟨e2, k2⟩ := hR.eval1 hv
        obtain ⟨hrun, hcw, hok⟩ := binS_run (w := w) (γ := gam α) hr hob
        subst hcw
        refine did_value hR ?_ (hok _)
        rw [execOp_bin ho, e1, e2, hrun y z]
        rfl
      · exact prim_did hR h hob
    · exact prim_did hR h hob
  case h_18 op t y ho =>   -- unOp
    split at h
    · rename_i u hu
      split at h
      · rename_i r hf
        cases h
        unfold fold1 at hf
        split at hf
        · obtain ⟨e1, k1⟩ := hR.eval1 hu
          refine did_value hR ?_ trivial
          rename_i v
          have e1' : a.eval y = v := e1
          simp only [execOp, ho, e1', Sem.run_bind, sem1_run hf]
          rfl
        · simp at hf
      split at h
      · rename_i hs
        cases h
        obtain ⟨e1, k1⟩ := hR.eval1 hu
        have h1 : sem1 op (u.den (fun _ => 0) ρ) = some (ρ x.n) := hob _ (List.mem_singleton.2 rfl)
        refine did_value hR ?_ trivial
        have e1' : a.eval y = u.den (gam α) ρ := e1
        rw [SC.shut_den hs (gam α) (fun _ => 0)] at e1'
        simp only [execOp, ho, e1', Sem.run_bind, sem1_run h1]
        rfl
      · simp at h
    · simp at h
  case h_19 src dst y ho =>   -- convert
    split at h
    · rename_i k' v k0 k hu hs0 hd
      cases h
      obtain ⟨e1, k1⟩ := hR.eval1 hu
      refine did_value hR ?_ trivial
      have e1' : a.eval y = .int k' v := e1
      simp only [execOp, ho, e1', Sem.run_bind, cvt_run hs0 hd]
      rfl
    · rename_i u k0 k _ hu hs0 hd
      split at h
      · rename_i hs
        cases h
        obtain ⟨e1, k1⟩ := hR.eval1 hu
        obtain ⟨k', v, h1, h2⟩ := hob _ (List.mem_singleton.2 rfl)
        refine did_value hR ?_ trivial
        have e1' : a.eval y = u.den (gam α) ρ := e1
        rw [SC.shut_den hs (gam α) (fun _ => 0), h1] at e1'
        have e2 : (atom x.n).den (gam α) ρ = .int k (k.wrap v) := h2
        rw [e2]
        simp only [execOp, ho, e1', Sem.run_bind, cvt_run hs0 hd]
        rfl
      · simp at h
    · exact prim_did hR h hob
  case h_20 c ho =>   -- call
    split at h
    · rename_i f hc
      split at h
      · rename_i g caps l r n' hf hl hs
        split at h
        · rename_i hg
          cases h
          obtain ⟨e, k⟩ := hR.eval1 hf
          obtain ⟨h1, h2⟩ := hR.evals hl
          have hci : crIdx P (sel ti S.tl) x.nb o = ((sel ti S.tl).flatMap fun x => x.2.boxes).flatMap fun b => keys b 0 128 := by simp [crIdx, ho]
          have h3 := hob _ (List.mem_singleton.2 rfl) (gam α) w hR.below (mem_here hR hci)
          have e' : a.eval f = .func (.func g) #[] (caps.map (SP.den (gam α) ρ)).toArray := e
          refine .inr ⟨g, _, call_run ho hc e' hg, rfl, shape_ok hs, ?_⟩
          have e2 : #[] ++ c.args.map a.eval ++ (caps.map (SP.den (gam α) ρ)).toArray = ((l ++ caps.map fun y => S1.c (SC.p y)).map (S1.den (gam α) ρ)).toArray := by
            apply Array.ext'
            simp only [Array.toList_append, Array.toList_map, List.map_append, List.map_map, h1]
            rfl
          rw [e2]
          exact h3
        · simp at h
      · rename_i i l r n' hf hl hs
        cases h
        obtain ⟨e, k⟩ := hR.eval1 hf
        obtain ⟨h1, h2⟩ := hR.evals hl
        have hci : crIdx P (sel ti S.tl) x.nb o = ((sel ti S.tl).flatMap fun x => x.2.boxes).flatMap fun b => keys b 0 128 := by simp [crIdx, ho]
        obtain ⟨g, first, caps, h4, h5, h6⟩ := hob _ (List.mem_singleton.2 rfl)
        have h3 := h6 (gam α) w hR.below (mem_here hR hci)
        have e' : a.eval f = .func (.func g) first caps := e.trans h4
        refine .inr ⟨g, _, call_run ho hc e' h5, rfl, shape_ok hs, ?_⟩
        have e2 : c.args.map a.eval = (l.map (S1.den (gam α) ρ)).toArray := by
          apply Array.ext'
          simp only [Array.toList_map, h1]
        rw [e2]
        exact h3
      · simp at h
    · rename_i hc
      split at h
      · rename_i y t ts hy ht
        split at h
        · rename_i b off n cap te hu hd
          cases h
          obtain ⟨e1, k1⟩ := hR.eval1 hu
          obtain ⟨g, hg⟩ := Option.isSome_iff_exists.1 k1
          refine did_value hR ?_ trivial
          have e1' : a.eval y = .slice (some ⟨gam α b, off, none⟩) n cap := e1
          exact lens_run ho hc hy ht hd e1'
        · rename_i s hu hd
          cases h
          obtain ⟨e1, k1⟩ := hR.eval1 hu
          refine did_value hR ?_ trivial
          have e1' : a.eval y = .string s := e1
          exact len_run ho hc hy ht hd e1'
        · rename_i u _ hu hd
          split at h
          · rename_i hs
            cases h
            obtain ⟨e1, k1⟩ := hR.eval1 hu
            obtain ⟨s, h1, h2⟩ := hob _ (List.mem_singleton.2 rfl)
            refine did_value hR ?_ trivial
            have e1' : a.eval y = u.den (gam α) ρ := e1
            rw [SC.shut_den hs (gam α) (fun _ => 0), h1] at e1'
            have e2 : (atom x.n).den (gam α) ρ = .int .i64 (s.size : Int) := h2
            rw [e2]
            exact len_run ho hc hy ht hd e1'
          · simp at h
        · exact prim_did hR h hob
      · exact prim_did hR h hob
    · exact prim_did hR h hob
    · simp at h
  case h_21 t y lo hi ho =>   -- slice
    have bnd_at : ∀ (d : Nat) (z : Option Operand) (j : Nat), bnd (sel ti S.tl) d z = some j → (z = none ∧ j = d) ∨ (∃ v k, z = some v ∧ a.eval v = .int k ((j : Nat) : Int)) := by
      intro d z j hz
      unfold bnd at hz
      split at hz
      · cases hz; exact .inl ⟨rfl, rfl⟩
      · rename_i v
        split at hz
        · rename_i k j' hv
          cases hz
          exact .inr ⟨v, k, rfl, (hR.eval1 hv).1⟩
        · simp at hz
    have bound_run : ∀ (v : Value) (k : IntKind) (j m : Nat) (c : BoundsCode), v = .int k ((j : Nat) : Int) → j ≤ m → (Instr.sliceBound v m c).run P w = .ok j w := by
      intro v k j m c hv hm
      subst hv
      simp only [Instr.sliceBound, asIntOf, pure_bind]
      rw [if_pos ⟨by omega, by omega⟩]
      simp
    have bounds_run : ∀ (f : Bool) (len cap l h' : Nat), bnd (sel ti S.tl) 0 lo = some l → bnd (sel ti S.tl) len hi = some h' → l ≤ h' → h' ≤ cap → (Instr.sliceBounds f len cap (lo.map a.eval) (hi.map a.eval) none).run P w = .ok (l, h', cap) w := by
      intro f len cap l h' hl hh h1 h2
      rcases bnd_at _ _ _ hh with ⟨rfl, rfl⟩ | ⟨v, k, rfl, hv⟩
      · rcases bnd_at _ _ _ hl with ⟨rfl, rfl⟩ | ⟨v, k, rfl, hv⟩
        · simp [Instr.sliceBounds]
        · have e := bound_run _ k l h' .sliceB hv h1
          simp [Instr.sliceBounds, Sem.run_bind, e, Result.andThen_ok]
      · have e0 := bound_run _ k h' cap (if f then .sliceAcap else .sliceAlen) hv h2
        rcases bnd_at _ _ _ hl with ⟨rfl, rfl⟩ | ⟨v, k, rfl, hv⟩
        · simp [Instr.sliceBounds, Sem.run_bind, e0, Result.andThen_ok]
        · have e := bound_run _ k l h' .sliceB hv h1
          simp [Instr.sliceBounds, Sem.run_bind, e0, e, Result.andThen_ok]
    split at h
    · rename_i b off n e hy hd
      split at h
      · rename_i k l h' hk hl hh
        split at h
        · rename_i hc
          cases h
          simp only [Bool.and_eq_true] at hc
          have c1 := Nat.le_of_ble_eq_true hc.1.1
          have c2 := Nat.le_of_ble_eq_true hc.1.2
          have c3 := Nat.le_of_ble_eq_true hc.2
          obtain ⟨e1, k1⟩ := hR.eval1 hy
          obtain ⟨g, hg, e3⟩ := ptr_at (ρ := ρ) k1
          have k' : (SV.one (.c (.p (.slc b (off + l * k) (h' - l) (n - l))))).ok α := k1
          refine did_value hR ?_ k'
          have e1' : a.eval y = .pointer (some ⟨g, off, none⟩) := e1.trans e3
          have e4 : (SV.one (.c (.p (.slc b (off + l * k) (h' - l) (n - l))))).den (gam α) ρ = .slice (some ⟨g, off + l * k, none⟩) (h' - l) (n - l) := by
            have : gam α b = g := by simp [gam, hg]
            rw [← this]; rfl
          rw [e4]
          have hb := bounds_run false n n l h' hl hh c1 c2
          simp only [execOp, ho, e1', Instr.sliceAt, Instr.sureAddr, Sem.run_bind, run_underlying hd, Result.andThen_ok, pure_bind, hb, run_tSize hk, Option.map_none]
          rw [if_neg (show ¬ n = l by omega), addr_add]
          rfl
        · simp at h
      · simp at h
    · rename_i b off n cap e hy ht
      split at h
      · rename_i k l h' hk hl hh
        split at h
        · rename_i hc
          cases h
          simp only [Bool.and_eq_true] at hc
          have c1 := Nat.le_of_ble_eq_true hc.1.1
          have c2 := Nat.le_of_ble_eq_true hc.1.2
          have c3 := Nat.le_of_ble_eq_true hc.2
          obtain ⟨e1, k1⟩ := hR.eval1 hy
          obtain ⟨g, hg⟩ := Option.isSome_iff_exists.1 (show (α b).isSome = true from k1)
          have k' : (SV.one (.c (.p (.slc b (off + l * k) (h' - l) (cap - l))))).ok α := k1
          refine did_value hR ?_ k'
          have hgam : gam α b = g := by simp [gam, hg]
          have e1' : a.eval y = .slice (some ⟨g, off, none⟩) n cap := by rw [← hgam]; exact e1
          have e4 : (SV.one (.c (.p (.slc b (off + l * k) (h' - l) (cap - l))))).den (gam α) ρ = .slice (some ⟨g, off + l * k, none⟩) (h' - l) (cap - l) := by
            rw [← hgam]; rfl
          rw [e4]
          have hb := bounds_run true n cap l h' hl hh c1 c2
          simp only [execOp, ho, e1', Instr.sliceAt, Instr.slice, Sem.run_bind, run_underlying ht, Result.andThen_ok, hb, run_tSize hk, Option.map_none]
          rw [if_neg (show ¬ cap = l by omega)]
          simp only [Option.map_some, addr_add]
          rfl
        · simp at h
      · simp at h
    · exact prim_did hR h hob
  case h_22 ho =>
    exact prim_did hR h hob
end

/-! One operation. -/
section
variable {P : Program} {w0 w : World} {ρ : Env} {nt : Nat} {S : St} {α : Places} {a : Act} {ops : Array Oper} {Q : Exit → Act → World → Prop}
theorem want_spec {ti : List Nat} {o : Oper} {x x' : Aux} {r : Bool} {obs : List Ob} (hR : Rel w0 ρ nt S α a w) (h : want ops (sel ti S.tl) o x = some (r, obs, x')) (hob : ∀ b ∈ obs, b.holds P w0 ρ nt) :
    Region.wanted o (yielded ops a.tmps) = r := by
  unfold want at h
  unfold Region.wanted
  split at h
  · rename_i hg; cases h; rw [hg]
  · rename_i j b hg
    rw [hg]
    split at h
    · rename_i p hp
      split at h
      · rename_i t ht
        have key : ∀ v : SV, lk t (sel ti S.tl) = some v → yielded ops a.tmps j = match v.den (gam α) ρ with | .bool b => some b | _ => none := by
          intro v hv
          unfold yielded
          have := (hR.tmp t v (lk_sel_some hv).2).1
          simp only [hp, Option.bind_some, ht, this]
          cases v.den (gam α) ρ <;> rfl
        split at h
        · rename_i u hu
          cases h
          show (yielded ops a.tmps j == some b) = false
          rw [key _ hu]
          rfl
        · rename_i v _ hv
          split at h
          · rename_i r' obs' x'' hb
            cases h
            have e := asB_den (P := P) (w0 := w0) (ρ := ρ) (nt := nt) hb hob (gam α)
            show (yielded ops a.tmps j == some b) = (r' == b)
            rw [key _ hv]
            show ((match v.den (gam α) ρ with | .bool b => some b | _ => none) == some b) = _
            rw [e]
            cases r' <;> cases b <;> rfl
          · simp at h
        · simp at h
      · simp at h
    · simp at h
theorem Rel.put {tl : List (Nat × SV)} {ml : List (Nat × SC)} {d : Nat} {v : SV} (hR : Rel w0 ρ nt ⟨tl, ml⟩ α a w) (hd : d < nt) (hv : v.ok α) {u : Value} (hu : u = v.den (gam α) ρ) :
    Rel w0 ρ nt ⟨(d, v) :: tl, ml⟩ α (a.put (some d) u) w := by
  subst hu
  refine ⟨by simp [Act.put, hR.size], hR.defs, ?_, hR.box, hR.off, hR.inj, hR.below⟩
  intro t u hu
  have hu' : lk t ((d, v) :: tl) = some u := hu
  rw [lk_cons] at hu'
  by_cases e : d = t
  · subst e
    rw [if_pos rfl] at hu'
    cases hu'
    refine ⟨?_, hv⟩
    show (a.tmps.setIfInBounds d _)[d]? = _
    have := hR.size
    simp [this, hd]
  · rw [if_neg e] at hu'
    obtain ⟨h1, h2⟩ := hR.tmp t u hu'
    refine ⟨?_, h2⟩
    show (a.tmps.setIfInBounds d _)[t]? = _
    rw [Array.getElem?_setIfInBounds_ne e]
    exact h1
theorem opAt_wp (hρ : ∀ i, (ρ i).oneCell' = true) {o : Oper} {i : Nat} {x x' : Aux} {I : Info} {obs : List Ob} {K : Act → World → Prop} (hR : Rel w0 ρ nt S α a w) (hi : ops[i]? = some o)
    (h : opAt P nt ops S o x = some (I, obs, x')) (hob : ∀ b ∈ obs, b.holds P w0 ρ nt) (hK : ∀ α' a' w', Ext α α' → Rel w0 ρ nt (I.E.app S) α' a' w' → K a' w') : wpOp P ops Q i K a w := by
  unfold wpOp
  simp only [hi]
  unfold opAt at h
  simp only [] at h
  split at h
  · simp at h
  · rename_i obs1 x1 hw
    have hput : ∀ d, o.dst = some d → a.put o.dst undef = a.put (some d) undef := fun d hd => by rw [hd]
    split at h
    · rename_i hd
      cases h
      rw [if_neg (by rw [want_spec hR hw hob]; simp)]
      rw [hd]
      exact hK α a w (Ext.refl α) hR
    · rename_i d hd
      split at h
      · rename_i hdn
        cases h
        rw [if_neg (by rw [want_spec hR hw hob]; simp)]
        rw [hd]
        exact hK α _ w (Ext.refl α) (Rel.put (v := .one (.c (.p (.lit undef)))) hR (Nat.le_of_ble_eq_true hdn) trivial rfl)
      · simp at h
  · rename_i obs1 x1 hw
    split at h
    · simp at h
    · rename_i v cw obs2 x2 hv
      have fin : ∀ d, (o.dst = none → I.E = ⟨[], cw⟩) → (o.dst = some d → I.E = ⟨[(d, v)], cw⟩ ∧ d < nt) → (∀ b ∈ obs2, b.holds P w0 ρ nt) → Region.wanted o (yielded ops a.tmps) = true →
          (o.dst = none ∨ o.dst = some d) →
          (if Region.wanted o (yielded ops a.tmps) = true then o.wp P a w K Q ∨ (o.asks P a w ∧ LetsOut Q) else K (a.put o.dst undef) w) := by
        intro d hn hs hob2 hwt hdd
        rw [if_pos hwt]
        refine .inl ?_
        have done : ∀ α' a0 w' u, a0 = a → Ext α α' → u = v.den (gam α') ρ → v.ok α' → Rel w0 ρ nt ⟨S.tl, cw ++ S.ml⟩ α' a0 w' → K (a0.put o.dst u) w' := by
          intro α' a0 w' u ha hE hu hok hR'
          subst ha
          rcases hdd with hdd | hdd
          · rw [hdd]
            have e := hn hdd
            refine hK α' _ w' hE ?_
            rw [e]
            exact hR'
          · rw [hdd]
            obtain ⟨e, hdn⟩ := hs hdd
            refine hK α' _ w' hE ?_
            rw [e]
            exact Rel.put hR' hdn hok hu
        unfold Oper.wp
        rcases opv_did hρ hR hv hob2 with ⟨u, α', w', hrun, hE, hu, hok, hR'⟩ | ⟨f, args, hrun, hcw, hok, hcall⟩
        · rcases hrun with hrun | ⟨hrun, hun⟩
          · rw [hrun]
            exact done α' a w' u rfl hE hu hok hR'
          · rw [hrun]
            subst hun
            exact done α' a w' undef rfl hE hu hok hR'
        · rw [hrun]
          subst hcw
          show Calls P f args w _
          refine hcall.mono ?_
          rintro e w' ⟨rfl, hb⟩
          exact done α a w' _ rfl (Ext.refl α) rfl hok (hR.later hb)
      split at h
      · rename_i hd
        cases h
        exact fin 0 (fun _ => rfl) (fun e => by rw [hd] at e; simp at e) (fun b hb => hob b (by simp [hb])) (want_spec hR hw (fun b hb => hob b (by simp [hb]))) (.inl hd)
      · rename_i d hd
        split at h
        · rename_i hdn
          cases h
          exact fin d (fun e => by rw [hd] at e; simp at e) (fun _ => ⟨rfl, Nat.le_of_ble_eq_true hdn⟩) (fun b hb => hob b (by simp [hb])) (want_spec hR hw (fun b hb => hob b (by simp [hb]))) (.inr hd)
        · simp at h

/-! A region in the order of its text. -/
theorem opsAt_wp (hρ : ∀ i, (ρ i).oneCell' = true) : ∀ (l : List Oper) (k : Nat), (∀ j, l[j]? = ops[k + j]?) → ∀ {S S' : St} {α : Places} {a : Act} {w : World} {x x' : Aux} {Is : List Info} {obs : List Ob},
    Rel w0 ρ nt S α a w → opsAt P nt ops l S x = some (Is, S', obs, x') → (∀ b ∈ obs, b.holds P w0 ρ nt) → (∀ α' a' w', Ext α α' → Rel w0 ρ nt S' α' a' w' → Q .normal a' w') → wpOps P ops Q (List.range' k l.length) a w
  | [], k, _, S, S', α, a, w, x, x', Is, obs, hR, h, _, hQ => by
    cases h
    exact hQ α a w (Ext.refl α) hR
  | o :: l, k, hl, S, S', α, a, w, x, x', Is, obs, hR, h, hob, hQ => by
    unfold opsAt at h
    split at h
    · simp at h
    · rename_i I obs1 x1 h1
      split at h
      · simp at h
      · rename_i Is2 S2 obs2 x2 h2
        cases h
        have hi : ops[k]? = some o := by simpa using (hl 0).symm
        rw [List.length_cons, List.range'_succ, wpOps_cons]
        refine opAt_wp hρ hR hi h1 (fun b hb => hob b (by simp [hb])) (fun α' a' w' hE hR' => ?_)
        exact opsAt_wp hρ l (k + 1) (fun j => by have := hl (j + 1); simpa [Nat.add_assoc, Nat.add_comm 1 j] using this) hR' h2 (fun b hb => hob b (by simp [hb])) (fun α2 a2 w2 hE2 hR2 => hQ α2 a2 w2 (hE.trans hE2) hR2)
end

/-! A region that draws its order. -/
def acc : Nat → (Nat → Bool) → List Info → St → St
  | _, _, [], S => S
  | k, f, I :: Is, S => acc (k + 1) f Is (if f k then I.E.app S else S)
theorem acc_none {f : Nat → Bool} : ∀ (Is : List Info) (k : Nat) (S : St), (∀ i, k ≤ i → f i = false) → acc k f Is S = S
  | [], k, S, _ => rfl
  | I :: Is, k, S, h => by
    rw [acc, h k (Nat.le_refl _), if_neg (by simp)]
    exact acc_none Is (k + 1) S (fun i hi => h i (by omega))
theorem acc_congr {f g : Nat → Bool} : ∀ (Is : List Info) (k : Nat) (S : St), (∀ i, k ≤ i → i < k + Is.length → f i = g i) → acc k f Is S = acc k g Is S
  | [], k, S, _ => rfl
  | I :: Is, k, S, h => by
    rw [acc, acc, h k (Nat.le_refl _) (by simp)]
    exact acc_congr Is (k + 1) _ (fun i hi hi2 => h i (by omega) (by simp; omega))
theorem lk_not {β : Type} {k : Nat} : ∀ {l : List (Nat × β)}, k ∉ l.map (·.1) → lk k l = none
  | [], _ => rfl
  | (j, x) :: l, h => by
    simp only [List.map_cons, List.mem_cons, not_or] at h
    rw [lk_cons, if_neg (fun e => h.1 e.symm), lk_not h.2]
theorem lk_in {β : Type} {k : Nat} : ∀ {l : List (Nat × β)}, k ∈ l.map (·.1) → ∃ x, lk k l = some x
  | (j, x) :: l, h => by
    rw [lk_cons]
    by_cases e : j = k
    · exact ⟨x, if_pos e⟩
    · rw [if_neg e]
      simp only [List.map_cons, List.mem_cons] at h
      exact lk_in (h.resolve_left (fun h => e h.symm))
theorem app_tl (I : Info) (S : St) (t : Nat) : lk t (I.E.app S).tl = if t ∈ I.tk then lk t I.E.tw else lk t S.tl := by
  show lk t (I.E.tw ++ S.tl) = _
  rw [lk_append]
  by_cases h : t ∈ I.tk
  · rw [if_pos h]
    obtain ⟨x, hx⟩ := lk_in h
    rw [hx]
  · rw [if_neg h, lk_not h]
theorem app_ml (I : Info) (S : St) (t : Nat) : lk t (I.E.app S).ml = if t ∈ I.ck then lk t I.E.cw else lk t S.ml := by
  show lk t (I.E.cw ++ S.ml) = _
  rw [lk_append]
  by_cases h : t ∈ I.ck
  · rw [if_pos h]
    obtain ⟨x, hx⟩ := lk_in h
    rw [hx]
  · rw [if_neg h, lk_not h]
theorem acc_tl {f g : Nat → Bool} {t : Nat} : ∀ (Is : List Info) (k : Nat) (S S' : St), lk t S.tl = lk t S'.tl → (∀ j I, Is[j]? = some I → t ∈ I.tk → f (k + j) = g (k + j)) → lk t (acc k f Is S).tl = lk t (acc k g Is S').tl
  | [], k, S, S', h, _ => h
  | I :: Is, k, S, S', h, hI => by
    rw [acc, acc]
    refine acc_tl Is (k + 1) _ _ ?_ (fun j J hJ ht => by
      have := hI (j + 1) J (by simpa using hJ) ht
      rwa [show k + (j + 1) = k + 1 + j by omega] at this)
    by_cases ht : t ∈ I.tk
    · have := hI 0 I rfl ht
      rw [Nat.add_zero] at this
      rw [this]
      split
      · rw [app_tl, app_tl, if_pos ht, if_pos ht]
      · exact h
    · have e : ∀ (b : Bool) (T : St), lk t (if b = true then I.E.app T else T).tl = lk t T.tl := by
        intro b T
        split
        · rw [app_tl, if_neg ht]
        · rfl
      rw [e, e, h]
theorem acc_ml {f g : Nat → Bool} {t : Nat} : ∀ (Is : List Info) (k : Nat) (S S' : St), lk t S.ml = lk t S'.ml → (∀ j I, Is[j]? = some I → t ∈ I.ck → f (k + j) = g (k + j)) → lk t (acc k f Is S).ml = lk t (acc k g Is S').ml
  | [], k, S, S', h, _ => h
  | I :: Is, k, S, S', h, hI => by
    rw [acc, acc]
    refine acc_ml Is (k + 1) _ _ ?_ (fun j J hJ ht => by
      have := hI (j + 1) J (by simpa using hJ) ht
      rwa [show k + (j + 1) = k + 1 + j by omega] at this)
    by_cases ht : t ∈ I.ck
    · have := hI 0 I rfl ht
      rw [Nat.add_zero] at this
      rw [this]
      split
      · rw [app_ml, app_ml, if_pos ht, if_pos ht]
      · exact h
    · have e : ∀ (b : Bool) (T : St), lk t (if b = true then I.E.app T else T).ml = lk t T.ml := by
        intro b T
        split
        · rw [app_ml, if_neg ht]
        · rfl
      rw [e, e, h]
theorem acc_le : ∀ (Is : List Info) (k i : Nat) (S : St) (I : Info), Is[i]? = some I → acc k (fun j => decide (j ≤ k + i)) Is S = I.E.app (acc k (fun j => decide (j < k + i)) Is S)
  | [], k, i, S, I, h => by simp at h
  | J :: Is, k, 0, S, I, h => by
    cases h
    rw [acc, acc, if_pos (by simp), if_neg (by simp), acc_none, acc_none]
    · intro j hj; simp; omega
    · intro j hj; simp; omega
  | J :: Is, k, i + 1, S, I, h => by
    rw [acc, acc, if_pos (by simp), if_pos (by simp)]
    have := acc_le Is (k + 1) i (J.E.app S) I (by simpa using h)
    rw [show k + (i + 1) = k + 1 + i by omega]
    exact this
theorem hit_mem {a b : List Nat} {t : Nat} (h1 : t ∈ a) (h2 : t ∈ b) : hit a b = true := by
  unfold hit
  rw [List.any_eq_true]
  refine ⟨t, h1, ?_⟩
  rw [List.any_eq_true]
  exact ⟨t, h2, Nat.beq_refl t⟩

section
variable {P : Program} {w0 w : World} {ρ : Env} {nt : Nat} {S : St} {α : Places} {a : Act} {ops : Array Oper} {Q : Exit → Act → World → Prop}
theorem Rel.same {S' : St} (h : Rel w0 ρ nt S α a w) (ht : ∀ t, lk t S'.tl = lk t S.tl) (hm : ∀ k, lk k S'.ml = lk k S.ml) : Rel w0 ρ nt S' α a w := by
  refine ⟨h.size, h.defs, fun t v hv => h.tmp t v (by rw [← ht]; exact hv), fun b g hg => ?_, fun b hb o ho => by rw [hm]; exact h.off b hb o ho, h.inj, h.below⟩
  refine (h.box b g hg).turn (hm _) (fun o ho => ?_)
  cases hlo : lk (b * stride + 1 + o) S.ml with
  | none => exact .inl ⟨rfl, by rw [hm]; exact hlo⟩
  | some y => exact .inr ⟨y, y, rfl, by rw [hm]; exact hlo, fun h6 => ⟨h6, rfl⟩⟩
theorem opAt_tr {o : Oper} {x x' : Aux} {I : Info} {obs : List Ob} (h : opAt P nt ops S o x = some (I, obs, x')) : I.tr = trIdx ops o := by
  unfold opAt at h
  simp only [] at h
  split at h
  · simp at h
  · split at h
    · cases h; rfl
    · split at h
      · cases h; rfl
      · simp at h
  · split at h
    · simp at h
    · split at h
      · cases h; rfl
      · split at h
        · cases h; rfl
        · simp at h
theorem opAt_local {S' : St} {o : Oper} {x x' : Aux} {I : Info} {obs : List Ob} (h : opAt P nt ops S o x = some (I, obs, x')) (ht : ∀ t ∈ I.tr, lk t S'.tl = lk t S.tl) (hm : ∀ k ∈ I.cr, lk k S'.ml = lk k S.ml) :
    opAt P nt ops S' o x = some (I, obs, x') := by
  rw [opAt_tr h] at ht
  have e : sel (trIdx ops o) S'.tl = sel (trIdx ops o) S.tl := sel_congr ht
  unfold opAt at h ⊢
  simp only [] at h ⊢
  rw [e]
  split at h
  · simp at h
  · exact h
  · rename_i obs1 x1 h1
    have e2 : sel (crIdx P (sel (trIdx ops o) S.tl) x1.nb o) S'.ml = sel (crIdx P (sel (trIdx ops o) S.tl) x1.nb o) S.ml := by
      refine sel_congr fun k hk => hm k ?_
      split at h
      · simp at h
      · split at h
        · cases h; exact hk
        · split at h
          · cases h; exact hk
          · simp at h
    rw [e2]
    exact h

/-- What of the operations matters to one of them. -/
def Good (Is : List Info) (L : Nat → Bool) (i : Nat) (I : Info) : Prop :=
  L i = false ∧ ∀ j J, Is[j]? = some J → (j < i → clash J I = true → L j = true) ∧ (i < j → clash I J = true → L j = false)
theorem clash1 {I J : Info} {t : Nat} (h1 : t ∈ I.tk) (h2 : t ∈ J.tr ∨ t ∈ J.tk) : clash I J = true := by
  have := hit_mem h1 (List.mem_append.2 h2)
  simp [clash, this]
theorem clash2 {I J : Info} {t : Nat} (h1 : t ∈ J.tk) (h2 : t ∈ I.tr) : clash I J = true := by
  have := hit_mem h1 h2
  simp [clash, this]
theorem clash3 {I J : Info} {t : Nat} (h1 : t ∈ I.ck) (h2 : t ∈ J.cr ∨ t ∈ J.ck) : clash I J = true := by
  have := hit_mem h1 (List.mem_append.2 h2)
  simp [clash, this]
theorem clash4 {I J : Info} {t : Nat} (h1 : t ∈ J.ck) (h2 : t ∈ I.cr) : clash I J = true := by
  have := hit_mem h1 h2
  simp [clash, this]
theorem draw_step (hρ : ∀ i, (ρ i).oneCell' = true) {Is : List Info} {L : Nat → Bool} {i : Nat} {I : Info} {o : Oper} {x x' : Aux} {obs : List Ob} {K : Act → World → Prop} (hI : Is[i]? = some I) (hi : ops[i]? = some o)
    (hg : Good Is L i I) (h : opAt P nt ops (acc 0 (fun j => decide (j < i)) Is S) o x = some (I, obs, x')) (hob : ∀ b ∈ obs, b.holds P w0 ρ nt)
    (hR : Rel w0 ρ nt (acc 0 L Is S) α a w) (hK : ∀ α' a' w', Ext α α' → Rel w0 ρ nt (acc 0 (fun j => L j || j == i) Is S) α' a' w' → K a' w') : wpOp P ops Q i K a w := by
  obtain ⟨hLi, hg⟩ := hg
  have ne : ∀ j J, Is[j]? = some J → j ≠ i → j < i ∨ i < j := fun j J _ hne => by omega
  have h2 : opAt P nt ops (acc 0 L Is S) o x = some (I, obs, x') := by
    refine opAt_local h (fun t ht => acc_tl Is 0 S S rfl (fun j J hJ htk => ?_)) (fun k hk => acc_ml Is 0 S S rfl (fun j J hJ htk => ?_))
    all_goals
      rw [Nat.zero_add]
      by_cases e : j = i
      · subst e; rw [hLi]; simp
      · rcases ne j J hJ e with h | h
        · rw [decide_eq_true h]
          exact (hg j J hJ).1 h (by first | exact clash1 htk (.inl ht) | exact clash3 htk (.inl hk))
        · rw [decide_eq_false (by omega)]
          exact (hg j J hJ).2 h (by first | exact clash2 htk ht | exact clash4 htk hk)
  refine opAt_wp hρ hR hi h2 hob (fun α' a' w' hE hR' => hK α' a' w' hE (hR'.same (fun t => ?_) (fun k => ?_)))
  · rw [app_tl]
    by_cases ht : t ∈ I.tk
    · rw [if_pos ht]
      have e1 : lk t (acc 0 (fun j => L j || j == i) Is S).tl = lk t (acc 0 (fun j => decide (j ≤ 0 + i)) Is S).tl := by
        refine acc_tl Is 0 S S rfl (fun j J hJ htk => ?_)
        simp only [Nat.zero_add]
        by_cases e : j = i
        · subst e; simp
        · rcases ne j J hJ e with h | h
          · rw [(hg j J hJ).1 h (clash1 htk (.inr ht)), decide_eq_true (by omega)]; rfl
          · rw [(hg j J hJ).2 h (clash1 ht (.inr htk)), decide_eq_false (by omega)]; simp [e]
      rw [e1, acc_le Is 0 i S I hI, app_tl, if_pos ht]
    · rw [if_neg ht]
      refine acc_tl Is 0 S S rfl (fun j J hJ htk => ?_)
      simp only [Nat.zero_add]
      by_cases e : j = i
      · subst e; rw [hI] at hJ; cases hJ; exact absurd htk ht
      · simp [e]
  · rw [app_ml]
    by_cases ht : k ∈ I.ck
    · rw [if_pos ht]
      have e1 : lk k (acc 0 (fun j => L j || j == i) Is S).ml = lk k (acc 0 (fun j => decide (j ≤ 0 + i)) Is S).ml := by
        refine acc_ml Is 0 S S rfl (fun j J hJ htk => ?_)
        simp only [Nat.zero_add]
        by_cases e : j = i
        · subst e; simp
        · rcases ne j J hJ e with h | h
          · rw [(hg j J hJ).1 h (clash3 htk (.inr ht)), decide_eq_true (by omega)]; rfl
          · rw [(hg j J hJ).2 h (clash3 ht (.inr htk)), decide_eq_false (by omega)]; simp [e]
      rw [e1, acc_le Is 0 i S I hI, app_ml, if_pos ht]
    · rw [if_neg ht]
      refine acc_ml Is 0 S S rfl (fun j J hJ htk => ?_)
      simp only [Nat.zero_add]
      by_cases e : j = i
      · subst e; rw [hI] at hJ; cases hJ; exact absurd htk ht
      · simp [e]

/-- What 'opsAt' says of each operation. -/
theorem opsAt_spec : ∀ (l : List Oper) (k : Nat) {S S' : St} {x x' : Aux} {Is : List Info} {obs : List Ob}, opsAt P nt ops l S x = some (Is, S', obs, x') →
    Is.length = l.length ∧ S' = acc k (fun _ => true) Is S ∧ ∀ j o, l[j]? = some o → ∃ I y y' ob, Is[j]? = some I ∧ opAt P nt ops (acc k (fun i => decide (i < k + j)) Is S) o y = some (I, ob, y') ∧ ∀ b ∈ ob, b ∈ obs
  | [], k, S, S', x, x', Is, obs, h => by
    cases h
    exact ⟨rfl, rfl, fun j o ho => by simp at ho⟩
  | o :: l, k, S, S', x, x', Is, obs, h => by
    unfold opsAt at h
    split at h
    · simp at h
    · rename_i I obs1 x1 h1
      split at h
      · simp at h
      · rename_i Is2 S2 obs2 x2 h2
        cases h
        obtain ⟨k1, k2, k3⟩ := opsAt_spec l (k + 1) h2
        refine ⟨by simp [k1], ?_, fun j o' ho => ?_⟩
        · rw [acc, if_pos rfl]; exact k2
        · cases j with
          | zero =>
            cases ho
            refine ⟨I, x, x1, obs1, rfl, ?_, fun b hb => by simp [hb]⟩
            rw [acc_none _ _ _ (fun i hi => by simp; omega)]
            exact h1
          | succ j =>
            obtain ⟨J, y, y', ob, h3, h4, h5⟩ := k3 j o' (by simpa using ho)
            refine ⟨J, y, y', ob, by simpa using h3, ?_, fun b hb => by simp [h5 b hb]⟩
            rw [acc, if_pos (by simp), show k + (j + 1) = k + 1 + j by omega]
            exact h4
end

/-! The order in which a region draws. -/
def Closed (ops : Array Oper) (L : Nat → Bool) : Prop := ∀ j o, L j = true → ops[j]? = some o → ∀ e ∈ edges o, L e = true
theorem aheads_spec {ops : Array Oper} : ∀ (l : List Oper) (acc : List (List Nat)), (∀ j, l[j]? = ops[acc.length + j]?) →
    (∀ (k : Nat) (b : List Nat), acc[k]? = some b → ∀ L, Closed ops L → (∀ o, ops[k]? = some o → ∀ e ∈ edges o, L e = true) → ∀ i ∈ b, L i = true) →
    ∀ (k : Nat) (b : List Nat), (aheads acc l)[k]? = some b → ∀ L, Closed ops L → (∀ o, ops[k]? = some o → ∀ e ∈ edges o, L e = true) → ∀ i ∈ b, L i = true
  | [], acc, _, h => h
  | o :: l, acc, hl, h => by
    rw [aheads]
    have ho : ops[acc.length]? = some o := by simpa using (hl 0).symm
    refine aheads_spec l _ (fun j => by have := hl (j + 1); simpa [Nat.add_assoc, Nat.add_comm 1 j] using this) ?_
    intro k b hk L hL he i hi
    rcases Nat.lt_or_ge k acc.length with h1 | h1
    · rw [List.getElem?_append_left h1] at hk
      exact h k b hk L hL he i hi
    · rw [List.getElem?_append_right h1] at hk
      have h2 : k - acc.length = 0 := by
        rcases Nat.eq_zero_or_pos (k - acc.length) with h2 | h2
        · exact h2
        · rw [List.getElem?_eq_none (by simp; omega)] at hk; simp at hk
      rw [h2] at hk
      simp at hk
      subst hk
      obtain rfl : k = acc.length := by omega
      rw [List.mem_eraseDups] at hi
      unfold ahead at hi
      rw [List.mem_flatMap] at hi
      obtain ⟨e, h3, h4⟩ := hi
      have h5 := he o ho e h3
      rcases List.mem_cons.1 h4 with rfl | h4
      · exact h5
      · cases h6 : acc[e]? with
        | none => rw [List.getD_eq_getElem?_getD, h6] at h4; simp at h4
        | some b' =>
          rw [List.getD_eq_getElem?_getD, h6] at h4
          exact h e b' h6 L hL (fun o' ho' => hL e o' h5 ho') i (by simpa using h4)
theorem ready_iff {ops : Array Oper} {listed : Array Bool} {i : Nat} : i ∈ Region.ready .any ops listed ↔ i < ops.size ∧ listed.getD i true = false ∧ ∀ o, ops[i]? = some o → ∀ e ∈ edges o, listed.getD e false = true := by
  unfold Region.ready
  rw [List.mem_filter, List.mem_range]
  constructor
  · rintro ⟨h1, h2⟩
    obtain ⟨o, ho⟩ : ∃ o, ops[i]? = some o := ⟨ops[i], Array.getElem?_eq_getElem h1⟩
    simp only [ho, Option.map_some, Option.getD_some, Bool.and_eq_true, Bool.not_eq_true', Array.all_eq_true'] at h2
    refine ⟨h1, h2.1, fun o' ho' e he => ?_⟩
    rw [ho] at ho'
    cases ho'
    simp only [edges, List.mem_filterMap] at he
    obtain ⟨e', h3, h4⟩ := he
    have h5 := h2.2 e' (by simpa using h3)
    split at h4
    · rename_i hb
      cases h4
      simpa [hb] using h5
    · simp at h4
  · rintro ⟨h1, h2, h3⟩
    obtain ⟨o, ho⟩ : ∃ o, ops[i]? = some o := ⟨ops[i], Array.getElem?_eq_getElem h1⟩
    refine ⟨h1, ?_⟩
    simp only [ho, Option.map_some, Option.getD_some, Bool.and_eq_true, Bool.not_eq_true', Array.all_eq_true']
    refine ⟨h2, fun e he => ?_⟩
    cases hb : Region.binds .any e with
    | false => rfl
    | true =>
      have := h3 o ho e.on (by
        simp only [edges, List.mem_filterMap]
        exact ⟨e, by simpa using he, by rw [if_pos hb]⟩)
      simpa using this

section
variable {P : Program} {w0 : World} {ρ : Env} {nt : Nat} {S : St} {α0 : Places} {ops : Array Oper} {Q : Exit → Act → World → Prop}
theorem draw_any (hρ : ∀ i, (ρ i).oneCell' = true) {Is : List Info} {obs : List Ob} (hok : okDraw ops.toList Is = true) (hlen : Is.length = ops.size)
    (hs : ∀ j o, ops[j]? = some o → ∃ I y y' ob, Is[j]? = some I ∧ opAt P nt ops (acc 0 (fun i => decide (i < 0 + j)) Is S) o y = some (I, ob, y') ∧ ∀ b ∈ ob, b ∈ obs)
    (hob : ∀ b ∈ obs, b.holds P w0 ρ nt) (hQ : ∀ α' a' w', Ext α0 α' → Rel w0 ρ nt (acc 0 (fun _ => true) Is S) α' a' w' → Q .normal a' w') :
    ∀ (fuel : Nat) (listed : Array Bool), listed.size = ops.size → fuel + listed.toList.count true = ops.size → Closed ops (fun j => listed.getD j false) →
      ∀ (α : Places) (a : Act) (w : World), Ext α0 α → Rel w0 ρ nt (acc 0 (fun j => listed.getD j false) Is S) α a w → wpAny P .any ops Q fuel listed a w := by
  have hdown : ∀ j o, ops[j]? = some o → ∀ e ∈ edges o, e < j := by
    intro j o ho e he
    have hj := (Array.getElem?_eq_some_iff.1 ho).1
    simp only [okDraw, List.all_eq_true, List.mem_range] at hok
    have h1 := hok j (by simpa using hj)
    split at h1
    · rename_i o' J bj h2 h3 h4
      rw [Array.getElem?_toList, ho] at h2
      cases h2
      simp only [Bool.and_eq_true, List.all_eq_true] at h1
      have := h1.1 e he
      exact (Nat.blt_eq ▸ this : e < j)
    · simp at h1
  have hfree : ∀ j J, Is[j]? = some J → ∀ i I, i < j → Is[i]? = some I → clash I J = true → ∀ L, Closed ops L → (∀ o, ops[j]? = some o → ∀ e ∈ edges o, L e = true) → L i = true := by
    intro j J hJ i I hij hI hc L hL he
    have hj : j < ops.size := by rw [← hlen]; exact (List.getElem?_eq_some_iff.1 hJ).1
    simp only [okDraw, List.all_eq_true, List.mem_range] at hok
    have h1 := hok j (by simpa using hj)
    split at h1
    · rename_i o' J' bj h2 h3 h4
      rw [hJ] at h3
      cases h3
      simp only [Bool.and_eq_true, freeOf, List.all_eq_true, List.mem_range] at h1
      have h5 := h1.2 i hij
      rw [hI] at h5
      simp only [hc, Bool.not_true, Bool.false_or, List.any_eq_true] at h5
      obtain ⟨k, h6, h7⟩ := h5
      obtain rfl := Nat.eq_of_beq_eq_true h7
      exact aheads_spec ops.toList [] (fun j => by simp) (fun k b hk => by simp at hk) j bj h4 L hL he i h6
    · simp at h1
  have fin : ∀ listed : Array Bool, listed.size = ops.size → (∀ j, j < ops.size → listed.getD j false = true) → ∀ (α : Places) (a : Act) (w : World), Ext α0 α → Rel w0 ρ nt (acc 0 (fun j => listed.getD j false) Is S) α a w → Q .normal a w := by
    intro listed hsz hall α a w hE hR
    refine hQ α a w hE ?_
    rw [acc_congr (g := fun j => listed.getD j false) Is 0 S (fun i _ hi => (hall i (by rw [Nat.zero_add, hlen] at hi; exact hi)).symm)]
    exact hR
  have least : ∀ listed : Array Bool, listed.size = ops.size → Region.ready .any ops listed = [] → ∀ j, j < ops.size → listed.getD j false = true := by
    intro listed hsz hr j
    induction j using Nat.strongRecOn with
    | _ j ih =>
      intro hj
      cases h : listed.getD j false with
      | true => rfl
      | false =>
        exfalso
        have : j ∈ Region.ready .any ops listed := by
          rw [ready_iff]
          refine ⟨hj, ?_, fun o ho e he => ?_⟩
          · rw [Array.getD_eq_getD_getElem?, Array.getElem?_eq_getElem (by omega)] at h ⊢
            exact h
          · have := hdown j o ho e he
            exact ih e this (by omega)
        rw [hr] at this
        simp at this
  intro fuel
  induction fuel with
  | zero =>
    intro listed hsz hcnt hcl α a w hE hR
    have hall : ∀ j, j < ops.size → listed.getD j false = true := by
      intro j hj
      rw [Nat.zero_add, ← hsz, ← Array.length_toList, List.count_eq_length] at hcnt
      rw [Array.getD_eq_getD_getElem?, Array.getElem?_eq_getElem (by omega)]
      exact (hcnt (listed[j]'(by omega)) (by simp)).symm
    refine ⟨?_, fin listed hsz hall α a w hE hR⟩
    rw [List.eq_nil_iff_forall_not_mem]
    intro i hi
    rw [ready_iff] at hi
    have := hall i hi.1
    have h2 := hi.2.1
    rw [Array.getD_eq_getD_getElem?, Array.getElem?_eq_getElem (by omega)] at this h2
    simp at this h2
    rw [this] at h2
    simp at h2
  | succ fuel ih =>
    intro listed hsz hcnt hcl α a w hE hR
    refine ⟨fun hr => fin listed hsz (least listed hsz hr) α a w hE hR, fun i hi => ?_⟩
    rw [ready_iff] at hi
    obtain ⟨hi1, hi2, hi3⟩ := hi
    obtain ⟨o, ho⟩ : ∃ o, ops[i]? = some o := ⟨ops[i], Array.getElem?_eq_getElem hi1⟩
    obtain ⟨I, y, y', ob, h1, h2, h3⟩ := hs i o ho
    rw [Nat.zero_add] at h2
    have hget : ∀ j, listed[j]? = some (listed.getD j false) ∨ (listed[j]? = none ∧ listed.getD j false = false) := by
      intro j
      rw [Array.getD_eq_getD_getElem?]
      cases listed[j]? with
      | none => exact .inr ⟨rfl, rfl⟩
      | some b => exact .inl rfl
    have hLi : listed.getD i false = false := by
      rw [Array.getD_eq_getD_getElem?, Array.getElem?_eq_getElem (by omega)] at hi2 ⊢
      exact hi2
    have hset : ∀ j, (listed.setIfInBounds i true).getD j false = (listed.getD j false || j == i) := by
      intro j
      rw [Array.getD_eq_getD_getElem?, Array.getD_eq_getD_getElem?, Array.getElem?_setIfInBounds]
      by_cases e : i = j
      · subst e; rw [if_pos rfl, if_pos (by omega)]; simp
      · rw [if_neg e]
        have : (j == i) = false := by simp; omega
        rw [this, Bool.or_false]
    refine draw_step (L := fun j => listed.getD j false) hρ h1 ho ⟨hLi, fun j J hJ => ⟨fun hji hc => ?_, fun hij hc => ?_⟩⟩ h2 (fun b hb => hob b (h3 b hb)) hR (fun α' a' w' hE' hR' => ?_)
    · exact hfree i I h1 j J hji hJ hc _ hcl (fun o' ho' e he => by rw [ho] at ho'; cases ho'; exact hi3 o ho e he)
    · cases hL : listed.getD j false with
      | false => exact hL
      | true =>
        have hj : j < ops.size := by rw [← hlen]; exact (List.getElem?_eq_some_iff.1 hJ).1
        have := hfree j J hJ i I hij h1 hc _ hcl (fun o' ho' e he => hcl j o' hL ho' e he)
        rw [hLi] at this
        simp at this
    · refine ih (listed.setIfInBounds i true) (by simp [hsz]) ?_ ?_ α' a' w' (hE.trans hE') ?_
      · have hf : listed[i]'(by omega) = false := by
          rw [Array.getD_eq_getD_getElem?, Array.getElem?_eq_getElem (by omega)] at hLi
          exact hLi
        rw [Array.toList_setIfInBounds, List.count_set (by simp; omega)]
        have : (listed.toList[i]'(by simp; omega)) = false := by simpa using hf
        rw [this, if_neg (by decide), if_pos (by decide)]
        omega
      · intro j o' hj ho' e he
        simp only [hset, Bool.or_eq_true, beq_iff_eq] at hj ⊢
        rcases hj with hj | hj
        · exact .inl (hcl j o' hj ho' e he)
        · subst hj
          exact .inl (hi3 o' ho' e he)
      · have : (fun j => (listed.setIfInBounds i true).getD j false) = fun j => listed.getD j false || j == i := funext hset
        rw [this]
        exact hR'
end

/-! Code, and a function. -/
section
variable {P : Program} {w0 w : World} {ρ : Env} {nt : Nat} {S : St} {α : Places} {a : Act} {ops : Array Oper} {Q : Exit → Act → World → Prop}
theorem frAt_wp {n i : Nat} {o : Oper} {x x' : Aux} {S1 : St} {obs : List Ob} {K : Act → World → Prop} (hR : Rel w0 ρ nt S α a w) (hi : ops[i]? = some o)
    (h : frAt P nt n o S x = some (S1, obs, x')) (hob : ∀ b ∈ obs, b.holds P w0 ρ nt) (hK : ∀ α' a' w', Ext α α' → Rel w0 ρ nt S1 α' a' w' → K a' w') : wpOp P ops Q i K a w := by
  unfold frAt at h
  split at h
  · rename_i d c hg hd ho
    split at h
    · rename_i f e hc hu
      split at h
      · rename_i g l k hf ha hk
        split at h
        · rename_i hcc
          split at h
          · rename_i v cw obs2 x2 hb
            cases h
            simp only [Bool.and_eq_true] at hcc
            have hcall := hob _ (List.mem_singleton.2 rfl)
            have e1 : a.eval f = .func (.func g) #[] #[] := (hR.eval1 hf).1
            have e2 := (hR.evals ha).1
            obtain ⟨α', hE, hv, hok, _, hR'⟩ := newBox_did hR hb (List.mem_singleton.2 rfl) (fun y hy => by
              obtain ⟨j, _, rfl⟩ := List.mem_map.1 hy
              trivial)
            unfold wpOp
            simp only [hi]
            rw [if_pos (by unfold Region.wanted; rw [hg])]
            refine .inl ?_
            unfold Oper.wp
            rw [call_run ho hc e1 hcc.1]
            show Calls P g _ w _
            have e3 : #[] ++ c.args.map a.eval ++ #[] = (l.map (S1.den (gam α) ρ)).toArray := by
              apply Array.toList_inj.1
              simpa using e2
            rw [e3]
            refine (hcall (gam α) w hR.below (mem_here hR rfl)).mono ?_
            rintro e' w' ⟨rfl, rfl⟩
            show K (a.put o.dst _) _
            rw [hd]
            exact hK α' _ _ hE (Rel.put hR' (Nat.le_of_ble_eq_true hcc.2) hok hv.symm)
          · simp at h
        · simp at h
      · simp at h
    · simp at h
  · simp at h
theorem frOps_wp (hρ : ∀ i, (ρ i).oneCell' = true) {n : Nat} : ∀ (l : List Oper) (k : Nat), (∀ j, l[j]? = ops[k + j]?) → ∀ {S S' : St} {α : Places} {a : Act} {w : World} {x x' : Aux} {obs : List Ob},
    Rel w0 ρ nt S α a w → frOps P nt ops n l S x = some (S', obs, x') → (∀ b ∈ obs, b.holds P w0 ρ nt) → (∀ α' a' w', Ext α α' → Rel w0 ρ nt S' α' a' w' → Q .normal a' w') → wpOps P ops Q (List.range' k l.length) a w
  | [], k, _, S, S', α, a, w, x, x', obs, hR, h, _, hQ => by simp [frOps] at h
  | o :: l, k, hl, S, S', α, a, w, x, x', obs, hR, h, hob, hQ => by
    have hi : ops[k]? = some o := by simpa using (hl 0).symm
    have hl' : ∀ j, l[j]? = ops[k + 1 + j]? := fun j => by have := hl (j + 1); simpa [Nat.add_assoc, Nat.add_comm 1 j] using this
    rw [List.length_cons, List.range'_succ, wpOps_cons]
    unfold frOps at h
    split at h
    · rename_i S1 obs1 x1 h1
      split at h
      · rename_i Is2 S2 obs2 x2 h2
        cases h
        refine frAt_wp hR hi h1 (fun b hb => hob b (by simp [hb])) (fun α' a' w' hE hR' => ?_)
        exact opsAt_wp hρ l (k + 1) hl' hR' h2 (fun b hb => hob b (by simp [hb])) (fun α2 a2 w2 hE2 hR2 => hQ α2 a2 w2 (hE.trans hE2) hR2)
      · simp at h
    · split at h
      · rename_i I obs1 x1 h1
        split at h
        · rename_i S2 obs2 x2 h2
          cases h
          refine opAt_wp hρ hR hi h1 (fun b hb => hob b (by simp [hb])) (fun α' a' w' hE hR' => ?_)
          exact frOps_wp hρ l (k + 1) hl' hR' h2 (fun b hb => hob b (by simp [hb])) (fun α2 a2 w2 hE2 hR2 => hQ α2 a2 w2 (hE.trans hE2) hR2)
        · simp at h
      · simp at h
end
def LoopW (P : Program) (c : Code) (Q : Exit → Act → World → Prop) (a : Act) (w : World) : Prop :=
  ∀ (b : Frame) (k : List Item) (cs : List Frame), ∃ e a' w', Q e a' w' ∧ Arrives P (lone (b.at a (.code c :: .inLoop c :: k)) cs w) b k cs e a' w'
theorem LoopW.wp {P : Program} {c : Code} {Q : Exit → Act → World → Prop} {a : Act} {w : World} (h : LoopW P c Q a w) : (Code.loop c).wp P Q a w :=
  fun b k cs => let ⟨e, a', w', q, r⟩ := h b k cs; ⟨e, a', w', q, .of_steps (.one step_loop) r⟩
theorem LoopW.step {P : Program} {c : Code} {Q : Exit → Act → World → Prop} {a : Act} {w : World} (h : c.wp P (Exit.then (LoopW P c Q) Q) a w) : LoopW P c Q a w := by
  intro b k cs
  obtain ⟨e, a₁, w₁, hq, harr⟩ := h b (.inLoop c :: k) cs
  cases e with
  | normal =>
    obtain ⟨e₂, a₂, w₂, hq₂, harr₂⟩ := hq b k cs
    exact ⟨e₂, a₂, w₂, hq₂, .of_steps (Steps.trans harr (.one step_inLoop)) harr₂⟩
  | exit id => exact ⟨_, a₁, w₁, hq, .pass (x := .inLoop c) rfl (fun _ _ => .inl (by simp)) harr⟩
  | goto l => exact ⟨_, a₁, w₁, hq, .pass (x := .inLoop c) rfl (fun _ _ => .inl (by simp)) harr⟩
  | ret => exact ⟨_, a₁, w₁, hq, .pass (x := .inLoop c) rfl (fun _ _ => .inl (by simp)) harr⟩
  | panic ch => exact ⟨_, a₁, w₁, hq, .pass (x := .inLoop c) rfl (fun _ _ => .inl (by simp)) harr⟩
  | outgrown => exact ⟨_, a₁, w₁, hq, .pass (x := .inLoop c) rfl (fun _ _ => .inl (by simp)) harr⟩
/-- What a run of a piece of code is good for. -/
def Runs (P : Program) (w0 : World) (ρ : Env) (nt : Nat) (c : Code) (r : St → Aux → Option (EK × St × List Ob × Aux)) : Prop :=
  ∀ {S S' : St} {x x' : Aux} {e : EK} {obs : List Ob}, r S x = some (e, S', obs, x') → (∀ b ∈ obs, b.holds P w0 ρ nt) →
    ∀ {α : Places} {a : Act} {w : World} {Q : Exit → Act → World → Prop}, Rel w0 ρ nt S α a w → (∀ α' a' w', Ext α α' → Rel w0 ρ nt S' α' a' w' → Q e.to a' w') → c.wp P Q a w
theorem loopN_wp {P : Program} {w0 : World} {ρ : Env} {nt : Nat} {c : Code} {r : St → Aux → Option (EK × St × List Ob × Aux)} (hr : Runs P w0 ρ nt c r) : ∀ (n : Nat) {S S' : St} {x x' : Aux} {e : EK} {obs : List Ob}, loopN r n S x = some (e, S', obs, x') → (∀ b ∈ obs, b.holds P w0 ρ nt) →
    ∀ {α : Places} {a : Act} {w : World} {Q : Exit → Act → World → Prop}, Rel w0 ρ nt S α a w → (∀ α' a' w', Ext α α' → Rel w0 ρ nt S' α' a' w' → Q e.to a' w') → LoopW P c Q a w
  | 0, S, S', x, x', e, obs, h, _, α, a, w, Q, _, _ => by simp [loopN] at h
  | n + 1, S, S', x, x', e, obs, h, hob, α, a, w, Q, hR, hQ => by
    unfold loopN at h
    split at h
    · simp at h
    · rename_i S1 obs1 x1 h1
      split at h
      · simp at h
      · rename_i e2 S2 obs2 x2 h2
        cases h
        refine LoopW.step (hr h1 (fun b hb => hob b (by simp [hb])) hR (fun α' a' w' hE hR' => ?_))
        exact loopN_wp hr n h2 (fun b hb => hob b (by simp [hb])) hR' (fun α2 a2 w2 hE2 hR2 => hQ α2 a2 w2 (hE.trans hE2) hR2)
    · rename_i j S1 obs1 x1 h1
      cases h
      exact LoopW.step (hr h1 hob hR (fun α' a' w' hE hR' => hQ α' a' w' hE hR'))
    · rename_i S1 obs1 x1 h1
      cases h
      exact LoopW.step (hr h1 hob hR (fun α' a' w' hE hR' => hQ α' a' w' hE hR'))
section
variable {P : Program} {w0 : World} {ρ : Env} {nt : Nat}
theorem exs_wp (hρ : ∀ i, (ρ i).oneCell' = true) (hm : P.follows .mixedOrders = true) : ∀ (c : Code) {S S' : St} {x x' : Aux} {e : EK} {obs : List Ob}, exs P nt c S x = some (e, S', obs, x') → (∀ b ∈ obs, b.holds P w0 ρ nt) →
    ∀ {α : Places} {a : Act} {w : World} {Q : Exit → Act → World → Prop}, Rel w0 ρ nt S α a w → (∀ α' a' w', Ext α α' → Rel w0 ρ nt S' α' a' w' → Q e.to a' w') → c.wp P Q a w := by
  intro c
  induction c with
  | skip => intro S S' x x' e obs h _ α a w Q hR hQ; cases h; exact wp_skip (hQ α a w (Ext.refl α) hR)
  | label l => intro S S' x x' e obs h _ α a w Q hR hQ; cases h; exact wp_label (hQ α a w (Ext.refl α) hR)
  | ret => intro S S' x x' e obs h _ α a w Q hR hQ; cases h; exact wp_ret (hQ α a w (Ext.refl α) hR)
  | exit id => intro S S' x x' e obs h _ α a w Q hR hQ; cases h; exact wp_exit (hQ α a w (Ext.refl α) hR)
  | region id ops draw =>
    intro S S' x x' e obs h hob α a w Q hR hQ
    unfold exs at h
    split at h
    · rename_i S1 obs1 x1 hfr
      cases h
      unfold frX at hfr
      split at hfr
      · refine wp_region ?_
        rw [List.range_eq_range', ← Array.length_toList]
        exact frOps_wp hρ ops.toList 0 (fun j => by simp) hR hfr hob (fun α' a' w' hE hR' => hQ α' a' w' hE hR')
      · simp at hfr
    · split at h
      · simp at h
      · rename_i Is S2 obs2 x2 h2
        split at h
        · simp at h
        · rename_i hd
          cases h
          cases draw with
          | false =>
            refine wp_region ?_
            rw [List.range_eq_range', ← Array.length_toList]
            exact opsAt_wp hρ ops.toList 0 (fun j => by simp) hR h2 hob (fun α' a' w' hE hR' => hQ α' a' w' hE hR')
          | true =>
            simp only [Bool.true_and, Bool.not_eq_true', Bool.not_eq_false] at hd
            obtain ⟨k1, k2, k3⟩ := opsAt_spec ops.toList 0 h2
            refine wp_region_any hm ?_
            refine draw_any (S := S) (α0 := α) hρ hd (by simpa using k1) (fun j o ho => by simpa using k3 j o (by simpa using ho)) hob (fun α' a' w' hE hR' => hQ α' a' w' hE (by rw [k2]; exact hR')) ops.size (Array.replicate ops.size false) (by simp) ?_ ?_ α a _ (Ext.refl α) ?_
            · simp [List.count_replicate]
            · intro j o hj
              have hj : (Array.replicate ops.size false).getD j false = true := hj
              rw [Array.getD_eq_getD_getElem?, Array.getElem?_replicate] at hj
              split at hj <;> simp at hj
            · rw [acc_none _ _ _ (fun i _ => by
                rw [Array.getD_eq_getD_getElem?, Array.getElem?_replicate]
                split <;> rfl)]
              exact hR.drew
  | seq u v ihu ihv =>
    intro S S' x x' e obs h hob α a w Q hR hQ
    unfold exs at h
    split at h
    · simp at h
    · rename_i S1 obs1 x1 h1
      split at h
      · simp at h
      · rename_i e2 S2 obs2 x2 h2
        cases h
        refine wp_seq (ihu h1 (fun b hb => hob b (by simp [hb])) hR (fun α' a' w' hE hR' => ?_))
        exact ihv h2 (fun b hb => hob b (by simp [hb])) hR' (fun α2 a2 w2 hE2 hR2 => hQ α2 a2 w2 (hE.trans hE2) hR2)
    · rename_i j S1 obs1 x1 h1
      cases h
      exact wp_seq (ihu h1 hob hR (fun α' a' w' hE hR' => hQ α' a' w' hE hR'))
    · rename_i S1 obs1 x1 h1
      cases h
      exact wp_seq (ihu h1 hob hR (fun α' a' w' hE hR' => hQ α' a' w' hE hR'))
  | cond c u v ihu ihv =>
    intro S S' x x' e obs h hob α a w Q hR hQ
    unfold exs at h
    split at h
    · simp at h
    · rename_i y hy
      have e1 := (hR.eval1 hy).1
      split at h
      · simp at h
      · rename_i obs1 x1 hb
        split at h
        · simp at h
        · rename_i e2 S2 obs2 x2 h2
          cases h
          exact wp_cond_true (e1.trans (asB_den (P := P) (w0 := w0) (nt := nt) hb (fun b hb => hob b (by simp [hb])) _)) (ihu h2 (fun b hb => hob b (by simp [hb])) hR hQ)
      · rename_i obs1 x1 hb
        split at h
        · simp at h
        · rename_i e2 S2 obs2 x2 h2
          cases h
          exact wp_cond_false (e1.trans (asB_den (P := P) (w0 := w0) (nt := nt) hb (fun b hb => hob b (by simp [hb])) _)) (ihv h2 (fun b hb => hob b (by simp [hb])) hR hQ)
  | block id u ih =>
    intro S S' x x' e obs h hob α a w Q hR hQ
    unfold exs at h
    split at h
    · simp at h
    · rename_i j S1 obs1 x1 h1
      split at h
      · rename_i hj
        cases h
        obtain rfl := Nat.eq_of_beq_eq_true hj
        refine wp_block (ih h1 hob hR (fun α' a' w' hE hR' => ?_))
        show Exit.inBlock j Q (.exit j) a' w'
        simp only [Exit.inBlock, if_true]
        exact hQ α' a' w' hE hR'
      · rename_i hj
        cases h
        refine wp_block (ih h1 hob hR (fun α' a' w' hE hR' => ?_))
        show Exit.inBlock id Q (.exit j) a' w'
        simp only [Exit.inBlock]
        rw [if_neg (fun e => hj (by rw [e]; exact Nat.beq_refl _))]
        exact hQ α' a' w' hE hR'
    · rename_i S1 obs1 x1 h1
      cases h
      exact wp_block (ih h1 hob hR (fun α' a' w' hE hR' => hQ α' a' w' hE hR'))
    · rename_i S1 obs1 x1 h1
      cases h
      exact wp_block (ih h1 hob hR (fun α' a' w' hE hR' => hQ α' a' w' hE hR'))
  | loop u ih =>
    intro S S' x x' e obs h hob α a w Q hR hQ
    unfold exs at h
    split at h
    · cases h
      exact hob _ (List.mem_singleton.2 rfl) α a w Q hR hQ
    · exact (loopN_wp (fun h1 h2 => ih h1 h2) 80 h hob hR hQ).wp
  | rangeFunc f ps u v ihu ihv => intro S S' x x' e obs h; simp [exs] at h
  | scope u ih => intro S S' x x' e obs h; simp [exs] at h
  | goto l => intro S S' x x' e obs h; simp [exs] at h
  | refuse s => intro S S' x x' e obs h; simp [exs] at h
end

section
variable {P : Program} {w0 w : World} {ρ : Env} {nt : Nat} {S : St} {α : Places} {a : Act}
def outOne (tmps : Array Value) : ResultVar → Sem Value
  | .tmp t => pure (tmps.getD t undef)
  | .cell b t => do loadVar t (← asAddr (tmps.getD b undef))
theorem outs_run (hR : Rel w0 ρ nt S α a w) : ∀ {rs : List ResultVar} {l : List S1}, outs P S rs = some l →
    (rs.mapM (outOne a.tmps)).run P w = .ok (l.map (S1.den (gam α) ρ)) w
  | [], l, h => by cases h; simp
  | .tmp t :: rs, l, h => by
    unfold outs at h
    split at h
    · rename_i v hv
      split at h
      · rename_i r hr
        cases h
        have h1 := (hR.tmp t _ hv).1
        have h2 := outs_run hR hr
        have h3 : outOne a.tmps (.tmp t) = pure (v.den (gam α) ρ) := by
          show pure (a.tmps.getD t undef) = _
          rw [Array.getD_eq_getD_getElem?, h1]; rfl
        rw [List.mapM_cons, Sem.run_bind, h3, Sem.run_pure, Result.andThen_ok, Sem.run_bind, h2, Result.andThen_ok]
        rfl
      · simp at h
    · simp at h
  | .cell t ty :: rs, l, h => by
    unfold outs at h
    split at h
    · rename_i b off hv
      split at h
      · rename_i ag n hag hn
        split at h
        · rename_i l' hl
          split at h
          · rename_i v vs hv2 hr
            cases h
            obtain ⟨h1, h1'⟩ := hR.tmp t _ hv
            obtain ⟨g, hg, e3⟩ := ptr_at (ρ := ρ) h1'
            have h2 := outs_run hR hr
            have h3 : a.tmps.getD t undef = .pointer (some ⟨g, off, none⟩) := by rw [Array.getD_eq_getD_getElem?, h1, e3]; rfl
            obtain ⟨h4, _⟩ := load_run (P := P) hR (fun k x hx => hx) hg hag hn hl hv2
            have h5 : outOne a.tmps (.cell t ty) = loadVar ty ⟨g, off, none⟩ := by
              show (do loadVar ty (← asAddr (a.tmps.getD t undef))) = _
              rw [h3]; rfl
            rw [List.mapM_cons, Sem.run_bind, h5, h4, Result.andThen_ok, Sem.run_bind, h2, Result.andThen_ok]
            rfl
          · simp at h
        · simp at h
      · simp at h
    · simp at h
theorem results_run {fn : Func} {l : List S1} (hR : Rel w0 ρ nt S α a w) (h : outs P S fn.results.toList = some l) : (results fn a.tmps).run P w = .ok ((outV l).den (gam α) ρ) w := by
  have e0 : results fn a.tmps = (do let vs ← fn.results.mapM (outOne a.tmps); pure (if h : vs.size = 1 then vs[0] else .tuple vs)) := by
    unfold results
    congr 1
  rw [e0, Array.mapM_eq_mapM_toList, bind_map_left, Sem.run_bind, outs_run hR h, Result.andThen_ok]
  match l with
  | [] => rfl
  | [x] => rfl
  | x :: y :: r => simp [outV, SV.den]
end
/-- Boxes that were there before. -/
def Held (ρ : Env) (G : List Nat) (X : List (TypeId × List SC)) (w : World) : Prop :=
  G.length = X.length ∧ ∀ (b : Nat) (t : TypeId) (l : List SC), X[b]? = some (t, l) → l.length + 2 ≤ stride ∧ G.getD b 0 < w.heap.size ∧ ∀ (o : Nat) (y : SC), l[o]? = some y → y.shut = true ∧ w.cell? ⟨G.getD b 0, o, none⟩ = some (y.den (fun _ => 0) ρ)
theorem lk_ext : ∀ (X : List (TypeId × List SC)) (b0 b o : Nat), o < stride → (∀ (j : Nat) (t : TypeId) (l : List SC), X[j]? = some (t, l) → l.length + 2 ≤ stride) →
    lk (b * stride + o) (extLog b0 X) = if b0 ≤ b then match X[b - b0]? with
      | some (t, l) => if o = 0 then some (.fn t [.lit undef]) else l[o - 1]?
      | none => none
    else none
  | [], b0, b, o, _, _ => by simp [extLog, lk]
  | (t, l) :: X, b0, b, o, ho, hl => by
    have hl0 := hl 0 t l rfl
    have ih := lk_ext X (b0 + 1) b o ho (fun j t l h => hl (j + 1) t l (by simpa using h))
    rw [extLog, lk_cons, lk_append, lk_number, ih]
    by_cases hb : b = b0
    · subst hb
      rw [if_pos (Nat.le_refl _), Nat.sub_self, List.getElem?_cons_zero]
      by_cases h0 : o = 0
      · subst h0; simp
      · rw [if_neg (by omega), if_pos (by omega), show b * stride + o - (b * stride + 1) = o - 1 by omega]
        simp only [if_neg h0, if_neg (show ¬ b + 1 ≤ b by omega)]
        cases l[o - 1]? <;> rfl
    · rw [if_neg (by simp only [stride] at ho ⊢; omega)]
      have e : (if b0 * stride + 1 ≤ b * stride + o then l[b * stride + o - (b0 * stride + 1)]? else none) = none := by
        split
        · exact List.getElem?_eq_none (by simp only [stride] at *; omega)
        · rfl
      rw [e]
      simp only []
      by_cases hle : b0 + 1 ≤ b
      · rw [if_pos hle, if_pos (by omega), show b - b0 = (b - (b0 + 1)) + 1 by omega, List.getElem?_cons_succ]
      · rw [if_neg hle, if_neg (by omega)]
/-- Arguments that are known, or that lie in boxes that were there before. -/
def spOk (m : Nat) : SP → Bool
  | .ptr b _ => Nat.ble (b + 1) m
  | .slc b _ _ _ => Nat.ble (b + 1) m
  | _ => true
def argOk (m : Nat) : S1 → Bool
  | .c (.p (.ptr b _)) => Nat.ble (b + 1) m
  | .c (.p (.slc b _ _ _)) => Nat.ble (b + 1) m
  | .c (.fn _ l) => l.all (spOk m)
  | v => v.shut
theorem rel_start {w0 : World} {ρ : Env} {nt : Nat} (args : List S1) (G : List Nat) (X : List (TypeId × List SC)) (hX : Held ρ G X w0) (hs : args.all (argOk X.length) = true) (hn : args.length ≤ nt) :
    Rel w0 ρ nt ⟨number 0 (args.map .one), extLog 0 X⟩ (fun b => G[b]?) ⟨(args.map (S1.den (fun b => G.getD b 0) ρ)).toArray ++ Array.replicate (nt - (args.map (S1.den (fun b => G.getD b 0) ρ)).toArray.size) undef, []⟩ w0 := by
  obtain ⟨hlen, hX⟩ := hX
  have hl : ∀ (j : Nat) (t : TypeId) (l : List SC), X[j]? = some (t, l) → l.length + 2 ≤ stride := fun j t l h => (hX j t l h).1
  have hgam : gam (fun b => G[b]?) = fun b => G.getD b 0 := by
    funext b
    simp [gam, List.getD_eq_getElem?_getD]
  have hok : ∀ v, argOk X.length v = true → v.ok (fun b => G[b]?) := by
    intro v hv
    unfold argOk at hv
    split at hv
    · have := Nat.le_of_ble_eq_true hv
      show (G[_]?).isSome = true
      rw [List.getElem?_eq_getElem (by omega)]; rfl
    · have := Nat.le_of_ble_eq_true hv
      show (G[_]?).isSome = true
      rw [List.getElem?_eq_getElem (by omega)]; rfl
    · intro y hy
      have hy' := List.all_eq_true.1 hv y hy
      unfold spOk at hy'
      split at hy'
      · have := Nat.le_of_ble_eq_true hy'
        show (G[_]?).isSome = true
        rw [List.getElem?_eq_getElem (by omega)]; rfl
      · have := Nat.le_of_ble_eq_true hy'
        show (G[_]?).isSome = true
        rw [List.getElem?_eq_getElem (by omega)]; rfl
      · rename_i h1 h2
        cases y with
        | ptr b o => exact absurd rfl (h1 b o)
        | slc b o n c => exact absurd rfl (h2 b o n c)
        | «at» i => trivial
        | lit v => trivial
    · exact S1.shut_ok hv _
  refine ⟨by simp; omega, rfl, fun t v hv => ?_, fun b g hg => ?_, fun b hb o ho => ?_, fun b b' g hg _ hw => ?_, Below.refl _ _⟩
  · have hv' : lk t (number 0 (args.map SV.one)) = some v := hv
    rw [lk_number, if_pos (Nat.zero_le _), Nat.sub_zero, List.getElem?_map, Option.map_eq_some_iff] at hv'
    obtain ⟨y, hy, rfl⟩ := hv'
    have hlt := (List.getElem?_eq_some_iff.1 hy).1
    refine ⟨?_, hok y (List.all_eq_true.1 hs y (List.mem_of_getElem? hy))⟩
    rw [Array.getElem?_append_left (by simpa using hlt), hgam]
    simp [hy]
    rfl
  · have hb : b < X.length := by rw [← hlen]; exact (List.getElem?_eq_some_iff.1 hg).1
    obtain ⟨⟨t, l⟩, htl⟩ : ∃ p, X[b]? = some p := ⟨X[b], List.getElem?_eq_getElem hb⟩
    obtain ⟨h1, h2, h3⟩ := hX b t l htl
    have hgd : G.getD b 0 = g := by rw [List.getD_eq_getElem?_getD, hg]; rfl
    rw [hgd] at h2 h3
    refine ⟨t, [.lit undef], ?_, .inr ⟨by simp, h2, fun o ho => ?_⟩⟩
    · have := lk_ext X 0 b 0 (by simp [stride]) hl
      rw [Nat.add_zero, if_pos (Nat.zero_le _), Nat.sub_zero, htl] at this
      exact this
    · unfold roIs
      have := lk_ext X 0 b (1 + o) (by omega) hl
      rw [if_pos (Nat.zero_le _), Nat.sub_zero, htl, show b * stride + (1 + o) = b * stride + 1 + o by omega] at this
      simp only [if_neg (show ¬ 1 + o = 0 by omega), show 1 + o - 1 = o by omega] at this
      rw [this]
      cases hy : l[o]? with
      | none => trivial
      | some y =>
        obtain ⟨h4, h5⟩ := h3 o y hy
        exact ⟨SC.shut_ok h4 _, by rw [SC.shut_den h4 _ (fun _ => 0)]; exact h5⟩
  · have hb' : ¬ b < X.length := by
      intro h
      have : G[b]? = none := hb
      rw [List.getElem?_eq_getElem (by omega)] at this
      simp at this
    rw [lk_ext X 0 b o ho hl, if_pos (Nat.zero_le _), Nat.sub_zero, List.getElem?_eq_none (by omega)]
  · exfalso
    have hb : b < X.length := by rw [← hlen]; exact (List.getElem?_eq_some_iff.1 hg).1
    obtain ⟨⟨t, l⟩, htl⟩ : ∃ p, X[b]? = some p := ⟨X[b], List.getElem?_eq_getElem hb⟩
    have h2 := (hX b t l htl).2.1
    rw [List.getD_eq_getElem?_getD, show G[b]? = some g from hg] at h2
    simp at h2
    omega
theorem dedup_holds {P : Program} {w : World} {ρ : Env} {nt : Nat} : ∀ (l : List Ob) (seen : List (Nat × Bool)), (∀ p ∈ seen, ρ p.1 = .bool p.2) → (∀ o ∈ dedup seen l, o.holds P w ρ nt) → ∀ o ∈ l, o.holds P w ρ nt
  | [], _, _, _, o, ho => by simp at ho
  | a :: l, seen, hs, h, o, ho => by
    unfold dedup at h
    split at h
    · rename_i i b
      split at h
      · rename_i hc
        rcases List.mem_cons.1 ho with rfl | ho
        · rw [List.any_eq_true] at hc
          obtain ⟨p, hp, hq⟩ := hc
          simp only [Bool.and_eq_true, beq_iff_eq] at hq
          have := hs p hp
          rw [Nat.eq_of_beq_eq_true hq.1, hq.2] at this
          exact this
        · exact dedup_holds l seen hs h o ho
      · have h0 := h (.isB i b) (by simp)
        rcases List.mem_cons.1 ho with rfl | ho
        · exact h0
        · refine dedup_holds l ((i, b) :: seen) (fun p hp => ?_) (fun o ho => h o (by simp [ho])) o ho
          rcases List.mem_cons.1 hp with rfl | hp
          · exact h0
          · exact hs p hp
    · rcases List.mem_cons.1 ho with rfl | ho
      · exact h _ (by simp)
      · exact dedup_holds l seen hs (fun o ho => h o (by simp [ho])) o ho
/-- What a function returns: the one theorem in the place of a walk. -/
theorem calls {P : Program} {f : FuncId} {fn : Func} {w : World} (ρ : Env) (args : List S1) (G : List Nat) (X : List (TypeId × List SC)) (n : Nat) (ds : List Hint) {v : SV} {obs : List Ob} (hf : P.funcs[f]? = some fn) (hm : P.follows .mixedOrders = true) (hρ : ∀ i, (ρ i).oneCell' = true)
    (hX : Held ρ G X w) (hs : args.all (argOk X.length) = true) (hn : Nat.ble args.length fn.ntmps = true) (h : runF P fn args X n ds = some (v, obs)) (hob : ∀ b ∈ obs, b.holds P w ρ fn.ntmps) :
    Calls P f (args.map (S1.den (fun b => G.getD b 0) ρ)).toArray w fun e w' => e = .returned (v.den (fun _ => 0) ρ) ∧ Below w.heap.size w w' := by
  have main : ∀ {c : Code} {e : EK} {S : St} {obs' : List Ob} {x : Aux} {l : List S1}, fn.body = some c → (e = .normal ∨ e = .ret) → exs P fn.ntmps c ⟨number 0 (args.map .one), extLog 0 X⟩ ⟨X.length, n, ds, []⟩ = some (e, S, obs', x) → outs P S fn.results.toList = some l →
      l.all S1.shut = true → v = outV l → obs = dedup [] obs' → Calls P f (args.map (S1.den (fun b => G.getD b 0) ρ)).toArray w fun e w' => e = .returned (v.den (fun _ => 0) ρ) ∧ Below w.heap.size w w' := by
    intro c e S obs' x l hb he h1 h2 h3 hv ho
    subst hv ho
    refine calls_of_wp hf hb (exs_wp hρ hm c h1 (dedup_holds obs' [] (fun p hp => by simp at hp) hob) (rel_start args G X hX hs (Nat.le_of_ble_eq_true hn)) (fun α a w' _ hR => ?_))
    have hr := results_run hR h2
    have hsh : (outV l).shut = true := by
      match l, h3 with
      | [], _ => rfl
      | [y], h3 => simpa [outV, SV.shut] using h3
      | y :: z :: r, h3 => exact h3
    rw [SV.shut_den hsh (gam α) (fun _ => 0)] at hr
    rcases he with rfl | rfl <;> exact ⟨hR.defs, _, hr, rfl, hR.below⟩
  unfold runF at h
  split at h
  · simp at h
  · rename_i c hb
    split at h
    · rename_i S obs' x h1
      split at h
      · rename_i l h2
        split at h
        · rename_i h3
          cases h
          exact main hb (.inl rfl) h1 h2 h3 rfl rfl
        · simp at h
      · simp at h
    · rename_i S obs' x h1
      split at h
      · rename_i l h2
        split at h
        · rename_i h3
          cases h
          exact main hb (.inr rfl) h1 h2 h3 rfl rfl
        · simp at h
      · simp at h
    · simp at h

/-! Loops that go round an unknown number of times. -/
def SP.bel (n : Nat) : SP → Bool
  | .at i => Nat.ble (i + 1) n
  | _ => true
def SC.bel (n : Nat) : SC → Bool
  | .p x => x.bel n
  | .fn _ l => l.all (SP.bel n)
def S1.bel (n : Nat) : S1 → Bool
  | .c x => x.bel n
  | .agg l => l.all (SC.bel n)
def SV.bel (n : Nat) : SV → Bool
  | .one x => x.bel n
  | .tup l => l.all (S1.bel n)
section
variable {ρ ρ' : Env} {n : Nat} {γ : Nat → Nat}
theorem SP.bel_den (hρ : ∀ i, i < n → ρ i = ρ' i) {x : SP} (h : x.bel n = true) : x.den γ ρ = x.den γ ρ' := by
  cases x with
  | «at» i => exact hρ i (Nat.le_of_ble_eq_true h)
  | _ => rfl
theorem SC.bel_den (hρ : ∀ i, i < n → ρ i = ρ' i) {x : SC} (h : x.bel n = true) : x.den γ ρ = x.den γ ρ' := by
  cases x with
  | p x => exact SP.bel_den hρ h
  | fn f l => simp only [SC.den]; rw [List.map_congr_left fun x hx => SP.bel_den hρ (List.all_eq_true.1 h x hx)]
theorem S1.bel_den (hρ : ∀ i, i < n → ρ i = ρ' i) {x : S1} (h : x.bel n = true) : x.den γ ρ = x.den γ ρ' := by
  cases x with
  | c x => exact SC.bel_den hρ h
  | agg l => simp only [S1.den]; rw [List.map_congr_left fun x hx => SC.bel_den hρ (List.all_eq_true.1 h x hx)]
theorem SV.bel_den (hρ : ∀ i, i < n → ρ i = ρ' i) {x : SV} (h : x.bel n = true) : x.den γ ρ = x.den γ ρ' := by
  cases x with
  | one x => exact S1.bel_den hρ h
  | tup l => simp only [SV.den]; rw [List.map_congr_left fun x hx => S1.bel_den hρ (List.all_eq_true.1 h x hx)]
end
def restrict (nb : Nat) (α : Places) : Places := fun b => if b < nb then α b else none
/-- From the state behind a round to a state that is told anew: what was written since S is told anew or forgotten. -/
theorem Rel.pass {w0 w w1 : World} {ρ0 ρ1 ρ2 : Env} {nt n0 nb : Nat} {S S1 : St} {α0 α1 : Places} {a a1 : Act} {nT X : List (Nat × SV)} {nM Y : List (Nat × SC)}
    (h0 : Rel w0 ρ0 nt S α0 a1 w1) (hR : Rel w0 ρ1 nt S1 α1 a w) (hE : Ext α0 α1) (hnb : ∀ b g, α0 b = some g → b < nb) (ht : S1.tl = nT ++ S.tl) (hm : S1.ml = nM ++ S.ml)
    (kT : ∀ t ∈ nT.map (·.1), t ∈ X.map (·.1) ∨ lk t S.tl = none) (kM : ∀ k ∈ nM.map (·.1), nb * stride ≤ k ∨ k ∈ Y.map (·.1)) (kS : ∀ k ∈ S.ml.map (·.1), k < nb * stride) (kY : ∀ k ∈ Y.map (·.1), k < nb * stride ∧ k % stride ≠ 0)
    (hag : ∀ i, i < n0 → ρ1 i = ρ2 i) (bT : ∀ p ∈ S.tl, p.2.bel n0 = true) (bM : ∀ p ∈ S.ml, p.2.bel n0 = true)
    (vX : ∀ t v, lk t X = some v → v.shut = true ∧ ∃ u, lk t S1.tl = some u ∧ u.shut = true ∧ u.den (fun _ => 0) ρ1 = v.den (fun _ => 0) ρ2)
    (vY : ∀ k v, lk k Y = some v → v.shut = true ∧ ∃ u, lk k S1.ml = some u ∧ u.shut = true ∧ u.den (fun _ => 0) ρ1 = v.den (fun _ => 0) ρ2) :
    Rel w0 ρ2 nt ⟨X ++ S.tl, Y ++ S.ml⟩ (restrict nb α1) a w ∧ Ext α0 (restrict nb α1) := by
  have hE2 : Ext α0 (restrict nb α1) := fun b g hg => by
    show (if b < nb then α1 b else none) = some g
    rw [if_pos (hnb b g hg)]
    exact hE b g hg
  have oldT : ∀ t v, lk t S.tl = some v → v.ok α0 ∧ ∀ γ, v.den γ ρ1 = v.den γ ρ2 := fun t v hv =>
    ⟨(h0.tmp t v hv).2, fun γ => SV.bel_den hag (bT _ (mem_lk hv))⟩
  refine ⟨⟨hR.size, hR.defs, fun t v hv => ?_, fun b g hg => ?_, fun b hb o ho => ?_, fun b b' g hg hg' hw => ?_, hR.below⟩, hE2⟩
  · have hv' : lk t (X ++ S.tl) = some v := hv
    rw [lk_append] at hv'
    cases hx : lk t X with
    | some u =>
      rw [hx] at hv'
      cases hv'
      obtain ⟨h1, u, h2, h3, h4⟩ := vX t v hx
      obtain ⟨h5, _⟩ := hR.tmp t u h2
      exact ⟨by rw [h5, SV.shut_den h3 _ (fun _ => 0), h4, SV.shut_den h1 _ (gam (restrict nb α1))], SV.shut_ok h1 _⟩
    | none =>
      rw [hx] at hv'
      have hv2 : lk t S.tl = some v := hv'
      have hnT : lk t nT = none := by
        refine lk_not (fun hk => ?_)
        rcases kT t hk with h | h
        · obtain ⟨u, hu⟩ := lk_in h
          rw [hx] at hu
          simp at hu
        · rw [hv2] at h
          simp at h
      have h1 : lk t S1.tl = some v := by rw [ht, lk_append, hnT]; exact hv2
      obtain ⟨h2, h3⟩ := hR.tmp t v h1
      obtain ⟨h4, h5⟩ := oldT t v hv2
      have e1 := (SV.up (ρ := ρ1) hE h4).2
      obtain ⟨e2, e3⟩ := SV.up (ρ := ρ2) hE2 h4
      exact ⟨by rw [h2, e1, h5, e3], e2⟩
  · have hb : b < nb ∧ α1 b = some g := by
      have hg' : (if b < nb then α1 b else none) = some g := hg
      by_cases h : b < nb
      · rw [if_pos h] at hg'; exact ⟨h, hg'⟩
      · rw [if_neg h] at hg'; simp at hg'
    obtain ⟨hb, hg1⟩ := hb
    have hold : ∀ o, o < stride → ∀ x, lk (b * stride + o) S.ml = some x → 1 ≤ o → x.ok α0 := by
      intro o ho x hx h1
      cases hα : α0 b with
      | none =>
        rw [h0.off b hα o ho] at hx
        simp at hx
      | some g0 =>
        exact ((h0.box b g0 hα).get (o := o - 1) (by omega) (by rw [show b * stride + 1 + (o - 1) = b * stride + o by omega]; exact hx)).1
    have hnone : ∀ o, o < stride → lk (b * stride + o) Y = none → lk (b * stride + o) S1.ml = lk (b * stride + o) S.ml := by
      intro o ho hy
      rw [hm, lk_append]
      have : lk (b * stride + o) nM = none := by
        refine lk_not (fun hk => ?_)
        rcases kM _ hk with h | h
        · have : (b + 1) * stride ≤ nb * stride := Nat.mul_le_mul_right _ hb
          rw [Nat.add_mul] at this
          omega
        · obtain ⟨u, hu⟩ := lk_in h
          rw [hy] at hu
          simp at hu
      rw [this]
    refine (hR.box b g hg1).turn ?_ (fun o ho => ?_)
    · show lk (b * stride) (Y ++ S.ml) = _
      have hy : lk (b * stride) Y = none := by
        refine lk_not (fun hk => ?_)
        exact (kY _ hk).2 (Nat.mul_mod_left _ _)
      have := hnone 0 (by simp [stride]) (by rw [Nat.add_zero]; exact hy)
      rw [Nat.add_zero] at this
      rw [lk_append, hy, this]
    · have ek : b * stride + 1 + o = b * stride + (1 + o) := by omega
      cases hy : lk (b * stride + 1 + o) Y with
      | some v =>
        obtain ⟨h1, u, h2, h3, h4⟩ := vY _ v hy
        have e5 : lk (b * stride + 1 + o) (Y ++ S.ml) = some v := by rw [lk_append, hy]
        exact .inr ⟨u, v, h2, e5, fun _ => ⟨SC.shut_ok h1 _, by rw [SC.shut_den h1 _ (fun _ => 0), ← h4, SC.shut_den h3 _ (gam α1)]⟩⟩
      | none =>
        have e6 : lk (b * stride + 1 + o) S1.ml = lk (b * stride + 1 + o) S.ml := by
          have := hnone (1 + o) (by omega) (by rw [← ek]; exact hy)
          rw [ek]; exact this
        have e7 : lk (b * stride + 1 + o) (Y ++ S.ml) = lk (b * stride + 1 + o) S.ml := by rw [lk_append, hy]
        cases hx : lk (b * stride + 1 + o) S.ml with
        | none => exact .inl ⟨e6.trans hx, e7.trans hx⟩
        | some x =>
          have h1 := hold (1 + o) (by omega) x (by rw [← ek]; exact hx) (by omega)
          obtain ⟨e2, e3⟩ := SC.up (ρ := ρ2) hE2 h1
          have e1 := (SC.up (ρ := ρ1) hE h1).2
          have e4 : x.den (gam α0) ρ1 = x.den (gam α0) ρ2 := SC.bel_den hag (bM _ (mem_lk hx))
          exact .inr ⟨x, x, e6.trans hx, e7.trans hx, fun _ => ⟨e2, by rw [e3, ← e4, e1]⟩⟩
  · show lk (b * stride + o) (Y ++ S.ml) = none
    have hb' : (if b < nb then α1 b else none) = none := hb
    by_cases h : b < nb
    · rw [if_pos h] at hb'
      have h1 := hR.off b hb' o ho
      have hy : lk (b * stride + o) Y = none := by
        cases hy : lk (b * stride + o) Y with
        | none => rfl
        | some v =>
          obtain ⟨_, u, h2, _⟩ := vY _ v hy
          rw [h1] at h2
          simp at h2
      rw [lk_append, hy]
      rw [hm, lk_append] at h1
      cases h3 : lk (b * stride + o) nM with
      | none => rw [h3] at h1; exact h1
      | some x => rw [h3] at h1; simp at h1
    · have hbig : nb * stride ≤ b * stride := Nat.mul_le_mul_right _ (by omega)
      refine lk_not (fun hk => ?_)
      rw [List.map_append, List.mem_append] at hk
      rcases hk with hk | hk
      · have := (kY _ hk).1; omega
      · have := kS _ hk; omega
  · have f : ∀ b g, (if b < nb then α1 b else none) = some g → α1 b = some g := by
      intro b g h
      split at h
      · exact h
      · simp at h
    exact hR.inj b b' g (f b g hg) (f b' g hg') hw
/-- What is told anew against what is there: pairs whose values must be the same. -/
def pairT (tl : List (Nat × SV)) : List (Nat × SV) → Option (List (SV × SV))
  | [] => some []
  | (t, v) :: X => match lk t tl, pairT tl X with
    | some u, some r => if u.shut && v.shut then some ((u, v) :: r) else none
    | _, _ => none
def pairM (ml : List (Nat × SC)) : List (Nat × SC) → Option (List (SC × SC))
  | [] => some []
  | (t, v) :: X => match lk t ml, pairM ml X with
    | some u, some r => if u.shut && v.shut then some ((u, v) :: r) else none
    | _, _ => none
def keysIn {β : Type} (k : Nat) (l : List (Nat × β)) : Bool := l.any fun p => Nat.beq p.1 k
def newer {β : Type} (l m : List (Nat × β)) : List Nat := (l.take (l.length - m.length)).map (·.1)
/-- The state S1, told anew by X and Y over S. -/
def passes (S S1 : St) (X : List (Nat × SV)) (Y : List (Nat × SC)) (nb : Nat) : Option (List (SV × SV) × List (SC × SC)) :=
  if (newer S1.tl S.tl).all (fun t => keysIn t X || (match lk t S.tl with | none => true | some _ => false)) && (newer S1.ml S.ml).all (fun k => Nat.ble (nb * stride) k || keysIn k Y) && Y.all (fun p => Nat.blt p.1 (nb * stride) && !Nat.beq (p.1 % stride) 0) then
    match pairT S1.tl X, pairM S1.ml Y with
    | some a, some b => some (a, b)
    | _, _ => none
  else none
def sameEK : EK → EK → Bool
  | .ret, .ret => true
  | .exit i, .exit j => Nat.beq i j
  | _, _ => false
/-- One round of a loop, computed: how it ends, what must hold for it, which values must be the same. -/
def round (P : Program) (nt : Nat) (o : Ob) (H : List (Nat × SV)) (M : List (Nat × SC)) (nb n1 : Nat) (ds : List Hint) : Option (Bool × List Ob × List (SV × SV) × List (SC × SC)) :=
  match o with
  | .code (.loop c) S X Y e => match exs P nt c ⟨H ++ S.tl, M ++ S.ml⟩ ⟨nb, n1, ds, []⟩ with
    | some (.normal, S1, obs, _) => match passes S S1 H M nb with
      | some (a, b) => some (true, dedup [] obs, a, b)
      | none => none
    | some (e1, S1, obs, _) => match passes S S1 X Y nb with
      | some (a, b) => if sameEK e1 e then some (false, dedup [] obs, a, b) else none
      | none => none
    | none => none
  | _ => none
/-! The words of a proof: the values of the atoms in a row, the conditions one by one. -/
def env (L : List Value) : Env := fun i => L.getD i (.bool false)
theorem env_ok {L : List Value} (h : L.all Value.oneCell' = true) : ∀ i, (env L i).oneCell' = true := by
  intro i
  unfold env
  rw [List.getD_eq_getElem?_getD]
  cases hi : L[i]? with
  | none => rfl
  | some v => exact List.all_eq_true.1 h v (List.mem_of_getElem? hi)
def All (p : Ob → Prop) : List Ob → Prop
  | [] => True
  | [x] => p x
  | x :: y :: l => p x ∧ All p (y :: l)
theorem All.mem {p : Ob → Prop} : ∀ {l : List Ob}, All p l → ∀ b ∈ l, p b
  | [], _, b, hb => by simp at hb
  | [x], h, b, hb => by simp at hb; subst hb; exact h
  | x :: y :: l, h, b, hb => by
    rcases List.mem_cons.1 hb with rfl | hb
    · exact h.1
    · exact All.mem h.2 b hb
theorem All.one {p : Ob → Prop} {x : Ob} (h : p x) : All p [x] := h
/-- Cells that lie in a row. -/
def CellsAt (w : World) (g o : Nat) (L : List Value) : Prop := ∀ (j : Nat) (v : Value), L[j]? = some v → w.cell? ⟨g, o + j, none⟩ = some v
theorem CellsAt.keep {w w' : World} {g o : Nat} {L : List Value} (h : CellsAt w g o L) (hb : Below w.heap.size w w') : CellsAt w' g o L := fun j v hv => by
  have h1 := h j v hv
  have h2 : g < w.heap.size := by
    unfold World.cell? at h1
    split at h1
    · rename_i hb
      exact (Array.getElem?_eq_some_iff.1 hb).1
    · simp at h1
  exact (hb.cell (p := ⟨g, o + j, none⟩) h2).trans h1
theorem cells_lt {w : World} {g o : Nat} {L : List Value} (h : CellsAt w g o L) (hn : L ≠ []) : g < w.heap.size := by
  cases L with
  | nil => exact absurd rfl hn
  | cons v L =>
    have h1 := h 0 v rfl
    unfold World.cell? at h1
    split at h1
    · rename_i hb
      exact (Array.getElem?_eq_some_iff.1 hb).1
    · simp at h1
theorem held1 {ρ : Env} {g : Nat} {t : TypeId} {l : List SC} {w : World} (hl : (Nat.ble (l.length + 2) stride && l.all SC.shut && !l.isEmpty) = true) (h : CellsAt w g 0 (l.map (SC.den (fun _ => 0) ρ))) : Held ρ [g] [(t, l)] w := by
  simp only [Bool.and_eq_true] at hl
  obtain ⟨⟨h1, h2⟩, h3⟩ := hl
  refine ⟨rfl, fun b t' l' hb => ?_⟩
  cases b with
  | succ b => simp at hb
  | zero =>
    cases hb
    refine ⟨Nat.le_of_ble_eq_true h1, cells_lt h (fun e => ?_), fun o y hy => ⟨List.all_eq_true.1 h2 y (List.mem_of_getElem? hy), ?_⟩⟩
    · have : l = [] := List.map_eq_nil_iff.1 e
      subst this
      simp at h3
    · have := h o (y.den (fun _ => 0) ρ) (by simp [hy])
      simpa using this
/-- What a call is told of a box, in a row. -/
theorem mem_at {γ : Nat → Nat} {ρ : Env} {w : World} {b : Nat} {l : List SC} (hm : Mem γ ρ (number (b * stride + 1) l) w) (hl : Nat.ble (l.length + 2) stride = true) : CellsAt w (γ b) 0 (l.map (SC.den γ ρ)) := by
  have hl := Nat.le_of_ble_eq_true hl
  intro j v hv
  rw [List.getElem?_map, Option.map_eq_some_iff] at hv
  obtain ⟨x, hx, rfl⟩ := hv
  have hj := (List.getElem?_eq_some_iff.1 hx).1
  have := hm (b * stride + 1 + j) x (by rw [lk_number, if_pos (by omega), show b * stride + 1 + j - (b * stride + 1) = j by omega]; exact hx)
  have e1 : (b * stride + 1 + j) / stride = b := by simp only [stride] at hl ⊢; omega
  have e2 : (b * stride + 1 + j) % stride - 1 = j := by simp only [stride] at hl ⊢; omega
  rw [e1, e2] at this
  rw [Nat.zero_add]
  exact this
theorem run {P : Program} {f : FuncId} {fn : Func} {w : World} (L : List Value) (ds : List Hint) (args : List S1) (n : Nat) (v : SV) (obs : List Ob) (hf : P.funcs[f]? = some fn) (hm : P.follows .mixedOrders = true) (hL : L.all Value.oneCell' = true)
    (ha : argsOf P fn = some (args, n)) (hs : (args.all (argOk 0) && Nat.ble args.length fn.ntmps) = true) (h : runA P fn ds = some (v, obs)) (hob : All (Ob.holds P w (env L) fn.ntmps) obs) :
    Calls P f (args.map (S1.den (fun _ => 0) (env L))).toArray w fun e w' => e = .returned (v.den (fun _ => 0) (env L)) ∧ Below w.heap.size w w' := by
  unfold runA at h
  rw [ha] at h
  have := calls (env L) args [] [] n ds hf hm (env_ok hL) ⟨rfl, fun b t l h => by simp at h⟩ (Bool.and_eq_true_iff.1 hs).1 (Bool.and_eq_true_iff.1 hs).2 h (All.mem hob)
  have e : (fun b : Nat => ([] : List Nat).getD b 0) = fun _ => 0 := by funext b; simp
  rw [e] at this
  exact this
/-- With boxes that were there before. -/
theorem runX {P : Program} {f : FuncId} {fn : Func} {w : World} (L : List Value) (G : List Nat) (X : List (TypeId × List SC)) (args : List S1) (n : Nat) (ds : List Hint) (v : SV) (obs : List Ob) (hX : Held (env L) G X w) (hf : P.funcs[f]? = some fn) (hm : P.follows .mixedOrders = true) (hL : L.all Value.oneCell' = true)
    (hs : (args.all (argOk X.length) && Nat.ble args.length fn.ntmps) = true) (h : runF P fn args X n ds = some (v, obs)) (hob : All (Ob.holds P w (env L) fn.ntmps) obs) :
    Calls P f (args.map (S1.den (fun b => G.getD b 0) (env L))).toArray w fun e w' => e = .returned (v.den (fun _ => 0) (env L)) ∧ Below w.heap.size w w' :=
  calls (env L) args G X n ds hf hm (env_ok hL) hX (Bool.and_eq_true_iff.1 hs).1 (Bool.and_eq_true_iff.1 hs).2 h (All.mem hob)
end Go.Proofs.YtodcomijjmobdaaGreatDoor.SX
