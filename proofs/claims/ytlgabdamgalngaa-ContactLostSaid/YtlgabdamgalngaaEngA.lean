/-
  The reckoner: abstract values, the reckoning, and that it is right for one operation. No program is named here.
-/
import Derived.WalkKit
import Derived.Below
import Derived.Orders
import Derived.Scope
import Derived.Laws.Cells
import Derived.Laws.CopyRow
import Derived.Test.YtlgabdamgalngaaEGrow
set_option linter.unusedVariables false
set_option linter.unusedSimpArgs false

/-
  A reckoner for function bodies: abstract values whose blocks have names, a reckoning that follows one path through a body (an oracle says which), and what it owes along the way. No program is named here.
-/
namespace Go.Proofs.Ytlgabdamgalngaa.E
open Go Go.RowKit

/-- A value whose blocks have names. -/
inductive V where
  | raw (v : Value)
  | any (k : Nat)
  | ptr (b off : Nat)
  | slc (b off len cap : Nat)
  | fn (f : Fn) (first cap : List V)
  | agg (l : List V)
  | tup (l : List V)
  | lit (b : Bool)

/-- Where the named blocks lie, and what the forgotten slots hold. -/
structure Ren where
  blk : Nat → Nat
  unk : Nat → Value

mutual
def V.conc (ρ : Ren) : V → Value
  | .raw v => v
  | .any k => ρ.unk k
  | .ptr b o => .pointer (some ⟨ρ.blk b, o, none⟩)
  | .slc b o l c => .slice (some ⟨ρ.blk b, o, none⟩) l c
  | .fn f x y => .func f (concs ρ x).toArray (concs ρ y).toArray
  | .agg l => .agg (concs ρ l).toArray
  | .tup l => .tuple (concs ρ l).toArray
  | .lit b => .bool b
def concs (ρ : Ren) : List V → List Value
  | [] => []
  | x :: l => x.conc ρ :: concs ρ l
end
mutual
/-- Only names below n, nothing forgotten. -/
def V.under (n : Nat) : V → Bool
  | .raw _ => true
  | .any _ => false
  | .ptr b _ => decide (b < n)
  | .slc b _ _ _ => decide (b < n)
  | .fn _ x y => unders n x && unders n y
  | .agg l => unders n l
  | .tup l => unders n l
  | .lit _ => true
def unders (n : Nat) : List V → Bool
  | [] => true
  | x :: l => x.under n && unders n l
end
/-- A slot: it may be forgotten. -/
def V.slotOk (n : Nat) : V → Bool
  | .any _ => true
  | v => v.under n

structure Blk where
  cells : List V
  ty : TypeId
/-- The named blocks; none: known by name alone. -/
abbrev Heap := List (Option Blk)

structure Cfg where
  P : Program
  /-- The blocks that were there. -/
  H0 : Heap
  /-- Below this name lie blocks that were there. -/
  L : Nat
  /-- Package variables that have names. -/
  G : List (Nat × Nat)
  /-- Sums stay bare, and their range is owed. -/
  bare : Bool
  /-- Functions that can be entered. -/
  fns : FuncId → Bool

inductive Ex where
  | normal
  | exit (id : Nat)
  | ret
def Ex.to : Ex → Exit
  | .normal => .normal
  | .exit id => .exit id
  | .ret => .ret

inductive Ans where
  | br (b : Bool)
  | go
  | ret (v : V)
  | reth (v : V) (h : Heap)
  | loop (e : Ex) (t : List V) (h : Heap)
  | olds (l : List (Nat × Nat))

def cellsV : V → Option (List V)
  | .raw v => some (v.cells.toList.map .raw)
  | .any _ => none
  | .agg l => some l
  | .tup _ => none
  | x => some [x]

def raws : List V → Option (List Value)
  | [] => some []
  | .raw v :: l => (raws l).map (v :: ·)
  | _ :: _ => none
def mkAgg (l : List V) : V := match raws l with
  | some vs => .raw (.agg vs.toArray)
  | none => .agg l
def mkTup (l : List V) : V := match raws l with
  | some vs => .raw (.tuple vs.toArray)
  | none => .tup l

/-- What only asks the program. -/
def pureRun (P : Program) {α : Type} : Sem α → Option α
  | .pure a => some a
  | .program k => pureRun P (k P)
  | .mark _ k => pureRun P k
  | _ => none

theorem pureRun_run {P : Program} {α : Type} {s : Sem α} {x : α} (h : pureRun P s = some x) (w : World) : s.run P w = .ok x w := by
  induction s with
  | pure a => simp only [pureRun, Option.some.injEq] at h; subst h; rfl
  | program k ih => exact ih P h
  | mark m k ih => exact ih h
  | _ => simp [pureRun] at h

def inR (k : IntKind) (n : Int) : Prop := k.wrap n = n

def opnd (c : Cfg) (t : List V) : Operand → Option V
  | .tmp s => match t[s]? with
    | some (.any _) => none
    | some (.lit b) => some (.raw (.bool b))
    | r => r
  | .const v => some (.raw v)
  | .func f => some (.fn (.func f) [] [])
  | .global g => match c.G.find? (fun p => p.1 == g) with
    | some p => some (.ptr p.2 0)
    | none => none
def rawOf (c : Cfg) (t : List V) (x : Operand) : Value := match opnd c t x with
  | some (.raw v) => v
  | _ => undef
def isRaw (c : Cfg) (t : List V) (x : Operand) : Bool := match opnd c t x with
  | some (.raw _) => true
  | _ => false

/-- The operands of an operation that only reckons with them. -/
def plainOpnds : Op → Option (List Operand)
  | .binOp _ _ x y _ => some [x, y]
  | .unOp _ _ x => some [x]
  | .convert _ _ x => some [x]
  | .field _ x _ => some [x]
  | .index _ x ix => some [x, ix]
  | .extract t _ => some [t]
  | .build _ parts => some (parts.toList.map (·.2))
  | .call ⟨.builtin _, args, _⟩ => some args.toList
  | _ => none

structure Out where
  v : V
  h : Heap
  ans : List Ans
  cons : List Prop

/-- Store the cells of x at place off of block b. -/
def putAt (cs : List V) (off : Nat) (xs : List V) : List V := cs.take off ++ xs ++ cs.drop (off + xs.length)

/-- The value of a sum, of a product, of a quotient that stays bare. -/
def bareOp (o : Op) (c : Cfg) (t : List V) : Option (V × List Prop) :=
  if c.bare then
    match o with
    | .binOp b _ x y _ =>
      match opnd c t x, opnd c t y with
      | some (.raw (.int k a)), some (.raw (.int k' d)) =>
        if k = k' then
          match b with
          | .add => some (.raw (.int k (a + d)), [inR k (a + d)])
          | .sub => some (.raw (.int k (a - d)), [inR k (a - d)])
          | .mul => some (.raw (.int k (a * d)), [inR k (a * d)])
          | .quo => some (.raw (.int k (a.tdiv d)), [d ≠ 0, inR k (a.tdiv d)])
          | .rem => some (.raw (.int k (a.tmod d)), [d ≠ 0])
          | _ => none
        else none
      | _, _ => none
    | .unOp .neg _ x =>
      match opnd c t x with
      | some (.raw (.int k a)) => some (.raw (.int k (-a)), [inR k (-a)])
      | _ => none
    | .convert src dst x =>
      match opnd c t x with
      | some (.raw (.int k0 a)) =>
        match pureRun c.P (underlying src), pureRun c.P (underlying dst) with
        | some (.int _), some (.int k) => some (.raw (.int k a), [inR k a])
        | _, _ => none
      | _ => none
    | _ => none
  else none

def loadV (c : Cfg) (h : Heap) (t : TypeId) (b off : Nat) : Option V :=
  match h[b]?, pureRun c.P (isAgg t), pureRun c.P (Go.sizeOf t) with
  | some (some B), some true, some n => if off + n ≤ B.cells.length then some (mkAgg ((B.cells.drop off).take n)) else none
  | some (some B), some false, _ => B.cells[off]?
  | _, _, _ => none

def oneCells : List V → Bool
  | [] => true
  | .raw (.agg _) :: _ => false
  | .raw (.tuple _) :: _ => false
  | .any _ :: _ => false
  | .agg _ :: _ => false
  | .tup _ :: _ => false
  | _ :: l => oneCells l

def storeV (c : Cfg) (lim : Nat) (h : Heap) (t : TypeId) (b off : Nat) (x : V) : Option Heap :=
  match h[b]?, cellsV x, pureRun c.P (Go.sizeOf t) with
  | some (some B), some xs, some n =>
    if lim ≤ b ∧ xs.length = n ∧ off + xs.length ≤ B.cells.length ∧ oneCells xs = true ∧ unders h.length xs = true then some (h.set b (some { B with cells := putAt B.cells off xs })) else none
  | _, _, _ => none

def fieldOff (c : Cfg) (s : TypeId) (f : Nat) : Option Nat :=
  match pureRun c.P (underlying s) with
  | some (.struct fields) => match fields[f]? with
    | some fd => match pureRun c.P (Go.sizeOf fd.type) with
      | some n => if n = 0 then none else some fd.offset
      | none => none
    | none => none
  | _ => none

/-- A call of a function, by whoever reckons bodies. -/
abbrev CallF := FuncId → List V → Heap → Nat → List Ans → Option Out

def opnds (c : Cfg) (t : List V) : List Operand → Option (List V)
  | [] => some []
  | x :: l => match opnd c t x, opnds c t l with
    | some v, some vs => some (v :: vs)
    | _, _ => none

/-- An operation that only reckons. -/
def evGen (c : Cfg) (t : List V) (h : Heap) (ans : List Ans) (o : Oper) : Option Out :=
  match bareOp o.op c t with
  | some (v, cons) => some ⟨v, h, ans, cons⟩
  | none => match plainOpnds o.op with
    | some l => if l.all (isRaw c t) then
        match pureRun c.P (execOp (rawOf c t) o) with
        | some (.value v) => some ⟨.raw v, h, ans, []⟩
        | _ => none
      else none
    | none => none

/-- The length of a slice that has a name. -/
def lenV (c : Cfg) (t : List V) (args : Array Operand) (ats : Array TypeId) : Option V :=
  match args.toList, ats[0]? with
  | [x], some T => match opnd c t x, pureRun c.P (underlying T) with
    | some (.slc _ _ l _), some (.slice _) => some (.raw (goInt l))
    | _, _ => none
  | _, _ => none
/-- The address of an element. -/
def indexV (c : Cfg) (t : List V) (T : TypeId) (x ix : Operand) : Option (V × List Prop) :=
  match opnd c t x, opnd c t ix, pureRun c.P (underlying T) with
  | some (.slc b off l _), some (.raw (.int _ i)), some (.slice e) => match pureRun c.P (Go.sizeOf e) with
    | some n => some (.ptr b (off + i.toNat * n), [0 ≤ i ∧ i < (l : Int)])
    | none => none
  | some (.ptr b off), some (.raw (.int _ i)), some (.array l e) => match pureRun c.P (Go.sizeOf e) with
    | some n => some (.ptr b (off + i.toNat * n), [0 ≤ i ∧ i < (l : Int)])
    | none => none
  | _, _, _ => none
/-- The cells of a slice that is written out. -/
def litCells (c : Cfg) (T : TypeId) (len : Nat) (parts : List (Nat × Value)) : Option (TypeId × Array Value) :=
  match pureRun c.P (underlying T) with
  | some (.slice e) => match pureRun c.P (Go.sizeOf e), pureRun c.P (zeroValue e) with
    | some n, some z => if len * n = 0 ∨ len * n > 2 ^ 24 then none else
      match Instr.fill (fun i => some (i * n, n)) (Array.map (fun x => z.cells[x % z.cells.size]!) (Array.range (len * n))) parts with
      | some cells => some (e, cells)
      | none => none
    | _, _ => none
  | _ => none

/-- What '==' gives: of flags, of numbers, of structs and arrays of such. -/
def eqFlds (P : Program) (eq : TypeId → Value → Value → Option Bool) (xs ys : Array Value) : List Field → Option Bool
  | [] => some true
  | f :: l => if f.name = "_" then eqFlds P eq xs ys l else
    match pureRun P (part f.type xs f.offset), pureRun P (part f.type ys f.offset) with
    | some x, some y => match eq f.type x y, eqFlds P eq xs ys l with
      | some p, some q => some (p && q)
      | _, _ => none
    | _, _ => none
def eqElems (P : Program) (eq : TypeId → Value → Value → Option Bool) (e : TypeId) (n : Nat) (xs ys : Array Value) : List Nat → Option Bool
  | [] => some true
  | i :: l => match pureRun P (part e xs (i * n)), pureRun P (part e ys (i * n)) with
    | some x, some y => match eq e x y, eqElems P eq e n xs ys l with
      | some p, some q => some (p && q)
      | _, _ => none
    | _, _ => none
def eqIn (P : Program) : Nat → TypeId → Value → Value → Option Bool
  | 0, _, _, _ => none
  | d + 1, t, x, y => match pureRun P (underlying t), x, y with
    | some .bool, .bool a, .bool b => some (a == b)
    | some (.int _), .int k a, .int k' b => if k = k' then some (a == b) else none
    | some (.struct fields), .agg xs, .agg ys => if P.stoodInHeld t then none else eqFlds P (eqIn P d) xs ys fields.toList
    | some (.array len e), .agg xs, .agg ys => match pureRun P (Go.sizeOf e) with
      | some n => eqElems P (eqIn P d) e n xs ys (List.range' 0 len)
      | none => none
    | _, _, _ => none
def eqV (c : Cfg) (t : List V) (b : BinOp) (T : TypeId) (x y : Operand) : Option V :=
  match b, opnd c t x, opnd c t y with
  | .eql, some (.raw (.agg xs)), some (.raw (.agg ys)) => if c.P.eqGuardType c.P.depth T then none else (eqIn c.P 12 T (.agg xs) (.agg ys)).map fun r => .raw (.bool r)
  | .neq, some (.raw (.agg xs)), some (.raw (.agg ys)) => if c.P.eqGuardType c.P.depth T then none else (eqIn c.P 12 T (.agg xs) (.agg ys)).map fun r => .raw (.bool (!r))
  | _, _, _ => none

/-- One operation, whose guard is decided. -/
def evOp (c : Cfg) (cf : CallF) (lim : Nat) (t : List V) (h : Heap) (ans : List Ans) (o : Oper) : Option Out :=
  match o.op with
  | .move x => match opnd c t x with
    | some v => some ⟨v, h, ans, []⟩
    | none => none
  | .assign x => match opnd c t x with
    | some v => some ⟨v, h, ans, []⟩
    | none => none
  | .pick x y z => match opnd c t x, ans with
    | some (.raw (.bool b)), .br q :: ans' => match opnd c t (if q then y else z) with
      | some v => some ⟨v, h, ans', [b = q]⟩
      | none => none
    | _, _ => none
  | .alloc ty => match pureRun c.P (zeroValue ty) with
    | some z => some ⟨.ptr h.length 0, h ++ [some ⟨z.cells.toList.map .raw, ty⟩], ans, []⟩
    | none => none
  | .box ty x => match (opnd c t x).bind cellsV with
    | some xs => some ⟨.ptr h.length 0, h ++ [some ⟨xs, ty⟩], ans, []⟩
    | none => none
  | .load ty x => match opnd c t x with
    | some (.ptr b off) => match loadV c h ty b off with
      | some v => some ⟨v, h, ans, []⟩
      | none => none
    | _ => none
  | .store ty x y => match opnd c t x, opnd c t y with
    | some (.ptr b off), some v => match storeV c lim h ty b off v with
      | some h' => some ⟨.raw undef, h', ans, []⟩
      | none => none
    | _, _ => none
  | .fieldAddr s x f => match opnd c t x, fieldOff c s f with
    | some (.ptr b off), some d => some ⟨.ptr b (off + d), h, ans, []⟩
    | _, _ => none
  | .nilCheck x => match opnd c t x with
    | some (.ptr b off) => some ⟨.ptr b off, h, ans, []⟩
    | some (.fn (.func f) x y) => some ⟨.fn (.func f) x y, h, ans, []⟩
    | _ => none
  | .makeFunc f x y => match opnds c t x.toList, opnds c t y.toList with
    | some xs, some ys => some ⟨.fn f xs ys, h, ans, []⟩
    | _, _ => none
  | .call ⟨.value f, args, _⟩ => match opnd c t f, opnds c t args.toList with
    | some (.fn (.func f) first cap), some xs => if c.fns f then cf f (first ++ xs ++ cap) h lim ans else none
    | _, _ => none
  | .call ⟨.builtin .len, args, ats⟩ => match lenV c t args ats with
    | some v => some ⟨v, h, ans, []⟩
    | none => evGen c t h ans o
  | .indexAddr T x ix => match indexV c t T x ix with
    | some (v, cons) => some ⟨v, h, ans, cons⟩
    | none => none
  | .buildSlice T len parts => if parts.toList.all (fun p => isRaw c t p.2) then
      match litCells c T len (parts.toList.map fun p => (p.1, rawOf c t p.2)) with
      | some (e, cells) => some ⟨.slc h.length 0 len len, h ++ [some ⟨cells.toList.map .raw, e⟩], ans, []⟩
      | none => none
    else none
  | .binOp b T x y _ => match eqV c t b T x y with
    | some v => some ⟨v, h, ans, []⟩
    | none => evGen c t h ans o
  | _ => evGen c t h ans o

def putT (t : List V) (d : Option Nat) (v : V) : List V := match d with
  | some d => t.set d v
  | none => t

structure GOut where
  want : Bool
  t : List V
  ans : List Ans
  cons : List Prop

/-- Is the operation carried out? Its guard's slot is told by the oracle. -/
def evGuard (ops : Array Oper) (t : List V) (ans : List Ans) (o : Oper) : Option GOut :=
  match o.guard with
  | none => some ⟨true, t, ans, []⟩
  | some (j, want) => match (ops[j]?).bind (·.dst) with
    | some d => match t[d]? with
      | some (.lit b) => some ⟨b == want, t, ans, []⟩
      | some (.raw (.bool b)) => match ans with
        | .br q :: ans' => some ⟨q == want, t.set d (.lit q), ans', [b = q]⟩
        | _ => none
      | some (.raw (.tuple _)) => some ⟨false, t, ans, []⟩
      | _ => none
    | none => none

structure ROut where
  t : List V
  h : Heap
  ans : List Ans
  cons : List Prop

def evOps (c : Cfg) (cf : CallF) (lim : Nat) (ops : Array Oper) : List Oper → List V → Heap → List Ans → Option ROut
  | [], t, h, ans => some ⟨t, h, ans, []⟩
  | o :: rest, t, h, ans => match evGuard ops t ans o with
    | none => none
    | some g => if g.want then
        match evOp c cf lim g.t h g.ans o with
        | none => none
        | some r => match evOps c cf lim ops rest (putT g.t o.dst r.v) r.h r.ans with
          | none => none
          | some q => some { q with cons := g.cons ++ (r.cons ++ q.cons) }
      else match evOps c cf lim ops rest (putT g.t o.dst (.raw undef)) h g.ans with
        | none => none
        | some q => some { q with cons := g.cons ++ q.cons }

/-! A region that draws its order. -/
inductive AItem where
  | val (v : V)
  | new (T : TypeId) (z : List V)
  | put (k : Nat) (cs : List V)
  | old (b : Nat) (T : TypeId) (cs : List V)
  | skip
def AItem.to (ρ : Ren) : AItem → R.Item
  | .val v => .val (v.conc ρ)
  | .new T z => .new T (concs ρ z).toArray
  | .put k cs => .put k (concs ρ cs).toArray
  | .old b T cs => .old (ρ.blk b) T (concs ρ cs).toArray
  | .skip => .skip
def cntNew : List AItem → Nat
  | [] => 0
  | .new _ _ :: l => cntNew l + 1
  | _ :: l => cntNew l
def AItem.slot (n0 : Nat) (before : List AItem) : AItem → V
  | .val v => v
  | .new _ _ => .ptr (n0 + cntNew before) 0
  | _ => .raw undef
/-- The operation of the region that writes slot s. -/
def writer (ops : Array Oper) (s : Nat) : Option Nat := (List.range ops.size).find? (fun j => (ops[j]?.bind (·.dst)) == some s)
def bound (o : Oper) (j : Nat) : Bool := o.after.toList.any (fun e => Region.binds .any e && e.on == j)
def visible (ops : Array Oper) (its : List AItem) (o : Oper) (s : Nat) : Bool := match writer ops s with
  | none => true
  | some j => bound o j && (match its[j]? with | some (.val _) => true | _ => false)
def seen (ops : Array Oper) (its : List AItem) (o : Oper) : Operand → Bool
  | .tmp s => visible ops its o s
  | _ => true
def usedOpnds (ans : List Ans) : Op → Option (List Operand)
  | .move x => some [x]
  | .assign x => some [x]
  | .pick x y z => match ans with
    | .br q :: _ => some [x, if q then y else z]
    | _ => none
  | .load _ x => some [x]
  | .fieldAddr _ x _ => some [x]
  | .nilCheck x => some [x]
  | .indexAddr _ x ix => some [x, ix]
  | .makeFunc _ x y => some (x.toList ++ y.toList)
  | .call ⟨.value f, args, _⟩ => some (f :: args.toList)
  | .alloc _ => none
  | .box _ _ => none
  | .store _ _ _ => none
  | .buildSlice _ _ _ => none
  | o => plainOpnds o
def underO (c : Cfg) (t : List V) (n : Nat) (x : Operand) : Bool := match opnd c t x with
  | some v => v.under n
  | none => false
def killOne (h : Heap) (b : Nat) : Heap := h.set b none
/-- The heap as operation i may find it. -/
def killed (L : Nat) (ops : Array Oper) (olds : List (Nat × Nat)) (i : Nat) (h : Heap) : Heap := olds.foldl (fun h p => if R.waitsFor ops p.1 i || decide (p.2 < L) then h else killOne h p.2) h

structure DOut where
  it : AItem
  ans : List Ans
  cons : List Prop
def evBody (c : Cfg) (cf : CallF) (lim : Nat) (ops : Array Oper) (h : Heap) (olds : List (Nat × Nat)) (acc : List AItem) (t : List V) (ans : List Ans) (o : Oper) : Option DOut :=
  match o.op with
  | .alloc T => match pureRun c.P (zeroValue T) with
    | some z => some ⟨.new T (z.cells.toList.map .raw), ans, []⟩
    | none => none
  | .box T x => if seen ops acc o x && underO c t h.length x then match (opnd c t x).bind cellsV with
      | some xs => some ⟨.new T xs, ans, []⟩
      | none => none
    else none
  | .store T x y => if seen ops acc o y && underO c t h.length y then
      match (opnd c t y).bind cellsV, pureRun c.P (Go.sizeOf T), x with
      | some xs, some n, .tmp d => if xs.length = n ∧ oneCells xs = true then
          match writer ops d with
          | none => match opnd c t x with
            | some (.ptr b off) => match h[b]? with
              | some (some B) => if lim ≤ b ∧ off + xs.length ≤ B.cells.length ∧ olds.contains (acc.length, b) = true then some ⟨.old b B.ty (putAt B.cells off xs), ans, []⟩ else none
              | _ => none
            | _ => none
          | some k => match acc[k]? with
            | some (.new _ z) => if xs.length = z.length then some ⟨.put k xs, ans, []⟩ else none
            | some (.val (.ptr b off)) => if bound o k then match h[b]? with
                | some (some B) => if lim ≤ b ∧ off + xs.length ≤ B.cells.length ∧ olds.contains (acc.length, b) = true then some ⟨.old b B.ty (putAt B.cells off xs), ans, []⟩ else none
                | _ => none
              else none
            | _ => none
        else none
      | _, _, _ => none
    else none
  | op => match usedOpnds ans op with
    | some l => if l.all (seen ops acc o) && l.all (underO c t h.length) then
        match evOp c cf h.length t (killed c.L ops olds acc.length h) ans o with
        | some r => if r.v.under h.length then some ⟨.val r.v, r.ans, r.cons⟩ else none
        | none => none
      else none
    | none => none
def evD1 (c : Cfg) (cf : CallF) (lim : Nat) (ops : Array Oper) (h : Heap) (olds : List (Nat × Nat)) (acc : List AItem) (t : List V) (ans : List Ans) (o : Oper) : Option DOut :=
  match o.guard with
  | none => evBody c cf lim ops h olds acc t ans o
  | some (j, want) => if bound o j && ((ops[j]?).any (·.dst.isSome)) then match acc[j]? with
      | some (.val (.raw (.bool b))) => match ans with
        | .br q :: ans' => if q == want then match evBody c cf lim ops h olds acc t ans' o with
              | some r => match r.it with
                | .skip => none
                | it => some ⟨it, r.ans, (b = q) :: r.cons⟩
              | none => none
            else some ⟨.skip, ans', [b = q]⟩
        | _ => none
      | _ => none
    else none
structure DROut where
  its : List AItem
  t : List V
  ans : List Ans
  cons : List Prop
def evDr (c : Cfg) (cf : CallF) (lim : Nat) (ops : Array Oper) (h : Heap) (olds : List (Nat × Nat)) : List AItem → List Oper → List V → List Ans → Option DROut
  | acc, [], t, ans => some ⟨acc, t, ans, []⟩
  | acc, o :: rest, t, ans => match evD1 c cf lim ops h olds acc t ans o with
    | none => none
    | some d => match evDr c cf lim ops h olds (acc ++ [d.it]) rest (putT t o.dst (d.it.slot h.length acc)) d.ans with
      | none => none
      | some r => some { r with cons := d.cons ++ r.cons }
def oldNames : List AItem → List Nat
  | [] => []
  | .old b _ _ :: l => b :: oldNames l
  | _ :: l => oldNames l
def applyOlds : List AItem → Heap → Heap
  | [], h => h
  | .old b T cs :: l, h => applyOlds l (h.set b (some ⟨cs, T⟩))
  | _ :: l, h => applyOlds l h
def putOf (its : List AItem) (k : Nat) : Option (List V) := its.findSome? fun it => match it with
  | .put k' cs => if k' = k then some cs else none
  | _ => none
/-- What the new blocks hold: i is the number of the list's first item. -/
def newBlks (its : List AItem) : Nat → List AItem → Heap
  | _, [] => []
  | i, .new T z :: l => ((putOf its i).map fun cs => (⟨cs, T⟩ : Blk)) :: newBlks its (i + 1) l
  | i, _ :: l => newBlks its (i + 1) l
def nodupB : List Nat → Bool
  | [] => true
  | x :: l => !l.contains x && nodupB l
def evDrawn (c : Cfg) (cf : CallF) (lim : Nat) (ops : Array Oper) (t : List V) (h : Heap) (ans : List Ans) : Option ROut :=
  match ans with
  | .olds olds :: ans => match evDr c cf lim ops h olds [] ops.toList t ans with
    | some r => if R.shape ops (r.its.map (AItem.to ⟨fun _ => 0, fun _ => undef⟩)) t.length && nodupB (oldNames r.its) then
        some ⟨r.t, applyOlds r.its h ++ newBlks r.its 0 r.its, r.ans, r.cons⟩
      else none
    | none => none
  | _ => none

end Go.Proofs.Ytlgabdamgalngaa.E

/-
  The reckoner is right: operations.
-/
namespace Go.Proofs.Ytlgabdamgalngaa.E
open Go Go.RowKit

theorem concs_map (ρ : Ren) : ∀ l, concs ρ l = l.map (·.conc ρ)
  | [] => rfl
  | x :: l => by simp [concs, concs_map ρ l]
theorem concs_append (ρ : Ren) (l m : List V) : concs ρ (l ++ m) = concs ρ l ++ concs ρ m := by simp [concs_map]
theorem concs_length (ρ : Ren) (l : List V) : (concs ρ l).length = l.length := by simp [concs_map]
theorem concs_set (ρ : Ren) (l : List V) (i : Nat) (v : V) : concs ρ (l.set i v) = (concs ρ l).set i (v.conc ρ) := by simp [concs_map, List.map_set]
theorem concs_get (ρ : Ren) (l : List V) (i : Nat) : (concs ρ l)[i]? = (l[i]?).map (·.conc ρ) := by simp [concs_map]
theorem concs_raw (ρ : Ren) (l : List Value) : concs ρ (l.map .raw) = l := by
  rw [concs_map, List.map_map]
  conv => rhs; rw [← List.map_id l]
  rfl
theorem unders_iff (n : Nat) : ∀ l, unders n l = true ↔ ∀ x ∈ l, x.under n = true
  | [] => by simp [unders]
  | x :: l => by simp [unders, unders_iff n l]
theorem unders_append {n : Nat} {l m : List V} (h : unders n l = true) (k : unders n m = true) : unders n (l ++ m) = true := by
  rw [unders_iff] at *
  intro x hx
  rcases List.mem_append.1 hx with h1 | h1
  · exact h x h1
  · exact k x h1
theorem unders_raw (n : Nat) (l : List Value) : unders n (l.map .raw) = true := by
  rw [unders_iff]
  intro x hx
  obtain ⟨v, _, rfl⟩ := List.mem_map.1 hx
  rfl
theorem unders_sub {n : Nat} {l m : List V} (h : unders n l = true) (hs : ∀ x ∈ m, x ∈ l) : unders n m = true := by
  rw [unders_iff] at *
  exact fun x hx => h x (hs x hx)

mutual
theorem V.conc_agree {ρ ρ' : Ren} {n : Nat} (h : ∀ i, i < n → ρ'.blk i = ρ.blk i) : ∀ x : V, x.under n = true → x.conc ρ' = x.conc ρ
  | .raw v, _ => rfl
  | .any k, h => by simp [V.under] at h
  | .ptr b o, hx => by simp only [V.under, decide_eq_true_eq] at hx; simp only [V.conc, h b hx]
  | .slc b o l c, hx => by simp only [V.under, decide_eq_true_eq] at hx; simp only [V.conc, h b hx]
  | .fn f x y, hx => by
    simp only [V.under, Bool.and_eq_true] at hx
    simp only [V.conc, concs_agree h x hx.1, concs_agree h y hx.2]
  | .agg l, hx => by simp only [V.under] at hx; simp only [V.conc, concs_agree h l hx]
  | .tup l, hx => by simp only [V.under] at hx; simp only [V.conc, concs_agree h l hx]
  | .lit b, _ => rfl
theorem concs_agree {ρ ρ' : Ren} {n : Nat} (h : ∀ i, i < n → ρ'.blk i = ρ.blk i) : ∀ l : List V, unders n l = true → concs ρ' l = concs ρ l
  | [], _ => rfl
  | x :: l, hx => by
    simp only [unders, Bool.and_eq_true] at hx
    simp only [concs, V.conc_agree h x hx.1, concs_agree h l hx.2]
end
mutual
theorem V.under_mono {n m : Nat} (h : n ≤ m) : ∀ x : V, x.under n = true → x.under m = true
  | .raw v, _ => rfl
  | .any k, h => by simp [V.under] at h
  | .ptr b o, hx => by simp only [V.under, decide_eq_true_eq] at *; omega
  | .slc b o l c, hx => by simp only [V.under, decide_eq_true_eq] at *; omega
  | .fn f x y, hx => by
    simp only [V.under, Bool.and_eq_true] at *
    exact ⟨unders_mono h x hx.1, unders_mono h y hx.2⟩
  | .agg l, hx => by simp only [V.under] at *; exact unders_mono h l hx
  | .tup l, hx => by simp only [V.under] at *; exact unders_mono h l hx
  | .lit b, _ => rfl
theorem unders_mono {n m : Nat} (h : n ≤ m) : ∀ l : List V, unders n l = true → unders m l = true
  | [], _ => rfl
  | x :: l, hx => by
    simp only [unders, Bool.and_eq_true] at *
    exact ⟨V.under_mono h x hx.1, unders_mono h l hx.2⟩
end
theorem V.slotOk_mono {n m : Nat} (h : n ≤ m) (x : V) (hx : x.slotOk n = true) : x.slotOk m = true := by
  cases x <;> first | rfl | exact V.under_mono h _ hx
theorem V.slot_agree {ρ ρ' : Ren} {n : Nat} (h : ∀ i, i < n → ρ'.blk i = ρ.blk i) (hu : ρ'.unk = ρ.unk) (x : V) (hx : x.slotOk n = true) : x.conc ρ' = x.conc ρ := by
  cases x with
  | any k => simp only [V.conc, hu]
  | _ => exact V.conc_agree h _ hx
theorem V.slot_of_under {n : Nat} (x : V) (hx : x.under n = true) : x.slotOk n = true := by
  cases x <;> first | rfl | exact hx

theorem raws_concs (ρ : Ren) : ∀ (l : List V) (vs : List Value), raws l = some vs → concs ρ l = vs
  | [], vs, h => by simp only [raws, Option.some.injEq] at h; subst h; rfl
  | .raw v :: l, vs, h => by
    simp only [raws, Option.map_eq_some_iff] at h
    obtain ⟨us, hu, rfl⟩ := h
    simp [concs, V.conc, raws_concs ρ l us hu]
  | .any _ :: l, vs, h => by simp [raws] at h
  | .ptr _ _ :: l, vs, h => by simp [raws] at h
  | .slc _ _ _ _ :: l, vs, h => by simp [raws] at h
  | .fn _ _ _ :: l, vs, h => by simp [raws] at h
  | .agg _ :: l, vs, h => by simp [raws] at h
  | .tup _ :: l, vs, h => by simp [raws] at h
  | .lit _ :: l, vs, h => by simp [raws] at h
theorem mkAgg_conc (ρ : Ren) (l : List V) : (mkAgg l).conc ρ = .agg (concs ρ l).toArray := by
  unfold mkAgg
  split
  · rename_i vs h; rw [raws_concs ρ l vs h]; rfl
  · rfl
theorem mkAgg_under {n : Nat} {l : List V} (h : unders n l = true) : (mkAgg l).under n = true := by
  unfold mkAgg
  split
  · rfl
  · exact h
theorem mkTup_conc (ρ : Ren) (l : List V) : (mkTup l).conc ρ = .tuple (concs ρ l).toArray := by
  unfold mkTup
  split
  · rename_i vs h; rw [raws_concs ρ l vs h]; rfl
  · rfl
theorem mkTup_under {n : Nat} {l : List V} (h : unders n l = true) : (mkTup l).under n = true := by
  unfold mkTup
  split
  · rfl
  · exact h
theorem cellsV_conc (ρ : Ren) {x : V} {xs : List V} (h : cellsV x = some xs) : (x.conc ρ).cells.toList = concs ρ xs := by
  cases x <;> simp only [cellsV, Option.some.injEq, reduceCtorEq] at h <;> subst h
  · rw [concs_raw]; rfl
  all_goals rfl
theorem cellsV_under {n : Nat} {x : V} {xs : List V} (h : cellsV x = some xs) (hx : x.under n = true) : unders n xs = true := by
  cases x <;> simp only [cellsV, Option.some.injEq, reduceCtorEq] at h <;> subst h
  · exact unders_raw n _
  all_goals first | exact hx | (simp only [unders, Bool.and_true]; exact hx)

/-- The named blocks hold what the heap says. -/
structure RelH (c : Cfg) (ρ : Ren) (h : Heap) (w : World) : Prop where
  cell : ∀ (i : Nat) (B : Blk), h[i]? = some (some B) → ∃ fr, w.heap[ρ.blk i]? = some (.cells (concs ρ B.cells).toArray B.ty fr) ∧ (c.L ≤ i → fr = (0, 0))
  lt : ∀ i, i < h.length → ρ.blk i < w.heap.size
  inj : ∀ i j, c.L ≤ i → i < h.length → j < h.length → ρ.blk i = ρ.blk j → i = j
  sco : ∀ (i : Nat) (B : Blk), h[i]? = some (some B) → unders h.length B.cells = true
  glob : ∀ p ∈ c.G, ρ.blk p.2 = p.1 ∧ p.2 < h.length
  big : c.L ≤ h.length
  base : ∀ i, i < c.L → h[i]? = c.H0[i]?
structure RelT (ρ : Ren) (n : Nat) (t : List V) (a : Act) : Prop where
  tmps : a.tmps = (concs ρ t).toArray
  sco : ∀ x ∈ t, x.slotOk n = true
/-- From w to w' nothing has turned but blocks with names from lim on; new names lie in new blocks. -/
structure Fr (lim : Nat) (ρ : Ren) (h : Heap) (w : World) (ρ' : Ren) (h' : Heap) (w' : World) : Prop where
  os : w'.os = w.os
  tape : w'.tape = w.tape
  output : w'.output = w.output
  size : w.heap.size ≤ w'.heap.size
  blk : ∀ k, k < w.heap.size → (∀ i, lim ≤ i → i < h.length → ρ.blk i ≠ k) → w'.heap[k]? = w.heap[k]?
  ren : ∀ i, i < h.length → ρ'.blk i = ρ.blk i
  len : h.length ≤ h'.length
  fresh : ∀ i, h.length ≤ i → i < h'.length → w.heap.size ≤ ρ'.blk i
theorem Fr.refl (lim : Nat) (ρ : Ren) (h : Heap) (w : World) : Fr lim ρ h w ρ h w :=
  ⟨rfl, rfl, rfl, Nat.le_refl _, fun _ _ _ => rfl, fun _ _ => rfl, Nat.le_refl _, fun i h1 h2 => by omega⟩
theorem Fr.trans {lim : Nat} {ρ ρ1 ρ2 : Ren} {h h1 h2 : Heap} {w w1 w2 : World} (a : Fr lim ρ h w ρ1 h1 w1) (b : Fr lim ρ1 h1 w1 ρ2 h2 w2) : Fr lim ρ h w ρ2 h2 w2 := by
  refine ⟨b.os.trans a.os, b.tape.trans a.tape, b.output.trans a.output, Nat.le_trans a.size b.size, fun k hk hn => ?_, fun i hi => ?_, Nat.le_trans a.len b.len, fun i hi hi2 => ?_⟩
  · refine (b.blk k (Nat.lt_of_lt_of_le hk a.size) fun i hi hi2 => ?_).trans (a.blk k hk hn)
    rcases Nat.lt_or_ge i h.length with hlt | hge
    · rw [a.ren i hlt]; exact hn i hi hlt
    · have := a.fresh i hge hi2; omega
  · rw [b.ren i (Nat.lt_of_lt_of_le hi a.len), a.ren i hi]
  · rcases Nat.lt_or_ge i h1.length with hlt | hge
    · rw [b.ren i hlt]; exact a.fresh i hi hlt
    · exact Nat.le_trans a.size (b.fresh i hge hi2)
theorem Fr.mono {lim lim' : Nat} {ρ ρ' : Ren} {h h' : Heap} {w w' : World} (a : Fr lim' ρ h w ρ' h' w') (hl : lim ≤ lim') : Fr lim ρ h w ρ' h' w' :=
  ⟨a.os, a.tape, a.output, a.size, fun k hk hn => a.blk k hk fun i hi hi2 => hn i (by omega) hi2, a.ren, a.len, a.fresh⟩

theorem opnd_under {c : Cfg} {ρ : Ren} {h : Heap} {w : World} {t : List V} {a : Act} (RH : RelH c ρ h w) (RT : RelT ρ h.length t a) {x : Operand} {v : V} (hx : opnd c t x = some v) : v.under h.length = true := by
  cases x with
  | tmp s =>
    simp only [opnd] at hx
    split at hx
    · cases hx
    · simp only [Option.some.injEq] at hx; subst hx; rfl
    · rename_i hna hnl
      have hm := List.mem_of_getElem? hx
      have := RT.sco v hm
      cases v <;> first | exact this | (exfalso; exact hna _ hx)
  | const v => simp only [opnd, Option.some.injEq] at hx; subst hx; rfl
  | func f => simp only [opnd, Option.some.injEq] at hx; subst hx; rfl
  | global g =>
    simp only [opnd] at hx
    split at hx
    · rename_i p hp
      simp only [Option.some.injEq] at hx
      subst hx
      simp only [V.under, decide_eq_true_eq]
      exact (RH.glob p (List.mem_of_find?_eq_some hp)).2
    · cases hx
theorem opnd_eval {c : Cfg} {ρ : Ren} {h : Heap} {w : World} {t : List V} {a : Act} (RH : RelH c ρ h w) (RT : RelT ρ h.length t a) {x : Operand} {v : V} (hx : opnd c t x = some v) : a.eval x = v.conc ρ := by
  cases x with
  | tmp s =>
    simp only [opnd] at hx
    split at hx
    · cases hx
    · rename_i b hb
      simp only [Option.some.injEq] at hx; subst hx
      simp only [Act.eval, RT.tmps]
      simp [concs_get, hb, V.conc]
    · simp only [Act.eval, RT.tmps]
      simp [concs_get, hx]
  | const v => simp only [opnd, Option.some.injEq] at hx; subst hx; rfl
  | func f => simp only [opnd, Option.some.injEq] at hx; subst hx; rfl
  | global g =>
    simp only [opnd] at hx
    split at hx
    · rename_i p hp
      simp only [Option.some.injEq] at hx
      subst hx
      have h1 := List.find?_some hp
      simp only [beq_iff_eq] at h1
      simp only [Act.eval, V.conc, (RH.glob p (List.mem_of_find?_eq_some hp)).1, h1]
    · cases hx
theorem opnds_ok {c : Cfg} {ρ : Ren} {h : Heap} {w : World} {t : List V} {a : Act} (RH : RelH c ρ h w) (RT : RelT ρ h.length t a) : ∀ (l : List Operand) (vs : List V), opnds c t l = some vs → l.map a.eval = concs ρ vs ∧ unders h.length vs = true
  | [], vs, hx => by simp only [opnds, Option.some.injEq] at hx; subst hx; exact ⟨rfl, rfl⟩
  | x :: l, vs, hx => by
    simp only [opnds] at hx
    split at hx
    · rename_i v us hv hu
      simp only [Option.some.injEq] at hx
      subst hx
      obtain ⟨h1, h2⟩ := opnds_ok RH RT l us hu
      simp [concs, unders, h1, h2, opnd_eval RH RT hv, opnd_under RH RT hv]
    · cases hx
theorem rawOf_eval {c : Cfg} {ρ : Ren} {h : Heap} {w : World} {t : List V} {a : Act} (RH : RelH c ρ h w) (RT : RelT ρ h.length t a) {x : Operand} (hx : isRaw c t x = true) : rawOf c t x = a.eval x := by
  unfold isRaw at hx
  split at hx
  · rename_i v hv
    unfold rawOf
    rw [opnd_eval RH RT hv, hv]
    rfl
  · cases hx

/-- A new block gets the next name. -/
def Ren.push (ρ : Ren) (n b : Nat) : Ren := ⟨fun i => if i = n then b else ρ.blk i, ρ.unk⟩
theorem relH_alloc {c : Cfg} {ρ : Ren} {h : Heap} {w : World} (RH : RelH c ρ h w) {xs : List V} {ty : TypeId} (hu : unders h.length xs = true) :
    RelH c (ρ.push h.length w.heap.size) (h ++ [some ⟨xs, ty⟩]) (w.alloc (.cells (concs ρ xs).toArray ty)) := by
  have hag : ∀ i, i < h.length → (ρ.push h.length w.heap.size).blk i = ρ.blk i := fun i hi => by simp only [Ren.push]; rw [if_neg (by omega)]
  have hlen : (h ++ [some (⟨xs, ty⟩ : Blk)]).length = h.length + 1 := by simp
  refine ⟨fun i B hi => ?_, fun i hi => ?_, fun i j h1 h2 h3 h4 => ?_, fun i B hi => ?_, fun p hp => ?_, by rw [hlen]; have := RH.big; omega, fun i hi => by rw [List.getElem?_append_left (by have := RH.big; omega)]; exact RH.base i hi⟩
  · rcases Nat.lt_trichotomy i h.length with hlt | heq | hgt
    · rw [List.getElem?_append_left hlt] at hi
      obtain ⟨fr, h1, h2⟩ := RH.cell i B hi
      refine ⟨fr, ?_, h2⟩
      rw [hag i hlt, Below.heap_alloc _ _ _ (RH.lt i hlt), h1, concs_agree hag _ (RH.sco i B hi)]
    · subst heq
      simp only [List.getElem?_append_right (Nat.le_refl _), Nat.sub_self, List.getElem?_cons_zero, Option.some.injEq] at hi
      subst hi
      refine ⟨(0, 0), ?_, fun _ => rfl⟩
      rw [concs_agree (ρ := ρ) (n := h.length) hag _ hu]
      simp only [Ren.push, if_true]
      exact Array.getElem?_push_size
    · rw [List.getElem?_eq_none (by rw [hlen]; omega)] at hi; cases hi
  · rw [hlen] at hi
    simp only [World.size_alloc]
    rcases Nat.lt_or_ge i h.length with hlt | hge
    · rw [hag i hlt]; have := RH.lt i hlt; omega
    · have : i = h.length := by omega
      subst this
      simp only [Ren.push, if_true]; omega
  · rw [hlen] at h2 h3
    rcases Nat.lt_or_ge i h.length with hi | hi <;> rcases Nat.lt_or_ge j h.length with hj | hj
    · rw [hag i hi, hag j hj] at h4; exact RH.inj i j h1 hi hj h4
    · have ej : j = h.length := by omega
      subst ej
      rw [hag i hi] at h4
      simp only [Ren.push, if_true] at h4
      have := RH.lt i hi; omega
    · have ej : i = h.length := by omega
      subst ej
      rw [hag j hj] at h4
      simp only [Ren.push, if_true] at h4
      have := RH.lt j hj; omega
    · omega
  · rcases Nat.lt_or_ge i h.length with hlt | hge
    · rw [List.getElem?_append_left hlt] at hi
      exact unders_mono (by rw [hlen]; omega) _ (RH.sco i B hi)
    · have e : i = h.length := by
        rcases Nat.lt_or_ge i (h.length + 1) with h1 | h1
        · omega
        · rw [List.getElem?_eq_none (by rw [hlen]; omega)] at hi; cases hi
      subst e
      simp only [List.getElem?_append_right (Nat.le_refl _), Nat.sub_self, List.getElem?_cons_zero, Option.some.injEq] at hi
      subst hi
      exact unders_mono (by rw [hlen]; omega) _ hu
  · obtain ⟨h1, h2⟩ := RH.glob p hp
    exact ⟨by rw [hag _ h2, h1], by rw [hlen]; omega⟩
theorem fr_alloc {lim : Nat} {ρ : Ren} {h : Heap} {w : World} {o : Obj} {B : Option Blk} : Fr lim ρ h w (ρ.push h.length w.heap.size) (h ++ [B]) (w.alloc o) :=
  ⟨rfl, rfl, rfl, by simp, fun k hk _ => Below.heap_alloc _ _ _ hk, fun i hi => by simp only [Ren.push]; rw [if_neg (by omega)], by simp, fun i h1 h2 => by
    simp at h2
    have : i = h.length := by omega
    subst this
    simp [Ren.push]⟩
end Go.Proofs.Ytlgabdamgalngaa.E

/-
  The reckoner is right: '==' of structs and arrays.
-/
namespace Go.Proofs.Ytlgabdamgalngaa.E
open Go Go.RowKit

theorem eqFlds_sound {P : Program} {eq : TypeId → Value → Value → Option Bool} {go : TypeId → Value → Value → Sem Bool} (hs : ∀ t x y b w, eq t x y = some b → (go t x y).run P w = .ok b w) (xs ys : Array Value) (w : World) :
    ∀ (l : List Field) (b : Bool), eqFlds P eq xs ys l = some b →
      (forIn l ((none, ()) : Option Bool × Unit) fun (f : Field) r => do
        if f.name ≠ "_" then
          if (!(← go f.type (← part f.type xs f.offset) (← part f.type ys f.offset))) = true then pure (ForInStep.done (some false, ())) else pure (ForInStep.yield (none, ()))
        else pure (ForInStep.yield (none, ()))).run P w = .ok (if b then none else some false, ()) w
  | [], b, h => by
    simp only [eqFlds, Option.some.injEq] at h
    subst h
    simp [go_sem]
  | f :: l, b, h => by
    simp only [eqFlds] at h
    split at h
    · rename_i hf
      have := eqFlds_sound hs xs ys w l b h
      rw [List.forIn_cons]
      simp only [hf, ne_eq, not_true_eq_false, if_false, Sem.run_bind, Sem.run_pure, Result.andThen_ok]
      exact this
    · rename_i hf
      split at h
      · rename_i x y hx hy
        split at h
        · rename_i p q hp hq
          simp only [Option.some.injEq] at h
          subst h
          have := eqFlds_sound hs xs ys w l q hq
          rw [List.forIn_cons]
          simp only [ne_eq, hf, not_false_eq_true, if_true, Sem.run_bind, pureRun_run hx, pureRun_run hy, hs _ _ _ _ w hp, Result.andThen_ok]
          cases p with
          | true =>
            simp only [Bool.not_true, Bool.false_eq_true, if_false, Sem.run_pure, Result.andThen_ok, Bool.true_and]
            exact this
          | false => simp only [Bool.not_false, if_true, Sem.run_pure, Result.andThen_ok, Bool.false_and, Bool.false_eq_true, if_false]
        · cases h
      · cases h
theorem eqElems_sound {P : Program} {eq : TypeId → Value → Value → Option Bool} {go : TypeId → Value → Value → Sem Bool} (hs : ∀ t x y b w, eq t x y = some b → (go t x y).run P w = .ok b w) (e : TypeId) (n : Nat) (xs ys : Array Value) (w : World) :
    ∀ (l : List Nat) (b : Bool), eqElems P eq e n xs ys l = some b →
      (forIn l ((none, ()) : Option Bool × Unit) fun (i : Nat) r => do
          if (!(← go e (← part e xs (i * n)) (← part e ys (i * n)))) = true then pure (ForInStep.done (some false, ())) else pure (ForInStep.yield (none, ()))).run P w = .ok (if b then none else some false, ()) w
  | [], b, h => by
    simp only [eqElems, Option.some.injEq] at h
    subst h
    simp [go_sem]
  | f :: l, b, h => by
    simp only [eqElems] at h
    split at h
    · rename_i x y hx hy
      split at h
      · rename_i p q hp hq
        simp only [Option.some.injEq] at h
        subst h
        have := eqElems_sound hs e n xs ys w l q hq
        rw [List.forIn_cons]
        simp only [Sem.run_bind, pureRun_run hx, pureRun_run hy, hs _ _ _ _ w hp, Result.andThen_ok]
        cases p with
        | true =>
          simp only [Bool.not_true, Bool.false_eq_true, if_false, Sem.run_pure, Result.andThen_ok, Bool.true_and]
          exact this
        | false => simp only [Bool.not_false, if_true, Sem.run_pure, Result.andThen_ok, Bool.false_and, Bool.false_eq_true, if_false]
      · cases h
    · cases h
theorem eqIn_sound (P : Program) : ∀ (d m : Nat) (t : TypeId) (x y : Value) (b : Bool) (w : World), eqIn P d t x y = some b → (Op.equalIn (d + m) t x y).run P w = .ok b w
  | 0, m, t, x, y, b, w, h => by simp [eqIn] at h
  | d + 1, m, t, x, y, b, w, h => by
    rw [show d + 1 + m = (d + m) + 1 by omega]
    simp only [eqIn] at h
    split at h
    · rename_i a b' hu
      simp only [Option.some.injEq] at h; subst h
      simp [Op.equalIn, go_sem, pureRun_run hu]
    · rename_i k0 k a k' b' hu
      split at h
      · rename_i hk
        simp only [Option.some.injEq] at h; subst h
        simp [Op.equalIn, go_sem, pureRun_run hu, hk]
      · cases h
    · rename_i fields xs ys hu
      split at h
      · cases h
      · rename_i hst
        have := eqFlds_sound (go := Op.equalIn (d + m)) (fun t x y b w => eqIn_sound P d m t x y b w) xs ys w _ b h
        simp only [Op.equalIn, Sem.run_bind, pureRun_run hu, Result.andThen_ok]
        rw [show (Sem.run P (program : Sem Program) w) = .ok P w from rfl]
        simp only [Result.andThen_ok]
        rw [if_neg (by simpa using hst)]
        rw [← Array.forIn_toList, Sem.run_bind]
        rw [this]
        cases b <;> rfl
    · rename_i len e xs ys hu
      split at h
      · rename_i n hn
        have := eqElems_sound (go := Op.equalIn (d + m)) (fun t x y b w => eqIn_sound P d m t x y b w) e n xs ys w _ b h
        simp only [Op.equalIn, Sem.run_bind, pureRun_run hu, Result.andThen_ok, pureRun_run hn]
        rw [Std.Legacy.Range.forIn_eq_forIn_range']
        simp only [Std.Legacy.Range.size, Nat.sub_zero, Nat.add_sub_cancel, Nat.div_one]
        rw [this]
        cases b <;> rfl
      · cases h
    · cases h
end Go.Proofs.Ytlgabdamgalngaa.E

/-
  The reckoner is right: one operation.
-/
namespace Go.Proofs.Ytlgabdamgalngaa.E
open Go Go.RowKit

section
variable {c : Cfg} {ρ : Ren} {h : Heap} {w : World} {t : List V} {a : Act} {lim : Nat}

theorem load_conc (RH : RelH c ρ h w) {ty : TypeId} {b off : Nat} {v : V} (hv : loadV c h ty b off = some v) :
    (loadVar ty ⟨ρ.blk b, off, none⟩).run c.P w = .ok (v.conc ρ) w ∧ v.under h.length = true := by
  unfold loadV at hv
  split at hv
  · rename_i B n hb hag hsz
    split at hv
    · rename_i hle
      simp only [Option.some.injEq] at hv
      subst hv
      obtain ⟨fr, h1, _⟩ := RH.cell b B hb
      have hlen : ((B.cells.drop off).take n).length = n := by simp; omega
      have h2 := run_loadCells_list (P := c.P) w ⟨ρ.blk b, off, none⟩ (concs ρ ((B.cells.drop off).take n)) (fun j u hu => by
        have hj : j < n := by
          rcases Nat.lt_or_ge j n with h | h
          · exact h
          · rw [List.getElem?_eq_none (by rw [concs_length, hlen]; exact h)] at hu; cases hu
        have e : (⟨ρ.blk b, off, none⟩ : Addr).add j = ⟨ρ.blk b, off + j, none⟩ := by
          unfold Addr.add
          split
          · rename_i h0; subst h0; rfl
          · rfl
        rw [e]
        simp only [World.cell?, h1]
        rw [concs_map, List.map_take, List.map_drop, List.getElem?_take, if_pos hj, List.getElem?_drop] at hu
        simpa [concs_map] using hu)
      rw [concs_length, hlen] at h2
      refine ⟨?_, mkAgg_under (unders_sub (RH.sco b B hb) fun x hx => List.mem_of_mem_drop (List.mem_of_mem_take hx))⟩
      rw [mkAgg_conc]
      simp only [loadCells] at h2
      simp [loadVar, go_sem, pureRun_run hag, pureRun_run hsz, h2]
    · cases hv
  · rename_i B hb hag
    obtain ⟨fr, h1, _⟩ := RH.cell b B hb
    refine ⟨?_, (unders_iff _ _).1 (RH.sco b B hb) v (List.mem_of_getElem? hv)⟩
    have hc : w.cell? ⟨ρ.blk b, off, none⟩ = some (v.conc ρ) := by
      simp only [World.cell?, h1]
      simpa [concs_get] using congrArg (Option.map (V.conc ρ)) hv
    simp [loadVar, go_sem, pureRun_run hag, hc]
  · cases hv

theorem oneCells_ok (ρ : Ren) : ∀ l : List V, oneCells l = true → ∀ v ∈ concs ρ l, v.oneCell' = true
  | [], _, v, hv => by cases hv
  | x :: l, h, v, hv => by
    simp only [concs, List.mem_cons] at hv
    cases x with
    | raw u =>
      cases u <;> simp only [oneCells, Bool.false_eq_true] at h <;> (rcases hv with rfl | hv; rfl; exact oneCells_ok ρ l h v hv)
    | any k => simp [oneCells] at h
    | agg m => simp [oneCells] at h
    | tup m => simp [oneCells] at h
    | ptr b o => simp only [oneCells] at h; rcases hv with rfl | hv; rfl; exact oneCells_ok ρ l h v hv
    | slc b o l' c => simp only [oneCells] at h; rcases hv with rfl | hv; rfl; exact oneCells_ok ρ l h v hv
    | fn f y z => simp only [oneCells] at h; rcases hv with rfl | hv; rfl; exact oneCells_ok ρ l h v hv
    | lit b => simp only [oneCells] at h; rcases hv with rfl | hv; rfl; exact oneCells_ok ρ l h v hv

theorem setRow_heap (w : World) (g : Nat) (cs : Array Value) (k : Nat) (hk : k ≠ g) : (w.setRow g cs).heap[k]? = w.heap[k]? := by
  simp only [World.setRow, Array.getElem?_modify]
  rw [if_neg (by omega)]
theorem setRow_this (w : World) (g : Nat) (cs cur : Array Value) (ty : TypeId) (h : w.heap[g]? = some (.cells cur ty (0, 0))) : (w.setRow g cs).heap[g]? = some (.cells cs ty (0, 0)) := by
  simp [World.setRow, Array.getElem?_modify, h]

theorem store_conc (RH : RelH c ρ h w) (hL : c.L ≤ lim) {ty : TypeId} {b off : Nat} {x : V} {h' : Heap} (hs : storeV c lim h ty b off x = some h') :
    ∃ w', (storeVar ty ⟨ρ.blk b, off, none⟩ (x.conc ρ)).run c.P w = .ok () w' ∧ RelH c ρ h' w' ∧ Fr lim ρ h w ρ h' w' := by
  unfold storeV at hs
  split at hs
  · rename_i B xs n hb hx hsz
    split at hs
    · rename_i hh
      obtain ⟨hlim, hn, hle, hone, hun⟩ := hh
      simp only [Option.some.injEq] at hs
      subst hs
      obtain ⟨fr, h1, hfr⟩ := RH.cell b B hb
      have hbl : b < h.length := by
        rcases Nat.lt_or_ge b h.length with h2 | h2
        · exact h2
        · rw [List.getElem?_eq_none h2] at hb; cases hb
      rw [hfr (by omega)] at h1
      have hcs := cellsV_conc ρ hx
      have h2 := run_storeCells_at c.P (ρ.blk b) off ty
      have h3 := run_storeCells_at c.P (ρ.blk b) off B.ty (concs ρ xs) 0 _ w h1 (by simp [concs_length]; omega) (oneCells_ok ρ xs hone)
      have hsize : (x.conc ρ).cells.size = n := by rw [← Array.length_toList, hcs, concs_length, hn]
      have hput : (List.take (off + 0) (concs ρ B.cells).toArray.toList ++ concs ρ xs ++ List.drop (off + 0 + (concs ρ xs).length) (concs ρ B.cells).toArray.toList) = concs ρ (putAt B.cells off xs) := by
        simp [putAt, concs_map, List.map_take, List.map_drop]
      rw [hput] at h3
      refine ⟨w.setRow (ρ.blk b) (concs ρ (putAt B.cells off xs)).toArray, ?_, ?_, ?_⟩
      · unfold storeVar
        generalize (x.conc ρ).cells = cl at hcs hsize ⊢
        simp [go_sem, pureRun_run hsz, hsize, hcs, h3]
      · have hne : ∀ i, i < h.length → i ≠ b → ρ.blk i ≠ ρ.blk b := fun i hi hib he => hib ((RH.inj b i (by omega) hbl hi he.symm).symm)
        refine ⟨fun i C hi => ?_, fun i hi => ?_, fun i j h1 h2 h3 h4 => ?_, fun i C hi => ?_, fun p hp => ?_, by rw [List.length_set]; exact RH.big, fun i hi => by rw [List.getElem?_set_ne (by omega)]; exact RH.base i hi⟩
        · rcases Nat.decEq i b with hne' | rfl
          · rw [List.getElem?_set_ne (Ne.symm hne')] at hi
            have hil : i < h.length := by
              rcases Nat.lt_or_ge i h.length with h2 | h2
              · exact h2
              · rw [List.getElem?_eq_none h2] at hi; cases hi
            obtain ⟨fr', k1, k2⟩ := RH.cell i C hi
            exact ⟨fr', by rw [setRow_heap _ _ _ _ (hne i hil hne')]; exact k1, k2⟩
          · rw [List.getElem?_set_self hbl] at hi
            simp only [Option.some.injEq] at hi
            subst hi
            exact ⟨(0, 0), setRow_this _ _ _ _ _ h1, fun _ => rfl⟩
        · rw [List.length_set] at hi
          have := RH.lt i hi
          simpa [World.setRow] using this
        · rw [List.length_set] at h2 h3
          exact RH.inj i j h1 h2 h3 h4
        · rw [List.length_set]
          rcases Nat.decEq i b with hne' | rfl
          · rw [List.getElem?_set_ne (Ne.symm hne')] at hi
            exact RH.sco i C hi
          · rw [List.getElem?_set_self hbl] at hi
            simp only [Option.some.injEq] at hi
            subst hi
            refine unders_append (unders_append ?_ hun) ?_
            · exact unders_sub (RH.sco i B hb) fun x hx => List.mem_of_mem_take hx
            · exact unders_sub (RH.sco i B hb) fun x hx => List.mem_of_mem_drop hx
        · rw [List.length_set]
          exact RH.glob p hp
      · refine ⟨rfl, rfl, rfl, by simp [World.setRow], fun k hk hn => ?_, fun _ _ => rfl, by simp, fun i h1 h2 => by simp at h2; omega⟩
        exact setRow_heap _ _ _ _ (fun e => hn b hlim hbl e.symm)
    · cases hs
  · cases hs

theorem field_conc {s : TypeId} {f d b off : Nat} (hd : fieldOff c s f = some d) (w : World) :
    (Instr.fieldAt s (.pointer (some ⟨ρ.blk b, off, none⟩)) f).run c.P w = .ok (.pointer (some ⟨ρ.blk b, off + d, none⟩)) w := by
  unfold fieldOff at hd
  split at hd
  · rename_i fields hs
    split at hd
    · rename_i fd hf
      split at hd
      · rename_i n hn
        split at hd
        · cases hd
        · rename_i hn0
          simp only [Option.some.injEq] at hd
          subst hd
          have e : (⟨ρ.blk b, off, none⟩ : Addr).add fd.offset = ⟨ρ.blk b, off + fd.offset, none⟩ := by
            unfold Addr.add
            split
            · rename_i h0; rw [h0]; rfl
            · rfl
          simp [Instr.fieldAt, go_sem, pureRun_run hs, hf, Instr.sureAddr, fieldPlace, pureRun_run hn, hn0, e]
      · cases hd
    · cases hd
  · cases hd
end
end Go.Proofs.Ytlgabdamgalngaa.E

/-
  The reckoner is right: one operation, its step.
-/
namespace Go.Proofs.Ytlgabdamgalngaa.E
open Go Go.RowKit

/-- The function has a body, and is none that the model treats apart. -/
def Callable (P : Program) (f : FuncId) : Prop := ∃ fn, P.funcs[f]? = some fn ∧ (fn.name == "runtime.NumGoroutine") = false ∧ fn.body.isNone = false

def CallOk (c : Cfg) (cf : CallF) : Prop :=
  ∀ f args h lim ans out, cf f args h lim ans = some out → (∀ p ∈ out.cons, p) → c.L ≤ lim → ∀ ρ w, RelH c ρ h w → unders h.length args = true →
    Calls c.P f (concs ρ args).toArray w fun e w' => ∃ ρ', ρ'.unk = ρ.unk ∧ e = .returned (out.v.conc ρ') ∧ RelH c ρ' out.h w' ∧ Fr lim ρ h w ρ' out.h w' ∧ out.v.under out.h.length = true

theorem execOp_congr {f g : Operand → Value} {o : Oper} {l : List Operand} (hl : plainOpnds o.op = some l) (hfg : ∀ x ∈ l, f x = g x) : execOp f o = execOp g o := by
  obtain ⟨dst, op, ty, pos, after, guard⟩ := o
  cases op with
  | binOp b xt x y yt =>
    simp only [plainOpnds, Option.some.injEq] at hl; subst hl
    simp only [execOp, hfg x (by simp), hfg y (by simp)]
  | unOp b xt x =>
    simp only [plainOpnds, Option.some.injEq] at hl; subst hl
    simp only [execOp, hfg x (by simp)]
  | convert b xt x =>
    simp only [plainOpnds, Option.some.injEq] at hl; subst hl
    simp only [execOp, hfg x (by simp)]
  | field b x n =>
    simp only [plainOpnds, Option.some.injEq] at hl; subst hl
    simp only [execOp, hfg x (by simp)]
  | index b x y =>
    simp only [plainOpnds, Option.some.injEq] at hl; subst hl
    simp only [execOp, hfg x (by simp), hfg y (by simp)]
  | extract x n =>
    simp only [plainOpnds, Option.some.injEq] at hl; subst hl
    simp only [execOp, hfg x (by simp)]
  | build b parts =>
    simp only [plainOpnds, Option.some.injEq] at hl; subst hl
    have e : (parts.map fun (i, x) => (i, f x)) = parts.map fun (i, x) => (i, g x) := by
      apply Array.map_congr_left
      rintro ⟨i, x⟩ hx
      simp only [Prod.mk.injEq, true_and]
      exact hfg x (List.mem_map.2 ⟨(i, x), Array.mem_toList_iff.2 hx, rfl⟩)
    simp only [execOp, e]
  | call k =>
    obtain ⟨callee, args, ats⟩ := k
    cases callee with
    | builtin b =>
      simp only [plainOpnds, Option.some.injEq] at hl; subst hl
      have e : args.map f = args.map g := Array.map_congr_left fun x hx => hfg x (Array.mem_toList_iff.2 hx)
      simp only [execOp, resolve, e]
    | value x => simp [plainOpnds] at hl
    | invoke x n => simp [plainOpnds] at hl
  | _ => simp [plainOpnds] at hl

section
variable {c : Cfg} {ρ : Ren} {h : Heap} {w : World} {t : List V} {a : Act} {lim : Nat}

theorem bare_run (RH : RelH c ρ h w) (RT : RelT ρ h.length t a) {o : Oper} {v : V} {cons : List Prop} (hb : bareOp o.op c t = some (v, cons)) (hc : ∀ p ∈ cons, p) :
    (execOp a.eval o).run c.P w = .ok (.value (v.conc ρ)) w ∧ v.under h.length = true := by
  obtain ⟨dst, op, ty, pos, after, guard⟩ := o
  unfold bareOp at hb
  split at hb
  · dsimp only at hb
    split at hb
    · rename_i b xt x y yt
      split at hb
      · rename_i k p k' q hx hy
        have ex := opnd_eval RH RT hx
        have ey := opnd_eval RH RT hy
        simp only [V.conc] at ex ey
        generalize a.eval = g at ex ey ⊢
        split at hb
        · rename_i hk
          subst hk
          split at hb <;> simp only [Option.some.injEq, Prod.mk.injEq, reduceCtorEq] at hb
          all_goals
            obtain ⟨rfl, rfl⟩ := hb
            refine ⟨?_, rfl⟩
          · have h1 : k.wrap (p + q) = p + q := hc _ (List.mem_singleton.2 rfl)
            simp [execOp, go_sem, ex, ey, eqGuard, binOp, Op.intArith, V.conc, h1]
          · have h1 : k.wrap (p - q) = p - q := hc _ (List.mem_singleton.2 rfl)
            simp [execOp, go_sem, ex, ey, eqGuard, binOp, Op.intArith, V.conc, h1]
          · have h1 : k.wrap (p * q) = p * q := hc _ (List.mem_singleton.2 rfl)
            simp [execOp, go_sem, ex, ey, eqGuard, binOp, Op.intArith, V.conc, h1]
          · have h0 : q ≠ 0 := hc _ (List.mem_cons_self)
            have h1 : k.wrap (p.tdiv q) = p.tdiv q := hc _ (List.mem_cons_of_mem _ List.mem_cons_self)
            simp [execOp, go_sem, ex, ey, eqGuard, binOp, Op.intDiv, V.conc, h1, h0]
          · have h0 : q ≠ 0 := hc _ (List.mem_cons_self)
            simp [execOp, go_sem, ex, ey, eqGuard, binOp, Op.intDiv, V.conc, h0]
        · cases hb
      · cases hb
    · rename_i xt x
      split at hb
      · rename_i k p hx
        have ex := opnd_eval RH RT hx
        simp only [V.conc] at ex
        generalize a.eval = g at ex ⊢
        simp only [Option.some.injEq, Prod.mk.injEq] at hb
        obtain ⟨rfl, rfl⟩ := hb
        have h1 : k.wrap (-p) = -p := hc _ (List.mem_singleton.2 rfl)
        refine ⟨?_, rfl⟩
        have h2 : k.wrap (0 - p) = -p := by rw [Int.zero_sub, h1]
        simp [execOp, go_sem, ex, Op.unary, Op.intArith, V.conc, h1]
      · cases hb
    · rename_i src dst x
      split at hb
      · rename_i k0 p hx
        have ex := opnd_eval RH RT hx
        simp only [V.conc] at ex
        generalize a.eval = g at ex ⊢
        split at hb
        · rename_i k1 k hs hd
          simp only [Option.some.injEq, Prod.mk.injEq] at hb
          obtain ⟨rfl, rfl⟩ := hb
          have h1 : k.wrap p = p := hc _ (List.mem_singleton.2 rfl)
          refine ⟨?_, rfl⟩
          simp [execOp, go_sem, ex, convert, pureRun_run hs, pureRun_run hd, Conv.intToInt, V.conc, h1]
        · cases hb
      · cases hb
    · cases hb
  · cases hb

theorem calls_step {f : Operand} {args : Array Operand} {ats : Array TypeId} {dst : Option Tmp} {ty : TypeId} {pos : String} {after : Array Edge} {guard : Option (Nat × Bool)} {g : FuncId} {first cap : List Value} {K : Act → World → Prop} {Q : Exit → Act → World → Prop}
    (hf : a.eval f = .func (.func g) first.toArray cap.toArray) (hg : Callable c.P g) (R : Value → World → Prop)
    (hcall : Calls c.P g (first ++ args.toList.map a.eval ++ cap).toArray w fun e w' => ∃ v, e = .returned v ∧ R v w') (hK : ∀ v w', R v w' → K (a.put dst v) w') :
    (⟨dst, .call ⟨.value f, args, ats⟩, ty, pos, after, guard⟩ : Oper).wp c.P a w K Q := by
  obtain ⟨fn, h1, h2, h3⟩ := hg
  have hrun : (execOp a.eval (⟨dst, .call ⟨.value f, args, ats⟩, ty, pos, after, guard⟩ : Oper)).run c.P w = .ok (.enter g (first ++ args.toList.map a.eval ++ cap).toArray) w := by
    have e : (first.toArray ++ args.map a.eval ++ cap.toArray) = (first ++ args.toList.map a.eval ++ cap).toArray := by
      apply Array.toList_inj.1; simp
    rw [← e]
    clear e
    generalize a.eval = ev at hf ⊢
    have h2' : ¬ fn.name = "runtime.NumGoroutine" := by simpa using h2
    have h3' : ¬ fn.body = none := by intro hn; rw [hn] at h3; cases h3
    simp [execOp, resolve, go_sem, hf, Deferred.ofValue, invoke, callFunc, h1, h2', h3']
  unfold Oper.wp
  rw [hrun]
  refine hcall.mono fun e w' he => ?_
  obtain ⟨v, rfl, hv⟩ := he
  exact hK v w' hv

theorem value_step {o : Oper} {v : Value} {K : Act → World → Prop} {Q : Exit → Act → World → Prop} (hr : (execOp a.eval o).run c.P w = .ok (.value v) w) (hK : K (a.put o.dst v) w) : o.wp c.P a w K Q := by
  unfold Oper.wp
  rw [hr]
  exact hK

theorem eqV_run {dst : Option Tmp} {ty : TypeId} {pos : String} {after : Array Edge} {guard : Option (Nat × Bool)} (RH : RelH c ρ h w) (RT : RelT ρ h.length t a) {b : BinOp} {T U : TypeId} {x y : Operand} {v : V} (hv : eqV c t b T x y = some v) :
    (execOp a.eval ⟨dst, .binOp b T x y U, ty, pos, after, guard⟩).run c.P w = .ok (.value (v.conc ρ)) w ∧ v.under h.length = true := by
  unfold eqV at hv
  split at hv
  · rename_i xs ys hx hy
    split at hv
    · cases hv
    rename_i hgd
    rw [Option.map_eq_some_iff] at hv
    obtain ⟨r, hr, rfl⟩ := hv
    have ex := opnd_eval RH RT hx
    have ey := opnd_eval RH RT hy
    simp only [V.conc] at ex ey
    have hq := eqIn_sound c.P 12 9988 T _ _ r w hr
    refine ⟨?_, rfl⟩
    generalize a.eval = g at ex ey ⊢
    have hG : ∀ q, (q = .eql ∨ q = .neq) → (eqGuard q T x y (Value.agg xs) (Value.agg ys)).run c.P w = .ok () w := fun q hq => by
      rcases hq with rfl | rfl <;> (simp only [eqGuard, Sem.run_bind, Bool.not_true, Bool.false_eq_true, if_false, show ∀ w, (Sem.run c.P (program : Sem Program) w) = .ok c.P w from fun _ => rfl, Result.andThen_ok]; rw [if_pos (by simpa using hgd)]; rfl)
    simp [execOp, go_sem, ex, ey, binOp, Op.equal, Op.maxDepth, hq, hG, V.conc]
  · rename_i xs ys hx hy
    split at hv
    · cases hv
    rename_i hgd
    rw [Option.map_eq_some_iff] at hv
    obtain ⟨r, hr, rfl⟩ := hv
    have ex := opnd_eval RH RT hx
    have ey := opnd_eval RH RT hy
    simp only [V.conc] at ex ey
    have hq := eqIn_sound c.P 12 9988 T _ _ r w hr
    refine ⟨?_, rfl⟩
    generalize a.eval = g at ex ey ⊢
    have hG : ∀ q, (q = .eql ∨ q = .neq) → (eqGuard q T x y (Value.agg xs) (Value.agg ys)).run c.P w = .ok () w := fun q hq => by
      rcases hq with rfl | rfl <;> (simp only [eqGuard, Sem.run_bind, Bool.not_true, Bool.false_eq_true, if_false, show ∀ w, (Sem.run c.P (program : Sem Program) w) = .ok c.P w from fun _ => rfl, Result.andThen_ok]; rw [if_pos (by simpa using hgd)]; rfl)
    simp [execOp, go_sem, ex, ey, binOp, Op.equal, Op.maxDepth, hq, hG, V.conc]
  · cases hv
theorem addr_add (b off n : Nat) : (⟨b, off, none⟩ : Addr).add n = ⟨b, off + n, none⟩ := by
  unfold Addr.add
  split
  · rename_i h0; subst h0; rfl
  · rfl
section
variable {dst : Option Tmp} {ty : TypeId} {pos : String} {after : Array Edge} {guard : Option (Nat × Bool)}
theorem len_run (RH : RelH c ρ h w) (RT : RelT ρ h.length t a) {args : Array Operand} {ats : Array TypeId} {v : V} (hv : lenV c t args ats = some v) :
    (execOp a.eval ⟨dst, .call ⟨.builtin .len, args, ats⟩, ty, pos, after, guard⟩).run c.P w = .ok (.value (v.conc ρ)) w ∧ v.under h.length = true := by
  unfold lenV at hv
  split at hv
  · rename_i x T hargs hT
    split at hv
    · rename_i b off l cp e hx hu
      simp only [Option.some.injEq] at hv
      subst hv
      refine ⟨?_, rfl⟩
      have ex := opnd_eval RH RT hx
      simp only [V.conc] at ex
      have ha : args = #[x] := by apply Array.toList_inj.1; simpa using hargs
      subst ha
      generalize a.eval = g at ex ⊢
      simp [execOp, resolve, go_sem, invoke, builtin, Builtin.len_, hT, ex, pureRun_run hu, V.conc]
    · cases hv
  · cases hv
theorem index_run (RH : RelH c ρ h w) (RT : RelT ρ h.length t a) {T : TypeId} {x ix : Operand} {v : V} {cons : List Prop} (hv : indexV c t T x ix = some (v, cons)) (hc : ∀ p ∈ cons, p) :
    (execOp a.eval ⟨dst, .indexAddr T x ix, ty, pos, after, guard⟩).run c.P w = .ok (.value (v.conc ρ)) w ∧ v.under h.length = true := by
  unfold indexV at hv
  split at hv
  · rename_i b off l cp k i e hx hi hu
    split at hv
    · rename_i n hn
      simp only [Option.some.injEq, Prod.mk.injEq] at hv
      obtain ⟨rfl, rfl⟩ := hv
      obtain ⟨h1, h2⟩ := hc _ (List.mem_singleton.2 rfl)
      refine ⟨?_, (by have := opnd_under RH RT hx; simpa [V.under] using this)⟩
      have ex := opnd_eval RH RT hx
      have ei := opnd_eval RH RT hi
      simp only [V.conc] at ex ei
      generalize a.eval = g at ex ei ⊢
      simp [execOp, Instr.indexAt, asIntOf, go_sem, ex, ei, pureRun_run hu, pureRun_run hn, h1, h2, addr_add, V.conc]
    · cases hv
  · rename_i b off k i l e hx hi hu
    split at hv
    · rename_i n hn
      simp only [Option.some.injEq, Prod.mk.injEq] at hv
      obtain ⟨rfl, rfl⟩ := hv
      obtain ⟨h1, h2⟩ := hc _ (List.mem_singleton.2 rfl)
      refine ⟨?_, (by have := opnd_under RH RT hx; simpa [V.under] using this)⟩
      have ex := opnd_eval RH RT hx
      have ei := opnd_eval RH RT hi
      simp only [V.conc] at ex ei
      generalize a.eval = g at ex ei ⊢
      simp [execOp, Instr.indexAt, asIntOf, Instr.sureAddr, go_sem, ex, ei, pureRun_run hu, pureRun_run hn, h1, h2, addr_add, V.conc]
    · cases hv
  · cases hv
theorem lit_run {P : Program} {g : Operand → Value} (hP : c.P = P) {T : TypeId} {len : Nat} {parts : Array (Nat × Operand)} {e : TypeId} {cells : Array Value} (hl : litCells c T len (parts.map fun (i, x) => (i, g x)).toList = some (e, cells)) :
    (execOp g ⟨dst, .buildSlice T len parts, ty, pos, after, guard⟩).run P w = .ok (.value (.slice (some ⟨w.heap.size, 0, none⟩) len len)) (w.alloc (.cells cells e)) := by
  subst hP
  unfold litCells at hl
  split at hl
  · rename_i e' hu
    split at hl
    · rename_i n z hn hz
      split at hl
      · cases hl
      · rename_i hlen
        rw [not_or] at hlen
        obtain ⟨h1, h2⟩ := hlen
        split at hl
        · rename_i cells' hf
          simp only [Option.some.injEq, Prod.mk.injEq] at hl
          obtain ⟨rfl, rfl⟩ := hl
          simp only [execOp, Instr.buildSlice]
          generalize (parts.map fun (i, x) => (i, g x)) = ps at hf ⊢
          simp [go_sem, pureRun_run hu, pureRun_run hn, h1, h2]
          rw [pureRun_run hz]
          simp only [Result.andThen_ok]
          unfold Value.cells at hf
          simp only [hf]
          simp [go_sem]
        · cases hl
    · cases hl
  · cases hl
end

theorem evOp_sound {cf : CallF} (hcf : CallOk c cf) (hfn : ∀ f, c.fns f = true → Callable c.P f) {ans : List Ans} {o : Oper} {out : Out} (he : evOp c cf lim t h ans o = some out) (hc : ∀ p ∈ out.cons, p)
    (RH : RelH c ρ h w) (RT : RelT ρ h.length t a) (hL : c.L ≤ lim) {K : Act → World → Prop} {Q : Exit → Act → World → Prop}
    (hK : ∀ ρ' w', ρ'.unk = ρ.unk → RelH c ρ' out.h w' → Fr lim ρ h w ρ' out.h w' → out.v.under out.h.length = true → K (a.put o.dst (out.v.conc ρ')) w') : o.wp c.P a w K Q := by
  obtain ⟨dst, op, ty, pos, after, guard⟩ := o
  have plain : ∀ {v : V}, out.v = v → out.h = h → v.under h.length = true → (execOp a.eval ⟨dst, op, ty, pos, after, guard⟩).run c.P w = .ok (.value (v.conc ρ)) w → Oper.wp c.P ⟨dst, op, ty, pos, after, guard⟩ a w K Q := fun {v} e1 e2 hu hr => by
    refine value_step hr ?_
    subst e1
    refine hK ρ w rfl ?_ ?_ ?_
    · rw [e2]; exact RH
    · rw [e2]; exact Fr.refl lim ρ h w
    · rw [e2]; exact hu
  have gen : evGen c t h ans ⟨dst, op, ty, pos, after, guard⟩ = some out → Oper.wp c.P ⟨dst, op, ty, pos, after, guard⟩ a w K Q := fun h1 => by
    unfold evGen at h1
    dsimp only at h1
    split at h1
    · rename_i v cons hb
      simp only [Option.some.injEq] at h1
      subst h1
      obtain ⟨hr, hu⟩ := bare_run RH RT (o := ⟨dst, op, ty, pos, after, guard⟩) hb hc
      exact plain rfl rfl hu hr
    · split at h1
      · rename_i l hl
        split at h1
        · rename_i hall
          split at h1
          · rename_i v hp
            simp only [Option.some.injEq] at h1
            subst h1
            have hcong : execOp (rawOf c t) ⟨dst, op, ty, pos, after, guard⟩ = execOp a.eval ⟨dst, op, ty, pos, after, guard⟩ :=
              execOp_congr (o := ⟨dst, op, ty, pos, after, guard⟩) hl fun x hx => rawOf_eval RH RT (List.all_eq_true.1 hall x hx)
            rw [hcong] at hp
            exact plain rfl rfl rfl (pureRun_run hp w)
          · cases h1
        · cases h1
      · cases h1
  cases op with
  | move x =>
    simp only [evOp] at he
    split at he
    · rename_i v hv
      simp only [Option.some.injEq] at he
      subst he
      refine plain rfl rfl (opnd_under RH RT hv) ?_
      rw [← opnd_eval RH RT hv]
      rfl
    · cases he
  | assign x =>
    simp only [evOp] at he
    split at he
    · rename_i v hv
      simp only [Option.some.injEq] at he
      subst he
      refine plain rfl rfl (opnd_under RH RT hv) ?_
      rw [← opnd_eval RH RT hv]
      rfl
    · cases he
  | pick x y z =>
    simp only [evOp] at he
    split at he
    · rename_i b q ans' hx
      split at he
      · rename_i v hv
        simp only [Option.some.injEq] at he
        subst he
        have hbq : b = q := hc _ (List.mem_singleton.2 rfl)
        subst hbq
        have ex := opnd_eval RH RT hx
        simp only [V.conc] at ex
        refine plain rfl rfl (opnd_under RH RT hv) ?_
        have ev := opnd_eval RH RT hv
        rw [← ev]
        generalize a.eval = g at ex ⊢
        cases b <;> simp [execOp, go_sem, ex, asBool]
      · cases he
    · cases he
  | alloc T =>
    simp only [evOp] at he
    split at he
    · rename_i z hz
      simp only [Option.some.injEq] at he
      subst he
      have hr : (execOp a.eval ⟨dst, .alloc T, ty, pos, after, guard⟩).run c.P w = .ok (.value (.pointer (some ⟨w.heap.size, 0, none⟩))) (w.alloc (.cells z.cells T)) := by
        generalize a.eval = g
        have hz' := pureRun_run hz
        simp only [execOp, Instr.alloc, newVar, newRow, newObj]
        generalize zeroValue T = s at hz' ⊢
        simp [go_sem, hz']
        rfl
      unfold Oper.wp
      rw [hr]
      have hA := relH_alloc RH (xs := z.cells.toList.map .raw) (ty := T) (unders_raw _ _)
      rw [concs_raw] at hA
      have := hK (ρ.push h.length w.heap.size) (w.alloc (.cells z.cells T)) rfl hA fr_alloc (by simp [V.under])
      show K (a.put dst (.pointer (some ⟨w.heap.size, 0, none⟩))) (w.alloc (.cells z.cells T))
      simpa [V.conc, Ren.push] using this
    · cases he
  | box T x =>
    simp only [evOp] at he
    split at he
    · rename_i xs hxs
      obtain ⟨v, hv, hcv⟩ := Option.bind_eq_some_iff.1 hxs
      simp only [Option.some.injEq] at he
      subst he
      have ex := opnd_eval RH RT hv
      have hcs := cellsV_conc ρ hcv
      have hr : (execOp a.eval ⟨dst, .box T x, ty, pos, after, guard⟩).run c.P w = .ok (.value (.pointer (some ⟨w.heap.size, 0, none⟩))) (w.alloc (.cells (concs ρ xs).toArray T)) := by
        have e : (concs ρ xs).toArray = (a.eval x).cells := by rw [ex]; apply Array.toList_inj.1; rw [hcs]
        rw [e]
        generalize a.eval = g
        simp only [execOp, Instr.box, newVar, newRow, newObj]
        generalize (g x).cells = q
        simp [go_sem]
        rfl
      unfold Oper.wp
      rw [hr]
      have hA := relH_alloc RH (xs := xs) (ty := T) (cellsV_under hcv (opnd_under RH RT hv))
      have := hK (ρ.push h.length w.heap.size) (w.alloc (.cells (concs ρ xs).toArray T)) rfl hA fr_alloc (by simp [V.under])
      show K (a.put dst (.pointer (some ⟨w.heap.size, 0, none⟩))) (w.alloc (.cells (concs ρ xs).toArray T))
      simpa [V.conc, Ren.push] using this
    · cases he
  | load T x =>
    simp only [evOp] at he
    split at he
    · rename_i b off hx
      split at he
      · rename_i v hv
        simp only [Option.some.injEq] at he
        subst he
        have ex := opnd_eval RH RT hx
        simp only [V.conc] at ex
        obtain ⟨hl, hu⟩ := load_conc RH hv
        refine plain rfl rfl hu ?_
        generalize a.eval = g at ex ⊢
        have e : execOp g ⟨dst, .load T x, ty, pos, after, guard⟩ = (do let q ← loadVar T ⟨ρ.blk b, off, none⟩; pure (Next.value q)) := by simp only [execOp, Instr.loadAt, Instr.sureAddr, ex]; rfl
        rw [e]
        generalize loadVar T ⟨ρ.blk b, off, none⟩ = s at hl ⊢
        simp [go_sem, hl]
      · cases he
    · cases he
  | store T x y =>
    simp only [evOp] at he
    split at he
    · rename_i b off v hx hy
      split at he
      · rename_i h' hs
        simp only [Option.some.injEq] at he
        subst he
        have ex := opnd_eval RH RT hx
        have ey := opnd_eval RH RT hy
        simp only [V.conc] at ex
        obtain ⟨w', h1, h2, h3⟩ := store_conc RH hL hs
        have hr : (execOp a.eval ⟨dst, .store T x y, ty, pos, after, guard⟩).run c.P w = .ok .skip w' := by
          rw [← ey] at h1
          generalize a.eval = g at ex h1 ⊢
          have e : execOp g ⟨dst, .store T x y, ty, pos, after, guard⟩ = (do storeVar T ⟨ρ.blk b, off, none⟩ (g y); pure Next.skip) := by simp only [execOp, Instr.storeAt, Instr.sureAddr, ex]; rfl
          rw [e]
          generalize storeVar T ⟨ρ.blk b, off, none⟩ (g y) = s at h1 ⊢
          simp [go_sem, h1]
        unfold Oper.wp
        rw [hr]
        exact hK ρ w' rfl h2 h3 rfl
      · cases he
    · cases he
  | fieldAddr s x f =>
    simp only [evOp] at he
    split at he
    · rename_i b off d hx hd
      simp only [Option.some.injEq] at he
      subst he
      have ex := opnd_eval RH RT hx
      have hu := opnd_under RH RT hx
      simp only [V.conc] at ex
      have hf := field_conc (ρ := ρ) (b := b) (off := off) hd w
      refine plain rfl rfl hu ?_
      generalize a.eval = g at ex ⊢
      simp only [execOp, ex]
      generalize Instr.fieldAt s (.pointer (some ⟨ρ.blk b, off, none⟩)) f = s at hf ⊢
      simp [go_sem]
      rw [hf]; rfl
    · cases he
  | nilCheck x =>
    simp only [evOp] at he
    split at he
    · rename_i b off hx
      simp only [Option.some.injEq] at he
      subst he
      have ex := opnd_eval RH RT hx
      simp only [V.conc] at ex
      refine plain rfl rfl (opnd_under RH RT hx) ?_
      generalize a.eval = g at ex ⊢
      simp [execOp, go_sem, ex, V.conc]
    · rename_i f y z hx
      simp only [Option.some.injEq] at he
      subst he
      have ex := opnd_eval RH RT hx
      simp only [V.conc] at ex
      refine plain rfl rfl (opnd_under RH RT hx) ?_
      generalize a.eval = g at ex ⊢
      simp [execOp, go_sem, ex, V.conc]
    · cases he
  | makeFunc f x y =>
    simp only [evOp] at he
    split at he
    · rename_i xs ys hx hy
      simp only [Option.some.injEq] at he
      subst he
      obtain ⟨e1, u1⟩ := opnds_ok RH RT _ _ hx
      obtain ⟨e2, u2⟩ := opnds_ok RH RT _ _ hy
      refine plain rfl rfl (by simp [V.under, u1, u2]) ?_
      have k1 : x.map a.eval = (concs ρ xs).toArray := by apply Array.toList_inj.1; simpa using e1
      have k2 : y.map a.eval = (concs ρ ys).toArray := by apply Array.toList_inj.1; simpa using e2
      generalize a.eval = g at k1 k2 ⊢
      simp [execOp, go_sem, Instr.makeFunc, V.conc, k1, k2]
    · cases he
  | indexAddr T x ix =>
    simp only [evOp] at he
    split at he
    · rename_i v cons hv
      simp only [Option.some.injEq] at he
      subst he
      obtain ⟨hr, hu⟩ := index_run (dst := dst) (ty := ty) (pos := pos) (after := after) (guard := guard) RH RT hv hc
      exact plain rfl rfl hu hr
    · cases he
  | buildSlice T len parts =>
    simp only [evOp] at he
    split at he
    · rename_i hall
      split at he
      · rename_i e cells hl
        simp only [Option.some.injEq] at he
        subst he
        have hp : parts.toList.map (fun p => (p.1, rawOf c t p.2)) = (parts.map fun (i, x) => (i, a.eval x)).toList := by
          rw [Array.toList_map]
          refine List.map_congr_left fun p hp => ?_
          rw [rawOf_eval RH RT (List.all_eq_true.1 hall p hp)]
        rw [hp] at hl
        have hr := lit_run (P := c.P) (g := a.eval) (w := w) (dst := dst) (ty := ty) (pos := pos) (after := after) (guard := guard) (c := c) rfl hl
        unfold Oper.wp
        rw [hr]
        have hA := relH_alloc RH (xs := cells.toList.map .raw) (ty := e) (unders_raw _ _)
        rw [concs_raw] at hA
        have := hK (ρ.push h.length w.heap.size) (w.alloc (.cells cells e)) rfl hA fr_alloc (by simp [V.under])
        show K (a.put dst (.slice (some ⟨w.heap.size, 0, none⟩) len len)) (w.alloc (.cells cells e))
        simpa [V.conc, Ren.push] using this
      · cases he
    · cases he
  | call k =>
    obtain ⟨callee, args, ats⟩ := k
    cases callee with
    | value f =>
      simp only [evOp] at he
      split at he
      · rename_i g first cap xs hx hxs
        split at he
        · rename_i hcal
          have ex := opnd_eval RH RT hx
          have hu := opnd_under RH RT hx
          simp only [V.conc] at ex
          simp only [V.under, Bool.and_eq_true] at hu
          obtain ⟨e1, u1⟩ := opnds_ok RH RT _ _ hxs
          have hcall := hcf _ _ _ _ _ _ he hc hL ρ w RH (unders_append (unders_append hu.1 u1) hu.2)
          refine calls_step ex (hfn g hcal) (fun v w' => ∃ ρ', ρ'.unk = ρ.unk ∧ v = out.v.conc ρ' ∧ RelH c ρ' out.h w' ∧ Fr lim ρ h w ρ' out.h w' ∧ out.v.under out.h.length = true) ?_ ?_
          · rw [e1, ← concs_append, ← concs_append]
            refine hcall.mono fun e w' he' => ?_
            obtain ⟨ρ', k1, k2, k3⟩ := he'
            exact ⟨_, k2, ρ', k1, rfl, k3⟩
          · rintro v w' ⟨ρ', k1, rfl, k3, k4, k5⟩
            exact hK ρ' w' k1 k3 k4 k5
        · cases he
      · cases he
    | invoke x n => exact gen he
    | builtin b =>
      cases b with
      | len =>
        simp only [evOp] at he
        split at he
        · rename_i v hv
          simp only [Option.some.injEq] at he
          subst he
          obtain ⟨hr, hu⟩ := len_run (dst := dst) (ty := ty) (pos := pos) (after := after) (guard := guard) RH RT hv
          exact plain rfl rfl hu hr
        · exact gen he
      | _ => exact gen he
  | binOp b T x y U =>
    simp only [evOp] at he
    split at he
    · rename_i v hv
      simp only [Option.some.injEq] at he
      subst he
      obtain ⟨hr, hu⟩ := eqV_run (dst := dst) (ty := ty) (pos := pos) (after := after) (guard := guard) (U := U) RH RT hv
      exact plain rfl rfl hu hr
    · exact gen he
  | _ => exact gen he
end
end Go.Proofs.Ytlgabdamgalngaa.E
