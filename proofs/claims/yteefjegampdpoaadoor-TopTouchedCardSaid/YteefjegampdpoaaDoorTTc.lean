/-
  Part of a claim: the reckoner and contracts.
-/
import Derived.Test.YteefjegampdpoaaDoorTTb
set_option linter.unusedVariables false
set_option linter.unusedSimpArgs false
set_option maxRecDepth 100000
section
namespace Go.Proofs.YteefjegampdpoaaDoor.E
open Go Go.RowKit
inductive V where
  | raw (v : Value)
  | any (k : Nat)
  | ptr (b off : Nat)
  | slc (b off len cap : Nat)
  | fn (f : Fn) (first cap : List V)
  | agg (l : List V)
  | tup (l : List V)
  | lit (b : Bool)
structure Ren where
  blk : Nat → Nat
  unk : Nat → Value
mutual
def V.conc (ρ : Ren) : V → Value
  | .raw v => v
  | .any k => ρ.unk k
  | .ptr b o => .pointer (some ⟨ρ.blk b, o, none⟩)
  | .slc b o l c => .slice (some ⟨ρ.blk b, o, none⟩) l c
  | .fn f x y => .func f (concs ρ x).toArray (concs ρ y).toArray
  | .agg l => .agg (concs ρ l).toArray
  | .tup l => .tuple (concs ρ l).toArray
  | .lit b => .bool b
def concs (ρ : Ren) : List V → List Value
  | [] => []
  | x :: l => x.conc ρ :: concs ρ l
end
mutual
def V.under (n : Nat) : V → Bool
  | .raw _ => true
  | .any _ => false
  | .ptr b _ => decide (b < n)
  | .slc b _ _ _ => decide (b < n)
  | .fn _ x y => unders n x && unders n y
  | .agg l => unders n l
  | .tup l => unders n l
  | .lit _ => true
def unders (n : Nat) : List V → Bool
  | [] => true
  | x :: l => x.under n && unders n l
end
def V.slotOk (n : Nat) : V → Bool
  | .any _ => true
  | v => v.under n
structure Blk where
  cells : List V
  ty : TypeId
abbrev Heap := List (Option Blk)
structure Cfg where
  P : Program
  /-- The blocks that were there. -/
  H0 : Heap
  /-- Below this name lie blocks that were there. -/
  L : Nat
  /-- Package variables that have names. -/
  G : List (Nat × Nat)
  /-- Sums stay bare, and their range is owed. -/
  bare : Bool
  /-- Functions that can be entered. -/
  fns : FuncId → Bool
inductive Ex where
  | normal
  | exit (id : Nat)
  | ret
def Ex.to : Ex → Exit
  | .normal => .normal
  | .exit id => .exit id
  | .ret => .ret
inductive Ans where
  | br (b : Bool)
  | go
  | ret (v : V)
  | reth (v : V) (h : Heap)
  | loop (e : Ex) (t : List V) (h : Heap)
  | olds (l : List (Nat × Nat))
  | val (b : Nat) (v : V)
  | cells (b : Nat) (l : List V)
def cellsV : V → Option (List V)
  | .raw v => some (v.cells.toList.map .raw)
  | .any _ => none
  | .agg l => some l
  | .tup _ => none
  | x => some [x]
def raws : List V → Option (List Value)
  | [] => some []
  | .raw v :: l => (raws l).map (v :: ·)
  | _ :: _ => none
def mkAgg (l : List V) : V := match raws l with
  | some vs => .raw (.agg vs.toArray)
  | none => .agg l
def mkTup (l : List V) : V := match raws l with
  | some vs => .raw (.tuple vs.toArray)
  | none => .tup l
def pureRun (P : Program) {α : Type} : Sem α → Option α
  | .pure a => some a
  | .program k => pureRun P (k P)
  | .mark _ k => pureRun P k
  | _ => none
theorem pureRun_run {P : Program} {α : Type} {s : Sem α} {x : α} (h : pureRun P s = some x) (w : World) : s.run P w = .ok x w := by
  induction s with
  | pure a => simp only [pureRun, Option.some.injEq] at h; subst h; rfl
  | program k ih => exact ih P h
  | mark m k ih => exact ih h
  | _ => simp [pureRun] at h
def inR (k : IntKind) (n : Int) : Prop := k.wrap n = n
def opnd (c : Cfg) (t : List V) : Operand → Option V
  | .tmp s => match t[s]? with
    | some (.any _) => none
    | some (.lit b) => some (.raw (.bool b))
    | r => r
  | .const v => some (.raw v)
  | .func f => some (.fn (.func f) [] [])
  | .global g => match c.G.find? (fun p => p.1 == g) with
    | some p => some (.ptr p.2 0)
    | none => none
def rawOf (c : Cfg) (t : List V) (x : Operand) : Value := match opnd c t x with
  | some (.raw v) => v
  | _ => undef
def isRaw (c : Cfg) (t : List V) (x : Operand) : Bool := match opnd c t x with
  | some (.raw _) => true
  | _ => false
def plainOpnds : Op → Option (List Operand)
  | .binOp _ _ x y _ => some [x, y]
  | .unOp _ _ x => some [x]
  | .convert _ _ x => some [x]
  | .field _ x _ => some [x]
  | .index _ x ix => some [x, ix]
  | .extract t _ => some [t]
  | .build _ parts => some (parts.toList.map (·.2))
  | .call ⟨.builtin _, args, _⟩ => some args.toList
  | _ => none
structure Out where
  v : V
  h : Heap
  ans : List Ans
  cons : List Prop
def putAt (cs : List V) (off : Nat) (xs : List V) : List V := cs.take off ++ xs ++ cs.drop (off + xs.length)
def bareOp (o : Op) (c : Cfg) (t : List V) : Option (V × List Prop) :=
  if c.bare then
    match o with
    | .binOp b _ x y _ =>
      match opnd c t x, opnd c t y with
      | some (.raw (.int k a)), some (.raw (.int k' d)) =>
        if k = k' then
          match b with
          | .add => some (.raw (.int k (a + d)), [inR k (a + d)])
          | .sub => some (.raw (.int k (a - d)), [inR k (a - d)])
          | .mul => some (.raw (.int k (a * d)), [inR k (a * d)])
          | .quo => some (.raw (.int k (a.tdiv d)), [d ≠ 0, inR k (a.tdiv d)])
          | .rem => some (.raw (.int k (a.tmod d)), [d ≠ 0])
          | _ => none
        else none
      | _, _ => none
    | .unOp .neg _ x =>
      match opnd c t x with
      | some (.raw (.int k a)) => some (.raw (.int k (-a)), [inR k (-a)])
      | _ => none
    | .convert src dst x =>
      match opnd c t x with
      | some (.raw (.int k0 a)) =>
        match pureRun c.P (underlying src), pureRun c.P (underlying dst) with
        | some (.int _), some (.int k) => some (.raw (.int k a), [inR k a])
        | _, _ => none
      | _ => none
    | _ => none
  else none
def loadV (c : Cfg) (h : Heap) (t : TypeId) (b off : Nat) : Option V :=
  match h[b]?, pureRun c.P (isAgg t), pureRun c.P (Go.sizeOf t) with
  | some (some B), some true, some n => if off + n ≤ B.cells.length then some (mkAgg ((B.cells.drop off).take n)) else none
  | some (some B), some false, _ => B.cells[off]?
  | _, _, _ => none
def oneCells : List V → Bool
  | [] => true
  | .raw (.agg _) :: _ => false
  | .raw (.tuple _) :: _ => false
  | .any _ :: _ => false
  | .agg _ :: _ => false
  | .tup _ :: _ => false
  | _ :: l => oneCells l
def storeV (c : Cfg) (lim : Nat) (h : Heap) (t : TypeId) (b off : Nat) (x : V) : Option Heap :=
  match h[b]?, cellsV x, pureRun c.P (Go.sizeOf t) with
  | some (some B), some xs, some n =>
    if lim ≤ b ∧ xs.length = n ∧ off + xs.length ≤ B.cells.length ∧ oneCells xs = true ∧ unders h.length xs = true then some (h.set b (some { B with cells := putAt B.cells off xs })) else none
  | _, _, _ => none
def fieldOff (c : Cfg) (s : TypeId) (f : Nat) : Option Nat :=
  match pureRun c.P (underlying s) with
  | some (.struct fields) => match fields[f]? with
    | some fd => match pureRun c.P (Go.sizeOf fd.type) with
      | some n => if n = 0 then none else some fd.offset
      | none => none
    | none => none
  | _ => none
abbrev CallF := FuncId → List V → Heap → Nat → List Ans → Option Out
def opnds (c : Cfg) (t : List V) : List Operand → Option (List V)
  | [] => some []
  | x :: l => match opnd c t x, opnds c t l with
    | some v, some vs => some (v :: vs)
    | _, _ => none
def evGen (c : Cfg) (t : List V) (h : Heap) (ans : List Ans) (o : Oper) : Option Out :=
  match bareOp o.op c t with
  | some (v, cons) => some ⟨v, h, ans, cons⟩
  | none => match plainOpnds o.op with
    | some l => if l.all (isRaw c t) then
        match pureRun c.P (execOp (rawOf c t) o) with
        | some (.value v) => some ⟨.raw v, h, ans, []⟩
        | _ => none
      else none
    | none => none
def lenV (c : Cfg) (t : List V) (args : Array Operand) (ats : Array TypeId) : Option V :=
  match args.toList, ats[0]? with
  | [x], some T => match opnd c t x, pureRun c.P (underlying T) with
    | some (.slc _ _ l _), some (.slice _) => some (.raw (goInt l))
    | _, _ => none
  | _, _ => none
def indexV (c : Cfg) (t : List V) (T : TypeId) (x ix : Operand) : Option (V × List Prop) :=
  match opnd c t x, opnd c t ix, pureRun c.P (underlying T) with
  | some (.slc b off l _), some (.raw (.int _ i)), some (.slice e) => match pureRun c.P (Go.sizeOf e) with
    | some n => some (.ptr b (off + i.toNat * n), [0 ≤ i ∧ i < (l : Int)])
    | none => none
  | some (.ptr b off), some (.raw (.int _ i)), some (.array l e) => match pureRun c.P (Go.sizeOf e) with
    | some n => some (.ptr b (off + i.toNat * n), [0 ≤ i ∧ i < (l : Int)])
    | none => none
  | _, _, _ => none
def litCells (c : Cfg) (T : TypeId) (len : Nat) (parts : List (Nat × Value)) : Option (TypeId × Array Value) :=
  match pureRun c.P (underlying T) with
  | some (.slice e) => match pureRun c.P (Go.sizeOf e), pureRun c.P (zeroValue e) with
    | some n, some z => if len * n = 0 ∨ len * n > 2 ^ 24 then none else
      match Instr.fill (fun i => some (i * n, n)) (Array.map (fun x => z.cells[x % z.cells.size]!) (Array.range (len * n))) parts with
      | some cells => some (e, cells)
      | none => none
    | _, _ => none
  | _ => none
def eqFlds (P : Program) (eq : TypeId → Value → Value → Option Bool) (xs ys : Array Value) : List Field → Option Bool
  | [] => some true
  | f :: l => if f.name = "_" then eqFlds P eq xs ys l else
    match pureRun P (part f.type xs f.offset), pureRun P (part f.type ys f.offset) with
    | some x, some y => match eq f.type x y, eqFlds P eq xs ys l with
      | some p, some q => some (p && q)
      | _, _ => none
    | _, _ => none
def eqElems (P : Program) (eq : TypeId → Value → Value → Option Bool) (e : TypeId) (n : Nat) (xs ys : Array Value) : List Nat → Option Bool
  | [] => some true
  | i :: l => match pureRun P (part e xs (i * n)), pureRun P (part e ys (i * n)) with
    | some x, some y => match eq e x y, eqElems P eq e n xs ys l with
      | some p, some q => some (p && q)
      | _, _ => none
    | _, _ => none
def eqIn (P : Program) : Nat → TypeId → Value → Value → Option Bool
  | 0, _, _, _ => none
  | d + 1, t, x, y => match pureRun P (underlying t), x, y with
    | some .bool, .bool a, .bool b => some (a == b)
    | some (.int _), .int k a, .int k' b => if k = k' then some (a == b) else none
    | some (.struct fields), .agg xs, .agg ys => if P.stoodInHeld t then none else eqFlds P (eqIn P d) xs ys fields.toList
    | some (.array len e), .agg xs, .agg ys => match pureRun P (Go.sizeOf e) with
      | some n => eqElems P (eqIn P d) e n xs ys (List.range' 0 len)
      | none => none
    | _, _, _ => none
def eqV (c : Cfg) (t : List V) (b : BinOp) (T : TypeId) (x y : Operand) : Option V :=
  match b, opnd c t x, opnd c t y with
  | .eql, some (.raw (.agg xs)), some (.raw (.agg ys)) => if c.P.eqGuardType c.P.depth T then none else (eqIn c.P 12 T (.agg xs) (.agg ys)).map fun r => .raw (.bool r)
  | .neq, some (.raw (.agg xs)), some (.raw (.agg ys)) => if c.P.eqGuardType c.P.depth T then none else (eqIn c.P 12 T (.agg xs) (.agg ys)).map fun r => .raw (.bool (!r))
  | _, _, _ => none
def loadBlk (c : Cfg) (t : TypeId) (B : Blk) (off : Nat) : Option V :=
  match pureRun c.P (isAgg t), pureRun c.P (Go.sizeOf t) with
  | some true, some n => if off + n ≤ B.cells.length then some (mkAgg ((B.cells.drop off).take n)) else none
  | some false, _ => B.cells[off]?
  | _, _ => none
def storeBlk (c : Cfg) (names : Nat) (t : TypeId) (B : Blk) (off : Nat) (x : V) : Option (List V) :=
  match cellsV x, pureRun c.P (Go.sizeOf t) with
  | some xs, some n => if xs.length = n ∧ off + xs.length ≤ B.cells.length ∧ oneCells xs = true ∧ unders names xs = true then some (putAt B.cells off xs) else none
  | _, _ => none
def loadA (c : Cfg) (h : Heap) (ty : TypeId) (b off : Nat) (ans : List Ans) : Option (V × List Ans × List Prop) :=
  match ans with
  | .val b' v :: ans' => if b' = b then match h[b]? with
      | some (some B) => some (v, ans', [loadBlk c ty B off = some v])
      | _ => none
    else (loadV c h ty b off).map fun v => (v, ans, [])
  | _ => (loadV c h ty b off).map fun v => (v, ans, [])
def storeA (c : Cfg) (lim : Nat) (h : Heap) (ty : TypeId) (b off : Nat) (x : V) (ans : List Ans) : Option (Heap × List Ans × List Prop) :=
  match ans with
  | .cells b' cs :: ans' => if b' = b then match h[b]? with
      | some (some B) => if lim ≤ b then some (h.set b (some { B with cells := cs }), ans', [storeBlk c h.length ty B off x = some cs]) else none
      | _ => none
    else (storeV c lim h ty b off x).map fun h' => (h', ans, [])
  | _ => (storeV c lim h ty b off x).map fun h' => (h', ans, [])
def evOp (c : Cfg) (cf : CallF) (lim : Nat) (t : List V) (h : Heap) (ans : List Ans) (o : Oper) : Option Out :=
  match o.op with
  | .move x => match opnd c t x with
    | some v => some ⟨v, h, ans, []⟩
    | none => none
  | .assign x => match opnd c t x with
    | some v => some ⟨v, h, ans, []⟩
    | none => none
  | .pick x y z => match opnd c t x, ans with
    | some (.raw (.bool b)), .br q :: ans' => match opnd c t (if q then y else z) with
      | some v => some ⟨v, h, ans', [b = q]⟩
      | none => none
    | _, _ => none
  | .alloc ty => match pureRun c.P (zeroValue ty) with
    | some z => some ⟨.ptr h.length 0, h ++ [some ⟨z.cells.toList.map .raw, ty⟩], ans, []⟩
    | none => none
  | .box ty x => match (opnd c t x).bind cellsV with
    | some xs => some ⟨.ptr h.length 0, h ++ [some ⟨xs, ty⟩], ans, []⟩
    | none => none
  | .load ty x => match opnd c t x with
    | some (.ptr b off) => match loadA c h ty b off ans with
      | some (v, ans', cons) => some ⟨v, h, ans', cons⟩
      | none => none
    | _ => none
  | .store ty x y => match opnd c t x, opnd c t y with
    | some (.ptr b off), some v => match storeA c lim h ty b off v ans with
      | some (h', ans', cons) => some ⟨.raw undef, h', ans', cons⟩
      | none => none
    | _, _ => none
  | .fieldAddr s x f => match opnd c t x, fieldOff c s f with
    | some (.ptr b off), some d => some ⟨.ptr b (off + d), h, ans, []⟩
    | _, _ => none
  | .nilCheck x => match opnd c t x with
    | some (.ptr b off) => some ⟨.ptr b off, h, ans, []⟩
    | some (.fn (.func f) x y) => some ⟨.fn (.func f) x y, h, ans, []⟩
    | _ => none
  | .makeFunc f x y => match opnds c t x.toList, opnds c t y.toList with
    | some xs, some ys => some ⟨.fn f xs ys, h, ans, []⟩
    | _, _ => none
  | .call ⟨.value f, args, _⟩ => match opnd c t f, opnds c t args.toList with
    | some (.fn (.func f) first cap), some xs => if c.fns f then cf f (first ++ xs ++ cap) h lim ans else none
    | _, _ => none
  | .call ⟨.builtin .len, args, ats⟩ => match lenV c t args ats with
    | some v => some ⟨v, h, ans, []⟩
    | none => evGen c t h ans o
  | .indexAddr T x ix => match indexV c t T x ix with
    | some (v, cons) => some ⟨v, h, ans, cons⟩
    | none => none
  | .buildSlice T len parts => if parts.toList.all (fun p => isRaw c t p.2) then
      match litCells c T len (parts.toList.map fun p => (p.1, rawOf c t p.2)) with
      | some (e, cells) => some ⟨.slc h.length 0 len len, h ++ [some ⟨cells.toList.map .raw, e⟩], ans, []⟩
      | none => none
    else none
  | .makeSlice T l cp => match opnd c t l, opnd c t cp, c.P.underlying T with
    | some (.raw (.int _ n)), some (.raw (.int _ m)), some (.slice e) => match c.P.info? e with
      | some i => match i.zero with
        | some z => some ⟨.slc h.length 0 n.toNat m.toNat, h ++ [some ⟨(madeCells z.cells (m.toNat * i.size)).toList.map .raw, e⟩], ans, [0 ≤ n ∧ n ≤ m ∧ (i.bytes : Int) * m ≤ 281474976710656 ∧ m ≤ 9223372036854775807]⟩
        | none => none
      | none => none
    | _, _, _ => none
  | .binOp b T x y _ => match eqV c t b T x y with
    | some v => some ⟨v, h, ans, []⟩
    | none => evGen c t h ans o
  | _ => evGen c t h ans o
def putT (t : List V) (d : Option Nat) (v : V) : List V := match d with
  | some d => t.set d v
  | none => t
structure GOut where
  want : Bool
  t : List V
  ans : List Ans
  cons : List Prop
def evGuard (ops : Array Oper) (t : List V) (ans : List Ans) (o : Oper) : Option GOut :=
  match o.guard with
  | none => some ⟨true, t, ans, []⟩
  | some (j, want) => match (ops[j]?).bind (·.dst) with
    | some d => match t[d]? with
      | some (.lit b) => some ⟨b == want, t, ans, []⟩
      | some (.raw (.bool b)) => match ans with
        | .br q :: ans' => some ⟨q == want, t.set d (.lit q), ans', [b = q]⟩
        | _ => none
      | some (.raw (.tuple _)) => some ⟨false, t, ans, []⟩
      | _ => none
    | none => none
structure ROut where
  t : List V
  h : Heap
  ans : List Ans
  cons : List Prop
def evOps (c : Cfg) (cf : CallF) (lim : Nat) (ops : Array Oper) : List Oper → List V → Heap → List Ans → Option ROut
  | [], t, h, ans => some ⟨t, h, ans, []⟩
  | o :: rest, t, h, ans => match evGuard ops t ans o with
    | none => none
    | some g => if g.want then
        match evOp c cf lim g.t h g.ans o with
        | none => none
        | some r => match evOps c cf lim ops rest (putT g.t o.dst r.v) r.h r.ans with
          | none => none
          | some q => some { q with cons := g.cons ++ (r.cons ++ q.cons) }
      else match evOps c cf lim ops rest (putT g.t o.dst (.raw undef)) h g.ans with
        | none => none
        | some q => some { q with cons := g.cons ++ q.cons }
inductive AItem where
  | val (v : V)
  | new (T : TypeId) (z : List V)
  | put (k : Nat) (cs : List V)
  | old (b : Nat) (T : TypeId) (cs : List V)
  | skip
def AItem.to (ρ : Ren) : AItem → R.Item
  | .val v => .val (v.conc ρ)
  | .new T z => .new T (concs ρ z).toArray
  | .put k cs => .put k (concs ρ cs).toArray
  | .old b T cs => .old (ρ.blk b) T (concs ρ cs).toArray
  | .skip => .skip
def cntNew : List AItem → Nat
  | [] => 0
  | .new _ _ :: l => cntNew l + 1
  | _ :: l => cntNew l
def AItem.slot (n0 : Nat) (before : List AItem) : AItem → V
  | .val v => v
  | .new _ _ => .ptr (n0 + cntNew before) 0
  | _ => .raw undef
def writer (ops : Array Oper) (s : Nat) : Option Nat := (List.range ops.size).find? (fun j => (ops[j]?.bind (·.dst)) == some s)
def bound (o : Oper) (j : Nat) : Bool := o.after.toList.any (fun e => Region.binds .any e && e.on == j)
def visible (ops : Array Oper) (its : List AItem) (o : Oper) (s : Nat) : Bool := match writer ops s with
  | none => true
  | some j => bound o j && (match its[j]? with | some (.val _) => true | _ => false)
def seen (ops : Array Oper) (its : List AItem) (o : Oper) : Operand → Bool
  | .tmp s => visible ops its o s
  | _ => true
def usedOpnds (ans : List Ans) : Op → Option (List Operand)
  | .move x => some [x]
  | .assign x => some [x]
  | .pick x y z => match ans with
    | .br q :: _ => some [x, if q then y else z]
    | _ => none
  | .load _ x => some [x]
  | .fieldAddr _ x _ => some [x]
  | .nilCheck x => some [x]
  | .indexAddr _ x ix => some [x, ix]
  | .makeFunc _ x y => some (x.toList ++ y.toList)
  | .call ⟨.value f, args, _⟩ => some (f :: args.toList)
  | .alloc _ => none
  | .box _ _ => none
  | .store _ _ _ => none
  | .buildSlice _ _ _ => none
  | o => plainOpnds o
def underO (c : Cfg) (t : List V) (n : Nat) (x : Operand) : Bool := match opnd c t x with
  | some v => v.under n
  | none => false
def killOne (h : Heap) (b : Nat) : Heap := h.set b none
def killed (L : Nat) (ops : Array Oper) (olds : List (Nat × Nat)) (i : Nat) (h : Heap) : Heap := olds.foldl (fun h p => if R.waitsFor ops p.1 i || decide (p.2 < L) then h else killOne h p.2) h
structure DOut where
  it : AItem
  ans : List Ans
  cons : List Prop
def evBody (c : Cfg) (cf : CallF) (lim : Nat) (ops : Array Oper) (h : Heap) (olds : List (Nat × Nat)) (acc : List AItem) (t : List V) (ans : List Ans) (o : Oper) : Option DOut :=
  match o.op with
  | .alloc T => match pureRun c.P (zeroValue T) with
    | some z => some ⟨.new T (z.cells.toList.map .raw), ans, []⟩
    | none => none
  | .box T x => if seen ops acc o x && underO c t h.length x then match (opnd c t x).bind cellsV with
      | some xs => some ⟨.new T xs, ans, []⟩
      | none => none
    else none
  | .store T x y => if seen ops acc o y && underO c t h.length y then
      match (opnd c t y).bind cellsV, pureRun c.P (Go.sizeOf T), x with
      | some xs, some n, .tmp d => if xs.length = n ∧ oneCells xs = true then
          match writer ops d with
          | none => match opnd c t x with
            | some (.ptr b off) => match h[b]? with
              | some (some B) => if lim ≤ b ∧ off + xs.length ≤ B.cells.length ∧ olds.contains (acc.length, b) = true then some ⟨.old b B.ty (putAt B.cells off xs), ans, []⟩ else none
              | _ => none
            | _ => none
          | some k => match acc[k]? with
            | some (.new _ z) => if xs.length = z.length then some ⟨.put k xs, ans, []⟩ else none
            | some (.val (.ptr b off)) => if bound o k then match h[b]? with
                | some (some B) => if lim ≤ b ∧ off + xs.length ≤ B.cells.length ∧ olds.contains (acc.length, b) = true then some ⟨.old b B.ty (putAt B.cells off xs), ans, []⟩ else none
                | _ => none
              else none
            | _ => none
        else none
      | _, _, _ => none
    else none
  | op => match usedOpnds ans op with
    | some l => if l.all (seen ops acc o) && l.all (underO c t h.length) then
        match evOp c cf h.length t (killed c.L ops olds acc.length h) ans o with
        | some r => if r.v.under h.length then some ⟨.val r.v, r.ans, r.cons⟩ else none
        | none => none
      else none
    | none => none
def evD1 (c : Cfg) (cf : CallF) (lim : Nat) (ops : Array Oper) (h : Heap) (olds : List (Nat × Nat)) (acc : List AItem) (t : List V) (ans : List Ans) (o : Oper) : Option DOut :=
  match o.guard with
  | none => evBody c cf lim ops h olds acc t ans o
  | some (j, want) => if bound o j && ((ops[j]?).any (·.dst.isSome)) then match acc[j]? with
      | some (.val (.raw (.bool b))) => match ans with
        | .br q :: ans' => if q == want then match evBody c cf lim ops h olds acc t ans' o with
              | some r => match r.it with
                | .skip => none
                | it => some ⟨it, r.ans, (b = q) :: r.cons⟩
              | none => none
            else some ⟨.skip, ans', [b = q]⟩
        | _ => none
      | _ => none
    else none
structure DROut where
  its : List AItem
  t : List V
  ans : List Ans
  cons : List Prop
def evDr (c : Cfg) (cf : CallF) (lim : Nat) (ops : Array Oper) (h : Heap) (olds : List (Nat × Nat)) : List AItem → List Oper → List V → List Ans → Option DROut
  | acc, [], t, ans => some ⟨acc, t, ans, []⟩
  | acc, o :: rest, t, ans => match evD1 c cf lim ops h olds acc t ans o with
    | none => none
    | some d => match evDr c cf lim ops h olds (acc ++ [d.it]) rest (putT t o.dst (d.it.slot h.length acc)) d.ans with
      | none => none
      | some r => some { r with cons := d.cons ++ r.cons }
def oldNames : List AItem → List Nat
  | [] => []
  | .old b _ _ :: l => b :: oldNames l
  | _ :: l => oldNames l
def applyOlds : List AItem → Heap → Heap
  | [], h => h
  | .old b T cs :: l, h => applyOlds l (h.set b (some ⟨cs, T⟩))
  | _ :: l, h => applyOlds l h
def putOf (its : List AItem) (k : Nat) : Option (List V) := its.findSome? fun it => match it with
  | .put k' cs => if k' = k then some cs else none
  | _ => none
def newBlks (its : List AItem) : Nat → List AItem → Heap
  | _, [] => []
  | i, .new T z :: l => ((putOf its i).map fun cs => (⟨cs, T⟩ : Blk)) :: newBlks its (i + 1) l
  | i, _ :: l => newBlks its (i + 1) l
def nodupB : List Nat → Bool
  | [] => true
  | x :: l => !l.contains x && nodupB l
def evDrawn (c : Cfg) (cf : CallF) (lim : Nat) (ops : Array Oper) (t : List V) (h : Heap) (ans : List Ans) : Option ROut :=
  match ans with
  | .olds olds :: ans => match evDr c cf lim ops h olds [] ops.toList t ans with
    | some r => if R.shape ops (r.its.map (AItem.to ⟨fun _ => 0, fun _ => undef⟩)) t.length && nodupB (oldNames r.its) then
        some ⟨r.t, applyOlds r.its h ++ newBlks r.its 0 r.its, r.ans, r.cons⟩
      else none
    | none => none
  | _ => none
end Go.Proofs.YteefjegampdpoaaDoor.E
namespace Go.Proofs.YteefjegampdpoaaDoor.E
open Go Go.RowKit
theorem concs_map (ρ : Ren) : ∀ l, concs ρ l = l.map (·.conc ρ)
  | [] => rfl
  | x :: l => by simp [concs, concs_map ρ l]
theorem concs_append (ρ : Ren) (l m : List V) : concs ρ (l ++ m) = concs ρ l ++ concs ρ m := by simp [concs_map]
theorem concs_length (ρ : Ren) (l : List V) : (concs ρ l).length = l.length := by simp [concs_map]
theorem concs_set (ρ : Ren) (l : List V) (i : Nat) (v : V) : concs ρ (l.set i v) = (concs ρ l).set i (v.conc ρ) := by simp [concs_map, List.map_set]
theorem concs_get (ρ : Ren) (l : List V) (i : Nat) : (concs ρ l)[i]? = (l[i]?).map (·.conc ρ) := by simp [concs_map]
theorem concs_raw (ρ : Ren) (l : List Value) : concs ρ (l.map .raw) = l := by
  rw [concs_map, List.map_map]
  conv => rhs; rw [← List.map_id l]
  rfl
theorem unders_iff (n : Nat) : ∀ l, unders n l = true ↔ ∀ x ∈ l, x.under n = true
  | [] => by simp [unders]
  | x :: l => by simp [unders, unders_iff n l]
theorem unders_append {n : Nat} {l m : List V} (h : unders n l = true) (k : unders n m = true) : unders n (l ++ m) = true := by
  rw [unders_iff] at *
  intro x hx
  rcases List.mem_append.1 hx with h1 | h1
  · exact h x h1
  · exact k x h1
theorem unders_raw (n : Nat) (l : List Value) : unders n (l.map .raw) = true := by
  rw [unders_iff]
  intro x hx
  obtain ⟨v, _, rfl⟩ := List.mem_map.1 hx
  rfl
theorem unders_sub {n : Nat} {l m : List V} (h : unders n l = true) (hs : ∀ x ∈ m, x ∈ l) : unders n m = true := by
  rw [unders_iff] at *
  exact fun x hx => h x (hs x hx)
mutual
theorem V.conc_agree {ρ ρ' : Ren} {n : Nat} (h : ∀ i, i < n → ρ'.blk i = ρ.blk i) : ∀ x : V, x.under n = true → x.conc ρ' = x.conc ρ
  | .raw v, _ => rfl
  | .any k, h => by simp [V.under] at h
  | .ptr b o, hx => by simp only [V.under, decide_eq_true_eq] at hx; simp only [V.conc, h b hx]
  | .slc b o l c, hx => by simp only [V.under, decide_eq_true_eq] at hx; simp only [V.conc, h b hx]
  | .fn f x y, hx => by
    simp only [V.under, Bool.and_eq_true] at hx
    simp only [V.conc, concs_agree h x hx.1, concs_agree h y hx.2]
  | .agg l, hx => by simp only [V.under] at hx; simp only [V.conc, concs_agree h l hx]
  | .tup l, hx => by simp only [V.under] at hx; simp only [V.conc, concs_agree h l hx]
  | .lit b, _ => rfl
theorem concs_agree {ρ ρ' : Ren} {n : Nat} (h : ∀ i, i < n → ρ'.blk i = ρ.blk i) : ∀ l : List V, unders n l = true → concs ρ' l = concs ρ l
  | [], _ => rfl
  | x :: l, hx => by
    simp only [unders, Bool.and_eq_true] at hx
    simp only [concs, V.conc_agree h x hx.1, concs_agree h l hx.2]
end
mutual
theorem V.under_mono {n m : Nat} (h : n ≤ m) : ∀ x : V, x.under n = true → x.under m = true
  | .raw v, _ => rfl
  | .any k, h => by simp [V.under] at h
  | .ptr b o, hx => by simp only [V.under, decide_eq_true_eq] at *; omega
  | .slc b o l c, hx => by simp only [V.under, decide_eq_true_eq] at *; omega
  | .fn f x y, hx => by
    simp only [V.under, Bool.and_eq_true] at *
    exact ⟨unders_mono h x hx.1, unders_mono h y hx.2⟩
  | .agg l, hx => by simp only [V.under] at *; exact unders_mono h l hx
  | .tup l, hx => by simp only [V.under] at *; exact unders_mono h l hx
  | .lit b, _ => rfl
theorem unders_mono {n m : Nat} (h : n ≤ m) : ∀ l : List V, unders n l = true → unders m l = true
  | [], _ => rfl
  | x :: l, hx => by
    simp only [unders, Bool.and_eq_true] at *
    exact ⟨V.under_mono h x hx.1, unders_mono h l hx.2⟩
end
theorem V.slotOk_mono {n m : Nat} (h : n ≤ m) (x : V) (hx : x.slotOk n = true) : x.slotOk m = true := by
  cases x <;> first | rfl | exact V.under_mono h _ hx
theorem V.slot_agree {ρ ρ' : Ren} {n : Nat} (h : ∀ i, i < n → ρ'.blk i = ρ.blk i) (hu : ρ'.unk = ρ.unk) (x : V) (hx : x.slotOk n = true) : x.conc ρ' = x.conc ρ := by
  cases x with
  | any k => simp only [V.conc, hu]
  | _ => exact V.conc_agree h _ hx
theorem V.slot_of_under {n : Nat} (x : V) (hx : x.under n = true) : x.slotOk n = true := by
  cases x <;> first | rfl | exact hx
theorem raws_concs (ρ : Ren) : ∀ (l : List V) (vs : List Value), raws l = some vs → concs ρ l = vs
  | [], vs, h => by simp only [raws, Option.some.injEq] at h; subst h; rfl
  | .raw v :: l, vs, h => by
    simp only [raws, Option.map_eq_some_iff] at h
    obtain ⟨us, hu, rfl⟩ := h
    simp [concs, V.conc, raws_concs ρ l us hu]
  | .any _ :: l, vs, h => by simp [raws] at h
  | .ptr _ _ :: l, vs, h => by simp [raws] at h
  | .slc _ _ _ _ :: l, vs, h => by simp [raws] at h
  | .fn _ _ _ :: l, vs, h => by simp [raws] at h
  | .agg _ :: l, vs, h => by simp [raws] at h
  | .tup _ :: l, vs, h => by simp [raws] at h
  | .lit _ :: l, vs, h => by simp [raws] at h
theorem mkAgg_conc (ρ : Ren) (l : List V) : (mkAgg l).conc ρ = .agg (concs ρ l).toArray := by
  unfold mkAgg
  split
  · rename_i vs h; rw [raws_concs ρ l vs h]; rfl
  · rfl
theorem mkAgg_under {n : Nat} {l : List V} (h : unders n l = true) : (mkAgg l).under n = true := by
  unfold mkAgg
  split
  · rfl
  · exact h
theorem mkTup_conc (ρ : Ren) (l : List V) : (mkTup l).conc ρ = .tuple (concs ρ l).toArray := by
  unfold mkTup
  split
  · rename_i vs h; rw [raws_concs ρ l vs h]; rfl
  · rfl
theorem mkTup_under {n : Nat} {l : List V} (h : unders n l = true) : (mkTup l).under n = true := by
  unfold mkTup
  split
  · rfl
  · exact h
theorem cellsV_conc (ρ : Ren) {x : V} {xs : List V} (h : cellsV x = some xs) : (x.conc ρ).cells.toList = concs ρ xs := by
  cases x <;> simp only [cellsV, Option.some.injEq, reduceCtorEq] at h <;> subst h
  · rw [concs_raw]; rfl
  all_goals rfl
theorem cellsV_under {n : Nat} {x : V} {xs : List V} (h : cellsV x = some xs) (hx : x.under n = true) : unders n xs = true := by
  cases x <;> simp only [cellsV, Option.some.injEq, reduceCtorEq] at h <;> subst h
  · exact unders_raw n _
  all_goals first | exact hx | (simp only [unders, Bool.and_true]; exact hx)
structure RelH (c : Cfg) (ρ : Ren) (h : Heap) (w : World) : Prop where
  cell : ∀ (i : Nat) (B : Blk), h[i]? = some (some B) → ∃ fr, w.heap[ρ.blk i]? = some (.cells (concs ρ B.cells).toArray B.ty fr) ∧ (c.L ≤ i → fr = (0, 0))
  lt : ∀ i, i < h.length → ρ.blk i < w.heap.size
  inj : ∀ i j, c.L ≤ i → i < h.length → j < h.length → ρ.blk i = ρ.blk j → i = j
  sco : ∀ (i : Nat) (B : Blk), h[i]? = some (some B) → unders h.length B.cells = true
  glob : ∀ p ∈ c.G, ρ.blk p.2 = p.1 ∧ p.2 < h.length
  big : c.L ≤ h.length
  base : ∀ i, i < c.L → h[i]? = c.H0[i]?
structure RelT (ρ : Ren) (n : Nat) (t : List V) (a : Act) : Prop where
  tmps : a.tmps = (concs ρ t).toArray
  sco : ∀ x ∈ t, x.slotOk n = true
structure Fr (lim : Nat) (ρ : Ren) (h : Heap) (w : World) (ρ' : Ren) (h' : Heap) (w' : World) : Prop where
  os : w'.os = w.os
  tape : w'.tape = w.tape
  output : w'.output = w.output
  size : w.heap.size ≤ w'.heap.size
  blk : ∀ k, k < w.heap.size → (∀ i, lim ≤ i → i < h.length → ρ.blk i ≠ k) → w'.heap[k]? = w.heap[k]?
  ren : ∀ i, i < h.length → ρ'.blk i = ρ.blk i
  len : h.length ≤ h'.length
  fresh : ∀ i, h.length ≤ i → i < h'.length → w.heap.size ≤ ρ'.blk i
theorem Fr.refl (lim : Nat) (ρ : Ren) (h : Heap) (w : World) : Fr lim ρ h w ρ h w :=
  ⟨rfl, rfl, rfl, Nat.le_refl _, fun _ _ _ => rfl, fun _ _ => rfl, Nat.le_refl _, fun i h1 h2 => by omega⟩
theorem Fr.trans {lim : Nat} {ρ ρ1 ρ2 : Ren} {h h1 h2 : Heap} {w w1 w2 : World} (a : Fr lim ρ h w ρ1 h1 w1) (b : Fr lim ρ1 h1 w1 ρ2 h2 w2) : Fr lim ρ h w ρ2 h2 w2 := by
  refine ⟨b.os.trans a.os, b.tape.trans a.tape, b.output.trans a.output, Nat.le_trans a.size b.size, fun k hk hn => ?_, fun i hi => ?_, Nat.le_trans a.len b.len, fun i hi hi2 => ?_⟩
  · refine (b.blk k (Nat.lt_of_lt_of_le hk a.size) fun i hi hi2 => ?_).trans (a.blk k hk hn)
    rcases Nat.lt_or_ge i h.length with hlt | hge
    · rw [a.ren i hlt]; exact hn i hi hlt
    · have := a.fresh i hge hi2; omega
  · rw [b.ren i (Nat.lt_of_lt_of_le hi a.len), a.ren i hi]
  · rcases Nat.lt_or_ge i h1.length with hlt | hge
    · rw [b.ren i hlt]; exact a.fresh i hi hlt
    · exact Nat.le_trans a.size (b.fresh i hge hi2)
theorem Fr.mono {lim lim' : Nat} {ρ ρ' : Ren} {h h' : Heap} {w w' : World} (a : Fr lim' ρ h w ρ' h' w') (hl : lim ≤ lim') : Fr lim ρ h w ρ' h' w' :=
  ⟨a.os, a.tape, a.output, a.size, fun k hk hn => a.blk k hk fun i hi hi2 => hn i (by omega) hi2, a.ren, a.len, a.fresh⟩
theorem opnd_under {c : Cfg} {ρ : Ren} {h : Heap} {w : World} {t : List V} {a : Act} (RH : RelH c ρ h w) (RT : RelT ρ h.length t a) {x : Operand} {v : V} (hx : opnd c t x = some v) : v.under h.length = true := by
  cases x with
  | tmp s =>
    simp only [opnd] at hx
    split at hx
    · cases hx
    · simp only [Option.some.injEq] at hx; subst hx; rfl
    · rename_i hna hnl
      have hm := List.mem_of_getElem? hx
      have := RT.sco v hm
      cases v <;> first | exact this | (exfalso; exact hna _ hx)
  | const v => simp only [opnd, Option.some.injEq] at hx; subst hx; rfl
  | func f => simp only [opnd, Option.some.injEq] at hx; subst hx; rfl
  | global g =>
    simp only [opnd] at hx
    split at hx
    · rename_i p hp
      simp only [Option.some.injEq] at hx
      subst hx
      simp only [V.under, decide_eq_true_eq]
      exact (RH.glob p (List.mem_of_find?_eq_some hp)).2
    · cases hx
theorem opnd_eval {c : Cfg} {ρ : Ren} {h : Heap} {w : World} {t : List V} {a : Act} (RH : RelH c ρ h w) (RT : RelT ρ h.length t a) {x : Operand} {v : V} (hx : opnd c t x = some v) : a.eval x = v.conc ρ := by
  cases x with
  | tmp s =>
    simp only [opnd] at hx
    split at hx
    · cases hx
    · rename_i b hb
      simp only [Option.some.injEq] at hx; subst hx
      simp only [Act.eval, RT.tmps]
      simp [concs_get, hb, V.conc]
    · simp only [Act.eval, RT.tmps]
      simp [concs_get, hx]
  | const v => simp only [opnd, Option.some.injEq] at hx; subst hx; rfl
  | func f => simp only [opnd, Option.some.injEq] at hx; subst hx; rfl
  | global g =>
    simp only [opnd] at hx
    split at hx
    · rename_i p hp
      simp only [Option.some.injEq] at hx
      subst hx
      have h1 := List.find?_some hp
      simp only [beq_iff_eq] at h1
      simp only [Act.eval, V.conc, (RH.glob p (List.mem_of_find?_eq_some hp)).1, h1]
    · cases hx
theorem opnds_ok {c : Cfg} {ρ : Ren} {h : Heap} {w : World} {t : List V} {a : Act} (RH : RelH c ρ h w) (RT : RelT ρ h.length t a) : ∀ (l : List Operand) (vs : List V), opnds c t l = some vs → l.map a.eval = concs ρ vs ∧ unders h.length vs = true
  | [], vs, hx => by simp only [opnds, Option.some.injEq] at hx; subst hx; exact ⟨rfl, rfl⟩
  | x :: l, vs, hx => by
    simp only [opnds] at hx
    split at hx
    · rename_i v us hv hu
      simp only [Option.some.injEq] at hx
      subst hx
      obtain ⟨h1, h2⟩ := opnds_ok RH RT l us hu
      simp [concs, unders, h1, h2, opnd_eval RH RT hv, opnd_under RH RT hv]
    · cases hx
theorem rawOf_eval {c : Cfg} {ρ : Ren} {h : Heap} {w : World} {t : List V} {a : Act} (RH : RelH c ρ h w) (RT : RelT ρ h.length t a) {x : Operand} (hx : isRaw c t x = true) : rawOf c t x = a.eval x := by
  unfold isRaw at hx
  split at hx
  · rename_i v hv
    unfold rawOf
    rw [opnd_eval RH RT hv, hv]
    rfl
  · cases hx
def Ren.push (ρ : Ren) (n b : Nat) : Ren := ⟨fun i => if i = n then b else ρ.blk i, ρ.unk⟩
theorem relH_alloc {c : Cfg} {ρ : Ren} {h : Heap} {w : World} (RH : RelH c ρ h w) {xs : List V} {ty : TypeId} (hu : unders h.length xs = true) :
    RelH c (ρ.push h.length w.heap.size) (h ++ [some ⟨xs, ty⟩]) (w.alloc (.cells (concs ρ xs).toArray ty)) := by
  have hag : ∀ i, i < h.length → (ρ.push h.length w.heap.size).blk i = ρ.blk i := fun i hi => by simp only [Ren.push]; rw [if_neg (by omega)]
  have hlen : (h ++ [some (⟨xs, ty⟩ : Blk)]).length = h.length + 1 := by simp
  refine ⟨fun i B hi => ?_, fun i hi => ?_, fun i j h1 h2 h3 h4 => ?_, fun i B hi => ?_, fun p hp => ?_, by rw [hlen]; have := RH.big; omega, fun i hi => by rw [List.getElem?_append_left (by have := RH.big; omega)]; exact RH.base i hi⟩
  · rcases Nat.lt_trichotomy i h.length with hlt | heq | hgt
    · rw [List.getElem?_append_left hlt] at hi
      obtain ⟨fr, h1, h2⟩ := RH.cell i B hi
      refine ⟨fr, ?_, h2⟩
      rw [hag i hlt, Below.heap_alloc _ _ _ (RH.lt i hlt), h1, concs_agree hag _ (RH.sco i B hi)]
    · subst heq
      simp only [List.getElem?_append_right (Nat.le_refl _), Nat.sub_self, List.getElem?_cons_zero, Option.some.injEq] at hi
      subst hi
      refine ⟨(0, 0), ?_, fun _ => rfl⟩
      rw [concs_agree (ρ := ρ) (n := h.length) hag _ hu]
      simp only [Ren.push, if_true]
      exact Array.getElem?_push_size
    · rw [List.getElem?_eq_none (by rw [hlen]; omega)] at hi; cases hi
  · rw [hlen] at hi
    simp only [World.size_alloc]
    rcases Nat.lt_or_ge i h.length with hlt | hge
    · rw [hag i hlt]; have := RH.lt i hlt; omega
    · have : i = h.length := by omega
      subst this
      simp only [Ren.push, if_true]; omega
  · rw [hlen] at h2 h3
    rcases Nat.lt_or_ge i h.length with hi | hi <;> rcases Nat.lt_or_ge j h.length with hj | hj
    · rw [hag i hi, hag j hj] at h4; exact RH.inj i j h1 hi hj h4
    · have ej : j = h.length := by omega
      subst ej
      rw [hag i hi] at h4
      simp only [Ren.push, if_true] at h4
      have := RH.lt i hi; omega
    · have ej : i = h.length := by omega
      subst ej
      rw [hag j hj] at h4
      simp only [Ren.push, if_true] at h4
      have := RH.lt j hj; omega
    · omega
  · rcases Nat.lt_or_ge i h.length with hlt | hge
    · rw [List.getElem?_append_left hlt] at hi
      exact unders_mono (by rw [hlen]; omega) _ (RH.sco i B hi)
    · have e : i = h.length := by
        rcases Nat.lt_or_ge i (h.length + 1) with h1 | h1
        · omega
        · rw [List.getElem?_eq_none (by rw [hlen]; omega)] at hi; cases hi
      subst e
      simp only [List.getElem?_append_right (Nat.le_refl _), Nat.sub_self, List.getElem?_cons_zero, Option.some.injEq] at hi
      subst hi
      exact unders_mono (by rw [hlen]; omega) _ hu
  · obtain ⟨h1, h2⟩ := RH.glob p hp
    exact ⟨by rw [hag _ h2, h1], by rw [hlen]; omega⟩
theorem fr_alloc {lim : Nat} {ρ : Ren} {h : Heap} {w : World} {o : Obj} {B : Option Blk} : Fr lim ρ h w (ρ.push h.length w.heap.size) (h ++ [B]) (w.alloc o) :=
  ⟨rfl, rfl, rfl, by simp, fun k hk _ => Below.heap_alloc _ _ _ hk, fun i hi => by simp only [Ren.push]; rw [if_neg (by omega)], by simp, fun i h1 h2 => by
    simp at h2
    have : i = h.length := by omega
    subst this
    simp [Ren.push]⟩
end Go.Proofs.YteefjegampdpoaaDoor.E
namespace Go.Proofs.YteefjegampdpoaaDoor.E
open Go Go.RowKit
theorem eqFlds_sound {P : Program} {eq : TypeId → Value → Value → Option Bool} {go : TypeId → Value → Value → Sem Bool} (hs : ∀ t x y b w, eq t x y = some b → (go t x y).run P w = .ok b w) (xs ys : Array Value) (w : World) :
    ∀ (l : List Field) (b : Bool), eqFlds P eq xs ys l = some b →
      (forIn l ((none, ()) : Option Bool × Unit) fun (f : Field) r => do
        if f.name ≠ "_" then
          if (!(← go f.type (← part f.type xs f.offset) (← part f.type ys f.offset))) = true then pure (ForInStep.done (some false, ())) else pure (ForInStep.yield (none, ()))
        else pure (ForInStep.yield (none, ()))).run P w = .ok (if b then none else some false, ()) w
  | [], b, h => by
    simp only [eqFlds, Option.some.injEq] at h
    subst h
    simp [go_sem]
  | f :: l, b, h => by
    simp only [eqFlds] at h
    split at h
    · rename_i hf
      have := eqFlds_sound hs xs ys w l b h
      rw [List.forIn_cons]
      simp only [hf, ne_eq, not_true_eq_false, if_false, Sem.run_bind, Sem.run_pure, Result.andThen_ok]
      exact this
    · rename_i hf
      split at h
      · rename_i x y hx hy
        split at h
        · rename_i p q hp hq
          simp only [Option.some.injEq] at h
          subst h
          have := eqFlds_sound hs xs ys w l q hq
          rw [List.forIn_cons]
          simp only [ne_eq, hf, not_false_eq_true, if_true, Sem.run_bind, pureRun_run hx, pureRun_run hy, hs _ _ _ _ w hp, Result.andThen_ok]
          cases p with
          | true =>
            simp only [Bool.not_true, Bool.false_eq_true, if_false, Sem.run_pure, Result.andThen_ok, Bool.true_and]
            exact this
          | false => simp only [Bool.not_false, if_true, Sem.run_pure, Result.andThen_ok, Bool.false_and, Bool.false_eq_true, if_false]
        · cases h
      · cases h
theorem eqElems_sound {P : Program} {eq : TypeId → Value → Value → Option Bool} {go : TypeId → Value → Value → Sem Bool} (hs : ∀ t x y b w, eq t x y = some b → (go t x y).run P w = .ok b w) (e : TypeId) (n : Nat) (xs ys : Array Value) (w : World) :
    ∀ (l : List Nat) (b : Bool), eqElems P eq e n xs ys l = some b →
      (forIn l ((none, ()) : Option Bool × Unit) fun (i : Nat) r => do
          if (!(← go e (← part e xs (i * n)) (← part e ys (i * n)))) = true then pure (ForInStep.done (some false, ())) else pure (ForInStep.yield (none, ()))).run P w = .ok (if b then none else some false, ()) w
  | [], b, h => by
    simp only [eqElems, Option.some.injEq] at h
    subst h
    simp [go_sem]
  | f :: l, b, h => by
    simp only [eqElems] at h
    split at h
    · rename_i x y hx hy
      split at h
      · rename_i p q hp hq
        simp only [Option.some.injEq] at h
        subst h
        have := eqElems_sound hs e n xs ys w l q hq
        rw [List.forIn_cons]
        simp only [Sem.run_bind, pureRun_run hx, pureRun_run hy, hs _ _ _ _ w hp, Result.andThen_ok]
        cases p with
        | true =>
          simp only [Bool.not_true, Bool.false_eq_true, if_false, Sem.run_pure, Result.andThen_ok, Bool.true_and]
          exact this
        | false => simp only [Bool.not_false, if_true, Sem.run_pure, Result.andThen_ok, Bool.false_and, Bool.false_eq_true, if_false]
      · cases h
    · cases h
theorem eqIn_sound (P : Program) : ∀ (d m : Nat) (t : TypeId) (x y : Value) (b : Bool) (w : World), eqIn P d t x y = some b → (Op.equalIn (d + m) t x y).run P w = .ok b w
  | 0, m, t, x, y, b, w, h => by simp [eqIn] at h
  | d + 1, m, t, x, y, b, w, h => by
    rw [show d + 1 + m = (d + m) + 1 by omega]
    simp only [eqIn] at h
    split at h
    · rename_i a b' hu
      simp only [Option.some.injEq] at h; subst h
      simp [Op.equalIn, go_sem, pureRun_run hu]
    · rename_i k0 k a k' b' hu
      split at h
      · rename_i hk
        simp only [Option.some.injEq] at h; subst h
        simp [Op.equalIn, go_sem, pureRun_run hu, hk]
      · cases h
    · rename_i fields xs ys hu
      split at h
      · cases h
      · rename_i hst
        have := eqFlds_sound (go := Op.equalIn (d + m)) (fun t x y b w => eqIn_sound P d m t x y b w) xs ys w _ b h
        simp only [Op.equalIn, Sem.run_bind, pureRun_run hu, Result.andThen_ok]
        rw [show (Sem.run P (program : Sem Program) w) = .ok P w from rfl]
        simp only [Result.andThen_ok]
        rw [if_neg (by simpa using hst)]
        rw [← Array.forIn_toList, Sem.run_bind]
        rw [this]
        cases b <;> rfl
    · rename_i len e xs ys hu
      split at h
      · rename_i n hn
        have := eqElems_sound (go := Op.equalIn (d + m)) (fun t x y b w => eqIn_sound P d m t x y b w) e n xs ys w _ b h
        simp only [Op.equalIn, Sem.run_bind, pureRun_run hu, Result.andThen_ok, pureRun_run hn]
        rw [Std.Legacy.Range.forIn_eq_forIn_range']
        simp only [Std.Legacy.Range.size, Nat.sub_zero, Nat.add_sub_cancel, Nat.div_one]
        rw [this]
        cases b <;> rfl
      · cases h
    · cases h
end Go.Proofs.YteefjegampdpoaaDoor.E
namespace Go.Proofs.YteefjegampdpoaaDoor.E
open Go Go.RowKit
section
variable {c : Cfg} {ρ : Ren} {h : Heap} {w : World} {t : List V} {a : Act} {lim : Nat}
theorem load_conc (RH : RelH c ρ h w) {ty : TypeId} {b off : Nat} {v : V} (hv : loadV c h ty b off = some v) :
    (loadVar ty ⟨ρ.blk b, off, none⟩).run c.P w = .ok (v.conc ρ) w ∧ v.under h.length = true := by
  unfold loadV at hv
  split at hv
  · rename_i B n hb hag hsz
    split at hv
    · rename_i hle
      simp only [Option.some.injEq] at hv
      subst hv
      obtain ⟨fr, h1, _⟩ := RH.cell b B hb
      have hlen : ((B.cells.drop off).take n).length = n := by simp; omega
      have h2 := run_loadCells_list (P := c.P) w ⟨ρ.blk b, off, none⟩ (concs ρ ((B.cells.drop off).take n)) (fun j u hu => by
        have hj : j < n := by
          rcases Nat.lt_or_ge j n with h | h
          · exact h
          · rw [List.getElem?_eq_none (by rw [concs_length, hlen]; exact h)] at hu; cases hu
        have e : (⟨ρ.blk b, off, none⟩ : Addr).add j = ⟨ρ.blk b, off + j, none⟩ := by
          unfold Addr.add
          split
          · rename_i h0; subst h0; rfl
          · rfl
        rw [e]
        simp only [World.cell?, h1]
        rw [concs_map, List.map_take, List.map_drop, List.getElem?_take, if_pos hj, List.getElem?_drop] at hu
        simpa [concs_map] using hu)
      rw [concs_length, hlen] at h2
      refine ⟨?_, mkAgg_under (unders_sub (RH.sco b B hb) fun x hx => List.mem_of_mem_drop (List.mem_of_mem_take hx))⟩
      rw [mkAgg_conc]
      simp only [loadCells] at h2
      simp [loadVar, go_sem, pureRun_run hag, pureRun_run hsz, h2]
    · cases hv
  · rename_i B hb hag
    obtain ⟨fr, h1, _⟩ := RH.cell b B hb
    refine ⟨?_, (unders_iff _ _).1 (RH.sco b B hb) v (List.mem_of_getElem? hv)⟩
    have hc : w.cell? ⟨ρ.blk b, off, none⟩ = some (v.conc ρ) := by
      simp only [World.cell?, h1]
      simpa [concs_get] using congrArg (Option.map (V.conc ρ)) hv
    simp [loadVar, go_sem, pureRun_run hag, hc]
  · cases hv
theorem oneCells_ok (ρ : Ren) : ∀ l : List V, oneCells l = true → ∀ v ∈ concs ρ l, v.oneCell' = true
  | [], _, v, hv => by cases hv
  | x :: l, h, v, hv => by
    simp only [concs, List.mem_cons] at hv
    cases x with
    | raw u =>
      cases u <;> simp only [oneCells, Bool.false_eq_true] at h <;> (rcases hv with rfl | hv; rfl; exact oneCells_ok ρ l h v hv)
    | any k => simp [oneCells] at h
    | agg m => simp [oneCells] at h
    | tup m => simp [oneCells] at h
    | ptr b o => simp only [oneCells] at h; rcases hv with rfl | hv; rfl; exact oneCells_ok ρ l h v hv
    | slc b o l' c => simp only [oneCells] at h; rcases hv with rfl | hv; rfl; exact oneCells_ok ρ l h v hv
    | fn f y z => simp only [oneCells] at h; rcases hv with rfl | hv; rfl; exact oneCells_ok ρ l h v hv
    | lit b => simp only [oneCells] at h; rcases hv with rfl | hv; rfl; exact oneCells_ok ρ l h v hv
theorem setRow_heap (w : World) (g : Nat) (cs : Array Value) (k : Nat) (hk : k ≠ g) : (w.setRow g cs).heap[k]? = w.heap[k]? := by
  simp only [World.setRow, Array.getElem?_modify]
  rw [if_neg (by omega)]
theorem setRow_this (w : World) (g : Nat) (cs cur : Array Value) (ty : TypeId) (h : w.heap[g]? = some (.cells cur ty (0, 0))) : (w.setRow g cs).heap[g]? = some (.cells cs ty (0, 0)) := by
  simp [World.setRow, Array.getElem?_modify, h]
theorem store_conc (RH : RelH c ρ h w) (hL : c.L ≤ lim) {ty : TypeId} {b off : Nat} {x : V} {h' : Heap} (hs : storeV c lim h ty b off x = some h') :
    ∃ w', (storeVar ty ⟨ρ.blk b, off, none⟩ (x.conc ρ)).run c.P w = .ok () w' ∧ RelH c ρ h' w' ∧ Fr lim ρ h w ρ h' w' := by
  unfold storeV at hs
  split at hs
  · rename_i B xs n hb hx hsz
    split at hs
    · rename_i hh
      obtain ⟨hlim, hn, hle, hone, hun⟩ := hh
      simp only [Option.some.injEq] at hs
      subst hs
      obtain ⟨fr, h1, hfr⟩ := RH.cell b B hb
      have hbl : b < h.length := by
        rcases Nat.lt_or_ge b h.length with h2 | h2
        · exact h2
        · rw [List.getElem?_eq_none h2] at hb; cases hb
      rw [hfr (by omega)] at h1
      have hcs := cellsV_conc ρ hx
      have h2 := run_storeCells_at c.P (ρ.blk b) off ty
      have h3 := run_storeCells_at c.P (ρ.blk b) off B.ty (concs ρ xs) 0 _ w h1 (by simp [concs_length]; omega) (oneCells_ok ρ xs hone)
      have hsize : (x.conc ρ).cells.size = n := by rw [← Array.length_toList, hcs, concs_length, hn]
      have hput : (List.take (off + 0) (concs ρ B.cells).toArray.toList ++ concs ρ xs ++ List.drop (off + 0 + (concs ρ xs).length) (concs ρ B.cells).toArray.toList) = concs ρ (putAt B.cells off xs) := by
        simp [putAt, concs_map, List.map_take, List.map_drop]
      rw [hput] at h3
      refine ⟨w.setRow (ρ.blk b) (concs ρ (putAt B.cells off xs)).toArray, ?_, ?_, ?_⟩
      · unfold storeVar
        generalize (x.conc ρ).cells = cl at hcs hsize ⊢
        simp [go_sem, pureRun_run hsz, hsize, hcs, h3]
      · have hne : ∀ i, i < h.length → i ≠ b → ρ.blk i ≠ ρ.blk b := fun i hi hib he => hib ((RH.inj b i (by omega) hbl hi he.symm).symm)
        refine ⟨fun i C hi => ?_, fun i hi => ?_, fun i j h1 h2 h3 h4 => ?_, fun i C hi => ?_, fun p hp => ?_, by rw [List.length_set]; exact RH.big, fun i hi => by rw [List.getElem?_set_ne (by omega)]; exact RH.base i hi⟩
        · rcases Nat.decEq i b with hne' | rfl
          · rw [List.getElem?_set_ne (Ne.symm hne')] at hi
            have hil : i < h.length := by
              rcases Nat.lt_or_ge i h.length with h2 | h2
              · exact h2
              · rw [List.getElem?_eq_none h2] at hi; cases hi
            obtain ⟨fr', k1, k2⟩ := RH.cell i C hi
            exact ⟨fr', by rw [setRow_heap _ _ _ _ (hne i hil hne')]; exact k1, k2⟩
          · rw [List.getElem?_set_self hbl] at hi
            simp only [Option.some.injEq] at hi
            subst hi
            exact ⟨(0, 0), setRow_this _ _ _ _ _ h1, fun _ => rfl⟩
        · rw [List.length_set] at hi
          have := RH.lt i hi
          simpa [World.setRow] using this
        · rw [List.length_set] at h2 h3
          exact RH.inj i j h1 h2 h3 h4
        · rw [List.length_set]
          rcases Nat.decEq i b with hne' | rfl
          · rw [List.getElem?_set_ne (Ne.symm hne')] at hi
            exact RH.sco i C hi
          · rw [List.getElem?_set_self hbl] at hi
            simp only [Option.some.injEq] at hi
            subst hi
            refine unders_append (unders_append ?_ hun) ?_
            · exact unders_sub (RH.sco i B hb) fun x hx => List.mem_of_mem_take hx
            · exact unders_sub (RH.sco i B hb) fun x hx => List.mem_of_mem_drop hx
        · rw [List.length_set]
          exact RH.glob p hp
      · refine ⟨rfl, rfl, rfl, by simp [World.setRow], fun k hk hn => ?_, fun _ _ => rfl, by simp, fun i h1 h2 => by simp at h2; omega⟩
        exact setRow_heap _ _ _ _ (fun e => hn b hlim hbl e.symm)
    · cases hs
  · cases hs
theorem field_conc {s : TypeId} {f d b off : Nat} (hd : fieldOff c s f = some d) (w : World) :
    (Instr.fieldAt s (.pointer (some ⟨ρ.blk b, off, none⟩)) f).run c.P w = .ok (.pointer (some ⟨ρ.blk b, off + d, none⟩)) w := by
  unfold fieldOff at hd
  split at hd
  · rename_i fields hs
    split at hd
    · rename_i fd hf
      split at hd
      · rename_i n hn
        split at hd
        · cases hd
        · rename_i hn0
          simp only [Option.some.injEq] at hd
          subst hd
          have e : (⟨ρ.blk b, off, none⟩ : Addr).add fd.offset = ⟨ρ.blk b, off + fd.offset, none⟩ := by
            unfold Addr.add
            split
            · rename_i h0; rw [h0]; rfl
            · rfl
          simp [Instr.fieldAt, go_sem, pureRun_run hs, hf, Instr.sureAddr, fieldPlace, pureRun_run hn, hn0, e]
      · cases hd
    · cases hd
  · cases hd
end
end Go.Proofs.YteefjegampdpoaaDoor.E
namespace Go.Proofs.YteefjegampdpoaaDoor.E
open Go Go.RowKit
def Callable (P : Program) (f : FuncId) : Prop := ∃ fn, P.funcs[f]? = some fn ∧ (fn.name == "runtime.NumGoroutine") = false ∧ fn.body.isNone = false
def CallOk (c : Cfg) (cf : CallF) : Prop :=
  ∀ f args h lim ans out, cf f args h lim ans = some out → (∀ p ∈ out.cons, p) → c.L ≤ lim → ∀ ρ w, RelH c ρ h w → unders h.length args = true →
    Calls c.P f (concs ρ args).toArray w fun e w' => ∃ ρ', ρ'.unk = ρ.unk ∧ e = .returned (out.v.conc ρ') ∧ RelH c ρ' out.h w' ∧ Fr lim ρ h w ρ' out.h w' ∧ out.v.under out.h.length = true
theorem execOp_congr {f g : Operand → Value} {o : Oper} {l : List Operand} (hl : plainOpnds o.op = some l) (hfg : ∀ x ∈ l, f x = g x) : execOp f o = execOp g o := by
  obtain ⟨dst, op, ty, pos, after, guard⟩ := o
  cases op with
  | binOp b xt x y yt =>
    simp only [plainOpnds, Option.some.injEq] at hl; subst hl
    simp only [execOp, hfg x (by simp), hfg y (by simp)]
  | unOp b xt x =>
    simp only [plainOpnds, Option.some.injEq] at hl; subst hl
    simp only [execOp, hfg x (by simp)]
  | convert b xt x =>
    simp only [plainOpnds, Option.some.injEq] at hl; subst hl
    simp only [execOp, hfg x (by simp)]
  | field b x n =>
    simp only [plainOpnds, Option.some.injEq] at hl; subst hl
    simp only [execOp, hfg x (by simp)]
  | index b x y =>
    simp only [plainOpnds, Option.some.injEq] at hl; subst hl
    simp only [execOp, hfg x (by simp), hfg y (by simp)]
  | extract x n =>
    simp only [plainOpnds, Option.some.injEq] at hl; subst hl
    simp only [execOp, hfg x (by simp)]
  | build b parts =>
    simp only [plainOpnds, Option.some.injEq] at hl; subst hl
    have e : (parts.map fun (i, x) => (i, f x)) = parts.map fun (i, x) => (i, g x) := by
      apply Array.map_congr_left
      rintro ⟨i, x⟩ hx
      simp only [Prod.mk.injEq, true_and]
      exact hfg x (List.mem_map.2 ⟨(i, x), Array.mem_toList_iff.2 hx, rfl⟩)
    simp only [execOp, e]
  | call k =>
    obtain ⟨callee, args, ats⟩ := k
    cases callee with
    | builtin b =>
      simp only [plainOpnds, Option.some.injEq] at hl; subst hl
      have e : args.map f = args.map g := Array.map_congr_left fun x hx => hfg x (Array.mem_toList_iff.2 hx)
      simp only [execOp, resolve, e]
    | value x => simp [plainOpnds] at hl
    | invoke x n => simp [plainOpnds] at hl
  | _ => simp [plainOpnds] at hl
section
variable {c : Cfg} {ρ : Ren} {h : Heap} {w : World} {t : List V} {a : Act} {lim : Nat}
theorem bare_run (RH : RelH c ρ h w) (RT : RelT ρ h.length t a) {o : Oper} {v : V} {cons : List Prop} (hb : bareOp o.op c t = some (v, cons)) (hc : ∀ p ∈ cons, p) :
    (execOp a.eval o).run c.P w = .ok (.value (v.conc ρ)) w ∧ v.under h.length = true := by
  obtain ⟨dst, op, ty, pos, after, guard⟩ := o
  unfold bareOp at hb
  split at hb
  · dsimp only at hb
    split at hb
    · rename_i b xt x y yt
      split at hb
      · rename_i k p k' q hx hy
        have ex := opnd_eval RH RT hx
        have ey := opnd_eval RH RT hy
        simp only [V.conc] at ex ey
        generalize a.eval = g at ex ey ⊢
        split at hb
        · rename_i hk
          subst hk
          split at hb <;> simp only [Option.some.injEq, Prod.mk.injEq, reduceCtorEq] at hb
          all_goals
            obtain ⟨rfl, rfl⟩ := hb
            refine ⟨?_, rfl⟩
          · have h1 : k.wrap (p + q) = p + q := hc _ (List.mem_singleton.2 rfl)
            simp [execOp, go_sem, ex, ey, eqGuard, binOp, Op.intArith, V.conc, h1]
          · have h1 : k.wrap (p - q) = p - q := hc _ (List.mem_singleton.2 rfl)
            simp [execOp, go_sem, ex, ey, eqGuard, binOp, Op.intArith, V.conc, h1]
          · have h1 : k.wrap (p * q) = p * q := hc _ (List.mem_singleton.2 rfl)
            simp [execOp, go_sem, ex, ey, eqGuard, binOp, Op.intArith, V.conc, h1]
          · have h0 : q ≠ 0 := hc _ (List.mem_cons_self)
            have h1 : k.wrap (p.tdiv q) = p.tdiv q := hc _ (List.mem_cons_of_mem _ List.mem_cons_self)
            simp [execOp, go_sem, ex, ey, eqGuard, binOp, Op.intDiv, V.conc, h1, h0]
          · have h0 : q ≠ 0 := hc _ (List.mem_cons_self)
            simp [execOp, go_sem, ex, ey, eqGuard, binOp, Op.intDiv, V.conc, h0]
        · cases hb
      · cases hb
    · rename_i xt x
      split at hb
      · rename_i k p hx
        have ex := opnd_eval RH RT hx
        simp only [V.conc] at ex
        generalize a.eval = g at ex ⊢
        simp only [Option.some.injEq, Prod.mk.injEq] at hb
        obtain ⟨rfl, rfl⟩ := hb
        have h1 : k.wrap (-p) = -p := hc _ (List.mem_singleton.2 rfl)
        refine ⟨?_, rfl⟩
        have h2 : k.wrap (0 - p) = -p := by rw [Int.zero_sub, h1]
        simp [execOp, go_sem, ex, Op.unary, Op.intArith, V.conc, h1]
      · cases hb
    · rename_i src dst x
      split at hb
      · rename_i k0 p hx
        have ex := opnd_eval RH RT hx
        simp only [V.conc] at ex
        generalize a.eval = g at ex ⊢
        split at hb
        · rename_i k1 k hs hd
          simp only [Option.some.injEq, Prod.mk.injEq] at hb
          obtain ⟨rfl, rfl⟩ := hb
          have h1 : k.wrap p = p := hc _ (List.mem_singleton.2 rfl)
          refine ⟨?_, rfl⟩
          simp [execOp, go_sem, ex, convert, pureRun_run hs, pureRun_run hd, Conv.intToInt, V.conc, h1]
        · cases hb
      · cases hb
    · cases hb
  · cases hb
theorem calls_step {f : Operand} {args : Array Operand} {ats : Array TypeId} {dst : Option Tmp} {ty : TypeId} {pos : String} {after : Array Edge} {guard : Option (Nat × Bool)} {g : FuncId} {first cap : List Value} {K : Act → World → Prop} {Q : Exit → Act → World → Prop}
    (hf : a.eval f = .func (.func g) first.toArray cap.toArray) (hg : Callable c.P g) (R : Value → World → Prop)
    (hcall : Calls c.P g (first ++ args.toList.map a.eval ++ cap).toArray w fun e w' => ∃ v, e = .returned v ∧ R v w') (hK : ∀ v w', R v w' → K (a.put dst v) w') :
    (⟨dst, .call ⟨.value f, args, ats⟩, ty, pos, after, guard⟩ : Oper).wp c.P a w K Q := by
  obtain ⟨fn, h1, h2, h3⟩ := hg
  have hrun : (execOp a.eval (⟨dst, .call ⟨.value f, args, ats⟩, ty, pos, after, guard⟩ : Oper)).run c.P w = .ok (.enter g (first ++ args.toList.map a.eval ++ cap).toArray) w := by
    have e : (first.toArray ++ args.map a.eval ++ cap.toArray) = (first ++ args.toList.map a.eval ++ cap).toArray := by
      apply Array.toList_inj.1; simp
    rw [← e]
    clear e
    generalize a.eval = ev at hf ⊢
    have h2' : ¬ fn.name = "runtime.NumGoroutine" := by simpa using h2
    have h3' : ¬ fn.body = none := by intro hn; rw [hn] at h3; cases h3
    simp [execOp, resolve, go_sem, hf, Deferred.ofValue, invoke, callFunc, h1, h2', h3']
  unfold Oper.wp
  rw [hrun]
  refine hcall.mono fun e w' he => ?_
  obtain ⟨v, rfl, hv⟩ := he
  exact hK v w' hv
theorem value_step {o : Oper} {v : Value} {K : Act → World → Prop} {Q : Exit → Act → World → Prop} (hr : (execOp a.eval o).run c.P w = .ok (.value v) w) (hK : K (a.put o.dst v) w) : o.wp c.P a w K Q := by
  unfold Oper.wp
  rw [hr]
  exact hK
theorem eqV_run {dst : Option Tmp} {ty : TypeId} {pos : String} {after : Array Edge} {guard : Option (Nat × Bool)} (RH : RelH c ρ h w) (RT : RelT ρ h.length t a) {b : BinOp} {T U : TypeId} {x y : Operand} {v : V} (hv : eqV c t b T x y = some v) :
    (execOp a.eval ⟨dst, .binOp b T x y U, ty, pos, after, guard⟩).run c.P w = .ok (.value (v.conc ρ)) w ∧ v.under h.length = true := by
  unfold eqV at hv
  split at hv
  · rename_i xs ys hx hy
    split at hv
    · cases hv
    rename_i hgd
    rw [Option.map_eq_some_iff] at hv
    obtain ⟨r, hr, rfl⟩ := hv
    have ex := opnd_eval RH RT hx
    have ey := opnd_eval RH RT hy
    simp only [V.conc] at ex ey
    have hq := eqIn_sound c.P 12 9988 T _ _ r w hr
    refine ⟨?_, rfl⟩
    generalize a.eval = g at ex ey ⊢
    have hG : ∀ q, (q = .eql ∨ q = .neq) → (eqGuard q T x y (Value.agg xs) (Value.agg ys)).run c.P w = .ok () w := fun q hq => by
      rcases hq with rfl | rfl <;> (simp only [eqGuard, Sem.run_bind, Bool.not_true, Bool.false_eq_true, if_false, show ∀ w, (Sem.run c.P (program : Sem Program) w) = .ok c.P w from fun _ => rfl, Result.andThen_ok]; rw [if_pos (by simpa using hgd)]; rfl)
    simp [execOp, go_sem, ex, ey, binOp, Op.equal, Op.maxDepth, hq, hG, V.conc]
  · rename_i xs ys hx hy
    split at hv
    · cases hv
    rename_i hgd
    rw [Option.map_eq_some_iff] at hv
    obtain ⟨r, hr, rfl⟩ := hv
    have ex := opnd_eval RH RT hx
    have ey := opnd_eval RH RT hy
    simp only [V.conc] at ex ey
    have hq := eqIn_sound c.P 12 9988 T _ _ r w hr
    refine ⟨?_, rfl⟩
    generalize a.eval = g at ex ey ⊢
    have hG : ∀ q, (q = .eql ∨ q = .neq) → (eqGuard q T x y (Value.agg xs) (Value.agg ys)).run c.P w = .ok () w := fun q hq => by
      rcases hq with rfl | rfl <;> (simp only [eqGuard, Sem.run_bind, Bool.not_true, Bool.false_eq_true, if_false, show ∀ w, (Sem.run c.P (program : Sem Program) w) = .ok c.P w from fun _ => rfl, Result.andThen_ok]; rw [if_pos (by simpa using hgd)]; rfl)
    simp [execOp, go_sem, ex, ey, binOp, Op.equal, Op.maxDepth, hq, hG, V.conc]
  · cases hv
theorem addr_add (b off n : Nat) : (⟨b, off, none⟩ : Addr).add n = ⟨b, off + n, none⟩ := by
  unfold Addr.add
  split
  · rename_i h0; subst h0; rfl
  · rfl
section
variable {dst : Option Tmp} {ty : TypeId} {pos : String} {after : Array Edge} {guard : Option (Nat × Bool)}
theorem len_run (RH : RelH c ρ h w) (RT : RelT ρ h.length t a) {args : Array Operand} {ats : Array TypeId} {v : V} (hv : lenV c t args ats = some v) :
    (execOp a.eval ⟨dst, .call ⟨.builtin .len, args, ats⟩, ty, pos, after, guard⟩).run c.P w = .ok (.value (v.conc ρ)) w ∧ v.under h.length = true := by
  unfold lenV at hv
  split at hv
  · rename_i x T hargs hT
    split at hv
    · rename_i b off l cp e hx hu
      simp only [Option.some.injEq] at hv
      subst hv
      refine ⟨?_, rfl⟩
      have ex := opnd_eval RH RT hx
      simp only [V.conc] at ex
      have ha : args = #[x] := by apply Array.toList_inj.1; simpa using hargs
      subst ha
      generalize a.eval = g at ex ⊢
      simp [execOp, resolve, go_sem, invoke, builtin, Builtin.len_, hT, ex, pureRun_run hu, V.conc]
    · cases hv
  · cases hv
theorem index_run (RH : RelH c ρ h w) (RT : RelT ρ h.length t a) {T : TypeId} {x ix : Operand} {v : V} {cons : List Prop} (hv : indexV c t T x ix = some (v, cons)) (hc : ∀ p ∈ cons, p) :
    (execOp a.eval ⟨dst, .indexAddr T x ix, ty, pos, after, guard⟩).run c.P w = .ok (.value (v.conc ρ)) w ∧ v.under h.length = true := by
  unfold indexV at hv
  split at hv
  · rename_i b off l cp k i e hx hi hu
    split at hv
    · rename_i n hn
      simp only [Option.some.injEq, Prod.mk.injEq] at hv
      obtain ⟨rfl, rfl⟩ := hv
      obtain ⟨h1, h2⟩ := hc _ (List.mem_singleton.2 rfl)
      refine ⟨?_, (by have := opnd_under RH RT hx; simpa [V.under] using this)⟩
      have ex := opnd_eval RH RT hx
      have ei := opnd_eval RH RT hi
      simp only [V.conc] at ex ei
      generalize a.eval = g at ex ei ⊢
      simp [execOp, Instr.indexAt, asIntOf, go_sem, ex, ei, pureRun_run hu, pureRun_run hn, h1, h2, addr_add, V.conc]
    · cases hv
  · rename_i b off k i l e hx hi hu
    split at hv
    · rename_i n hn
      simp only [Option.some.injEq, Prod.mk.injEq] at hv
      obtain ⟨rfl, rfl⟩ := hv
      obtain ⟨h1, h2⟩ := hc _ (List.mem_singleton.2 rfl)
      refine ⟨?_, (by have := opnd_under RH RT hx; simpa [V.under] using this)⟩
      have ex := opnd_eval RH RT hx
      have ei := opnd_eval RH RT hi
      simp only [V.conc] at ex ei
      generalize a.eval = g at ex ei ⊢
      simp [execOp, Instr.indexAt, asIntOf, Instr.sureAddr, go_sem, ex, ei, pureRun_run hu, pureRun_run hn, h1, h2, addr_add, V.conc]
    · cases hv
  · cases hv
theorem lit_run {P : Program} {g : Operand → Value} (hP : c.P = P) {T : TypeId} {len : Nat} {parts : Array (Nat × Operand)} {e : TypeId} {cells : Array Value} (hl : litCells c T len (parts.map fun (i, x) => (i, g x)).toList = some (e, cells)) :
    (execOp g ⟨dst, .buildSlice T len parts, ty, pos, after, guard⟩).run P w = .ok (.value (.slice (some ⟨w.heap.size, 0, none⟩) len len)) (w.alloc (.cells cells e)) := by
  subst hP
  unfold litCells at hl
  split at hl
  · rename_i e' hu
    split at hl
    · rename_i n z hn hz
      split at hl
      · cases hl
      · rename_i hlen
        rw [not_or] at hlen
        obtain ⟨h1, h2⟩ := hlen
        split at hl
        · rename_i cells' hf
          simp only [Option.some.injEq, Prod.mk.injEq] at hl
          obtain ⟨rfl, rfl⟩ := hl
          simp only [execOp, Instr.buildSlice]
          generalize (parts.map fun (i, x) => (i, g x)) = ps at hf ⊢
          simp [go_sem, pureRun_run hu, pureRun_run hn, h1, h2]
          rw [pureRun_run hz]
          simp only [Result.andThen_ok]
          unfold Value.cells at hf
          simp only [hf]
          simp [go_sem]
        · cases hl
    · cases hl
  · cases hl
end
theorem loadA_ok {c : Cfg} {h : Heap} {ty : TypeId} {b off : Nat} {ans ans' : List Ans} {v : V} {cons : List Prop} (hl : loadA c h ty b off ans = some (v, ans', cons)) (hc : ∀ p ∈ cons, p) : loadV c h ty b off = some v := by
  have base : ((loadV c h ty b off).map fun v => (v, ans, ([] : List Prop))) = some (v, ans', cons) → loadV c h ty b off = some v := fun k => by
    rw [Option.map_eq_some_iff] at k
    obtain ⟨w, hw, k2⟩ := k
    simp only [Prod.mk.injEq] at k2
    obtain ⟨rfl, _, _⟩ := k2
    exact hw
  unfold loadA at hl
  split at hl
  · split at hl
    · split at hl
      · rename_i B hB
        simp only [Option.some.injEq, Prod.mk.injEq] at hl
        obtain ⟨rfl, _, rfl⟩ := hl
        have h1 := hc _ (List.mem_singleton.2 rfl)
        unfold loadBlk at h1
        unfold loadV
        rw [hB]
        split at h1
        · rename_i n hag hsz
          rw [hag, hsz]
          exact h1
        · rename_i hag
          rw [hag]
          exact h1
        · cases h1
      · cases hl
    · exact base hl
  · exact base hl
theorem storeA_ok {c : Cfg} {lim : Nat} {h h' : Heap} {ty : TypeId} {b off : Nat} {x : V} {ans ans' : List Ans} {cons : List Prop} (hl : storeA c lim h ty b off x ans = some (h', ans', cons)) (hc : ∀ p ∈ cons, p) : storeV c lim h ty b off x = some h' := by
  have base : ((storeV c lim h ty b off x).map fun h' => (h', ans, ([] : List Prop))) = some (h', ans', cons) → storeV c lim h ty b off x = some h' := fun k => by
    rw [Option.map_eq_some_iff] at k
    obtain ⟨w, hw, k2⟩ := k
    simp only [Prod.mk.injEq] at k2
    obtain ⟨rfl, _, _⟩ := k2
    exact hw
  unfold storeA at hl
  split at hl
  · split at hl
    · split at hl
      · rename_i B hB
        split at hl
        · rename_i hlim
          simp only [Option.some.injEq, Prod.mk.injEq] at hl
          obtain ⟨rfl, _, rfl⟩ := hl
          have h1 := hc _ (List.mem_singleton.2 rfl)
          unfold storeBlk at h1
          unfold storeV
          rw [hB]
          split at h1
          · rename_i xs n hx hn
            rw [hx, hn]
            split at h1
            · rename_i hh
              simp only [Option.some.injEq] at h1
              subst h1
              dsimp only
              rw [if_pos ⟨hlim, hh.1, hh.2.1, hh.2.2.1, hh.2.2.2⟩]
            · cases h1
          · cases h1
        · cases hl
      · cases hl
    · exact base hl
  · exact base hl
theorem evOp_sound {cf : CallF} (hcf : CallOk c cf) (hfn : ∀ f, c.fns f = true → Callable c.P f) {ans : List Ans} {o : Oper} {out : Out} (he : evOp c cf lim t h ans o = some out) (hc : ∀ p ∈ out.cons, p)
    (RH : RelH c ρ h w) (RT : RelT ρ h.length t a) (hL : c.L ≤ lim) {K : Act → World → Prop} {Q : Exit → Act → World → Prop}
    (hK : ∀ ρ' w', ρ'.unk = ρ.unk → RelH c ρ' out.h w' → Fr lim ρ h w ρ' out.h w' → out.v.under out.h.length = true → K (a.put o.dst (out.v.conc ρ')) w') : o.wp c.P a w K Q := by
  obtain ⟨dst, op, ty, pos, after, guard⟩ := o
  have plain : ∀ {v : V}, out.v = v → out.h = h → v.under h.length = true → (execOp a.eval ⟨dst, op, ty, pos, after, guard⟩).run c.P w = .ok (.value (v.conc ρ)) w → Oper.wp c.P ⟨dst, op, ty, pos, after, guard⟩ a w K Q := fun {v} e1 e2 hu hr => by
    refine value_step hr ?_
    subst e1
    refine hK ρ w rfl ?_ ?_ ?_
    · rw [e2]; exact RH
    · rw [e2]; exact Fr.refl lim ρ h w
    · rw [e2]; exact hu
  have gen : evGen c t h ans ⟨dst, op, ty, pos, after, guard⟩ = some out → Oper.wp c.P ⟨dst, op, ty, pos, after, guard⟩ a w K Q := fun h1 => by
    unfold evGen at h1
    dsimp only at h1
    split at h1
    · rename_i v cons hb
      simp only [Option.some.injEq] at h1
      subst h1
      obtain ⟨hr, hu⟩ := bare_run RH RT (o := ⟨dst, op, ty, pos, after, guard⟩) hb hc
      exact plain rfl rfl hu hr
    · split at h1
      · rename_i l hl
        split at h1
        · rename_i hall
          split at h1
          · rename_i v hp
            simp only [Option.some.injEq] at h1
            subst h1
            have hcong : execOp (rawOf c t) ⟨dst, op, ty, pos, after, guard⟩ = execOp a.eval ⟨dst, op, ty, pos, after, guard⟩ :=
              execOp_congr (o := ⟨dst, op, ty, pos, after, guard⟩) hl fun x hx => rawOf_eval RH RT (List.all_eq_true.1 hall x hx)
            rw [hcong] at hp
            exact plain rfl rfl rfl (pureRun_run hp w)
          · cases h1
        · cases h1
      · cases h1
  cases op with
  | move x =>
    simp only [evOp] at he
    split at he
    · rename_i v hv
      simp only [Option.some.injEq] at he
      subst he
      refine plain rfl rfl (opnd_under RH RT hv) ?_
      rw [← opnd_eval RH RT hv]
      rfl
    · cases he
  | assign x =>
    simp only [evOp] at he
    split at he
    · rename_i v hv
      simp only [Option.some.injEq] at he
      subst he
      refine plain rfl rfl (opnd_under RH RT hv) ?_
      rw [← opnd_eval RH RT hv]
      rfl
    · cases he
  | pick x y z =>
    simp only [evOp] at he
    split at he
    · rename_i b q ans' hx
      split at he
      · rename_i v hv
        simp only [Option.some.injEq] at he
        subst he
        have hbq : b = q := hc _ (List.mem_singleton.2 rfl)
        subst hbq
        have ex := opnd_eval RH RT hx
        simp only [V.conc] at ex
        refine plain rfl rfl (opnd_under RH RT hv) ?_
        have ev := opnd_eval RH RT hv
        rw [← ev]
        generalize a.eval = g at ex ⊢
        cases b <;> simp [execOp, go_sem, ex, asBool]
      · cases he
    · cases he
  | alloc T =>
    simp only [evOp] at he
    split at he
    · rename_i z hz
      simp only [Option.some.injEq] at he
      subst he
      have hr : (execOp a.eval ⟨dst, .alloc T, ty, pos, after, guard⟩).run c.P w = .ok (.value (.pointer (some ⟨w.heap.size, 0, none⟩))) (w.alloc (.cells z.cells T)) := by
        generalize a.eval = g
        have hz' := pureRun_run hz
        simp only [execOp, Instr.alloc, newVar, newRow, newObj]
        generalize zeroValue T = s at hz' ⊢
        simp [go_sem, hz']
        rfl
      unfold Oper.wp
      rw [hr]
      have hA := relH_alloc RH (xs := z.cells.toList.map .raw) (ty := T) (unders_raw _ _)
      rw [concs_raw] at hA
      have := hK (ρ.push h.length w.heap.size) (w.alloc (.cells z.cells T)) rfl hA fr_alloc (by simp [V.under])
      show K (a.put dst (.pointer (some ⟨w.heap.size, 0, none⟩))) (w.alloc (.cells z.cells T))
      simpa [V.conc, Ren.push] using this
    · cases he
  | box T x =>
    simp only [evOp] at he
    split at he
    · rename_i xs hxs
      obtain ⟨v, hv, hcv⟩ := Option.bind_eq_some_iff.1 hxs
      simp only [Option.some.injEq] at he
      subst he
      have ex := opnd_eval RH RT hv
      have hcs := cellsV_conc ρ hcv
      have hr : (execOp a.eval ⟨dst, .box T x, ty, pos, after, guard⟩).run c.P w = .ok (.value (.pointer (some ⟨w.heap.size, 0, none⟩))) (w.alloc (.cells (concs ρ xs).toArray T)) := by
        have e : (concs ρ xs).toArray = (a.eval x).cells := by rw [ex]; apply Array.toList_inj.1; rw [hcs]
        rw [e]
        generalize a.eval = g
        simp only [execOp, Instr.box, newVar, newRow, newObj]
        generalize (g x).cells = q
        simp [go_sem]
        rfl
      unfold Oper.wp
      rw [hr]
      have hA := relH_alloc RH (xs := xs) (ty := T) (cellsV_under hcv (opnd_under RH RT hv))
      have := hK (ρ.push h.length w.heap.size) (w.alloc (.cells (concs ρ xs).toArray T)) rfl hA fr_alloc (by simp [V.under])
      show K (a.put dst (.pointer (some ⟨w.heap.size, 0, none⟩))) (w.alloc (.cells (concs ρ xs).toArray T))
      simpa [V.conc, Ren.push] using this
    · cases he
  | load T x =>
    simp only [evOp] at he
    split at he
    · rename_i b off hx
      split at he
      · rename_i v ans' cons hla
        simp only [Option.some.injEq] at he
        subst he
        have hv := loadA_ok hla hc
        have ex := opnd_eval RH RT hx
        simp only [V.conc] at ex
        obtain ⟨hl, hu⟩ := load_conc RH hv
        refine plain rfl rfl hu ?_
        generalize a.eval = g at ex ⊢
        have e : execOp g ⟨dst, .load T x, ty, pos, after, guard⟩ = (do let q ← loadVar T ⟨ρ.blk b, off, none⟩; pure (Next.value q)) := by simp only [execOp, Instr.loadAt, Instr.sureAddr, ex]; rfl
        rw [e]
        generalize loadVar T ⟨ρ.blk b, off, none⟩ = s at hl ⊢
        simp [go_sem, hl]
      · cases he
    · cases he
  | store T x y =>
    simp only [evOp] at he
    split at he
    · rename_i b off v hx hy
      split at he
      · rename_i h' ans' cons hsa
        simp only [Option.some.injEq] at he
        subst he
        have hs := storeA_ok hsa hc
        have ex := opnd_eval RH RT hx
        have ey := opnd_eval RH RT hy
        simp only [V.conc] at ex
        obtain ⟨w', h1, h2, h3⟩ := store_conc RH hL hs
        have hr : (execOp a.eval ⟨dst, .store T x y, ty, pos, after, guard⟩).run c.P w = .ok .skip w' := by
          rw [← ey] at h1
          generalize a.eval = g at ex h1 ⊢
          have e : execOp g ⟨dst, .store T x y, ty, pos, after, guard⟩ = (do storeVar T ⟨ρ.blk b, off, none⟩ (g y); pure Next.skip) := by simp only [execOp, Instr.storeAt, Instr.sureAddr, ex]; rfl
          rw [e]
          generalize storeVar T ⟨ρ.blk b, off, none⟩ (g y) = s at h1 ⊢
          simp [go_sem, h1]
        unfold Oper.wp
        rw [hr]
        exact hK ρ w' rfl h2 h3 rfl
      · cases he
    · cases he
  | fieldAddr s x f =>
    simp only [evOp] at he
    split at he
    · rename_i b off d hx hd
      simp only [Option.some.injEq] at he
      subst he
      have ex := opnd_eval RH RT hx
      have hu := opnd_under RH RT hx
      simp only [V.conc] at ex
      have hf := field_conc (ρ := ρ) (b := b) (off := off) hd w
      refine plain rfl rfl hu ?_
      generalize a.eval = g at ex ⊢
      simp only [execOp, ex]
      generalize Instr.fieldAt s (.pointer (some ⟨ρ.blk b, off, none⟩)) f = s at hf ⊢
      simp [go_sem]
      rw [hf]; rfl
    · cases he
  | nilCheck x =>
    simp only [evOp] at he
    split at he
    · rename_i b off hx
      simp only [Option.some.injEq] at he
      subst he
      have ex := opnd_eval RH RT hx
      simp only [V.conc] at ex
      refine plain rfl rfl (opnd_under RH RT hx) ?_
      generalize a.eval = g at ex ⊢
      simp [execOp, go_sem, ex, V.conc]
    · rename_i f y z hx
      simp only [Option.some.injEq] at he
      subst he
      have ex := opnd_eval RH RT hx
      simp only [V.conc] at ex
      refine plain rfl rfl (opnd_under RH RT hx) ?_
      generalize a.eval = g at ex ⊢
      simp [execOp, go_sem, ex, V.conc]
    · cases he
  | makeFunc f x y =>
    simp only [evOp] at he
    split at he
    · rename_i xs ys hx hy
      simp only [Option.some.injEq] at he
      subst he
      obtain ⟨e1, u1⟩ := opnds_ok RH RT _ _ hx
      obtain ⟨e2, u2⟩ := opnds_ok RH RT _ _ hy
      refine plain rfl rfl (by simp [V.under, u1, u2]) ?_
      have k1 : x.map a.eval = (concs ρ xs).toArray := by apply Array.toList_inj.1; simpa using e1
      have k2 : y.map a.eval = (concs ρ ys).toArray := by apply Array.toList_inj.1; simpa using e2
      generalize a.eval = g at k1 k2 ⊢
      simp [execOp, go_sem, Instr.makeFunc, V.conc, k1, k2]
    · cases he
  | indexAddr T x ix =>
    simp only [evOp] at he
    split at he
    · rename_i v cons hv
      simp only [Option.some.injEq] at he
      subst he
      obtain ⟨hr, hu⟩ := index_run (dst := dst) (ty := ty) (pos := pos) (after := after) (guard := guard) RH RT hv hc
      exact plain rfl rfl hu hr
    · cases he
  | buildSlice T len parts =>
    simp only [evOp] at he
    split at he
    · rename_i hall
      split at he
      · rename_i e cells hl
        simp only [Option.some.injEq] at he
        subst he
        have hp : parts.toList.map (fun p => (p.1, rawOf c t p.2)) = (parts.map fun (i, x) => (i, a.eval x)).toList := by
          rw [Array.toList_map]
          refine List.map_congr_left fun p hp => ?_
          rw [rawOf_eval RH RT (List.all_eq_true.1 hall p hp)]
        rw [hp] at hl
        have hr := lit_run (P := c.P) (g := a.eval) (w := w) (dst := dst) (ty := ty) (pos := pos) (after := after) (guard := guard) (c := c) rfl hl
        unfold Oper.wp
        rw [hr]
        have hA := relH_alloc RH (xs := cells.toList.map .raw) (ty := e) (unders_raw _ _)
        rw [concs_raw] at hA
        have := hK (ρ.push h.length w.heap.size) (w.alloc (.cells cells e)) rfl hA fr_alloc (by simp [V.under])
        show K (a.put dst (.slice (some ⟨w.heap.size, 0, none⟩) len len)) (w.alloc (.cells cells e))
        simpa [V.conc, Ren.push] using this
      · cases he
    · cases he
  | makeSlice T l cp =>
    simp only [evOp] at he
    split at he
    · rename_i kl n kc m e hl hcp hu
      split at he
      · rename_i i hi
        split at he
        · rename_i z hz
          simp only [Option.some.injEq] at he
          subst he
          obtain ⟨g1, g2, g3, g4⟩ := hc _ (List.mem_singleton.2 rfl)
          have el := opnd_eval RH RT hl
          have ec := opnd_eval RH RT hcp
          simp only [V.conc] at el ec
          have hr : (execOp a.eval ⟨dst, .makeSlice T l cp, ty, pos, after, guard⟩).run c.P w = .ok (.value (.slice (some ⟨w.heap.size, 0, none⟩) n.toNat m.toNat)) (w.alloc (.cells (madeCells z.cells (m.toNat * i.size)) e)) := by
            have h0 := run_make (P := c.P) w T e i z hu hi hz kl kc n m g1 g2 g3 g4
            generalize a.eval = g at el ec ⊢
            simp only [execOp, el, ec]
            generalize Instr.makeSlice T (.int kl n) (.int kc m) = s at h0 ⊢
            simp [go_sem, h0]
          unfold Oper.wp
          rw [hr]
          have hA := relH_alloc RH (xs := (madeCells z.cells (m.toNat * i.size)).toList.map .raw) (ty := e) (unders_raw _ _)
          rw [concs_raw] at hA
          have := hK (ρ.push h.length w.heap.size) (w.alloc (.cells (madeCells z.cells (m.toNat * i.size)) e)) rfl hA fr_alloc (by simp [V.under])
          show K (a.put dst (.slice (some ⟨w.heap.size, 0, none⟩) n.toNat m.toNat)) (w.alloc (.cells (madeCells z.cells (m.toNat * i.size)) e))
          simpa [V.conc, Ren.push] using this
        · cases he
      · cases he
    · cases he
  | call k =>
    obtain ⟨callee, args, ats⟩ := k
    cases callee with
    | value f =>
      simp only [evOp] at he
      split at he
      · rename_i g first cap xs hx hxs
        split at he
        · rename_i hcal
          have ex := opnd_eval RH RT hx
          have hu := opnd_under RH RT hx
          simp only [V.conc] at ex
          simp only [V.under, Bool.and_eq_true] at hu
          obtain ⟨e1, u1⟩ := opnds_ok RH RT _ _ hxs
          have hcall := hcf _ _ _ _ _ _ he hc hL ρ w RH (unders_append (unders_append hu.1 u1) hu.2)
          refine calls_step ex (hfn g hcal) (fun v w' => ∃ ρ', ρ'.unk = ρ.unk ∧ v = out.v.conc ρ' ∧ RelH c ρ' out.h w' ∧ Fr lim ρ h w ρ' out.h w' ∧ out.v.under out.h.length = true) ?_ ?_
          · rw [e1, ← concs_append, ← concs_append]
            refine hcall.mono fun e w' he' => ?_
            obtain ⟨ρ', k1, k2, k3⟩ := he'
            exact ⟨_, k2, ρ', k1, rfl, k3⟩
          · rintro v w' ⟨ρ', k1, rfl, k3, k4, k5⟩
            exact hK ρ' w' k1 k3 k4 k5
        · cases he
      · cases he
    | invoke x n => exact gen he
    | builtin b =>
      cases b with
      | len =>
        simp only [evOp] at he
        split at he
        · rename_i v hv
          simp only [Option.some.injEq] at he
          subst he
          obtain ⟨hr, hu⟩ := len_run (dst := dst) (ty := ty) (pos := pos) (after := after) (guard := guard) RH RT hv
          exact plain rfl rfl hu hr
        · exact gen he
      | _ => exact gen he
  | binOp b T x y U =>
    simp only [evOp] at he
    split at he
    · rename_i v hv
      simp only [Option.some.injEq] at he
      subst he
      obtain ⟨hr, hu⟩ := eqV_run (dst := dst) (ty := ty) (pos := pos) (after := after) (guard := guard) (U := U) RH RT hv
      exact plain rfl rfl hu hr
    · exact gen he
  | _ => exact gen he
end
end Go.Proofs.YteefjegampdpoaaDoor.E
end
section
namespace Go.Proofs.YteefjegampdpoaaDoor.E
open Go Go.RowKit
def Runs (c : Cfg) (lim : Nat) (code : Code) (t : List V) (h : Heap) (e : Ex) (t' : List V) (h' : Heap) : Prop :=
  ∀ ρ a w, RelT ρ h.length t a → RelH c ρ h w → code.wp c.P (fun x a' w' => x = e.to ∧ ∃ ρ', a'.defers = a.defers ∧ RelT ρ' h'.length t' a' ∧ RelH c ρ' h' w' ∧ Fr lim ρ h w ρ' h' w') a w
def Meets (c : Cfg) (lim : Nat) (f : FuncId) (args : List V) (h : Heap) (v : V) (h' : Heap) : Prop :=
  ∀ ρ w, RelH c ρ h w → unders h.length args = true →
    Calls c.P f (concs ρ args).toArray w fun e w' => ∃ ρ', ρ'.unk = ρ.unk ∧ e = .returned (v.conc ρ') ∧ RelH c ρ' h' w' ∧ Fr lim ρ h w ρ' h' w' ∧ v.under h'.length = true
def Ret (c : Cfg) (f : FuncId) (args : List V) (v : V) : Prop := ∀ h lim, c.L ≤ lim → Meets c lim f args h v h
structure COut where
  e : Ex
  t : List V
  h : Heap
  ans : List Ans
  cons : List Prop
def iter (body : List V → Heap → List Ans → Option COut) : Nat → List V → Heap → List Ans → Option COut
  | 0, _, _, _ => none
  | n + 1, t, h, ans => match body t h ans with
    | none => none
    | some r => match r.e with
      | .normal => match iter body n r.t r.h r.ans with
        | none => none
        | some q => some { q with cons := r.cons ++ q.cons }
      | _ => some r
def litOf (t : List V) : Operand → Option Bool
  | .tmp s => match t[s]? with
    | some (.lit b) => some b
    | _ => none
  | _ => none
def evCode (c : Cfg) (cf : CallF) (lim : Nat) : Code → List V → Heap → List Ans → Option COut
  | .skip, t, h, ans => some ⟨.normal, t, h, ans, []⟩
  | .label _, t, h, ans => some ⟨.normal, t, h, ans, []⟩
  | .exit id, t, h, ans => some ⟨.exit id, t, h, ans, []⟩
  | .ret, t, h, ans => some ⟨.ret, t, h, ans, []⟩
  | .region _ ops draws, t, h, ans => match (match draws with
      | true => evDrawn c cf lim ops t h ans
      | false => evOps c cf lim ops ops.toList t h ans) with
    | some r => some ⟨.normal, r.t, r.h, r.ans, r.cons⟩
    | none => none
  | .seq x y, t, h, ans => match evCode c cf lim x t h ans with
    | none => none
    | some r => match r.e with
      | .normal => match evCode c cf lim y r.t r.h r.ans with
        | none => none
        | some q => some { q with cons := r.cons ++ q.cons }
      | _ => some r
  | .cond x y z, t, h, ans => match litOf t x with
    | some true => evCode c cf lim y t h ans
    | some false => evCode c cf lim z t h ans
    | none => match opnd c t x with
    | some (.raw (.bool b)) => match ans with
      | .br q :: ans' => match (match q with
          | true => evCode c cf lim y t h ans'
          | false => evCode c cf lim z t h ans') with
        | none => none
        | some r => some { r with cons := (b = q) :: r.cons }
      | _ => none
    | _ => none
  | .block id x, t, h, ans => match evCode c cf lim x t h ans with
    | none => none
    | some r => some { r with e := match r.e with
        | .exit i => if i = id then .normal else .exit i
        | e => e }
  | .scope x, t, h, ans => evCode c cf lim x t h ans
  | .loop x, t, h, ans => match ans with
    | .loop e t' h' :: ans' => some ⟨e, t', h', ans', [Runs c lim (.loop x) t h e t' h']⟩
    | ans => iter (evCode c cf lim x) 200 t h ans
  | _, _, _, _ => none
def resultsV (c : Cfg) (t : List V) (h : Heap) : List ResultVar → Option (List V)
  | [] => some []
  | .tmp s :: l => match opnd c t (.tmp s), resultsV c t h l with
    | some v, some vs => some (v :: vs)
    | _, _ => none
  | .cell s T :: l => match opnd c t (.tmp s) with
    | some (.ptr b off) => match loadV c h T b off, resultsV c t h l with
      | some v, some vs => some (v :: vs)
      | _, _ => none
    | _ => none
def oneOf : List V → V
  | [v] => v
  | l => mkTup l
def evFunc (c : Cfg) : Nat → CallF
  | 0, _, _, _, _, _ => none
  | n + 1, f, args, h, lim, ans => match ans with
    | .ret v :: ans' => some ⟨v, h, ans', [Ret c f args v]⟩
    | .reth v h' :: ans' => some ⟨v, h', ans', [Meets c lim f args h v h']⟩
    | .go :: ans' => match c.P.funcs[f]? with
      | none => none
      | some fn => match fn.body with
        | none => none
        | some code => match evCode c (evFunc c n) lim code (args ++ List.replicate (fn.ntmps - args.length) (.raw undef)) h ans' with
          | none => none
          | some r => match r.e with
            | .exit _ => none
            | _ => match resultsV c r.t r.h fn.results.toList with
              | none => none
              | some vs => some ⟨oneOf vs, r.h, r.ans, r.cons⟩
    | _ => none
section
variable {c : Cfg} {lim : Nat}
theorem relT_put {ρ ρ' : Ren} {n n' : Nat} {t : List V} {a : Act} (RT : RelT ρ n t a) (hag : ∀ i, i < n → ρ'.blk i = ρ.blk i) (hu : ρ'.unk = ρ.unk) (hn : n ≤ n') {v : V} (hv : v.slotOk n' = true) (d : Option Nat) : RelT ρ' n' (putT t d v) (a.put d (v.conc ρ')) := by
  have h0 : concs ρ' t = concs ρ t := by
    rw [concs_map, concs_map]
    exact List.map_congr_left fun x hx => V.slot_agree hag hu x (RT.sco x hx)
  cases d with
  | none => exact ⟨by simp only [putT, Act.put]; rw [RT.tmps, h0], fun x hx => V.slotOk_mono hn x (RT.sco x hx)⟩
  | some d =>
    refine ⟨?_, fun x hx => ?_⟩
    · simp only [putT, Act.put]
      rw [RT.tmps, concs_set, h0]
      simp
    · simp only [putT] at hx
      rcases List.mem_or_eq_of_mem_set hx with h1 | rfl
      · exact V.slotOk_mono hn x (RT.sco x h1)
      · exact hv
theorem evGuard_sound {ρ : Ren} {n : Nat} {ops : Array Oper} {t : List V} {a : Act} {ans : List Ans} {o : Oper} {g : GOut} (he : evGuard ops t ans o = some g) (hc : ∀ p ∈ g.cons, p) (RT : RelT ρ n t a) :
    Region.wanted o (yielded ops a.tmps) = g.want ∧ RelT ρ n g.t a := by
  unfold evGuard at he
  split at he
  · rename_i hg
    simp only [Option.some.injEq] at he
    subst he
    exact ⟨by simp [Region.wanted, hg], RT⟩
  · rename_i j want hg
    split at he
    · rename_i d hd
      split at he
      · rename_i b hb
        simp only [Option.some.injEq] at he
        subst he
        have hy : a.tmps[d]? = some (.bool b) := by rw [RT.tmps]; simp [concs_get, hb, V.conc]
        refine ⟨?_, RT⟩
        simp [Region.wanted, hg, yielded, hd, hy]
      · rename_i b hb
        split at he
        · rename_i q ans'
          simp only [Option.some.injEq] at he
          subst he
          have hbq : b = q := hc _ (List.mem_singleton.2 rfl)
          subst hbq
          have hset : concs ρ (t.set d (.lit b)) = concs ρ t := by
            obtain ⟨hlt, hx⟩ := List.getElem?_eq_some_iff.1 hb
            rw [concs_set]
            have : (concs ρ t)[d]'(by rw [concs_length]; exact hlt) = .bool b := by simp [concs_map, hx, V.conc]
            simp only [V.conc]
            rw [← this]; exact List.set_getElem_self _
          have hy : a.tmps[d]? = some (.bool b) := by rw [RT.tmps]; simp [concs_get, hb, V.conc]
          refine ⟨?_, by rw [hset]; exact RT.tmps, fun x hx => ?_⟩
          rotate_left
          · rcases List.mem_or_eq_of_mem_set hx with h1 | rfl
            · exact RT.sco x h1
            · rfl
          simp [Region.wanted, hg, yielded, hd, hy]
        · cases he
      · rename_i vs hb
        simp only [Option.some.injEq] at he
        subst he
        have hy : a.tmps[d]? = some (.tuple vs) := by rw [RT.tmps]; simp [concs_get, hb, V.conc]
        refine ⟨?_, RT⟩
        simp [Region.wanted, hg, yielded, hd, hy]
      · cases he
    · cases he
theorem evOps_sound {cf : CallF} (hcf : CallOk c cf) (hfn : ∀ f, c.fns f = true → Callable c.P f) (hL : c.L ≤ lim) {ops : Array Oper} {Q : Exit → Act → World → Prop} :
    ∀ (l : List Oper) (t : List V) (h : Heap) (ans : List Ans) (r : ROut) (ρ : Ren) (a : Act) (w : World), evOps c cf lim ops l t h ans = some r → (∀ p ∈ r.cons, p) → RelH c ρ h w → RelT ρ h.length t a →
      (∀ ρ' a' w', ρ'.unk = ρ.unk → a'.defers = a.defers → RelT ρ' r.h.length r.t a' → RelH c ρ' r.h w' → Fr lim ρ h w ρ' r.h w' → Q .normal a' w') → wpList c.P ops Q l a w
  | [], t, h, ans, r, ρ, a, w, he, hc, RH, RT, hQ => by
    simp only [evOps, Option.some.injEq] at he
    subst he
    exact hQ ρ a w rfl rfl RT RH (Fr.refl _ _ _ _)
  | o :: rest, t, h, ans, r, ρ, a, w, he, hc, RH, RT, hQ => by
    simp only [evOps] at he
    split at he
    · cases he
    · rename_i g hg
      split at he
      · rename_i hw
        split at he
        · cases he
        · rename_i r1 hr1
          split at he
          · cases he
          · rename_i q hq
            simp only [Option.some.injEq] at he
            subst he
            obtain ⟨h1, RT1⟩ := evGuard_sound hg (fun p hp => hc p (List.mem_append_left _ hp)) RT
            refine wpList_step fun K hK => ?_
            rw [h1, hw, if_pos rfl]
            refine evOp_sound hcf hfn hr1 (fun p hp => hc p (List.mem_append_right _ (List.mem_append_left _ hp))) RH RT1 hL fun ρ1 w1 hu1 RH1 F1 hv1 => hK _ _ ?_
            have RT2 := relT_put RT1 F1.ren hu1 F1.len (V.slot_of_under _ hv1) o.dst
            refine evOps_sound hcf hfn hL rest _ _ _ q ρ1 _ w1 hq (fun p hp => hc p (List.mem_append_right _ (List.mem_append_right _ hp))) RH1 RT2 fun ρ' a' w' hu' hd' RT' RH' F' => ?_
            exact hQ ρ' a' w' (hu'.trans hu1) (hd'.trans R.put_defers) RT' RH' (F1.trans F')
      · rename_i hw
        split at he
        · cases he
        · rename_i q hq
          simp only [Option.some.injEq] at he
          subst he
          obtain ⟨h1, RT1⟩ := evGuard_sound hg (fun p hp => hc p (List.mem_append_left _ hp)) RT
          refine wpList_step fun K hK => ?_
          rw [h1, if_neg hw]
          refine hK _ _ ?_
          have RT2 := relT_put (ρ' := ρ) RT1 (fun _ _ => rfl) rfl (Nat.le_refl _) (v := .raw undef) rfl o.dst
          refine evOps_sound hcf hfn hL rest _ _ _ q ρ _ w hq (fun p hp => hc p (List.mem_append_right _ hp)) RH RT2 fun ρ' a' w' hu' hd' RT' RH' F' => ?_
          exact hQ ρ' a' w' hu' (hd'.trans R.put_defers) RT' RH' F'
end
end Go.Proofs.YteefjegampdpoaaDoor.E
namespace Go.Proofs.YteefjegampdpoaaDoor.E
open Go Go.RowKit
def newPos : List AItem → Nat → Nat
  | [], _ => 0
  | .new _ _ :: _, 0 => 0
  | .new _ _ :: l, m + 1 => newPos l m + 1
  | .val _ :: l, m => newPos l m + 1
  | .put _ _ :: l, m => newPos l m + 1
  | .old _ _ _ :: l, m => newPos l m + 1
  | .skip :: l, m => newPos l m + 1
theorem newPos_get : ∀ (l : List AItem) (m : Nat), m < cntNew l → ∃ T z, l[newPos l m]? = some (.new T z)
  | [], m, h => by simp [cntNew] at h
  | .new T z :: l, 0, h => ⟨T, z, rfl⟩
  | .new T z :: l, m + 1, h => by
    obtain ⟨T', z', h1⟩ := newPos_get l m (by simp only [cntNew] at h; omega)
    exact ⟨T', z', by simpa [newPos] using h1⟩
  | .val _ :: l, m, h => by
    obtain ⟨T', z', h1⟩ := newPos_get l m h
    exact ⟨T', z', by simpa [newPos] using h1⟩
  | .put _ _ :: l, m, h => by
    obtain ⟨T', z', h1⟩ := newPos_get l m h
    exact ⟨T', z', by simpa [newPos] using h1⟩
  | .old _ _ _ :: l, m, h => by
    obtain ⟨T', z', h1⟩ := newPos_get l m h
    exact ⟨T', z', by simpa [newPos] using h1⟩
  | .skip :: l, m, h => by
    obtain ⟨T', z', h1⟩ := newPos_get l m h
    exact ⟨T', z', by simpa [newPos] using h1⟩
theorem newPos_inj : ∀ (l : List AItem) (m m' : Nat), m < cntNew l → m' < cntNew l → newPos l m = newPos l m' → m = m'
  | [], m, m', h, _, _ => by simp [cntNew] at h
  | .new T z :: l, 0, 0, _, _, _ => rfl
  | .new T z :: l, 0, m' + 1, _, _, e => by simp [newPos] at e
  | .new T z :: l, m + 1, 0, _, _, e => by simp [newPos] at e
  | .new T z :: l, m + 1, m' + 1, h, h', e => by
    simp only [newPos, Nat.add_right_cancel_iff] at e
    simp only [cntNew] at h h'
    rw [newPos_inj l m m' (by omega) (by omega) e]
  | .val _ :: l, m, m', h, h', e => newPos_inj l m m' h h' (by simpa [newPos] using e)
  | .put _ _ :: l, m, m', h, h', e => newPos_inj l m m' h h' (by simpa [newPos] using e)
  | .old _ _ _ :: l, m, m', h, h', e => newPos_inj l m m' h h' (by simpa [newPos] using e)
  | .skip :: l, m, m', h, h', e => newPos_inj l m m' h h' (by simpa [newPos] using e)
theorem newPos_take : ∀ (l : List AItem) (k : Nat) (T : TypeId) (z : List V), l[k]? = some (.new T z) → newPos l (cntNew (l.take k)) = k ∧ cntNew (l.take k) < cntNew l
  | [], k, T, z, h => by simp at h
  | x :: l, 0, T, z, h => by
    simp only [List.getElem?_cons_zero, Option.some.injEq] at h
    subst h
    simp [newPos, cntNew]
  | x :: l, k + 1, T, z, h => by
    have ⟨h1, h2⟩ := newPos_take l k T z (by simpa using h)
    cases x <;> simp only [List.take_succ_cons, cntNew, newPos] <;> omega
theorem newBlks_len (its : List AItem) : ∀ (l : List AItem) (i : Nat), (newBlks its i l).length = cntNew l
  | [], i => rfl
  | .new T z :: l, i => by simp [newBlks, cntNew, newBlks_len its l]
  | .val _ :: l, i => by simp [newBlks, cntNew, newBlks_len its l]
  | .put _ _ :: l, i => by simp [newBlks, cntNew, newBlks_len its l]
  | .old _ _ _ :: l, i => by simp [newBlks, cntNew, newBlks_len its l]
  | .skip :: l, i => by simp [newBlks, cntNew, newBlks_len its l]
theorem newBlks_get (its : List AItem) : ∀ (l : List AItem) (i m : Nat) (B : Blk), (newBlks its i l)[m]? = some (some B) → (∃ z, l[newPos l m]? = some (.new B.ty z)) ∧ putOf its (i + newPos l m) = some B.cells
  | [], i, m, B, h => by simp [newBlks] at h
  | .new T z :: l, i, 0, B, h => by
    simp only [newBlks, List.getElem?_cons_zero, Option.some.injEq, Option.map_eq_some_iff] at h
    obtain ⟨cs, h1, rfl⟩ := h
    exact ⟨⟨z, rfl⟩, h1⟩
  | .new T z :: l, i, m + 1, B, h => by
    have ⟨⟨z', h1⟩, h2⟩ := newBlks_get its l (i + 1) m B (by simpa [newBlks] using h)
    exact ⟨⟨z', by simpa [newPos] using h1⟩, by simp only [newPos]; rw [← h2]; congr 1; omega⟩
  | .val _ :: l, i, m, B, h => by
    have ⟨⟨z', h1⟩, h2⟩ := newBlks_get its l (i + 1) m B (by simpa [newBlks] using h)
    exact ⟨⟨z', by simpa [newPos] using h1⟩, by simp only [newPos]; rw [← h2]; congr 1; omega⟩
  | .put _ _ :: l, i, m, B, h => by
    have ⟨⟨z', h1⟩, h2⟩ := newBlks_get its l (i + 1) m B (by simpa [newBlks] using h)
    exact ⟨⟨z', by simpa [newPos] using h1⟩, by simp only [newPos]; rw [← h2]; congr 1; omega⟩
  | .old _ _ _ :: l, i, m, B, h => by
    have ⟨⟨z', h1⟩, h2⟩ := newBlks_get its l (i + 1) m B (by simpa [newBlks] using h)
    exact ⟨⟨z', by simpa [newPos] using h1⟩, by simp only [newPos]; rw [← h2]; congr 1; omega⟩
  | .skip :: l, i, m, B, h => by
    have ⟨⟨z', h1⟩, h2⟩ := newBlks_get its l (i + 1) m B (by simpa [newBlks] using h)
    exact ⟨⟨z', by simpa [newPos] using h1⟩, by simp only [newPos]; rw [← h2]; congr 1; omega⟩
theorem putOf_get {its : List AItem} {k : Nat} {cs : List V} (h : putOf its k = some cs) : ∃ i : Nat, its[i]? = some (AItem.put k cs) := by
  unfold putOf at h
  obtain ⟨it, hm, h1⟩ := List.exists_of_findSome?_eq_some h
  cases it with
  | put k' cs' =>
    simp only at h1
    split at h1
    · rename_i e
      simp only [Option.some.injEq] at h1
      subst h1; subst e
      exact List.mem_iff_getElem?.1 hm
    · cases h1
  | _ => cases h1
theorem applyOlds_len : ∀ (l : List AItem) (h : Heap), (applyOlds l h).length = h.length
  | [], h => rfl
  | .old b T cs :: l, h => by simp [applyOlds, applyOlds_len l]
  | .new _ _ :: l, h => by simp [applyOlds, applyOlds_len l]
  | .val _ :: l, h => by simp [applyOlds, applyOlds_len l]
  | .put _ _ :: l, h => by simp [applyOlds, applyOlds_len l]
  | .skip :: l, h => by simp [applyOlds, applyOlds_len l]
theorem applyOlds_get : ∀ (l : List AItem) (h : Heap) (i : Nat) (B : Blk), (applyOlds l h)[i]? = some (some B) → (∃ j : Nat, l[j]? = some (AItem.old i B.ty B.cells)) ∨ (h[i]? = some (some B) ∧ ∀ (j : Nat) (T : TypeId) (cs : List V), l[j]? ≠ some (.old i T cs))
  | [], h, i, B, hi => .inr ⟨hi, by simp⟩
  | .old b T cs :: l, h, i, B, hi => by
    rcases applyOlds_get l (h.set b (some ⟨cs, T⟩)) i B hi with ⟨j, hj⟩ | ⟨h1, h2⟩
    · exact .inl ⟨j + 1, by simpa using hj⟩
    · rcases Nat.decEq i b with hne | rfl
      · rw [List.getElem?_set_ne (Ne.symm hne)] at h1
        refine .inr ⟨h1, fun j T' cs' hj => ?_⟩
        cases j with
        | zero => simp only [List.getElem?_cons_zero, Option.some.injEq, AItem.old.injEq] at hj; exact hne hj.1.symm
        | succ j => exact h2 j T' cs' (by simpa using hj)
      · have hl : i < h.length := by
          rcases Nat.lt_or_ge i h.length with h3 | h3
          · exact h3
          · rw [List.getElem?_eq_none (by simpa using h3)] at h1; cases h1
        rw [List.getElem?_set_self hl] at h1
        simp only [Option.some.injEq] at h1
        subst h1
        exact .inl ⟨0, rfl⟩
  | .new _ _ :: l, h, i, B, hi => by
    rcases applyOlds_get l h i B hi with ⟨j, hj⟩ | ⟨h1, h2⟩
    · exact .inl ⟨j + 1, by simpa using hj⟩
    · refine .inr ⟨h1, fun j T' cs' hj => ?_⟩
      cases j with
      | zero => simp at hj
      | succ j => exact h2 j T' cs' (by simpa using hj)
  | .val _ :: l, h, i, B, hi => by
    rcases applyOlds_get l h i B hi with ⟨j, hj⟩ | ⟨h1, h2⟩
    · exact .inl ⟨j + 1, by simpa using hj⟩
    · refine .inr ⟨h1, fun j T' cs' hj => ?_⟩
      cases j with
      | zero => simp at hj
      | succ j => exact h2 j T' cs' (by simpa using hj)
  | .put _ _ :: l, h, i, B, hi => by
    rcases applyOlds_get l h i B hi with ⟨j, hj⟩ | ⟨h1, h2⟩
    · exact .inl ⟨j + 1, by simpa using hj⟩
    · refine .inr ⟨h1, fun j T' cs' hj => ?_⟩
      cases j with
      | zero => simp at hj
      | succ j => exact h2 j T' cs' (by simpa using hj)
  | .skip :: l, h, i, B, hi => by
    rcases applyOlds_get l h i B hi with ⟨j, hj⟩ | ⟨h1, h2⟩
    · exact .inl ⟨j + 1, by simpa using hj⟩
    · refine .inr ⟨h1, fun j T' cs' hj => ?_⟩
      cases j with
      | zero => simp at hj
      | succ j => exact h2 j T' cs' (by simpa using hj)
theorem applyOlds_low : ∀ (l : List AItem) (i : Nat), (∀ b ∈ oldNames l, i ≠ b) → ∀ h : Heap, (applyOlds l h)[i]? = h[i]?
  | [], i, _, h => rfl
  | .old b T cs :: l, i, hn, h => by
    simp only [applyOlds]
    rw [applyOlds_low l i (fun b hb => hn b (by simp [oldNames, hb])), List.getElem?_set_ne (Ne.symm (hn b (by simp [oldNames])))]
  | .new _ _ :: l, i, hn, h => applyOlds_low l i hn h
  | .val _ :: l, i, hn, h => applyOlds_low l i hn h
  | .put _ _ :: l, i, hn, h => applyOlds_low l i hn h
  | .skip :: l, i, hn, h => applyOlds_low l i hn h
theorem nodupB_iff : ∀ l : List Nat, nodupB l = true → l.Nodup
  | [], _ => List.nodup_nil
  | x :: l, h => by
    simp only [nodupB, Bool.and_eq_true, Bool.not_eq_true'] at h
    exact List.nodup_cons.2 ⟨by simpa using h.1, nodupB_iff l h.2⟩
theorem olds_to (ρ : Ren) : ∀ l : List AItem, R.olds (l.map (AItem.to ρ)) = (oldNames l).map ρ.blk
  | [] => rfl
  | .old b T cs :: l => by simp [R.olds, oldNames, AItem.to, olds_to ρ l]
  | .new _ _ :: l => by simp [R.olds, oldNames, AItem.to, olds_to ρ l]
  | .val _ :: l => by simp [R.olds, oldNames, AItem.to, olds_to ρ l]
  | .put _ _ :: l => by simp [R.olds, oldNames, AItem.to, olds_to ρ l]
  | .skip :: l => by simp [R.olds, oldNames, AItem.to, olds_to ρ l]
theorem nodup_map {f : Nat → Nat} : ∀ l : List Nat, (∀ x ∈ l, ∀ y ∈ l, f x = f y → x = y) → l.Nodup → (l.map f).Nodup
  | [], _, _ => List.nodup_nil
  | x :: l, h, hn => by
    rw [List.nodup_cons] at hn
    rw [List.map_cons, List.nodup_cons]
    refine ⟨fun hm => ?_, nodup_map l (fun a ha b hb => h a (List.mem_cons_of_mem _ ha) b (List.mem_cons_of_mem _ hb)) hn.2⟩
    obtain ⟨y, hy, e⟩ := List.mem_map.1 hm
    rw [h y (List.mem_cons_of_mem _ hy) x List.mem_cons_self e] at hy
    exact hn.1 hy
def normI : R.Item → R.Item
  | .val _ => .val undef
  | .new _ _ => .new 0 #[]
  | .put k _ => .put k #[]
  | .old _ _ _ => .old 0 0 #[]
  | .skip => .skip
theorem shape_norm (ops : Array Oper) (its : List R.Item) (n : Nat) : R.shape ops (its.map normI) n = R.shape ops its n := by
  unfold R.shape
  simp only [List.length_map, List.getElem?_map]
  congr 1
  congr 1
  funext i
  cases ops[i]? with
  | none => cases its[i]? <;> rfl
  | some o =>
    cases its[i]? with
    | none => rfl
    | some it =>
      simp only [Option.map_some]
      congr 1
      · cases it with
        | put k cs =>
          simp only [normI]
          cases its[k]? with
          | none => rfl
          | some jt => cases jt <;> rfl
        | _ => rfl
      · congr 1
        funext j
        cases ops[j]? with
        | none => rfl
        | some p =>
          cases its[j]? with
          | none => rfl
          | some jt => cases it <;> cases jt <;> rfl
theorem norm_to (ρ ρ' : Ren) (it : AItem) : normI (it.to ρ) = normI (it.to ρ') := by cases it <;> rfl
theorem shape_to {ops : Array Oper} {its : List AItem} {n : Nat} (ρ ρ' : Ren) (h : R.shape ops (its.map (AItem.to ρ')) n = true) : R.shape ops (its.map (AItem.to ρ)) n = true := by
  rw [← shape_norm, List.map_map] at h ⊢
  rw [← h]
  congr 1
  exact List.map_congr_left fun x _ => norm_to ρ ρ' x
end Go.Proofs.YteefjegampdpoaaDoor.E
namespace Go.Proofs.YteefjegampdpoaaDoor.E
open Go Go.RowKit
def tAt (ops : Array Oper) (its : List AItem) (n0 : Nat) (t0 : List V) : Nat → List V
  | 0 => t0
  | k + 1 => match ops[k]?, its[k]? with
    | some o, some it => putT (tAt ops its n0 t0 k) o.dst (it.slot n0 (its.take k))
    | _, _ => tAt ops its n0 t0 k
theorem evDr_spec {c : Cfg} {cf : CallF} {lim : Nat} {ops : Array Oper} {h : Heap} {olds : List (Nat × Nat)} {t0 : List V} : ∀ (rest : List Oper) (acc : List AItem) (t : List V) (ans : List Ans) (r : DROut),
    evDr c cf lim ops h olds acc rest t ans = some r → (∀ p ∈ r.cons, p) → ∀ done, ops.toList = done ++ rest → done.length = acc.length → (∀ its, acc <+: its → tAt ops its h.length t0 acc.length = t) →
      acc <+: r.its ∧ r.its.length = ops.size ∧ r.t = tAt ops r.its h.length t0 ops.size ∧ ∀ k, acc.length ≤ k → ∀ o, ops[k]? = some o →
        ∃ ansk dk, evD1 c cf lim ops h olds (r.its.take k) (tAt ops r.its h.length t0 k) ansk o = some dk ∧ (∀ p ∈ dk.cons, p) ∧ r.its[k]? = some dk.it
  | [], acc, t, ans, r, he, hc, done, hd, hl, ht => by
    simp only [evDr, Option.some.injEq] at he
    subst he
    have hs : acc.length = ops.size := by rw [← Array.length_toList, hd]; simp [hl]
    refine ⟨List.prefix_refl _, hs, ?_, fun k hk o ho => ?_⟩
    · rw [← hs, ht _ (List.prefix_refl _)]
    · rw [Array.getElem?_eq_none (by omega)] at ho; cases ho
  | o :: rest, acc, t, ans, r, he, hc, done, hd, hl, ht => by
    simp only [evDr] at he
    split at he
    · cases he
    · rename_i d hd1
      split at he
      · cases he
      · rename_i r' hr'
        simp only [Option.some.injEq] at he
        subst he
        have ho : ops[acc.length]? = some o := by
          rw [← Array.getElem?_toList, hd, List.getElem?_append_right (by omega), hl, Nat.sub_self]; rfl
        have hnext : ∀ its, acc ++ [d.it] <+: its → tAt ops its h.length t0 (acc ++ [d.it]).length = putT t o.dst (d.it.slot h.length acc) := fun its hp => by
          have hp' : acc <+: its := (List.prefix_append acc [d.it]).trans hp
          have hi : its[acc.length]? = some d.it := by
            obtain ⟨u, rfl⟩ := hp
            simp
          have htk : its.take acc.length = acc := by
            obtain ⟨u, rfl⟩ := hp'
            simp
          rw [List.length_append, List.length_singleton]
          simp only [tAt, ho, hi, htk, ht its hp']
        obtain ⟨h1, h2, h3, h4⟩ := evDr_spec rest (acc ++ [d.it]) _ _ r' hr' (fun p hp => hc p (List.mem_append_right _ hp)) (done ++ [o]) (by rw [hd]; simp) (by simp [hl]) hnext
        have hp' : acc <+: r'.its := (List.prefix_append acc [d.it]).trans h1
        refine ⟨hp', h2, h3, fun k hk p hp => ?_⟩
        rcases Nat.lt_or_ge acc.length k with hlt | hge
        · exact h4 k (by simp; omega) p hp
        · obtain rfl : k = acc.length := by omega
          obtain rfl : o = p := Option.some.inj (ho.symm.trans hp)
          have htk : r'.its.take acc.length = acc := by
            obtain ⟨u, hu⟩ := hp'
            rw [← hu]; simp
          refine ⟨ans, d, ?_, fun q hq => hc q (List.mem_append_left _ hq), ?_⟩
          · show evD1 c cf lim ops h olds (r'.its.take acc.length) (tAt ops r'.its h.length t0 acc.length) ans o = some d
            rw [htk, ht _ hp', hd1]
          · show r'.its[acc.length]? = some d.it
            obtain ⟨u, hu⟩ := h1
            rw [← hu]; simp
inductive BodySpec (c : Cfg) (cf : CallF) (lim : Nat) (ops : Array Oper) (h : Heap) (olds : List (Nat × Nat)) (acc : List AItem) (t : List V) (o : Oper) : AItem → List Prop → Prop
  | alloc (T : TypeId) (z : Value) : o.op = .alloc T → pureRun c.P (zeroValue T) = some z → BodySpec c cf lim ops h olds acc t o (.new T (z.cells.toList.map .raw)) []
  | box (T : TypeId) (x : Operand) (v : V) (xs : List V) : o.op = .box T x → seen ops acc o x = true → opnd c t x = some v → v.under h.length = true → cellsV v = some xs → BodySpec c cf lim ops h olds acc t o (.new T xs) []
  | put (Ty : TypeId) (s : Nat) (y : Operand) (v : V) (xs : List V) (n k : Nat) (T : TypeId) (z : List V) : o.op = .store Ty (.tmp s) y → seen ops acc o y = true → opnd c t y = some v → v.under h.length = true → cellsV v = some xs → pureRun c.P (Go.sizeOf Ty) = some n → xs.length = n → oneCells xs = true →
      writer ops s = some k → acc[k]? = some (.new T z) → xs.length = z.length → BodySpec c cf lim ops h olds acc t o (.put k xs) []
  | old (Ty : TypeId) (s : Nat) (y : Operand) (v : V) (xs : List V) (n b off : Nat) (B : Blk) : o.op = .store Ty (.tmp s) y → seen ops acc o y = true → opnd c t y = some v → v.under h.length = true → cellsV v = some xs → pureRun c.P (Go.sizeOf Ty) = some n → xs.length = n → oneCells xs = true →
      ((writer ops s = none ∧ opnd c t (.tmp s) = some (.ptr b off)) ∨ (∃ k, writer ops s = some k ∧ bound o k = true ∧ acc[k]? = some (.val (.ptr b off)))) → h[b]? = some (some B) → lim ≤ b → off + xs.length ≤ B.cells.length → (acc.length, b) ∈ olds →
      BodySpec c cf lim ops h olds acc t o (.old b B.ty (putAt B.cells off xs)) []
  | val (l : List Operand) (ans : List Ans) (r : Out) : usedOpnds ans o.op = some l → l.all (seen ops acc o) = true → l.all (underO c t h.length) = true → evOp c cf h.length t (killed c.L ops olds acc.length h) ans o = some r → r.v.under h.length = true → BodySpec c cf lim ops h olds acc t o (.val r.v) r.cons
theorem underO_spec {c : Cfg} {t : List V} {n : Nat} {x : Operand} (h : underO c t n x = true) : ∃ v, opnd c t x = some v ∧ v.under n = true := by
  unfold underO at h
  split at h
  · rename_i v hv; exact ⟨v, hv, h⟩
  · cases h
theorem evBody_spec {c : Cfg} {cf : CallF} {lim : Nat} {ops : Array Oper} {h : Heap} {olds : List (Nat × Nat)} {acc : List AItem} {t : List V} {ans : List Ans} {o : Oper} {d : DOut}
    (he : evBody c cf lim ops h olds acc t ans o = some d) : BodySpec c cf lim ops h olds acc t o d.it d.cons := by
  have gen : ∀ op, o.op = op → (match usedOpnds ans op with
    | some l => if l.all (seen ops acc o) && l.all (underO c t h.length) then
        match evOp c cf h.length t (killed c.L ops olds acc.length h) ans o with
        | some r => if r.v.under h.length then some (⟨.val r.v, r.ans, r.cons⟩ : DOut) else none
        | none => none
      else none
    | none => none) = some d → BodySpec c cf lim ops h olds acc t o d.it d.cons := fun op hop h1 => by
    split at h1
    · rename_i l hl
      split at h1
      · rename_i hs
        rw [Bool.and_eq_true] at hs
        split at h1
        · rename_i r hr
          split at h1
          · rename_i hu
            simp only [Option.some.injEq] at h1
            subst h1
            exact .val l ans r (by rw [hop]; exact hl) hs.1 hs.2 hr hu
          · cases h1
        · cases h1
      · cases h1
    · cases h1
  unfold evBody at he
  split at he
  · rename_i T hop
    split at he
    · rename_i z hz
      simp only [Option.some.injEq] at he
      subst he
      exact .alloc T z hop hz
    · cases he
  · rename_i T x hop
    split at he
    · rename_i hs
      rw [Bool.and_eq_true] at hs
      obtain ⟨v, hv, hu⟩ := underO_spec hs.2
      rw [hv] at he
      simp only [Option.bind_some] at he
      split at he
      · rename_i xs hxs
        simp only [Option.some.injEq] at he
        subst he
        exact .box T x v xs hop hs.1 hv hu hxs
      · cases he
    · cases he
  · rename_i T x y hop
    split at he
    · rename_i hs
      rw [Bool.and_eq_true] at hs
      obtain ⟨v, hv, hu⟩ := underO_spec hs.2
      rw [hv] at he
      simp only [Option.bind_some] at he
      split at he
      · rename_i xs n d0 hxs hn
        split at he
        · rename_i h1
          split at he
          · rename_i hw
            split at he
            · rename_i b off hx
              split at he
              · rename_i B hB
                split at he
                · rename_i h2
                  simp only [Option.some.injEq] at he
                  subst he
                  exact .old T d0 y v xs n b off B hop hs.1 hv hu hxs hn h1.1 h1.2 (.inl ⟨hw, hx⟩) hB h2.1 h2.2.1 (by simpa using h2.2.2)
                · cases he
              · cases he
            · cases he
          · rename_i k hw
            split at he
            · rename_i T' z hk
              split at he
              · rename_i h2
                simp only [Option.some.injEq] at he
                subst he
                exact .put T d0 y v xs n k T' z hop hs.1 hv hu hxs hn h1.1 h1.2 hw hk h2
              · cases he
            · rename_i b off hk
              split at he
              · rename_i hbd
                split at he
                · rename_i B hB
                  split at he
                  · rename_i h2
                    simp only [Option.some.injEq] at he
                    subst he
                    exact .old T d0 y v xs n b off B hop hs.1 hv hu hxs hn h1.1 h1.2 (.inr ⟨k, hw, hbd, hk⟩) hB h2.1 h2.2.1 (by simpa using h2.2.2)
                  · cases he
                · cases he
              · cases he
            · cases he
        · cases he
      · cases he
    · cases he
  · exact gen _ rfl he
theorem evD1_spec {c : Cfg} {cf : CallF} {lim : Nat} {ops : Array Oper} {h : Heap} {olds : List (Nat × Nat)} {acc : List AItem} {t : List V} {ans : List Ans} {o : Oper} {d : DOut}
    (he : evD1 c cf lim ops h olds acc t ans o = some d) (hc : ∀ p ∈ d.cons, p) :
    (∃ cons, BodySpec c cf lim ops h olds acc t o d.it cons ∧ (∀ p ∈ cons, p) ∧ (o.guard = none ∨ ∃ j want b, o.guard = some (j, want) ∧ bound o j = true ∧ (ops[j]?).any (·.dst.isSome) = true ∧ acc[j]? = some (.val (.raw (.bool b))) ∧ (b == want) = true)) ∨
    (d.it = .skip ∧ ∃ j want b, o.guard = some (j, want) ∧ bound o j = true ∧ (ops[j]?).any (·.dst.isSome) = true ∧ acc[j]? = some (.val (.raw (.bool b))) ∧ (b == want) = false) := by
  unfold evD1 at he
  split at he
  · rename_i hg
    exact .inl ⟨d.cons, evBody_spec he, hc, .inl hg⟩
  · rename_i j want hg
    split at he
    · rename_i hb
      rw [Bool.and_eq_true] at hb
      split at he
      · rename_i b hj
        split at he
        · rename_i q ans'
          split at he
          · rename_i hq
            split at he
            · rename_i r hr
              split at he
              · cases he
              · simp only [Option.some.injEq] at he
                subst he
                have hbq : b = q := hc _ List.mem_cons_self
                exact .inl ⟨r.cons, evBody_spec hr, fun p hp => hc p (List.mem_cons_of_mem _ hp), .inr ⟨j, want, b, hg, hb.1, hb.2, hj, by rw [hbq]; exact hq⟩⟩
            · cases he
          · rename_i hq
            simp only [Option.some.injEq] at he
            subst he
            have hbq : b = q := hc _ List.mem_cons_self
            exact .inr ⟨rfl, j, want, b, hg, hb.1, hb.2, hj, by rw [hbq]; simpa using hq⟩
        · cases he
      · cases he
    · cases he
end Go.Proofs.YteefjegampdpoaaDoor.E
namespace Go.Proofs.YteefjegampdpoaaDoor.E
open Go Go.RowKit
theorem isRaw_congr {c : Cfg} {t t' : List V} {x : Operand} (h : opnd c t x = opnd c t' x) : isRaw c t x = isRaw c t' x := by unfold isRaw; rw [h]
theorem rawOf_congr {c : Cfg} {t t' : List V} {x : Operand} (h : opnd c t x = opnd c t' x) : rawOf c t x = rawOf c t' x := by unfold rawOf; rw [h]
theorem opnds_congr {c : Cfg} {t t' : List V} : ∀ (l : List Operand), (∀ x ∈ l, opnd c t x = opnd c t' x) → opnds c t l = opnds c t' l
  | [], _ => rfl
  | x :: l, h => by simp only [opnds]; rw [h x List.mem_cons_self, opnds_congr l fun y hy => h y (List.mem_cons_of_mem _ hy)]
theorem bare_congr {c : Cfg} {t t' : List V} {op : Op} {l : List Operand} (hl : plainOpnds op = some l) (h : ∀ x ∈ l, opnd c t x = opnd c t' x) : bareOp op c t = bareOp op c t' := by
  unfold bareOp
  cases op with
  | binOp b xt x y yt =>
    simp only [plainOpnds, Option.some.injEq] at hl; subst hl
    dsimp only
    rw [h x (by simp), h y (by simp)]
  | unOp b xt x =>
    simp only [plainOpnds, Option.some.injEq] at hl; subst hl
    cases b <;> dsimp only <;> rw [h x (by simp)]
  | convert b xt x =>
    simp only [plainOpnds, Option.some.injEq] at hl; subst hl
    dsimp only
    rw [h x (by simp)]
  | _ => rfl
theorem gen_congr {c : Cfg} {t t' : List V} {h : Heap} {ans : List Ans} {o : Oper} {l : List Operand} (hl : plainOpnds o.op = some l) (hx : ∀ x ∈ l, opnd c t x = opnd c t' x) : evGen c t h ans o = evGen c t' h ans o := by
  unfold evGen
  rw [bare_congr hl hx, hl]
  dsimp only
  have e1 : l.all (isRaw c t) = l.all (isRaw c t') := by
    rw [Bool.eq_iff_iff, List.all_eq_true, List.all_eq_true]
    exact forall_congr' fun x => forall_congr' fun hm => by rw [isRaw_congr (hx x hm)]
  rw [e1, execOp_congr hl fun x hm => rawOf_congr (hx x hm)]
theorem evOp_congr {c : Cfg} {cf : CallF} {lim : Nat} {t t' : List V} {h : Heap} {ans : List Ans} {o : Oper} {l : List Operand} (hl : usedOpnds ans o.op = some l) (hx : ∀ x ∈ l, opnd c t x = opnd c t' x) :
    evOp c cf lim t h ans o = evOp c cf lim t' h ans o := by
  obtain ⟨dst, op, ty, pos, after, guard⟩ := o
  cases op with
  | move x => simp only [usedOpnds, Option.some.injEq] at hl; subst hl; simp only [evOp]; rw [hx x (by simp)]
  | assign x => simp only [usedOpnds, Option.some.injEq] at hl; subst hl; simp only [evOp]; rw [hx x (by simp)]
  | load T x => simp only [usedOpnds, Option.some.injEq] at hl; subst hl; simp only [evOp]; rw [hx x (by simp)]
  | fieldAddr T x f => simp only [usedOpnds, Option.some.injEq] at hl; subst hl; simp only [evOp]; rw [hx x (by simp)]
  | nilCheck x => simp only [usedOpnds, Option.some.injEq] at hl; subst hl; simp only [evOp]; rw [hx x (by simp)]
  | makeFunc f x y =>
    simp only [usedOpnds, Option.some.injEq] at hl; subst hl; simp only [evOp]
    rw [opnds_congr x.toList fun z hz => hx z (List.mem_append_left _ hz), opnds_congr y.toList fun z hz => hx z (List.mem_append_right _ hz)]
  | pick x y z =>
    simp only [usedOpnds] at hl
    split at hl
    · rename_i q ans'
      simp only [Option.some.injEq] at hl; subst hl
      simp only [evOp]
      rw [hx x (by simp)]
      have h2 := hx (if q then y else z) (by simp)
      split
      · rename_i e
        simp only [List.cons.injEq, Ans.br.injEq] at e
        obtain ⟨rfl, rfl⟩ := e
        rw [h2]
      · rfl
    · cases hl
  | call k =>
    obtain ⟨callee, args, ats⟩ := k
    cases callee with
    | value f =>
      simp only [usedOpnds, Option.some.injEq] at hl; subst hl; simp only [evOp]
      rw [hx f List.mem_cons_self, opnds_congr args.toList fun z hz => hx z (List.mem_cons_of_mem _ hz)]
    | builtin b =>
      have hg := gen_congr (h := h) (ans := ans) (o := ⟨dst, .call ⟨.builtin b, args, ats⟩, ty, pos, after, guard⟩) hl hx
      cases b with
      | len =>
        simp only [evOp]
        have e : lenV c t args ats = lenV c t' args ats := by
          simp only [usedOpnds, plainOpnds, Option.some.injEq] at hl
          unfold lenV
          split
          · rename_i x T ha _
            rw [hx x (by rw [← hl, ha]; simp)]
          · rfl
        rw [e, hg]
      | _ => exact hg
    | invoke x n => exact gen_congr (o := ⟨dst, .call ⟨.invoke x n, args, ats⟩, ty, pos, after, guard⟩) hl hx
  | indexAddr T x ix =>
    simp only [usedOpnds, Option.some.injEq] at hl; subst hl; simp only [evOp, indexV]
    rw [hx x (by simp), hx ix (by simp)]
  | buildSlice T n ps => simp [usedOpnds] at hl
  | binOp b T x y U =>
    have hg := gen_congr (h := h) (ans := ans) (o := ⟨dst, .binOp b T x y U, ty, pos, after, guard⟩) hl hx
    simp only [usedOpnds, plainOpnds, Option.some.injEq] at hl; subst hl; simp only [evOp, eqV]
    rw [hx x (by simp), hx y (by simp), hg]
  | alloc T => simp [usedOpnds] at hl
  | box T x => simp [usedOpnds] at hl
  | store T x y => simp [usedOpnds] at hl
  | unOp b xt x => exact gen_congr (o := ⟨dst, .unOp b xt x, ty, pos, after, guard⟩) hl hx
  | convert b xt x => exact gen_congr (o := ⟨dst, .convert b xt x, ty, pos, after, guard⟩) hl hx
  | field b x n => exact gen_congr (o := ⟨dst, .field b x n, ty, pos, after, guard⟩) hl hx
  | index b x n => exact gen_congr (o := ⟨dst, .index b x n, ty, pos, after, guard⟩) hl hx
  | extract x n => exact gen_congr (o := ⟨dst, .extract x n, ty, pos, after, guard⟩) hl hx
  | build T ps => exact gen_congr (o := ⟨dst, .build T ps, ty, pos, after, guard⟩) hl hx
  | _ => simp [usedOpnds, plainOpnds] at hl
section
variable {P : Program} {w : World} {g : Operand → Value} {dst : Option Tmp} {ty : TypeId} {pos : String} {after : Array Edge} {guard : Option (Nat × Bool)}
theorem alloc_run {T : TypeId} {z : Value} (hz : pureRun P (zeroValue T) = some z) : (execOp g ⟨dst, .alloc T, ty, pos, after, guard⟩).run P w = .ok (.value (.pointer (some ⟨w.heap.size, 0, none⟩))) (w.alloc (.cells z.cells T)) := by
  have hz' := pureRun_run hz
  simp only [execOp, Instr.alloc, newVar, newRow, newObj]
  generalize zeroValue T = s at hz' ⊢
  simp [go_sem, hz']
  rfl
theorem box_run {T : TypeId} {x : Operand} : (execOp g ⟨dst, .box T x, ty, pos, after, guard⟩).run P w = .ok (.value (.pointer (some ⟨w.heap.size, 0, none⟩))) (w.alloc (.cells (g x).cells T)) := by
  simp only [execOp, Instr.box, newVar, newRow, newObj]
  generalize (g x).cells = q
  simp [go_sem]
  rfl
theorem store_run {T : TypeId} {x y : Operand} {b off n : Nat} {vs : List Value} {cur : Array Value} {tb : TypeId} (hx : g x = .pointer (some ⟨b, off, none⟩)) (hsz : pureRun P (Go.sizeOf T) = some n) (hcs : (g y).cells.toList = vs) (hn : vs.length = n) (hone : ∀ v ∈ vs, v.oneCell' = true)
    (hb : w.heap[b]? = some (.cells cur tb (0, 0))) (hle : off + n ≤ cur.size) :
    (execOp g ⟨dst, .store T x y, ty, pos, after, guard⟩).run P w = .ok .skip (w.setRow b (List.take off cur.toList ++ vs ++ List.drop (off + n) cur.toList).toArray) := by
  have h3 := run_storeCells_at P b off tb vs 0 cur w hb (by omega) hone
  rw [hn] at h3
  have hsize : (g y).cells.size = n := by rw [← Array.length_toList, hcs, hn]
  have e : execOp g ⟨dst, .store T x y, ty, pos, after, guard⟩ = (do storeVar T ⟨b, off, none⟩ (g y); pure Next.skip) := by simp only [execOp, Instr.storeAt, Instr.sureAddr, hx]; rfl
  rw [e]
  unfold storeVar
  generalize (g y).cells = cl at hcs hsize ⊢
  simp [go_sem, pureRun_run hsz, hsize, hcs, h3]
theorem setRow_rewrites {b : Nat} {cs cur : Array Value} {tb : TypeId} (hb : w.heap[b]? = some (.cells cur tb (0, 0))) : R.Rewrites w (w.setRow b cs) b tb cs :=
  ⟨rfl, rfl, rfl, by simp [World.setRow], fun k hk => setRow_heap w b cs k hk, setRow_this w b cs cur tb hb⟩
end
section
variable {c : Cfg} {lim : Nat} {ops : Array Oper} {its : List AItem} {n0 : Nat} {t0 : List V}
theorem writer_spec {s j : Nat} (h : writer ops s = some j) : j < ops.size ∧ ∃ o, ops[j]? = some o ∧ o.dst = some s := by
  unfold writer at h
  have h1 := List.find?_some h
  have h2 := List.mem_range.1 (List.mem_of_find?_eq_some h)
  refine ⟨h2, ops[j], Array.getElem?_eq_getElem h2, ?_⟩
  simpa [Array.getElem?_eq_getElem h2] using h1
theorem writer_none {s : Nat} (h : writer ops s = none) (j : Nat) (o : Oper) (ho : ops[j]? = some o) : o.dst ≠ some s := by
  unfold writer at h
  rw [List.find?_eq_none] at h
  have hlt := R.itm_lt ho
  have := h j (List.mem_range.2 hlt)
  simpa [ho] using this
theorem putT_other {t : List V} {d : Option Nat} {v : V} {s : Nat} (h : d ≠ some s) : (putT t d v)[s]? = t[s]? := by
  cases d with
  | none => rfl
  | some d => exact List.getElem?_set_ne (fun e => h (by rw [e]))
theorem putT_len {t : List V} {d : Option Nat} {v : V} : (putT t d v).length = t.length := by
  cases d <;> simp [putT]
theorem tAt_len : ∀ k, (tAt ops its n0 t0 k).length = t0.length
  | 0 => rfl
  | k + 1 => by
    simp only [tAt]
    split
    · rw [putT_len, tAt_len k]
    · exact tAt_len k
theorem tAt_untouched {s : Nat} (h : writer ops s = none) : ∀ k, (tAt ops its n0 t0 k)[s]? = t0[s]?
  | 0 => rfl
  | k + 1 => by
    simp only [tAt]
    split
    · rename_i o it ho _
      rw [putT_other (writer_none h k o ho), tAt_untouched h k]
    · exact tAt_untouched h k
theorem tAt_written {s j : Nat} {o : Oper} {it : AItem} (ho : ops[j]? = some o) (hd : o.dst = some s) (hi : its[j]? = some it) (hs : s < t0.length)
    (once : ∀ (i : Nat) (p : Oper), ops[i]? = some p → p.dst = some s → i = j) : ∀ k, j < k → (tAt ops its n0 t0 k)[s]? = some (it.slot n0 (its.take j))
  | 0, h => by omega
  | k + 1, h => by
    rcases Nat.lt_or_ge j k with hlt | hge
    · have ih := tAt_written ho hd hi hs once k hlt
      simp only [tAt]
      split
      · rename_i p jt hp _
        rw [putT_other (fun e => by have := once k p hp e; omega), ih]
      · exact ih
    · obtain rfl : j = k := by omega
      simp only [tAt, ho, hi, hd, putT]
      rw [List.getElem?_set_self (by rw [tAt_len]; exact hs)]
theorem seen_take {k : Nat} {o : Oper} {x : Operand} (h : seen ops (its.take k) o x = true) : seen ops its o x = true := by
  cases x with
  | tmp s =>
    simp only [seen, visible] at h ⊢
    split at h
    · rfl
    · rename_i j hj
      rw [Bool.and_eq_true] at h ⊢
      refine ⟨h.1, ?_⟩
      have h2 := h.2
      cases hjt : (its.take k)[j]? with
      | none => rw [hjt] at h2; cases h2
      | some it =>
        have : its[j]? = some it := by
          rw [List.getElem?_take] at hjt
          split at hjt
          · exact hjt
          · cases hjt
        rw [this]
        rw [hjt] at h2
        exact h2
  | _ => rfl
theorem known_of {ρ : Ren} {a : Act} {w : World} {h : Heap} (RH : RelH c ρ h w) (RT : RelT ρ h.length t0 a) (sh : R.Shape ops (its.map (AItem.to ρ)) t0.length) (hv : ∀ (j : Nat) (v : V), its[j]? = some (.val v) → v.under h.length = true) {k : Nat} {o : Oper} (ho : ops[k]? = some o) {s : Nat} (hs : visible ops its o s = true) {v : V}
    (ht : (tAt ops its h.length t0 k)[s]? = some v) (hna : ∀ i, v ≠ .any i) : R.known ops (its.map (AItem.to ρ)) a o s = some (v.conc ρ) ∧ v.under h.length = true := by
  unfold R.known
  unfold visible at hs
  cases hw : writer ops s with
  | none =>
    rw [tAt_untouched hw] at ht
    have hw' : (List.range ops.size).find? (fun j => (ops[j]?.bind (·.dst)) == some s) = none := hw
    simp only [hw']
    refine ⟨by rw [RT.tmps]; simp [concs_get, ht], ?_⟩
    have := RT.sco v (List.mem_of_getElem? ht)
    cases v with
    | any i => exact absurd rfl (hna i)
    | _ => exact this
  | some j =>
    rw [hw] at hs
    simp only [Bool.and_eq_true] at hs
    obtain ⟨hb, hj⟩ := hs
    have hw' : (List.range ops.size).find? (fun j => (ops[j]?.bind (·.dst)) == some s) = some j := hw
    simp only [hw']
    obtain ⟨hlt, p, hp, hd⟩ := writer_spec hw
    cases hi : its[j]? with
    | none => rw [hi] at hj; cases hj
    | some it =>
      rw [hi] at hj
      cases it with
      | val u =>
        have hjk : j < k := by
          unfold bound at hb
          rw [List.any_eq_true] at hb
          obtain ⟨e, he, hb⟩ := hb
          rw [Bool.and_eq_true, beq_iff_eq] at hb
          have := sh.back k o ho e (Array.mem_toList_iff.1 he) hb.1
          omega
        have h1 := tAt_written (n0 := h.length) hp hd hi (sh.lt j p s hp hd) (fun i q hq hqd => sh.once i j q p s hq hp hqd hd) k hjk
        rw [h1] at ht
        simp only [AItem.slot, Option.some.injEq] at ht
        subst ht
        unfold bound at hb
        rw [if_pos hb]
        refine ⟨by simp [hi, AItem.to], hv j u hi⟩
      | _ => cases hj
def mask (ops : Array Oper) (its : List AItem) (o : Oper) (t : List V) (n : Nat) : List V :=
  (List.range n).map fun s => if visible ops its o s then (match t[s]? with
    | some (.any _) => .any s
    | some v => v
    | none => .any s) else .any s
def Ren.at (ρ : Ren) (a : Act) : Ren := ⟨ρ.blk, fun s => a.tmps.getD s undef⟩
theorem mask_rel {ρ : Ren} {a0 a : Act} {w : World} {h : Heap} (RH : RelH c ρ h w) (RT : RelT ρ h.length t0 a0) (sh : R.Shape ops (its.map (AItem.to ρ)) t0.length) (hv : ∀ (j : Nat) (v : V), its[j]? = some (.val v) → v.under h.length = true) {k : Nat} {o : Oper} (ho : ops[k]? = some o)
    (E : R.Env ops (its.map (AItem.to ρ)) a0 o a) : RelT (ρ.at a) h.length (mask ops its o (tAt ops its h.length t0 k) a.tmps.size) a := by
  refine ⟨?_, fun x hx => ?_⟩
  · apply Array.ext_getElem?
    intro s
    rcases Nat.lt_or_ge s a.tmps.size with hs | hs
    · have et : ∀ l : List Value, l.toArray[s]? = l[s]? := fun l => List.getElem?_toArray
      rw [et (concs (ρ.at a) (mask ops its o (tAt ops its h.length t0 k) a.tmps.size)), concs_get]
      simp only [mask, List.getElem?_map, List.getElem?_range hs, Option.map_some]
      have hdef : a.tmps[s]? = some ((V.any s).conc (ρ.at a)) := by simp [V.conc, Ren.at, hs]
      split
      · rename_i hvis
        split
        · exact hdef
        · rename_i v hna ht
          obtain ⟨h1, h2⟩ := known_of RH RT sh hv ho hvis ht (fun i e => hna i (by rw [e]))
          rw [E s _ h1, V.conc_agree (ρ := ρ) (ρ' := ρ.at a) (fun _ _ => rfl) v h2]
        · exact hdef
      · exact hdef
    · have et : ∀ l : List Value, l.toArray[s]? = l[s]? := fun l => List.getElem?_toArray
      rw [Array.getElem?_eq_none hs, et (concs (ρ.at a) (mask ops its o (tAt ops its h.length t0 k) a.tmps.size)), List.getElem?_eq_none (by rw [concs_length]; simp [mask, hs])]
  · simp only [mask, List.mem_map, List.mem_range] at hx
    obtain ⟨s, hs, rfl⟩ := hx
    split
    · rename_i hvis
      split
      · rfl
      · rename_i v hna ht
        exact V.slot_of_under _ (known_of RH RT sh hv ho hvis ht (fun i e => hna i (by rw [e]))).2
      · rfl
    · rfl
theorem mask_opnd {ρ : Ren} {a0 a : Act} {w : World} {h : Heap} (RH : RelH c ρ h w) (RT : RelT ρ h.length t0 a0) (sh : R.Shape ops (its.map (AItem.to ρ)) t0.length) (hv : ∀ (j : Nat) (v : V), its[j]? = some (.val v) → v.under h.length = true) {k : Nat} {o : Oper} (ho : ops[k]? = some o)
    (E : R.Env ops (its.map (AItem.to ρ)) a0 o a) {x : Operand} (hx : seen ops its o x = true) : opnd c (mask ops its o (tAt ops its h.length t0 k) a.tmps.size) x = opnd c (tAt ops its h.length t0 k) x := by
  cases x with
  | tmp s =>
    simp only [opnd]
    simp only [seen] at hx
    rcases Nat.lt_or_ge s a.tmps.size with hs | hs
    · simp only [mask, List.getElem?_map, List.getElem?_range hs, Option.map_some, hx, if_true]
      cases ht : (tAt ops its h.length t0 k)[s]? with
      | none => rfl
      | some v => cases v <;> rfl
    · rw [List.getElem?_eq_none (by simp [mask, hs])]
      cases ht : (tAt ops its h.length t0 k)[s]? with
      | none => rfl
      | some v =>
        have key : (∀ i, v ≠ .any i) → False := fun hna => by
          obtain ⟨h1, _⟩ := known_of RH RT sh hv ho hx ht hna
          have := E s _ h1
          rw [Array.getElem?_eq_none hs] at this
          cases this
        cases v with
        | any i => rfl
        | _ => exact (key (fun i e => by cases e)).elim
  | _ => rfl
theorem killed_len (L : Nat) (olds : List (Nat × Nat)) (i : Nat) : ∀ (h : Heap), (killed L ops olds i h).length = h.length := by
  unfold killed
  induction olds with
  | nil => intro h; rfl
  | cons p l ih =>
    intro h
    simp only [List.foldl_cons]
    rw [ih]
    split
    · rfl
    · simp [killOne]
theorem killed_low (L : Nat) (olds : List (Nat × Nat)) (i b : Nat) (hb : b < L) : ∀ (h : Heap), (killed L ops olds i h)[b]? = h[b]? := by
  unfold killed
  induction olds with
  | nil => intro h; rfl
  | cons p l ih =>
    intro h
    simp only [List.foldl_cons]
    rw [ih]
    split
    · rfl
    · rename_i hw
      simp only [Bool.or_eq_true, decide_eq_true_eq, not_or] at hw
      simp only [killOne]
      exact List.getElem?_set_ne (by omega)
theorem killed_get (L : Nat) (olds : List (Nat × Nat)) (i : Nat) : ∀ (h : Heap) (b : Nat) (B : Blk), (killed L ops olds i h)[b]? = some (some B) → h[b]? = some (some B) ∧ ∀ j, L ≤ b → (j, b) ∈ olds → R.waitsFor ops j i = true := by
  unfold killed
  induction olds with
  | nil => intro h b B hb; exact ⟨hb, by simp⟩
  | cons p l ih =>
    intro h b B hb
    simp only [List.foldl_cons] at hb
    obtain ⟨h1, h2⟩ := ih _ b B hb
    split at h1
    · rename_i hw
      refine ⟨h1, fun j hL hj => ?_⟩
      rcases List.mem_cons.1 hj with e | hj
      · rw [← e] at hw
        simp only [Bool.or_eq_true, decide_eq_true_eq] at hw
        rcases hw with hw | hw
        · exact hw
        · omega
      · exact h2 j hL hj
    · rename_i hw
      have hne : b ≠ p.2 := by
        rintro rfl
        simp only [killOne] at h1
        rcases Nat.lt_or_ge p.2 h.length with hl | hl
        · rw [List.getElem?_set_self hl] at h1; cases h1
        · rw [List.getElem?_eq_none (by simpa using hl)] at h1; cases h1
      simp only [killOne] at h1
      rw [List.getElem?_set_ne (Ne.symm hne)] at h1
      refine ⟨h1, fun j hL hj => ?_⟩
      rcases List.mem_cons.1 hj with e | hj
      · exact absurd (congrArg Prod.snd e) hne
      · exact h2 j hL hj
theorem killed_rel {ρ : Ren} {h : Heap} {w0 w : World} (RH : RelH c ρ h w0) (hL : c.L ≤ lim) {olds : List (Nat × Nat)} (ho : ∀ (j b : Nat) (T : TypeId) (cs : List V), its[j]? = some (.old b T cs) → (j, b) ∈ olds ∧ lim ≤ b ∧ b < h.length) {i : Nat}
    (K : R.Kept (R.isOld ops (its.map (AItem.to ρ)) i) w0 w) (a : Act) : RelH c (ρ.at a) (killed c.L ops olds i h) w := by
  refine ⟨fun b B hb => ?_, fun b hb => ?_, fun b b' h1 h2 h3 h4 => ?_, fun b B hb => ?_, fun p hp => ?_, by rw [killed_len]; exact RH.big, fun b hb => by rw [killed_low _ _ _ _ hb]; exact RH.base b hb⟩
  · obtain ⟨h1, h2⟩ := killed_get c.L olds i h b B hb
    obtain ⟨fr, h3, h4⟩ := RH.cell b B h1
    have hbl : b < h.length := by
      rcases Nat.lt_or_ge b h.length with h5 | h5
      · exact h5
      · rw [List.getElem?_eq_none h5] at h1; cases h1
    refine ⟨fr, ?_, h4⟩
    rw [concs_agree (ρ := ρ) (ρ' := ρ.at a) (fun _ _ => rfl) _ (RH.sco b B h1)]
    refine (K.block _ (RH.lt b hbl) ?_).trans h3
    unfold R.isOld
    rw [List.any_eq_false]
    intro j hj
    rw [List.getElem?_map]
    cases hit : its[j]? with
    | none => simp
    | some it =>
      cases it with
      | old b' T cs =>
        obtain ⟨k1, k2, k3⟩ := ho j b' T cs hit
        simp only [Option.map_some, AItem.to]
        by_cases e : ρ.blk b' = ρ.blk b
        · have := RH.inj b' b (by omega) k3 hbl e
          subst this
          simp [h2 j (by omega) k1]
        · simp [e]
      | _ => simp [AItem.to]
  · rw [killed_len] at hb
    exact Nat.lt_of_lt_of_le (RH.lt b hb) K.size
  · rw [killed_len] at h2 h3
    exact RH.inj b b' h1 h2 h3 h4
  · rw [killed_len]
    exact RH.sco b B (killed_get c.L olds i h b B hb).1
  · rw [killed_len]
    exact RH.glob p hp
end
end Go.Proofs.YteefjegampdpoaaDoor.E
namespace Go.Proofs.YteefjegampdpoaaDoor.E
open Go Go.RowKit
section
variable {c : Cfg} {lim : Nat}
theorem putAt_len {cs xs : List V} {off : Nat} (h : off + xs.length ≤ cs.length) : (putAt cs off xs).length = cs.length := by
  simp [putAt]; omega
structure Told (c : Cfg) (cf : CallF) (lim : Nat) (ops : Array Oper) (h : Heap) (olds : List (Nat × Nat)) (D : List AItem) (t : List V) : Prop where
  len : D.length = ops.size
  spec : ∀ (k : Nat) (o : Oper), ops[k]? = some o → ∃ it, D[k]? = some it ∧
    ((∃ cons, BodySpec c cf lim ops h olds (D.take k) (tAt ops D h.length t k) o it cons ∧ (∀ p ∈ cons, p) ∧ (o.guard = none ∨ ∃ j want b, o.guard = some (j, want) ∧ bound o j = true ∧ (ops[j]?).any (·.dst.isSome) = true ∧ D[j]? = some (.val (.raw (.bool b))) ∧ (b == want) = true)) ∨
    (it = .skip ∧ ∃ j want b, o.guard = some (j, want) ∧ bound o j = true ∧ (ops[j]?).any (·.dst.isSome) = true ∧ D[j]? = some (.val (.raw (.bool b))) ∧ (b == want) = false))
theorem take_get {D : List AItem} {k j : Nat} {it : AItem} (h : (D.take k)[j]? = some it) : D[j]? = some it ∧ j < k := by
  rw [List.getElem?_take] at h
  split at h
  · rename_i hlt; exact ⟨h, hlt⟩
  · cases h
theorem told_of {cf : CallF} {ops : Array Oper} {h : Heap} {olds : List (Nat × Nat)} {t : List V} {ans : List Ans} {d : DROut} (he : evDr c cf lim ops h olds [] ops.toList t ans = some d) (hc : ∀ p ∈ d.cons, p) :
    Told c cf lim ops h olds d.its t ∧ d.t = tAt ops d.its h.length t ops.size := by
  obtain ⟨_, h2, h3, h4⟩ := evDr_spec (t0 := t) ops.toList [] t ans d he hc [] rfl rfl (fun its _ => rfl)
  refine ⟨⟨h2, fun k o ho => ?_⟩, h3⟩
  obtain ⟨ansk, dk, k1, k2, k3⟩ := h4 k (Nat.zero_le _) o ho
  refine ⟨dk.it, k3, ?_⟩
  rcases evD1_spec k1 k2 with ⟨cons, b1, b2, b3⟩ | ⟨b1, j, want, b, b2, b3, b4, b5, b6⟩
  · refine .inl ⟨cons, b1, b2, ?_⟩
    rcases b3 with b3 | ⟨j, want, b, c1, c2, c3, c4, c5⟩
    · exact .inl b3
    · exact .inr ⟨j, want, b, c1, c2, c3, (take_get c4).1, c5⟩
  · exact .inr ⟨b1, j, want, b, b2, b3, b4, (take_get b5).1, b6⟩
section
variable {cf : CallF} {ops : Array Oper} {h : Heap} {olds : List (Nat × Nat)} {D : List AItem} {t : List V}
theorem Told.op (H : Told c cf lim ops h olds D t) {j : Nat} {it : AItem} (hj : D[j]? = some it) : ∃ o, ops[j]? = some o := by
  have hlt : j < D.length := by
    rcases Nat.lt_or_ge j D.length with h1 | h1
    · exact h1
    · rw [List.getElem?_eq_none h1] at hj; cases hj
  exact ⟨ops[j]'(by rw [← H.len]; exact hlt), Array.getElem?_eq_getElem _⟩
theorem Told.at (H : Told c cf lim ops h olds D t) {j : Nat} {it : AItem} (hj : D[j]? = some it) (hs : it ≠ .skip) : ∃ o cons, ops[j]? = some o ∧ BodySpec c cf lim ops h olds (D.take j) (tAt ops D h.length t j) o it cons ∧ (∀ p ∈ cons, p) := by
  obtain ⟨o, ho⟩ := H.op hj
  obtain ⟨it', h1, h2⟩ := H.spec j o ho
  obtain rfl := Option.some.inj (hj.symm.trans h1)
  rcases h2 with ⟨cons, b1, b2, _⟩ | ⟨e, _⟩
  · exact ⟨o, cons, ho, b1, b2⟩
  · exact absurd e hs
theorem Told.vals (H : Told c cf lim ops h olds D t) (j : Nat) (v : V) (hj : D[j]? = some (.val v)) : v.under h.length = true := by
  obtain ⟨o, cons, ho, hb, _⟩ := H.at hj (by simp)
  cases hb with
  | val l ans r h1 h2 h3 h4 h5 => exact h5
theorem Told.tk (H : Told c cf lim ops h olds D t) {j : Nat} {it : AItem} (hj : D[j]? = some it) : (D.take j).length = j := by
  have hlt : j < D.length := by
    rcases Nat.lt_or_ge j D.length with h1 | h1
    · exact h1
    · rw [List.getElem?_eq_none h1] at hj; cases hj
  rw [List.length_take]; omega
theorem Told.old (H : Told c cf lim ops h olds D t) (hsco : ∀ (i : Nat) (B : Blk), h[i]? = some (some B) → unders h.length B.cells = true) (j b : Nat) (T : TypeId) (cs : List V) (hj : D[j]? = some (.old b T cs)) :
    ((j, b) ∈ olds ∧ lim ≤ b ∧ b < h.length) ∧ unders h.length cs = true ∧ ∃ B, h[b]? = some (some B) ∧ T = B.ty ∧ cs.length = B.cells.length := by
  obtain ⟨o, cons, ho, hb, _⟩ := H.at hj (by simp)
  cases hb with
  | old Ty s y v xs n _ off B h1 h2 h3 h4 h5 h6 h7 h8 h9 h10 h11 h12 h13 =>
    rw [H.tk hj] at h13
    have hbl : b < h.length := by
      rcases Nat.lt_or_ge b h.length with k | k
      · exact k
      · rw [List.getElem?_eq_none k] at h10; cases h10
    refine ⟨⟨h13, h11, hbl⟩, ?_, B, h10, rfl, putAt_len h12⟩
    refine unders_append (unders_append ?_ (cellsV_under h5 h4)) ?_
    · exact unders_sub (hsco b B h10) fun x hx => List.mem_of_mem_take hx
    · exact unders_sub (hsco b B h10) fun x hx => List.mem_of_mem_drop hx
theorem Told.puts (H : Told c cf lim ops h olds D t) (j k : Nat) (cs : List V) (hj : D[j]? = some (.put k cs)) : unders h.length cs = true ∧ ∃ T z, D[k]? = some (.new T z) ∧ cs.length = z.length := by
  obtain ⟨o, cons, ho, hb, _⟩ := H.at hj (by simp)
  cases hb with
  | put Ty s y v xs n _ T z h1 h2 h3 h4 h5 h6 h7 h8 h9 h10 h11 => exact ⟨cellsV_under h5 h4, T, z, (take_get h10).1, h11⟩
theorem body_notskip {acc : List AItem} {o : Oper} {it : AItem} {cons : List Prop} {tt : List V} (h : BodySpec c cf lim ops h olds acc tt o it cons) : it ≠ .skip := by
  cases h <;> simp
theorem Told.guards (H : Told c cf lim ops h olds D t) (ρ : Ren) (i : Nat) (o : Oper) (it : R.Item) (ho : ops[i]? = some o) (hi : (D.map (AItem.to ρ))[i]? = some it) : R.guardOk ops (D.map (AItem.to ρ)) o it = true := by
  obtain ⟨di, h1, h2⟩ := H.spec i o ho
  rw [List.getElem?_map, h1] at hi
  simp only [Option.map_some, Option.some.injEq] at hi
  subst hi
  have skipEq : ∀ x : AItem, R.isSkip (x.to ρ) = (match x with | .skip => true | _ => false) := fun x => by cases x <;> rfl
  rcases h2 with ⟨cons, b1, _, b3⟩ | ⟨e, j, want, b, c1, c2, c3, c4, c5⟩
  · have hns : R.isSkip (di.to ρ) = false := by
      rw [skipEq]
      cases di <;> first | rfl | exact absurd rfl (body_notskip b1)
    rcases b3 with b3 | ⟨j, want, b, c1, c2, c3, c4, c5⟩
    · simp [R.guardOk, b3, hns]
    · unfold R.guardOk
      rw [c1]
      simp only
      unfold bound at c2
      rw [c2]
      cases hp : ops[j]? with
      | none => rw [hp] at c3; cases c3
      | some p =>
        rw [hp] at c3
        have c3' : p.dst.isSome = true := c3
        have e : (D.map (AItem.to ρ))[j]? = some (.val (.bool b)) := by rw [List.getElem?_map, c4]; rfl
        rw [e]
        simp only [c3', hns, c5]
        rfl
  · subst e
    unfold R.guardOk
    rw [c1]
    simp only
    unfold bound at c2
    rw [c2]
    cases hp : ops[j]? with
    | none => rw [hp] at c3; cases c3
    | some p =>
      rw [hp] at c3
      have c3' : p.dst.isSome = true := c3
      have e : (D.map (AItem.to ρ))[j]? = some (.val (.bool b)) := by rw [List.getElem?_map, c4]; rfl
      rw [e]
      simp only [c3', AItem.to, R.isSkip, c5]
      rfl
theorem evDrawn_steps {ρ : Ren} {a : Act} {w : World} {Q : Exit → Act → World → Prop} (hcf : CallOk c cf) (hfn : ∀ f, c.fns f = true → Callable c.P f) (hL : c.L ≤ lim) (H : Told c cf lim ops h olds D t) (RH : RelH c ρ h w) (RT : RelT ρ h.length t a)
    (sh : R.Shape ops (D.map (AItem.to ρ)) t.length) (i : Nat) (o : Oper) (it : R.Item) (ho : ops[i]? = some o) (hi : (D.map (AItem.to ρ))[i]? = some it) : R.StepOk c.P Q ops (D.map (AItem.to ρ)) a w i o it := by
  obtain ⟨di, h1, h2⟩ := H.spec i o ho
  have htk := H.tk h1
  rw [List.getElem?_map, h1] at hi
  simp only [Option.map_some, Option.some.injEq] at hi
  subst hi
  have hold : ∀ (j b : Nat) (T : TypeId) (cs : List V), D[j]? = some (.old b T cs) → (j, b) ∈ olds ∧ lim ≤ b ∧ b < h.length := fun j b T cs hj => (H.old RH.sco j b T cs hj).1
  have ev : ∀ {a' : Act} {w' : World} {x : Operand} {v : V}, R.Env ops (D.map (AItem.to ρ)) a o a' → R.Kept (R.isOld ops (D.map (AItem.to ρ)) i) w w' → seen ops (D.take i) o x = true → opnd c (tAt ops D h.length t i) x = some v → v.under h.length = true → a'.eval x = v.conc ρ := fun {a' w' x v} E hk hs hx hu => by
    have RTm := mask_rel RH RT sh H.vals ho E
    have RHk := killed_rel RH hL hold hk a'
    have e := mask_opnd RH RT sh H.vals ho E (seen_take hs)
    rw [hx] at e
    have RTm' : RelT (ρ.at a') (killed c.L ops olds i h).length (mask ops D o (tAt ops D h.length t i) a'.tmps.size) a' := by rw [killed_len]; exact RTm
    rw [opnd_eval RHk RTm' e]
    exact V.conc_agree (ρ := ρ) (ρ' := ρ.at a') (n := h.length) (fun _ _ => rfl) v hu
  rcases h2 with ⟨cons, hb, hcons, _⟩ | ⟨rfl, _⟩
  · cases hb with
    | alloc T z hop hz =>
      obtain ⟨dst, op, ty, pos, after, guard⟩ := o
      simp only at hop
      subst hop
      intro a' w' K E hk hK
      unfold Oper.wp
      rw [alloc_run hz]
      rw [concs_raw] at hK
      exact hK
    | box T x v xs hop hs hx hu hxs =>
      have hev := fun a' w' => ev (a' := a') (w' := w') (x := x) (v := v)
      obtain ⟨dst, op, ty, pos, after, guard⟩ := o
      simp only at hop
      subst hop
      intro a' w' K E hk hK
      have e := hev a' w' E hk hs hx hu
      unfold Oper.wp
      rw [box_run, e]
      have e2 : (v.conc ρ).cells = (concs ρ xs).toArray := by apply Array.toList_inj.1; rw [cellsV_conc ρ hxs]
      rw [e2]
      exact hK
    | put Ty s y v xs n k T z hop hs hy hu hxs hsz hn hone hw hk' hzl =>
      have hev := fun a' w' => ev (a' := a') (w' := w') (x := y) (v := v)
      obtain ⟨_, p, hp, hpd⟩ := writer_spec hw
      obtain ⟨dst, op, ty, pos, after, guard⟩ := o
      simp only at hop
      subst hop
      intro T' z' hz' a' w' K b cs0 dd E hk hdd htd hb hcs0 hK
      have e := hev a' w' E hk hs hy hu
      rw [hp] at hdd
      simp only [Option.bind_some, hpd, Option.some.injEq] at hdd
      subst hdd
      rw [List.getElem?_map, (take_get hk').1] at hz'
      simp only [Option.map_some, AItem.to, Option.some.injEq, R.Item.new.injEq] at hz'
      obtain ⟨rfl, rfl⟩ := hz'
      have hx : a'.eval (.tmp s) = .pointer (some ⟨b, 0, none⟩) := by simp [Act.eval, htd]
      have hsize : cs0.size = n := by rw [hcs0]; simp [concs_length]; omega
      unfold Oper.wp
      rw [store_run (n := n) (vs := concs ρ xs) hx hsz (by rw [e]; exact cellsV_conc ρ hxs) (by rw [concs_length]; exact hn) (oneCells_ok ρ xs hone) hb (by omega)]
      have e3 : (List.take 0 cs0.toList ++ concs ρ xs ++ List.drop (0 + n) cs0.toList).toArray = (concs ρ xs).toArray := by
        rw [List.drop_eq_nil_of_le (by simp [hsize])]; simp
      rw [e3]
      exact hK _ (setRow_rewrites hb)
    | old Ty s y v xs n b off B hop hs hy hu hxs hsz hn hone hptr hB hlim hle hmem =>
      have hev := fun a' w' => ev (a' := a') (w' := w') (x := y) (v := v)
      have hbl := (hold i b _ _ h1).2.2
      have hptr' : ∀ a', R.Env ops (D.map (AItem.to ρ)) a o a' → a'.eval (.tmp s) = .pointer (some ⟨ρ.blk b, off, none⟩) := fun a' E => by
        have hvis : visible ops D o s = true ∧ (tAt ops D h.length t i)[s]? = some (.ptr b off) := by
          rcases hptr with ⟨h3, h4⟩ | ⟨k, h3, h4, h5⟩
          · refine ⟨by simp [visible, h3], ?_⟩
            simp only [opnd] at h4
            split at h4
            · cases h4
            · cases h4
            · exact h4
          · obtain ⟨h6, h7⟩ := take_get h5
            obtain ⟨_, p, hp, hpd⟩ := writer_spec h3
            refine ⟨by simp [visible, h3, h4, h6], ?_⟩
            rw [tAt_written hp hpd h6 (sh.lt k p s hp hpd) (fun m q hq hqd => sh.once m k q p s hq hp hqd hpd) i h7]
            rfl
        obtain ⟨h3, _⟩ := known_of RH RT sh H.vals ho hvis.1 hvis.2 (by simp)
        have := E s _ h3
        simp [Act.eval, this, V.conc]
      obtain ⟨dst, op, ty, pos, after, guard⟩ := o
      simp only at hop
      subst hop
      intro a' w' K cs0 E hk hsame hb hcs0 hK
      have e := hev a' w' E hk hs hy hu
      obtain ⟨fr, k1, k2⟩ := RH.cell b B hB
      rw [hsame, k1] at hb
      simp only [Option.some.injEq, Obj.cells.injEq] at hb
      obtain ⟨rfl, _, rfl⟩ := hb
      unfold Oper.wp
      rw [store_run (n := n) (vs := concs ρ xs) (hptr' a' E) hsz (by rw [e]; exact cellsV_conc ρ hxs) (by rw [concs_length]; exact hn) (oneCells_ok ρ xs hone) (hsame.trans k1) (by simp [concs_length]; omega)]
      have e3 : (List.take off (concs ρ B.cells).toArray.toList ++ concs ρ xs ++ List.drop (off + n) (concs ρ B.cells).toArray.toList).toArray = (concs ρ (putAt B.cells off xs)).toArray := by
        simp [putAt, concs_map, List.map_take, List.map_drop, hn]
      rw [e3]
      exact hK _ (setRow_rewrites (hsame.trans k1))
    | val l ansk r hl hs hu he hru =>
      intro a' w' K E hk hK
      have RTm := mask_rel RH RT sh H.vals ho E
      have RHk := killed_rel RH hL hold hk a'
      rw [htk] at he
      have he' := (evOp_congr (c := c) (cf := cf) (lim := h.length) (h := killed c.L ops olds i h) hl (fun x hx => mask_opnd RH RT sh H.vals ho E (seen_take (List.all_eq_true.1 hs x hx)))).trans he
      have RTm' : RelT (ρ.at a') (killed c.L ops olds i h).length (mask ops D o (tAt ops D h.length t i) a'.tmps.size) a' := by rw [killed_len]; exact RTm
      refine evOp_sound hcf hfn he' hcons RHk RTm' RH.big fun ρ' w1 hu' RH1 F1 hv1 => ?_
      have e : r.v.conc ρ' = r.v.conc ρ := V.conc_agree (ρ := ρ) (ρ' := ρ') (n := h.length) (fun j hj => F1.ren j (by rw [killed_len]; exact hj)) _ hru
      rw [e]
      exact hK w1 ⟨F1.os, F1.tape, F1.output, F1.size, fun k hk => F1.blk k hk fun j h3 h4 => by rw [killed_len] at h4; omega⟩
  · trivial
theorem slot_conc {ρ ρ' : Ren} {β : Nat → Nat} (H : Told c cf lim ops h olds D t) (h1 : ∀ i, i < h.length → ρ'.blk i = ρ.blk i) (h2 : ∀ m, m < cntNew D → ρ'.blk (h.length + m) = β (newPos D m)) {k : Nat} {it : AItem} (hk : D[k]? = some it) :
    (it.slot h.length (D.take k)).conc ρ' = R.Item.value β k (it.to ρ) ∧ (it.slot h.length (D.take k)).under (h.length + cntNew D) = true := by
  cases it with
  | val v =>
    have hu := H.vals k v hk
    exact ⟨V.conc_agree h1 v hu, V.under_mono (by omega) v hu⟩
  | new T z =>
    obtain ⟨e1, e2⟩ := newPos_take D k T z hk
    refine ⟨?_, by simp only [AItem.slot, V.under, decide_eq_true_eq]; omega⟩
    simp only [AItem.slot, V.conc, AItem.to, R.Item.value]
    rw [h2 _ e2, e1]
  | put j cs => exact ⟨rfl, rfl⟩
  | old b T cs => exact ⟨rfl, rfl⟩
  | skip => exact ⟨rfl, rfl⟩
theorem fin_rel {ρ ρ' : Ren} {β : Nat → Nat} {a : Act} (H : Told c cf lim ops h olds D t) (RT : RelT ρ h.length t a) (hu : ρ'.unk = ρ.unk) (h1 : ∀ i, i < h.length → ρ'.blk i = ρ.blk i) (h2 : ∀ m, m < cntNew D → ρ'.blk (h.length + m) = β (newPos D m)) :
    ∀ m, RelT ρ' (h.length + cntNew D) (tAt ops D h.length t m) (R.finAct ops (D.map (AItem.to ρ)) β m a)
  | 0 => by
    refine ⟨?_, fun x hx => V.slotOk_mono (by omega) x (RT.sco x hx)⟩
    simp only [tAt, R.finAct, RT.tmps, concs_map]
    congr 1
    exact List.map_congr_left fun x hx => (V.slot_agree h1 hu x (RT.sco x hx)).symm
  | m + 1 => by
    have ih := fin_rel H RT hu h1 h2 m
    simp only [tAt, R.finAct]
    cases ho : ops[m]? with
    | none => simp only; exact ih
    | some o =>
      obtain ⟨it, hi, _⟩ := H.spec m o ho
      rw [List.getElem?_map, hi]
      simp only [Option.map_some]
      obtain ⟨e1, e2⟩ := slot_conc (ρ := ρ) (β := β) H h1 h2 hi
      have := relT_put ih (fun _ _ => rfl) rfl (Nat.le_refl _) (V.slot_of_under _ e2) o.dst
      rw [e1] at this
      cases hd : o.dst with
      | none => rw [hd] at this; exact this
      | some d => rw [hd] at this; exact this
theorem evDrawn_sound (hm : c.P.follows .mixedOrders = true) (hcf : CallOk c cf) (hfn : ∀ f, c.fns f = true → Callable c.P f) (hL : c.L ≤ lim) {id : Nat} {Q : Exit → Act → World → Prop}
    {ans : List Ans} {r : ROut} {ρ : Ren} {a : Act} {w : World} (he : evDrawn c cf lim ops t h ans = some r) (hc : ∀ p ∈ r.cons, p) (RH : RelH c ρ h w) (RT : RelT ρ h.length t a)
    (hQ : ∀ ρ' a' w', ρ'.unk = ρ.unk → a'.defers = a.defers → RelT ρ' r.h.length r.t a' → RelH c ρ' r.h w' → Fr lim ρ h w ρ' r.h w' → Q .normal a' w') : (Code.region id ops true).wp c.P Q a w := by
  unfold evDrawn at he
  split at he
  · rename_i olds ans0
    split at he
    · rename_i d hd
      split at he
      · rename_i hchk
        rw [Bool.and_eq_true] at hchk
        simp only [Option.some.injEq] at he
        subst he
        obtain ⟨H, hdt⟩ := told_of hd hc
        generalize d.its = D at *
        simp only [hdt] at hQ
        have hts : a.tmps.size = t.length := by rw [RT.tmps]; simp [concs_length]
        have RHd : RelH c ρ h w.drew := ⟨RH.cell, RH.lt, RH.inj, RH.sco, RH.glob, RH.big, RH.base⟩
        have hsh := shape_to (ops := ops) ρ _ hchk.1
        have hg := H.guards ρ
        have hlt : ∀ b ∈ oldNames D, lim ≤ b ∧ b < h.length := by
          have gen : ∀ l : List AItem, (∀ (j b : Nat) (T : TypeId) (cs : List V), l[j]? = some (.old b T cs) → lim ≤ b ∧ b < h.length) → ∀ b ∈ oldNames l, lim ≤ b ∧ b < h.length := by
            intro l
            induction l with
            | nil => intro _ b hb; cases hb
            | cons x l ih =>
              intro hl b hb
              have ih' := ih (fun j b T cs hj => hl (j + 1) b T cs (by simpa using hj))
              cases x with
              | old b' T cs =>
                simp only [oldNames, List.mem_cons] at hb
                rcases hb with rfl | hb
                · exact hl 0 b T cs rfl
                · exact ih' b hb
              | _ => exact ih' b hb
          exact gen D fun j b T cs hj => (H.old RH.sco j b T cs hj).1.2
        have hnd : (R.olds (D.map (AItem.to ρ))).Nodup := by
          rw [olds_to]
          refine nodup_map _ (fun x hx y hy e => ?_) (nodupB_iff _ hchk.2)
          exact RH.inj x y (by have := (hlt x hx).1; omega) (hlt x hx).2 (hlt y hy).2 e
        have sh := R.Shape.of hsh hg hnd
        have itm : ∀ (j : Nat) (it : R.Item), (D.map (AItem.to ρ))[j]? = some it → ∃ x, D[j]? = some x ∧ x.to ρ = it := fun j it hj => by
          rw [List.getElem?_map, Option.map_eq_some_iff] at hj
          exact hj
        refine R.wp_region_grow (D.map (AItem.to ρ)) hm (by rw [hts]; exact hsh) hg hnd ?_ ?_ (fun i o it ho hi => evDrawn_steps hcf hfn hL H RHd RT sh i o it ho hi) ?_
        · intro j b T cs hj
          obtain ⟨x, hx, e⟩ := itm j _ hj
          cases x with
          | old b' T' cs' =>
            simp only [AItem.to, R.Item.old.injEq] at e
            obtain ⟨rfl, rfl, rfl⟩ := e
            obtain ⟨⟨_, k1, k2⟩, _, B, k3, k4, k5⟩ := H.old RH.sco j b' T' cs' hx
            obtain ⟨fr, k6, k7⟩ := RH.cell b' B k3
            refine ⟨(concs ρ B.cells).toArray, ?_, ?_⟩
            · show w.heap[ρ.blk b']? = _
              rw [k6, k7 (by omega), k4]
            · simp [concs_length, k5]
          | _ => simp [AItem.to] at e
        · intro i k cs T z hi hk
          obtain ⟨x, hx, e⟩ := itm i _ hi
          obtain ⟨y, hy, e'⟩ := itm k _ hk
          cases x with
          | put k' cs' =>
            simp only [AItem.to, R.Item.put.injEq] at e
            obtain ⟨rfl, rfl⟩ := e
            obtain ⟨_, T', z', k1, k2⟩ := H.puts i k' cs' hx
            rw [k1] at hy
            obtain rfl := Option.some.inj hy
            simp only [AItem.to, R.Item.new.injEq] at e'
            obtain ⟨_, rfl⟩ := e'
            simp [concs_length, k2]
          | _ => simp [AItem.to] at e
        · intro β w' F
          have hlen : (applyOlds D h ++ newBlks D 0 D).length = h.length + cntNew D := by simp [applyOlds_len, newBlks_len]
          have e1 : ∀ i, i < h.length → (⟨fun i => if i < h.length then ρ.blk i else β (newPos D (i - h.length)), ρ.unk⟩ : Ren).blk i = ρ.blk i := fun i hi => by simp [hi]
          have e2 : ∀ m, m < cntNew D → (⟨fun i => if i < h.length then ρ.blk i else β (newPos D (i - h.length)), ρ.unk⟩ : Ren).blk (h.length + m) = β (newPos D m) := fun m _ => by
            simp only
            rw [if_neg (by omega), Nat.add_sub_cancel_left]
          generalize hρ' : (⟨fun i => if i < h.length then ρ.blk i else β (newPos D (i - h.length)), ρ.unk⟩ : Ren) = ρ' at e1 e2
          have eu : ρ'.unk = ρ.unk := by rw [← hρ']
          have RT' := fin_rel (ρ' := ρ') (β := β) H RT eu e1 e2 ops.size
          have news : ∀ m, m < cntNew D → w.heap.size ≤ β (newPos D m) ∧ β (newPos D m) < w'.heap.size := fun m hm => by
            obtain ⟨T, z, hp⟩ := newPos_get D m hm
            obtain ⟨n1, n2, _⟩ := F.news (newPos D m) T (concs ρ z).toArray (by rw [List.getElem?_map, hp]; rfl)
            exact ⟨n1, n2⟩
          have hnotold : ∀ b, b < h.length → (∀ (j : Nat) (T : TypeId) (cs : List V), D[j]? ≠ some (.old b T cs)) → R.isOld ops (D.map (AItem.to ρ)) ops.size (ρ.blk b) = false := fun b hb hn => by
            unfold R.isOld
            rw [List.any_eq_false]
            intro j hj
            rw [List.getElem?_map]
            cases hit : D[j]? with
            | none => simp
            | some it =>
              cases it with
              | old b' T cs =>
                obtain ⟨⟨_, k1, k2⟩, _⟩ := H.old RH.sco j b' T cs hit
                simp only [Option.map_some, AItem.to]
                by_cases e : ρ.blk b' = ρ.blk b
                · have := RH.inj b' b (by omega) k2 hb e
                  subst this
                  exact absurd hit (hn j T cs)
                · simp [e]
              | _ => simp [AItem.to]
          have RH' : RelH c ρ' (applyOlds D h ++ newBlks D 0 D) w' := by
            refine ⟨fun i B hi => ?_, fun i hi => ?_, fun i j h1 h2 h3 h4 => ?_, fun i B hi => ?_, fun p hp => ?_, by rw [hlen]; have := RH.big; omega, fun i hi => ?_⟩
            · rcases Nat.lt_or_ge i h.length with hlt' | hge
              · rw [List.getElem?_append_left (by rw [applyOlds_len]; exact hlt')] at hi
                rcases applyOlds_get D h i B hi with ⟨j, hj⟩ | ⟨k1, k2⟩
                · have hcu := (H.old RH.sco j i _ _ hj).2.1
                  refine ⟨(0, 0), ?_, fun _ => rfl⟩
                  rw [e1 i hlt', concs_agree e1 _ hcu]
                  exact F.olds j (ρ.blk i) B.ty _ (by rw [List.getElem?_map, hj]; rfl)
                · obtain ⟨fr, k3, k4⟩ := RH.cell i B k1
                  refine ⟨fr, ?_, k4⟩
                  rw [e1 i hlt', concs_agree e1 _ (RH.sco i B k1)]
                  exact (F.kept.block _ (RH.lt i hlt') (hnotold i hlt' k2)).trans k3
              · rw [List.getElem?_append_right (by rw [applyOlds_len]; exact hge), applyOlds_len] at hi
                have hm' : i - h.length < cntNew D := by
                  rcases Nat.lt_or_ge (i - h.length) (cntNew D) with k | k
                  · exact k
                  · rw [List.getElem?_eq_none (by rw [newBlks_len]; exact k)] at hi; cases hi
                obtain ⟨⟨z, k1⟩, k2⟩ := newBlks_get D D 0 _ B hi
                rw [Nat.zero_add] at k2
                obtain ⟨j, hj⟩ := putOf_get k2
                have hcu := (H.puts j _ _ hj).1
                refine ⟨(0, 0), ?_, fun _ => rfl⟩
                have e3 := e2 _ hm'
                rw [show h.length + (i - h.length) = i by omega] at e3
                rw [e3, concs_agree e1 _ hcu]
                exact F.puts j _ _ B.ty (concs ρ z).toArray (by rw [List.getElem?_map, hj]; rfl) (by rw [List.getElem?_map, k1]; rfl)
            · rw [hlen] at hi
              rcases Nat.lt_or_ge i h.length with hlt' | hge
              · rw [e1 i hlt']; exact Nat.lt_of_lt_of_le (RH.lt i hlt') F.kept.size
              · have e3 := e2 (i - h.length) (by omega)
                rw [show h.length + (i - h.length) = i by omega] at e3
                rw [e3]; exact (news _ (by omega)).2
            · rw [hlen] at h2 h3
              rcases Nat.lt_or_ge i h.length with hi | hi <;> rcases Nat.lt_or_ge j h.length with hj | hj
              · rw [e1 i hi, e1 j hj] at h4; exact RH.inj i j h1 hi hj h4
              · have e3 := e2 (j - h.length) (by omega)
                rw [show h.length + (j - h.length) = j by omega] at e3
                rw [e1 i hi, e3] at h4
                have k1 := RH.lt i hi
                have k2 := (news (j - h.length) (by omega)).1
                omega
              · have e3 := e2 (i - h.length) (by omega)
                rw [show h.length + (i - h.length) = i by omega] at e3
                rw [e1 j hj, e3] at h4
                have k1 := RH.lt j hj
                have k2 := (news (i - h.length) (by omega)).1
                omega
              · have e3 := e2 (i - h.length) (by omega)
                have e4 := e2 (j - h.length) (by omega)
                rw [show h.length + (i - h.length) = i by omega] at e3
                rw [show h.length + (j - h.length) = j by omega] at e4
                rw [e3, e4] at h4
                obtain ⟨T, z, hp⟩ := newPos_get D (i - h.length) (by omega)
                obtain ⟨T', z', hp'⟩ := newPos_get D (j - h.length) (by omega)
                by_cases hpe : newPos D (i - h.length) = newPos D (j - h.length)
                · have := newPos_inj D _ _ (by omega) (by omega) hpe
                  omega
                · exact absurd h4 (F.apart _ _ T T' (concs ρ z).toArray (concs ρ z').toArray (by rw [List.getElem?_map, hp]; rfl) (by rw [List.getElem?_map, hp']; rfl) hpe)
            · rw [hlen]
              rcases Nat.lt_or_ge i h.length with hlt' | hge
              · rw [List.getElem?_append_left (by rw [applyOlds_len]; exact hlt')] at hi
                rcases applyOlds_get D h i B hi with ⟨j, hj⟩ | ⟨k1, k2⟩
                · exact unders_mono (by omega) _ (H.old RH.sco j i _ _ hj).2.1
                · exact unders_mono (by omega) _ (RH.sco i B k1)
              · rw [List.getElem?_append_right (by rw [applyOlds_len]; exact hge), applyOlds_len] at hi
                obtain ⟨⟨z, k1⟩, k2⟩ := newBlks_get D D 0 _ B hi
                rw [Nat.zero_add] at k2
                obtain ⟨j, hj⟩ := putOf_get k2
                exact unders_mono (by omega) _ (H.puts j _ _ hj).1
            · obtain ⟨k1, k2⟩ := RH.glob p hp
              exact ⟨by rw [e1 _ k2, k1], by rw [hlen]; omega⟩
            · rw [List.getElem?_append_left (by rw [applyOlds_len]; have := RH.big; omega), applyOlds_low D i (fun b hb => by have := (hlt b hb).1; omega), RH.base i hi]
          have F' : Fr lim ρ h w ρ' (applyOlds D h ++ newBlks D 0 D) w' := by
            refine ⟨F.kept.os, F.kept.tape, F.kept.output, F.kept.size, fun k hk hn => ?_, e1, by rw [hlen]; omega, fun i h1 h2 => ?_⟩
            · refine F.kept.block k hk ?_
              unfold R.isOld
              rw [List.any_eq_false]
              intro j hj
              rw [List.getElem?_map]
              cases hit : D[j]? with
              | none => simp
              | some it =>
                cases it with
                | old b' T cs =>
                  obtain ⟨⟨_, k1, k2⟩, _⟩ := H.old RH.sco j b' T cs hit
                  have := hn b' k1 k2
                  simp [AItem.to, this]
                | _ => simp [AItem.to]
            · rw [hlen] at h2
              have e3 := e2 (i - h.length) (by omega)
              rw [show h.length + (i - h.length) = i by omega] at e3
              rw [e3]
              exact (news _ (by omega)).1
          rw [← hlen] at RT'
          exact hQ ρ' _ w' eu (R.finAct_size _).2 RT' RH' F'
      · cases he
    · cases he
  · cases he
end
end
end Go.Proofs.YteefjegampdpoaaDoor.E
namespace Go.Proofs.YteefjegampdpoaaDoor.E
open Go Go.RowKit
section
variable {c : Cfg} {lim : Nat}
theorem Runs.go {code : Code} {t t' : List V} {h h' : Heap} {e : Ex} (hr : Runs c lim code t h e t' h') {ρ : Ren} {a : Act} {w : World} (RT : RelT ρ h.length t a) (RH : RelH c ρ h w) {Q : Exit → Act → World → Prop}
    (hQ : ∀ ρ' a' w', a'.defers = a.defers → RelT ρ' h'.length t' a' → RelH c ρ' h' w' → Fr lim ρ h w ρ' h' w' → Q e.to a' w') : code.wp c.P Q a w :=
  wp_mono (hr ρ a w RT RH) fun x a' w' ⟨hx, ρ', h1, h2, h3, h4⟩ => by subst hx; exact hQ ρ' a' w' h1 h2 h3 h4
theorem iter_sound {x : Code} {body : List V → Heap → List Ans → Option COut} (hb : ∀ t h ans r, body t h ans = some r → (∀ p ∈ r.cons, p) → Runs c lim x t h r.e r.t r.h) :
    ∀ (n : Nat) (t : List V) (h : Heap) (ans : List Ans) (r : COut), iter body n t h ans = some r → (∀ p ∈ r.cons, p) → ∀ (ρ : Ren) (a : Act) (w : World), RelT ρ h.length t a → RelH c ρ h w → ∀ Q : Exit → Act → World → Prop,
      (∀ ρ' a' w', a'.defers = a.defers → RelT ρ' r.h.length r.t a' → RelH c ρ' r.h w' → Fr lim ρ h w ρ' r.h w' → r.e ≠ .normal → Q r.e.to a' w') → Code.rounds c.P x Q n a w := by
  intro n
  induction n with
  | zero => intro t h ans r he; simp [iter] at he
  | succ n ih =>
    intro t h ans r he hc ρ a w RT RH Q hQ
    simp only [iter] at he
    split at he
    · cases he
    · rename_i r1 hr1
      rw [rounds_succ]
      split at he
      · rename_i hn
        split at he
        · cases he
        · rename_i q hq
          simp only [Option.some.injEq] at he
          subst he
          refine (hb _ _ _ _ hr1 (fun p hp => hc p (List.mem_append_left _ hp))).go RT RH fun ρ1 a1 w1 d1 RT1 RH1 F1 => ?_
          rw [hn]
          exact ih _ _ _ q hq (fun p hp => hc p (List.mem_append_right _ hp)) ρ1 a1 w1 RT1 RH1 Q fun ρ' a' w' d' RT' RH' F' hne => hQ ρ' a' w' (d'.trans d1) RT' RH' (F1.trans F') hne
      · rename_i hne
        simp only [Option.some.injEq] at he
        subst he
        refine (hb _ _ _ _ hr1 hc).go RT RH fun ρ1 a1 w1 d1 RT1 RH1 F1 => ?_
        have := hQ ρ1 a1 w1 d1 RT1 RH1 F1 hne
        cases he : r1.e with
        | normal => exact absurd he hne
        | exit i => rw [he] at this; exact this
        | ret => rw [he] at this; exact this
theorem litOf_eval {ρ : Ren} {h : Heap} {w : World} {t : List V} {a : Act} (RH : RelH c ρ h w) (RT : RelT ρ h.length t a) {x : Operand} {b : Bool} (hx : litOf t x = some b) : a.eval x = .bool b := by
  unfold litOf at hx
  split at hx
  · rename_i s
    split at hx
    · rename_i b' hb
      simp only [Option.some.injEq] at hx
      subst hx
      have := opnd_eval (c := c) (x := .tmp s) (v := .raw (.bool b')) RH RT (by simp [opnd, hb])
      exact this
    · cases hx
  · cases hx
theorem evCode_sound (hm : c.P.follows .mixedOrders = true) {cf : CallF} (hcf : CallOk c cf) (hfn : ∀ f, c.fns f = true → Callable c.P f) (hL : c.L ≤ lim) :
    ∀ (code : Code) (t : List V) (h : Heap) (ans : List Ans) (r : COut), evCode c cf lim code t h ans = some r → (∀ p ∈ r.cons, p) → Runs c lim code t h r.e r.t r.h := by
  intro code
  induction code with
  | skip =>
    intro t h ans r he hc
    simp only [evCode, Option.some.injEq] at he
    subst he
    exact fun ρ a w RT RH => wp_skip ⟨rfl, ρ, rfl, RT, RH, Fr.refl _ _ _ _⟩
  | label l =>
    intro t h ans r he hc
    simp only [evCode, Option.some.injEq] at he
    subst he
    exact fun ρ a w RT RH => wp_label ⟨rfl, ρ, rfl, RT, RH, Fr.refl _ _ _ _⟩
  | exit id =>
    intro t h ans r he hc
    simp only [evCode, Option.some.injEq] at he
    subst he
    exact fun ρ a w RT RH => wp_exit ⟨rfl, ρ, rfl, RT, RH, Fr.refl _ _ _ _⟩
  | ret =>
    intro t h ans r he hc
    simp only [evCode, Option.some.injEq] at he
    subst he
    exact fun ρ a w RT RH => wp_ret ⟨rfl, ρ, rfl, RT, RH, Fr.refl _ _ _ _⟩
  | region id ops draws =>
    intro t h ans r he hc
    simp only [evCode] at he
    split at he
    · rename_i q hq
      simp only [Option.some.injEq] at he
      subst he
      intro ρ a w RT RH
      cases draws with
      | true => exact evDrawn_sound hm hcf hfn hL hq hc RH RT fun ρ' a' w' _ h1 h2 h3 h4 => ⟨rfl, ρ', h1, h2, h3, h4⟩
      | false => exact wp_region_list (evOps_sound hcf hfn hL _ _ _ _ _ ρ a w hq hc RH RT fun ρ' a' w' _ h1 h2 h3 h4 => ⟨rfl, ρ', h1, h2, h3, h4⟩)
    · cases he
  | seq x y ihx ihy =>
    intro t h ans r he hc
    simp only [evCode] at he
    split at he
    · cases he
    · rename_i r1 hr1
      split at he
      · rename_i hn
        split at he
        · cases he
        · rename_i q hq
          simp only [Option.some.injEq] at he
          subst he
          intro ρ a w RT RH
          refine wp_seq ((ihx _ _ _ _ hr1 (fun p hp => hc p (List.mem_append_left _ hp))).go RT RH fun ρ1 a1 w1 d1 RT1 RH1 F1 => ?_)
          rw [hn]
          exact (ihy _ _ _ _ hq (fun p hp => hc p (List.mem_append_right _ hp))).go RT1 RH1 fun ρ2 a2 w2 d2 RT2 RH2 F2 => ⟨rfl, ρ2, d2.trans d1, RT2, RH2, F1.trans F2⟩
      · rename_i hne
        simp only [Option.some.injEq] at he
        subst he
        intro ρ a w RT RH
        refine wp_seq ((ihx _ _ _ _ hr1 hc).go RT RH fun ρ1 a1 w1 d1 RT1 RH1 F1 => ?_)
        cases he : r1.e with
        | normal => exact absurd he hne
        | exit i => exact ⟨rfl, ρ1, d1, RT1, RH1, F1⟩
        | ret => exact ⟨rfl, ρ1, d1, RT1, RH1, F1⟩
  | cond x y z ihy ihz =>
    intro t h ans r he hc
    simp only [evCode] at he
    split at he
    · rename_i hl
      intro ρ a w RT RH
      refine wp_cond (litOf_eval RH RT hl) ?_
      exact ihy _ _ _ _ he hc ρ a w RT RH
    · rename_i hl
      intro ρ a w RT RH
      refine wp_cond (litOf_eval RH RT hl) ?_
      exact ihz _ _ _ _ he hc ρ a w RT RH
    · split at he
      · rename_i b hb
        split at he
        · rename_i q ans'
          split at he
          · cases he
          · rename_i r1 hr1
            simp only [Option.some.injEq] at he
            subst he
            have hbq : b = q := hc _ List.mem_cons_self
            subst hbq
            intro ρ a w RT RH
            have hev := opnd_eval RH RT hb
            refine wp_cond hev ?_
            cases b with
            | true => exact ihy _ _ _ _ hr1 (fun p hp => hc p (List.mem_cons_of_mem _ hp)) ρ a w RT RH
            | false => exact ihz _ _ _ _ hr1 (fun p hp => hc p (List.mem_cons_of_mem _ hp)) ρ a w RT RH
        · cases he
      · cases he
  | block id x ih =>
    intro t h ans r he hc
    simp only [evCode] at he
    split at he
    · cases he
    · rename_i r1 hr1
      simp only [Option.some.injEq] at he
      subst he
      intro ρ a w RT RH
      refine wp_block ((ih _ _ _ _ hr1 hc).go RT RH fun ρ1 a1 w1 d1 RT1 RH1 F1 => ?_)
      cases he : r1.e with
      | normal => exact ⟨rfl, ρ1, d1, RT1, RH1, F1⟩
      | ret => exact ⟨rfl, ρ1, d1, RT1, RH1, F1⟩
      | exit i =>
        simp only [Ex.to, Exit.inBlock]
        by_cases hi : i = id
        · rw [if_pos hi]
          exact ⟨by simp [hi, Ex.to], ρ1, d1, RT1, RH1, F1⟩
        · rw [if_neg hi]
          exact ⟨by simp [hi, Ex.to], ρ1, d1, RT1, RH1, F1⟩
  | scope x ih =>
    intro t h ans r he hc
    simp only [evCode] at he
    intro ρ a w RT RH
    refine wp_scope_straight ((ih _ _ _ _ he hc).go RT RH fun ρ1 a1 w1 d1 RT1 RH1 F1 => ?_)
    cases he : r.e with
    | normal => exact ⟨rfl, ρ1, d1, RT1, RH1, F1⟩
    | ret => exact ⟨rfl, ρ1, d1, RT1, RH1, F1⟩
    | exit i => exact ⟨rfl, ρ1, d1, RT1, RH1, F1⟩
  | loop x ih =>
    intro t h ans r he hc
    simp only [evCode] at he
    split at he
    · simp only [Option.some.injEq] at he
      subst he
      exact hc _ List.mem_cons_self
    · intro ρ a w RT RH
      exact wp_loop_rounds 200 (iter_sound ih _ _ _ _ _ he hc ρ a w RT RH _ fun ρ' a' w' d' RT' RH' F' _ => ⟨rfl, ρ', d', RT', RH', F'⟩)
  | rangeFunc x y z u => intro t h ans r he; simp [evCode] at he
  | goto l => intro t h ans r he; simp [evCode] at he
  | refuse s => intro t h ans r he; simp [evCode] at he
theorem results_list {ρ : Ren} {h : Heap} {w : World} {t : List V} {a : Act} (RH : RelH c ρ h w) (RT : RelT ρ h.length t a) (F : ResultVar → Sem Value)
    (hF1 : ∀ s, F (.tmp s) = pure (a.tmps.getD s undef)) (hF2 : ∀ s T, F (.cell s T) = (asAddr (a.tmps.getD s undef) >>= fun q => loadVar T q)) : ∀ (l : List ResultVar) (vs : List V), resultsV c t h l = some vs →
    (l.mapM F).run c.P w = .ok (concs ρ vs) w ∧ unders h.length vs = true
  | [], vs, he => by
    simp only [resultsV, Option.some.injEq] at he
    subst he
    exact ⟨rfl, rfl⟩
  | .tmp s :: l, vs, he => by
    simp only [resultsV] at he
    split at he
    · rename_i v us hv hus
      simp only [Option.some.injEq] at he
      subst he
      obtain ⟨h1, h2⟩ := results_list RH RT F hF1 hF2 l us hus
      have e1 := opnd_eval RH RT hv
      simp only [Act.eval] at e1
      refine ⟨?_, by simp [unders, h2, opnd_under RH RT hv]⟩
      simp only [List.mapM_cons, concs, hF1, e1]
      simp [go_sem, h1]
    · cases he
  | .cell s T :: l, vs, he => by
    simp only [resultsV] at he
    split at he
    · rename_i b off hv
      split at he
      · rename_i v us hl hus
        simp only [Option.some.injEq] at he
        subst he
        obtain ⟨h1, h2⟩ := results_list RH RT F hF1 hF2 l us hus
        obtain ⟨h3, h4⟩ := load_conc RH hl
        have e1 := opnd_eval RH RT hv
        simp only [Act.eval, V.conc] at e1
        refine ⟨?_, by simp [unders, h2, h4]⟩
        have e2 : F (.cell s T) = loadVar T ⟨ρ.blk b, off, none⟩ := by rw [hF2, e1]; rfl
        simp only [List.mapM_cons, concs, e2]
        generalize loadVar T ⟨ρ.blk b, off, none⟩ = q at h3 ⊢
        simp [go_sem, h1, h3]
      · cases he
    · cases he
theorem oneOf_ok {ρ : Ren} {n : Nat} {vs : List V} (hu : unders n vs = true) : (oneOf vs).conc ρ = (if h : (concs ρ vs).toArray.size = 1 then (concs ρ vs).toArray[0] else Value.tuple (concs ρ vs).toArray) ∧ (oneOf vs).under n = true := by
  match vs, hu with
  | [], _ => exact ⟨by simp [oneOf, mkTup_conc, concs], rfl⟩
  | [v], hu =>
    refine ⟨by simp [oneOf, concs], ?_⟩
    simp only [unders, Bool.and_true] at hu
    exact hu
  | v :: u :: l, hu => exact ⟨by simp [oneOf, mkTup_conc, concs], mkTup_under hu⟩
theorem results_ok {ρ : Ren} {h : Heap} {w : World} {t : List V} {a : Act} (RH : RelH c ρ h w) (RT : RelT ρ h.length t a) {fn : Func} {vs : List V} (hv : resultsV c t h fn.results.toList = some vs) :
    (results fn a.tmps).run c.P w = .ok ((oneOf vs).conc ρ) w ∧ (oneOf vs).under h.length = true := by
  unfold results
  obtain ⟨h1, h2⟩ := results_list RH RT (fun x => match x with
    | ResultVar.tmp t => pure (a.tmps.getD t undef)
    | ResultVar.cell s T => do
      let q ← asAddr (a.tmps.getD s undef)
      loadVar T q) (fun _ => rfl) (fun _ _ => rfl) _ _ hv
  obtain ⟨h3, h4⟩ := oneOf_ok (ρ := ρ) h2
  refine ⟨?_, h4⟩
  rw [h3]
  simp only [Array.mapM_eq_mapM_toList]
  generalize hq : List.mapM (m := Sem) _ fn.results.toList = q at h1
  clear hq
  simp [go_sem, h1]
theorem evFunc_sound (hm : c.P.follows .mixedOrders = true) (hfn : ∀ f, c.fns f = true → Callable c.P f) : ∀ n, CallOk c (evFunc c n) := by
  intro n
  induction n with
  | zero => intro f args h lim ans out he; simp [evFunc] at he
  | succ n ih =>
    intro f args h lim ans out he hc hL ρ w RH hu
    simp only [evFunc] at he
    split at he
    · simp only [Option.some.injEq] at he
      subst he
      exact (hc _ List.mem_cons_self) _ _ hL ρ w RH hu
    · simp only [Option.some.injEq] at he
      subst he
      exact (hc _ List.mem_cons_self) ρ w RH hu
    · split at he
      · cases he
      · rename_i fn hf
        split at he
        · cases he
        · rename_i code hb
          split at he
          · cases he
          · rename_i r hr
            have fin : ∀ {vs : List V}, r.e ≠ .exit 0 ∧ (∀ i, r.e ≠ .exit i) → resultsV c r.t r.h fn.results.toList = some vs → out = ⟨oneOf vs, r.h, r.ans, r.cons⟩ →
                Calls c.P f (concs ρ args).toArray w fun e w' => ∃ ρ', ρ'.unk = ρ.unk ∧ e = .returned (out.v.conc ρ') ∧ RelH c ρ' out.h w' ∧ Fr lim ρ h w ρ' out.h w' ∧ out.v.under out.h.length = true := by
              intro vs hne hvs ho
              subst ho
              have hrun := evCode_sound hm ih hfn hL code _ _ _ _ hr hc
              have htm : (concs ρ args).toArray ++ Array.replicate (fn.ntmps - (concs ρ args).toArray.size) undef = (concs ρ (args ++ List.replicate (fn.ntmps - args.length) (.raw undef))).toArray := by
                apply Array.toList_inj.1
                simp [concs_map, V.conc]
              refine calls_of_wp hf hb ?_
              rw [htm]
              refine hrun.go (ρ := ρ) ⟨rfl, fun x hx => ?_⟩ RH fun ρ1 a1 w1 d1 RT1 RH1 F1 => ?_
              · rcases List.mem_append.1 hx with h1 | h1
                · exact V.slot_of_under _ ((unders_iff _ _).1 hu x h1)
                · rw [List.eq_of_mem_replicate h1]; rfl
              · obtain ⟨h1, h2⟩ := results_ok RH1 RT1 hvs
                have hag : ∀ i, i < r.h.length → (⟨ρ1.blk, ρ.unk⟩ : Ren).blk i = ρ1.blk i := fun _ _ => rfl
                have hR : ∃ ρ', ρ'.unk = ρ.unk ∧ Ending.returned ((oneOf vs).conc ρ1) = .returned ((oneOf vs).conc ρ') ∧ RelH c ρ' r.h w1 ∧ Fr lim ρ h w ρ' r.h w1 ∧ (oneOf vs).under r.h.length = true := by
                  refine ⟨⟨ρ1.blk, ρ.unk⟩, rfl, by rw [V.conc_agree hag _ h2], ⟨fun i B hi => ?_, RH1.lt, RH1.inj, RH1.sco, RH1.glob, RH1.big, RH1.base⟩, ⟨F1.os, F1.tape, F1.output, F1.size, F1.blk, F1.ren, F1.len, F1.fresh⟩, h2⟩
                  obtain ⟨fr, k1, k2⟩ := RH1.cell i B hi
                  exact ⟨fr, by rw [concs_agree hag _ (RH1.sco i B hi)]; exact k1, k2⟩
                cases he : r.e with
                | exit i => exact absurd he (hne.2 i)
                | normal => exact ⟨d1, _, h1, hR⟩
                | ret => exact ⟨d1, _, h1, hR⟩
            split at he
            · cases he
            · rename_i hne
              split at he
              · cases he
              · rename_i vs hvs
                simp only [Option.some.injEq] at he
                exact fin ⟨hne 0, hne⟩ hvs he.symm
    · cases he
def Paid : List Prop → Prop
  | [] => True
  | p :: l => p ∧ Paid l
theorem Paid.all : ∀ {l : List Prop}, Paid l → ∀ p ∈ l, p
  | [], _, p, hp => by cases hp
  | q :: l, h, p, hp => by
    rcases List.mem_cons.1 hp with rfl | hp
    · exact h.1
    · exact Paid.all h.2 p hp
theorem meets_of (hm : c.P.follows .mixedOrders = true) (hfn : ∀ f, c.fns f = true → Callable c.P f) (hL : c.L ≤ lim) {n : Nat} {f : FuncId} {args : List V} {h h' : Heap} {ans ans' : List Ans} {v : V} {cons : List Prop}
    (he : evFunc c n f args h lim ans = some ⟨v, h', ans', cons⟩) (hc : Paid cons) : Meets c lim f args h v h' :=
  fun ρ w RH hu => evFunc_sound hm hfn n f args h lim ans _ he (fun p hp => hc.all p hp) hL ρ w RH hu
end
end Go.Proofs.YteefjegampdpoaaDoor.E
namespace Go.Proofs.YteefjegampdpoaaDoor.E
open Go Go.RowKit
section
variable {c : Cfg}
theorem fn_of_base (hH : c.H0.length = c.L) (hsc : ∀ (i : Nat) (B : Blk), c.H0[i]? = some (some B) → unders c.L B.cells = true) (hG : ∀ p ∈ c.G, p.2 < c.L) {f : FuncId} {args : List V} {v : V} {h' : Heap}
    (hua : unders c.L args = true) (hv : v.under c.L = true) (hm : Meets c c.L f args c.H0 v h') : Ret c f args v := by
  intro h lim hL ρ w RH hu
  have R0 : RelH c ρ c.H0 w := by
    have hget : ∀ (i : Nat), i < c.L → h[i]? = c.H0[i]? := RH.base
    have hlt : ∀ {i : Nat} {x : Option Blk}, c.H0[i]? = some x → i < c.L := fun {i x} hi => by
      rcases Nat.lt_or_ge i c.H0.length with k | k
      · omega
      · rw [List.getElem?_eq_none k] at hi; cases hi
    refine ⟨fun i B hi => RH.cell i B (by rw [hget i (hlt hi)]; exact hi), fun i hi => RH.lt i (by have := RH.big; omega), fun i j h1 h2 h3 h4 => by omega, fun i B hi => by rw [hH]; exact hsc i B hi, fun p hp => ⟨(RH.glob p hp).1, by rw [hH]; exact hG p hp⟩, by omega, fun _ _ => rfl⟩
  refine (hm ρ w R0 (by rw [hH]; exact hua)).mono fun e w' he => ?_
  obtain ⟨ρ', h1, h2, h3, h4, h5⟩ := he
  have hblk : ∀ k, k < w.heap.size → w'.heap[k]? = w.heap[k]? := fun k hk => h4.blk k hk fun i h6 h7 => by omega
  have e1 : v.conc ρ' = v.conc ρ := V.conc_agree (n := c.L) (fun i hi => h4.ren i (by omega)) v hv
  refine ⟨ρ, rfl, by rw [← e1]; exact h2, ⟨fun i B hi => ?_, fun i hi => Nat.lt_of_lt_of_le (RH.lt i hi) h4.size, RH.inj, RH.sco, RH.glob, RH.big, RH.base⟩, ⟨h4.os, h4.tape, h4.output, h4.size, fun k hk _ => hblk k hk, fun _ _ => rfl, Nat.le_refl _, fun i h6 h7 => by omega⟩, V.under_mono RH.big v hv⟩
  obtain ⟨fr, k1, k2⟩ := RH.cell i B hi
  refine ⟨fr, ?_, k2⟩
  rw [hblk _ (RH.lt i ?_), k1]
  rcases Nat.lt_or_ge i h.length with k | k
  · exact k
  · rw [List.getElem?_eq_none k] at hi; cases hi
theorem fn_of (hm : c.P.follows .mixedOrders = true) (hfn : ∀ f, c.fns f = true → Callable c.P f) (hH : c.H0.length = c.L) (hsc : ∀ (i : Nat) (B : Blk), c.H0[i]? = some (some B) → unders c.L B.cells = true) (hG : ∀ p ∈ c.G, p.2 < c.L)
    {n : Nat} {f : FuncId} {args : List V} {ans : List Ans} {v : V} {cons : List Prop} (he : (evFunc c n f args c.H0 c.L ans).map (fun o => (o.v, o.cons)) = some (v, cons)) (hua : unders c.L args = true) (hv : v.under c.L = true) (hc : Paid cons) : Ret c f args v := by
  rw [Option.map_eq_some_iff] at he
  obtain ⟨o, h1, h2⟩ := he
  obtain ⟨v', h', ans', cons'⟩ := o
  simp only [Prod.mk.injEq] at h2
  obtain ⟨rfl, rfl⟩ := h2
  exact fn_of_base hH hsc hG hua hv (meets_of hm hfn (Nat.le_refl _) h1 hc)
theorem fn_of_calls {f : FuncId} {args : List Value} {x : Value} (h : ∀ w : World, Calls c.P f args.toArray w fun e w' => e = .returned x ∧ Below w.heap.size w w') : Ret c f (args.map .raw) (.raw x) := by
  intro h0 lim hL ρ w RH hu
  rw [concs_raw]
  refine (h w).mono fun e w' he => ?_
  obtain ⟨rfl, hb⟩ := he
  refine ⟨ρ, rfl, rfl, ⟨fun i B hi => ?_, fun i hi => Nat.lt_of_lt_of_le (RH.lt i hi) hb.size, RH.inj, RH.sco, RH.glob, RH.big, RH.base⟩, ⟨hb.os, hb.tape, hb.output, hb.size, fun k hk _ => hb.block k hk, fun _ _ => rfl, Nat.le_refl _, fun i h6 h7 => by omega⟩, rfl⟩
  obtain ⟨fr, k1, k2⟩ := RH.cell i B hi
  refine ⟨fr, ?_, k2⟩
  rw [hb.block _ (RH.lt i ?_), k1]
  rcases Nat.lt_or_ge i h0.length with k | k
  · exact k
  · rw [List.getElem?_eq_none k] at hi; cases hi
theorem calls_of_fn (hL : c.L = 0) (hG : c.G = []) {f : FuncId} {args : List Value} {x : Value} (h : Ret c f (args.map .raw) (.raw x)) (w : World) : Calls c.P f args.toArray w fun e w' => e = .returned x ∧ Below w.heap.size w w' := by
  have R0 : RelH c ⟨fun _ => 0, fun _ => undef⟩ [] w := ⟨fun i B hi => by simp at hi, fun i hi => by simp at hi, fun i j _ h2 => by simp at h2, fun i B hi => by simp at hi, fun p hp => (by rw [hG] at hp; cases hp), by simp [hL], fun i hi => by omega⟩
  have := h [] 0 (by omega) _ w R0 (unders_raw _ _)
  rw [concs_raw] at this
  refine this.mono fun e w' he => ?_
  obtain ⟨ρ', _, rfl, _, F, _⟩ := he
  exact ⟨rfl, F.os, F.tape, F.output, F.size, fun k hk => F.blk k hk fun i _ h2 => by simp at h2⟩
theorem inR_i64 {n : Int} (h1 : -9223372036854775808 ≤ n) (h2 : n ≤ 9223372036854775807) : inR .i64 n := IntWalk.i64_in n (by omega)
end
end Go.Proofs.YteefjegampdpoaaDoor.E
namespace Go.Proofs.YteefjegampdpoaaDoor.E
open Go Go.RowKit
section
variable {c : Cfg} {lim : Nat} {x : Code}
def Rounds (c : Cfg) (lim : Nat) (x : Code) (n : Nat) (t : List V) (h : Heap) (e : Ex) (t' : List V) (h' : Heap) : Prop :=
  ∀ ρ a w, RelT ρ h.length t a → RelH c ρ h w → ∀ Q : Exit → Act → World → Prop,
    (∀ ρ' a' w', a'.defers = a.defers → RelT ρ' h'.length t' a' → RelH c ρ' h' w' → Fr lim ρ h w ρ' h' w' → Q e.to a' w') → Code.rounds c.P x Q n a w
theorem rounds_done {t t' : List V} {h h' : Heap} {e : Ex} (hr : Runs c lim x t h e t' h') (he : e ≠ .normal) : Rounds c lim x 1 t h e t' h' := by
  intro ρ a w RT RH Q hQ
  rw [rounds_succ]
  refine hr.go RT RH fun ρ' a' w' d RT' RH' F => ?_
  have := hQ ρ' a' w' d RT' RH' F
  cases e with
  | normal => exact absurd rfl he
  | exit i => exact this
  | ret => exact this
theorem rounds_more {t t1 t' : List V} {h h1 h' : Heap} {e : Ex} {n : Nat} (hr : Runs c lim x t h .normal t1 h1) (hs : Rounds c lim x n t1 h1 e t' h') : Rounds c lim x (n + 1) t h e t' h' := by
  intro ρ a w RT RH Q hQ
  rw [rounds_succ]
  refine hr.go RT RH fun ρ1 a1 w1 d1 RT1 RH1 F1 => ?_
  exact hs ρ1 a1 w1 RT1 RH1 Q fun ρ' a' w' d RT' RH' F => hQ ρ' a' w' (d.trans d1) RT' RH' (F1.trans F)
theorem runs_loop {t t' : List V} {h h' : Heap} {e : Ex} {n : Nat} (hr : Rounds c lim x n t h e t' h') : Runs c lim (.loop x) t h e t' h' := by
  intro ρ a w RT RH
  exact wp_loop_rounds n (hr ρ a w RT RH _ fun ρ' a' w' d RT' RH' F => ⟨rfl, ρ', d, RT', RH', F⟩)
def forgetAt (ds : List Nat) (t : List V) : List V := ds.foldl (fun t i => t.set i (.any i)) t
def anyOwn : Nat → List V → Bool
  | _, [] => true
  | i, .any j :: l => decide (j = i) && anyOwn (i + 1) l
  | i, _ :: l => anyOwn (i + 1) l
theorem anyOwn_get : ∀ (l : List V) (k i j : Nat), anyOwn k l = true → l[i]? = some (.any j) → j = k + i
  | [], k, i, j, h, hg => by simp at hg
  | v :: l, k, 0, j, h, hg => by
    simp only [List.getElem?_cons_zero, Option.some.injEq] at hg
    subst hg
    simp only [anyOwn, Bool.and_eq_true, decide_eq_true_eq] at h
    omega
  | v :: l, k, i + 1, j, h, hg => by
    simp only [List.getElem?_cons_succ] at hg
    have h' : anyOwn (k + 1) l = true := by
      cases v with
      | any q => simp only [anyOwn, Bool.and_eq_true] at h; exact h.2
      | _ => simpa only [anyOwn] using h
    have := anyOwn_get l (k + 1) i j h' hg
    omega
theorem forgetAt_get : ∀ (ds : List Nat) (t : List V) (i : Nat), (forgetAt ds t)[i]? = t[i]? ∨ ((forgetAt ds t)[i]? = some (.any i) ∧ i < t.length)
  | [], t, i => Or.inl rfl
  | d :: ds, t, i => by
    show (forgetAt ds (t.set d (.any d)))[i]? = t[i]? ∨ ((forgetAt ds (t.set d (.any d)))[i]? = some (.any i) ∧ i < t.length)
    rcases forgetAt_get ds (t.set d (.any d)) i with h | h
    · rw [h]
      rw [List.getElem?_set]
      by_cases hd : d = i
      · subst hd
        rw [if_pos rfl]
        by_cases hl : d < t.length
        · right; rw [if_pos hl]; exact ⟨rfl, hl⟩
        · left; rw [if_neg hl, List.getElem?_eq_none (by omega)]
      · left; rw [if_neg hd]
    · right; rw [List.length_set] at h; exact h
theorem relT_forget {ρ : Ren} {n m : Nat} {t : List V} {a : Act} (RT : RelT ρ n t a) (ds : List Nat) (ho : anyOwn 0 (forgetAt ds t) = true) (hs : (forgetAt ds t).all (·.slotOk m) = true) : RelT ⟨ρ.blk, fun i => a.tmps.getD i undef⟩ m (forgetAt ds t) a := by
  refine ⟨?_, fun x hx => List.all_eq_true.1 hs x hx⟩
  apply Array.toList_inj.1
  apply List.ext_getElem?
  intro i
  rw [concs_get]
  have h0 : a.tmps.toList[i]? = (t[i]?).map (·.conc ρ) := by rw [RT.tmps]; exact concs_get ρ t i
  rw [h0]
  rcases forgetAt_get ds t i with h | ⟨h, hl⟩
  · rw [h]
    cases hv : t[i]? with
    | none => rfl
    | some v =>
      simp only [Option.map_some, Option.some.injEq]
      cases v with
      | any j =>
        have hj := anyOwn_get _ 0 i j ho (h.trans hv)
        simp only [Nat.zero_add] at hj
        subst hj
        rw [hv] at h0
        simp only [Option.map_some] at h0
        simp only [V.conc, Array.getD_eq_getD_getElem?]
        rw [← Array.getElem?_toList, h0]
        rfl
      | _ => exact (V.conc_agree (n := n) (ρ := ρ) (ρ' := ⟨ρ.blk, fun i => a.tmps.getD i undef⟩) (fun _ _ => rfl) _ (RT.sco _ (List.mem_of_getElem? hv))).symm
  · rw [h]
    have : ∃ v, t[i]? = some v := ⟨_, List.getElem?_eq_getElem hl⟩
    obtain ⟨v, hv⟩ := this
    rw [hv] at h0 ⊢
    simp only [Option.map_some, V.conc, Array.getD_eq_getD_getElem?]
    simp only [Option.map_some] at h0
    rw [← Array.getElem?_toList, h0]
    rfl
theorem relH_unk {ρ : Ren} {h : Heap} {w : World} (RH : RelH c ρ h w) (u : Nat → Value) : RelH c ⟨ρ.blk, u⟩ h w :=
  ⟨fun i B hi => by
    obtain ⟨fr, h1, h2⟩ := RH.cell i B hi
    exact ⟨fr, by rw [concs_agree (n := h.length) (ρ := ρ) (ρ' := ⟨ρ.blk, u⟩) (fun _ _ => rfl) _ (RH.sco i B hi)]; exact h1, h2⟩, RH.lt, RH.inj, RH.sco, RH.glob, RH.big, RH.base⟩
theorem runs_enter {code : Code} {t T t' : List V} {h h' : Heap} {e : Ex} (ds : List Nat) (hT : forgetAt ds t = T) (ho : anyOwn 0 T = true) (hs : T.all (·.slotOk h.length) = true) (hr : Runs c lim code T h e t' h') : Runs c lim code t h e t' h' := by
  subst hT
  intro ρ a w RT RH
  refine wp_mono (hr _ a w (relT_forget RT ds ho hs) (relH_unk RH _)) fun x a' w' ⟨h1, ρ', h2, h3, h4, h5⟩ => ⟨h1, ρ', h2, h3, h4, ?_⟩
  exact ⟨h5.os, h5.tape, h5.output, h5.size, h5.blk, h5.ren, h5.len, h5.fresh⟩
theorem runs_drop {code : Code} {t t1 : List V} {h h1 : Heap} {e : Ex} (hr : Runs c lim code t h e t1 h1) (ds : List Nat) (hm : h.length ≤ h1.length)
    (hc : (((h1.take h.length).drop c.L).all fun b => match b with
      | some B => unders h.length B.cells
      | none => true) = true) (ho : anyOwn 0 (forgetAt ds t1) = true) (hs : (forgetAt ds t1).all (·.slotOk h.length) = true) : Runs c lim code t h e (forgetAt ds t1) (h1.take h.length) := by
  intro ρ a w RT RH
  refine wp_mono (hr ρ a w RT RH) fun x a' w' ⟨e1, ρ', e2, RT', RH', F⟩ => ⟨e1, ⟨ρ'.blk, fun i => a'.tmps.getD i undef⟩, e2, ?_, ?_, ?_⟩
  · have hl : (h1.take h.length).length = h.length := by rw [List.length_take]; omega
    rw [hl]
    exact relT_forget RT' ds ho hs
  · have hl : (h1.take h.length).length = h.length := by rw [List.length_take]; omega
    have hg : ∀ {i : Nat} {b : Option Blk}, (h1.take h.length)[i]? = some b → h1[i]? = some b ∧ i < h.length := fun {i b} hi => by
      have hil : i < (h1.take h.length).length := by
        rcases Nat.lt_or_ge i (h1.take h.length).length with k | k
        · exact k
        · rw [List.getElem?_eq_none k] at hi; cases hi
      rw [List.getElem?_take, if_pos (by omega)] at hi
      exact ⟨hi, by omega⟩
    refine relH_unk ⟨fun i B hi => RH'.cell i B (hg hi).1, fun i hi => RH'.lt i (by omega), fun i j k1 k2 k3 k4 => RH'.inj i j k1 (by omega) (by omega) k4, fun i B hi => ?_, fun p hp => ⟨(RH'.glob p hp).1, by rw [hl]; exact (RH.glob p hp).2⟩, by rw [hl]; exact RH.big, fun i hi => ?_⟩ _
    · rw [hl]
      rcases Nat.lt_or_ge i c.L with hlt | hge
      · have e1 := RH'.base i hlt
        have e2 := RH.base i hlt
        rw [(hg hi).1] at e1
        exact RH.sco i B (e2.trans e1.symm)
      · have hi' : ((h1.take h.length).drop c.L)[i - c.L]? = some (some B) := by
          rw [List.getElem?_drop]
          have : c.L + (i - c.L) = i := by omega
          rw [this]
          exact hi
        have := List.all_eq_true.1 hc _ (List.mem_of_getElem? hi')
        exact this
    · rw [List.getElem?_take, if_pos (by have := RH.big; omega)]
      exact RH'.base i hi
  · exact ⟨F.os, F.tape, F.output, F.size, F.blk, F.ren, by rw [List.length_take]; omega, fun i k1 k2 => F.fresh i k1 (by rw [List.length_take] at k2; omega)⟩
def loopsIn : Code → List Code
  | .loop x => x :: loopsIn x
  | .seq x y => loopsIn x ++ loopsIn y
  | .cond _ x y => loopsIn x ++ loopsIn y
  | .block _ x => loopsIn x
  | .scope x => loopsIn x
  | _ => []
def loopOf (P : Program) (f i : Nat) : Code := match P.funcs[f]? with
  | some fn => match fn.body with
    | some b => (loopsIn b).getD i .skip
    | none => .skip
  | none => .skip
theorem body_of (hmx : c.P.follows .mixedOrders = true) (hfn : ∀ f, c.fns f = true → Callable c.P f) (hL : c.L ≤ lim) {n : Nat} {code : Code} {T T' : List V} {H H' : Heap} {ans : List Ans} {e : Ex} {cons : List Prop} (ds : List Nat)
    (he : (evCode c (evFunc c n) lim code T H ans).map (fun r => (r.e, forgetAt ds r.t, r.h.take H.length, decide (H.length ≤ r.h.length), r.cons)) = some (e, T', H', true, cons))
    (hc : ((H'.drop c.L).all fun b => match b with
      | some B => unders H.length B.cells
      | none => true) = true) (ho : anyOwn 0 T' = true) (hs : T'.all (·.slotOk H.length) = true) (hp : Paid cons) : Runs c lim code T H e T' H' := by
  rw [Option.map_eq_some_iff] at he
  obtain ⟨r, h1, h2⟩ := he
  simp only [Prod.mk.injEq, decide_eq_true_eq] at h2
  obtain ⟨rfl, rfl, rfl, hm, rfl⟩ := h2
  exact runs_drop (evCode_sound hmx (evFunc_sound hmx hfn n) hfn hL _ _ _ _ _ h1 hp.all) ds hm hc ho hs
end
end Go.Proofs.YteefjegampdpoaaDoor.E
end
section
namespace Go.Proofs.YteefjegampdpoaaDoor
open Go Go.RowKit Go.Proofs.YteefjegampdpoaaDoor.E
noncomputable def cfg : Cfg := ⟨Tryd.prog, [], 0, [], true, fun f => (Tryd.prog.funcs[f]?).any fun fn => !fn.body.isNone⟩
theorem cfg_mixed : cfg.P.follows .mixedOrders = true := by kernel_rfl
theorem funcs_plain : ((Tryd.prog.funcs.toList.all fun fn => !(fn.name == "runtime.NumGoroutine"))) = true := by kernel_rfl
theorem cfg_call : ∀ f, cfg.fns f = true → Callable cfg.P f := fun f hf => by
  cases hg : Tryd.prog.funcs[f]? with
  | none =>
    have hf' : ((Tryd.prog.funcs[f]?).any fun fn => !fn.body.isNone) = true := hf
    rw [hg] at hf'
    cases hf'
  | some fn =>
    have hf' : ((Tryd.prog.funcs[f]?).any fun fn => !fn.body.isNone) = true := hf
    rw [hg] at hf'
    have h := List.all_eq_true.1 funcs_plain fn (Array.mem_toList_iff.2 (Array.mem_of_getElem? hg))
    exact ⟨fn, hg, by simpa using h, by simpa using hf'⟩
theorem cfg_base : cfg.H0.length = cfg.L ∧ (∀ (i : Nat) (B : Blk), cfg.H0[i]? = some (some B) → unders cfg.L B.cells = true) ∧ ∀ p ∈ cfg.G, p.2 < cfg.L :=
  ⟨rfl, fun i B h => by simp [cfg] at h, fun p h => by simp [cfg] at h⟩
end Go.Proofs.YteefjegampdpoaaDoor
end
section
namespace Go.Proofs.YteefjegampdpoaaDoor
open Go Go.RowKit
theorem up1 {f : FuncId} {a0 x : Value} (h : E.Ret cfg f [.raw a0] (.raw x)) : E2.Ret cfx f [.raw a0] (.raw x) :=
  E2.fn_of_calls (c := cfx) (args := [a0]) fun w => E.calls_of_fn (c := cfg) (args := [a0]) rfl rfl h w
theorem up2 {f : FuncId} {a0 a1 x : Value} (h : E.Ret cfg f [.raw a0, .raw a1] (.raw x)) : E2.Ret cfx f [.raw a0, .raw a1] (.raw x) :=
  E2.fn_of_calls (c := cfx) (args := [a0, a1]) fun w => E.calls_of_fn (c := cfg) (args := [a0, a1]) rfl rfl h w
theorem up3 {f : FuncId} {a0 a1 a2 x : Value} (h : E.Ret cfg f [.raw a0, .raw a1, .raw a2] (.raw x)) : E2.Ret cfx f [.raw a0, .raw a1, .raw a2] (.raw x) :=
  E2.fn_of_calls (c := cfx) (args := [a0, a1, a2]) fun w => E.calls_of_fn (c := cfg) (args := [a0, a1, a2]) rfl rfl h w
end Go.Proofs.YteefjegampdpoaaDoor
end
section
namespace Go.Proofs.YteefjegampdpoaaDoor.M
def btw (n l h : Int) : Bool := decide (l ≤ n) && decide (n ≤ h)
theorem btw_iff {n l h : Int} : btw n l h = true ↔ (l ≤ n ∧ n ≤ h) := by simp [btw]
def ballB (m r : Int) : Bool := btw m 400 500 && btw r 1000 4096
def momB (x y : Int) : Bool := btw x (-16777216) 16777216 && btw y (-16777216) 16777216
def restB (x y m : Int) : Bool := btw x (-(32 * m)) (32 * m - 1) && btw y (-(32 * m)) (32 * m - 1)
def placeB (x y : Int) : Bool := btw x (-4194304) 4194304 && btw y (-4194304) 4194304
def motB (m r a b u v p q : Int) : Bool := ballB m r && placeB a b && momB u v && restB p q m
def bncB (r d : Int) : Bool := btw r 0 950 && btw d 0 300
def err (b : Bool) : Int := if b then 0 else 2
@[simp] theorem err_true : err true = 0 := rfl
@[simp] theorem err_false : err false = 2 := rfl
theorem ballB_lo {m r : Int} (h : err (ballB m r) = 0) : 400 ≤ m := by
  unfold err ballB btw at h
  simp at h
  omega
theorem ballB_hi {m r : Int} (h : err (ballB m r) = 0) : m ≤ 500 := by
  unfold err ballB btw at h
  simp at h
  omega
theorem err_eq {b : Bool} : err b = 0 ↔ b = true := by cases b <;> simp
end Go.Proofs.YteefjegampdpoaaDoor.M
end
section
namespace Go.Proofs.YteefjegampdpoaaDoor.M
def tooB (b ux uy x y : Int) : Bool := decide (2 * (ux * x + uy * y) < b * (x * x + y * y))
def hv : Nat → Int → Int → Int → Int → Int → Int × Int
  | 0, b, ux, uy, x, y => (x, y)
  | n + 1, b, ux, uy, x, y => if tooB b ux uy x y then hv n b ux uy (x.tdiv 2) (y.tdiv 2) else (x, y)
def hvx (b ux uy x y : Int) : Int := (hv (x.natAbs + y.natAbs) b ux uy x y).1
def hvy (b ux uy x y : Int) : Int := (hv (x.natAbs + y.natAbs) b ux uy x y).2
def hh (ux uy wx wy sq : Int) : Int := (ux * wx + uy * wy).tdiv sq
def kk (ux uy wx wy sq : Int) : Int := (wx * uy - wy * ux).tdiv sq
def k0x (ux uy wx wy sq b r d : Int) : Int := ((1000 + r) * hh ux uy wx wy sq * wx - d * kk ux uy wx wy sq * wy).tdiv (1000 * b)
def k0y (ux uy wx wy sq b r d : Int) : Int := ((1000 + r) * hh ux uy wx wy sq * wy + d * kk ux uy wx wy sq * wx).tdiv (1000 * b)
def kx (ux uy wx wy sq b r d : Int) : Int := hvx b ux uy (k0x ux uy wx wy sq b r d) (k0y ux uy wx wy sq b r d)
def ky (ux uy wx wy sq b r d : Int) : Int := hvy b ux uy (k0x ux uy wx wy sq b r d) (k0y ux uy wx wy sq b r d)
theorem half_abs (x : Int) : (x.tdiv 2).natAbs ≤ x.natAbs ∧ (x ≠ 0 → (x.tdiv 2).natAbs < x.natAbs) := by
  have h : (x.tdiv 2).natAbs = x.natAbs / 2 := by rw [Int.natAbs_tdiv]; rfl
  rw [h]
  omega
theorem tooB_zero (b ux uy : Int) : tooB b ux uy 0 0 = false := by simp [tooB]
theorem tooB_ne {b ux uy x y : Int} (h : tooB b ux uy x y = true) : x ≠ 0 ∨ y ≠ 0 := by
  by_cases hx : x = 0
  · by_cases hy : y = 0
    · subst hx; subst hy; rw [tooB_zero] at h; cases h
    · exact Or.inr hy
  · exact Or.inl hx
theorem tooB_lt {b ux uy x y : Int} (h : tooB b ux uy x y = true) : (x.tdiv 2).natAbs + (y.tdiv 2).natAbs < x.natAbs + y.natAbs := by
  have h1 := half_abs x
  have h2 := half_abs y
  rcases tooB_ne h with h3 | h3
  · have := h1.2 h3; omega
  · have := h2.2 h3; omega
theorem hv_fuel (b ux uy : Int) : ∀ (n m : Nat) (x y : Int), x.natAbs + y.natAbs ≤ n → x.natAbs + y.natAbs ≤ m → hv n b ux uy x y = hv m b ux uy x y
  | 0, 0, x, y, _, _ => rfl
  | 0, m + 1, x, y, h, _ => by
    have hx : x = 0 := by omega
    have hy : y = 0 := by omega
    subst hx; subst hy
    simp [hv, tooB_zero]
  | n + 1, 0, x, y, _, h => by
    have hx : x = 0 := by omega
    have hy : y = 0 := by omega
    subst hx; subst hy
    simp [hv, tooB_zero]
  | n + 1, m + 1, x, y, h1, h2 => by
    simp only [hv]
    cases ht : tooB b ux uy x y with
    | false => simp
    | true =>
      have := tooB_lt ht
      simp only [if_true]
      exact hv_fuel b ux uy n m _ _ (by omega) (by omega)
theorem hv_step {b ux uy x y : Int} (h : tooB b ux uy x y = true) : hvx b ux uy x y = hvx b ux uy (x.tdiv 2) (y.tdiv 2) ∧ hvy b ux uy x y = hvy b ux uy (x.tdiv 2) (y.tdiv 2) := by
  have hlt := tooB_lt h
  have : hv (x.natAbs + y.natAbs) b ux uy x y = hv ((x.tdiv 2).natAbs + (y.tdiv 2).natAbs) b ux uy (x.tdiv 2) (y.tdiv 2) := by
    rw [hv_fuel b ux uy (x.natAbs + y.natAbs) (((x.tdiv 2).natAbs + (y.tdiv 2).natAbs) + (x.natAbs + y.natAbs) + 1) x y (by omega) (by omega)]
    simp only [hv, h, if_true]
    exact hv_fuel b ux uy _ _ _ _ (by omega) (by omega)
  exact ⟨congrArg Prod.fst this, congrArg Prod.snd this⟩
theorem hv_stop {b ux uy x y : Int} (h : tooB b ux uy x y = false) : hvx b ux uy x y = x ∧ hvy b ux uy x y = y := by
  unfold hvx hvy
  cases hn : x.natAbs + y.natAbs with
  | zero => simp [hv]
  | succ n => simp [hv, h]
def Within (x X : Int) : Prop := (0 ≤ X → 0 ≤ x ∧ x ≤ X) ∧ (X ≤ 0 → X ≤ x ∧ x ≤ 0)
theorem within_half (x : Int) : Within (x.tdiv 2) x := by
  constructor
  · intro h; rw [Int.tdiv_eq_ediv_of_nonneg h]; omega
  · intro h
    have : x.tdiv 2 = -((-x) / 2) := by rw [← Int.tdiv_eq_ediv_of_nonneg (by omega), Int.neg_tdiv]; omega
    omega
theorem Within.trans {x y z : Int} (h : Within x y) (k : Within y z) : Within x z := by
  unfold Within at *
  constructor
  · intro hz; have := k.1 hz; have := h.1 (by omega); omega
  · intro hz; have := k.2 hz; have := h.2 (by omega); omega
theorem Within.refl (x : Int) : Within x x := ⟨fun h => ⟨h, Int.le_refl _⟩, fun h => ⟨Int.le_refl _, h⟩⟩
theorem hv_within (b ux uy : Int) : ∀ (n : Nat) (x y : Int), Within (hv n b ux uy x y).1 x ∧ Within (hv n b ux uy x y).2 y
  | 0, x, y => ⟨Within.refl _, Within.refl _⟩
  | n + 1, x, y => by
    simp only [hv]
    cases ht : tooB b ux uy x y with
    | false => simp only [Bool.false_eq_true, if_false]; exact ⟨Within.refl _, Within.refl _⟩
    | true =>
      simp only [if_true]
      obtain ⟨h1, h2⟩ := hv_within b ux uy n (x.tdiv 2) (y.tdiv 2)
      exact ⟨h1.trans (within_half x), h2.trans (within_half y)⟩
theorem kx_within (ux uy wx wy sq b r d : Int) : Within (kx ux uy wx wy sq b r d) (k0x ux uy wx wy sq b r d) ∧ Within (ky ux uy wx wy sq b r d) (k0y ux uy wx wy sq b r d) := hv_within b ux uy _ _ _
end Go.Proofs.YteefjegampdpoaaDoor.M
end
section
namespace Go.Proofs.YteefjegampdpoaaDoor.M
def whole (n d : Int) : Int := (2 * n + d) / (2 * d)
def rest (n d : Int) : Int := n - whole n d * d
theorem rest_lo (n d : Int) (h : 0 < d) : -d ≤ 2 * rest n d := by
  unfold rest whole
  have h1 := Int.mul_ediv_add_emod (2 * n + d) (2 * d)
  have h2 := Int.emod_nonneg (2 * n + d) (show (2 * d : Int) ≠ 0 by omega)
  have e : 2 * d * ((2 * n + d) / (2 * d)) = 2 * ((2 * n + d) / (2 * d) * d) := by rw [Int.mul_assoc, Int.mul_comm d]
  omega
theorem rest_hi (n d : Int) (h : 0 < d) : 2 * rest n d < d := by
  unfold rest whole
  have h1 := Int.mul_ediv_add_emod (2 * n + d) (2 * d)
  have h3 := Int.emod_lt_of_pos (2 * n + d) (show (0:Int) < 2 * d by omega)
  have e : 2 * d * ((2 * n + d) / (2 * d)) = 2 * ((2 * n + d) / (2 * d) * d) := by rw [Int.mul_assoc, Int.mul_comm d]
  omega
theorem whole_rest (n d : Int) : whole n d * d + rest n d = n := by unfold rest; omega
theorem whole_of (n d w : Int) (h : 0 < d) (h1 : -d ≤ 2 * (n - w * d)) (h2 : 2 * (n - w * d) < d) : w = whole n d := by
  unfold whole
  have : (2 * n + d) = 2 * (n - w * d) + d + 2 * d * w := by rw [Int.mul_sub, Int.mul_assoc 2 d w, Int.mul_comm d w]; omega
  rw [this, Int.add_mul_ediv_left _ _ (by omega), Int.ediv_eq_zero_of_lt (by omega) (by omega)]; omega
theorem rest_of (n d w r : Int) (h : 0 < d) (e : w * d + r = n) (h1 : -d ≤ 2 * r) (h2 : 2 * r < d) : w = whole n d ∧ r = rest n d := by
  have hr : r = n - w * d := by omega
  have hw := whole_of n d w h (by omega) (by omega)
  exact ⟨hw, by unfold rest; rw [← hw]; exact hr⟩
theorem part_up (n d : Int) (h : 0 < d) (h2 : d ≤ 2 * n.tmod d) : n.tdiv d + 1 = whole n d ∧ n.tmod d - d = rest n d := by
  have e := Int.mul_tdiv_add_tmod n d
  have hl := Int.tmod_lt_of_pos n h
  have e2 : (n.tdiv d + 1) * d = d * n.tdiv d + d := by rw [Int.add_mul, Int.mul_comm]; omega
  exact rest_of n d _ _ h (by omega) (by omega) (by omega)
theorem part_down (n d : Int) (h : 0 < d) (h2 : 2 * n.tmod d < -d) : n.tdiv d - 1 = whole n d ∧ n.tmod d + d = rest n d := by
  have e := Int.mul_tdiv_add_tmod n d
  have hl : -d < n.tmod d := by
    have h1 := Int.tmod_lt_of_pos (-n) h
    rw [Int.neg_tmod] at h1
    omega
  have e2 : (n.tdiv d - 1) * d = d * n.tdiv d - d := by rw [Int.sub_mul, Int.mul_comm]; omega
  exact rest_of n d _ _ h (by omega) (by omega) (by omega)
theorem part_mid (n d : Int) (h : 0 < d) (h1 : ¬ d ≤ 2 * n.tmod d) (h2 : ¬ 2 * n.tmod d < -d) : n.tdiv d = whole n d ∧ n.tmod d = rest n d := by
  have e := Int.mul_tdiv_add_tmod n d
  have e2 : (n.tdiv d) * d = d * n.tdiv d := by rw [Int.mul_comm]
  exact rest_of n d _ _ h (by omega) (by omega) (by omega)
theorem tdiv_bd (n d : Int) (h : 0 < d) (a b : Int) (ha : a ≤ 0) (hb : 0 ≤ b) (h1 : a ≤ n) (h2 : n ≤ b) : a ≤ n.tdiv d ∧ n.tdiv d ≤ b := by
  constructor
  · rcases Int.le_total 0 n with hn | hn
    · have := Int.tdiv_nonneg hn (Int.le_of_lt h); omega
    · have h3 : n.tdiv d = -((-n).tdiv d) := by rw [Int.neg_tdiv]; omega
      have := Int.tdiv_le_self (a := -n) d (by omega)
      omega
  · rcases Int.le_total 0 n with hn | hn
    · have := Int.tdiv_le_self (a := n) d hn; omega
    · have h3 : n.tdiv d = -((-n).tdiv d) := by rw [Int.neg_tdiv]; omega
      have := Int.tdiv_nonneg (a := -n) (by omega) (Int.le_of_lt h); omega
def cmp (a b : Int) : Int := if a < b then -1 else if b < a then 1 else 0
theorem cmp_lt {a b : Int} (h : a < b) : cmp a b = -1 := by unfold cmp; rw [if_pos h]
theorem cmp_gt {a b : Int} (h : b < a) : cmp a b = 1 := by unfold cmp; rw [if_neg (by omega), if_pos h]
theorem cmp_eq (a : Int) : cmp a a = 0 := by unfold cmp; rw [if_neg (by omega), if_neg (by omega)]
def fits (a : Int) : Bool := decide (-4194304 ≤ a ∧ a ≤ 4194304)
theorem fits_yes {a : Int} (h : -4194304 ≤ a ∧ a ≤ 4194304) : fits a = true := by unfold fits; simpa using h
theorem fits_no {a : Int} (h : ¬ (-4194304 ≤ a ∧ a ≤ 4194304)) : fits a = false := by unfold fits; simpa using h
def sq (x y u v : Int) : Int := (u - x) * (u - x) + (v - y) * (v - y)
theorem mul_bd (a b A B : Int) (h1 : -A ≤ a) (h2 : a ≤ A) (h3 : -B ≤ b) (h4 : b ≤ B) : -(A * B) ≤ a * b ∧ a * b ≤ A * B := by
  have e1 : 0 ≤ (A - a) * (B + b) := Int.mul_nonneg (by omega) (by omega)
  have e2 : 0 ≤ (A + a) * (B - b) := Int.mul_nonneg (by omega) (by omega)
  have e3 : 0 ≤ (A - a) * (B - b) := Int.mul_nonneg (by omega) (by omega)
  have e4 : 0 ≤ (A + a) * (B + b) := Int.mul_nonneg (by omega) (by omega)
  constructor <;> grind
theorem sq_nonneg (a : Int) : 0 ≤ a * a := by
  rcases Int.le_total 0 a with h | h
  · exact Int.mul_nonneg h h
  · have := Int.mul_nonneg (a := -a) (b := -a) (by omega) (by omega); grind
def okAll (ps : List (Int × Int)) : Bool := ps.all fun p => fits p.1 && fits p.2
def chk (ps : List (Int × Int)) : Int := if okAll ps then 0 else 2
theorem okAll_take_succ (ps : List (Int × Int)) (k : Nat) (h : k < ps.length) : okAll (ps.take (k + 1)) = (okAll (ps.take k) && (fits (ps.getD k (0, 0)).1 && fits (ps.getD k (0, 0)).2)) := by
  unfold okAll
  rw [List.take_succ_eq_append_getElem h, List.all_append]
  simp [List.getD, h]
theorem okAll_of_take (ps : List (Int × Int)) (k : Nat) (h : okAll (ps.take k) = false) : okAll ps = false := by
  unfold okAll at *
  rw [List.all_eq_false] at *
  obtain ⟨x, hx, hn⟩ := h
  exact ⟨x, List.mem_of_mem_take hx, hn⟩
def hi (z : Int) : Int := z / 18446744073709551616
def lo (z : Int) : Int := z % 18446744073709551616
def g0 (z : Int) : Int := z / 2147483648 / 2147483648 / 2147483648
def g1 (z : Int) : Int := z / 2147483648 / 2147483648 % 2147483648
def g2 (z : Int) : Int := z / 2147483648 % 2147483648
def g3 (z : Int) : Int := z % 2147483648
theorem mul_range (a b A B : Int) (h1 : 0 ≤ a) (h2 : a ≤ A) (h3 : 0 ≤ b) (h4 : b ≤ B) : 0 ≤ a * b ∧ a * b ≤ A * B :=
  ⟨Int.mul_nonneg h1 h3, Int.mul_le_mul h2 h4 h3 (by omega)⟩
def left (x y u v p q : Int) : Int := (u - x) * (q - y) - (v - y) * (p - x)
end Go.Proofs.YteefjegampdpoaaDoor.M
end
section
namespace Go.Proofs.YteefjegampdpoaaDoor.M
theorem of_sq {a b : Int} (hb : 0 ≤ b) (h : a * a ≤ b * b) : -b ≤ a ∧ a ≤ b := by
  constructor
  · rcases Int.lt_or_le a (-b) with h1 | h1
    · exfalso
      have : b * b < -a * -a := Int.mul_lt_mul' (by omega) (by omega) hb (by omega)
      have e : -a * -a = a * a := by grind
      omega
    · exact h1
  · rcases Int.lt_or_le b a with h1 | h1
    · exfalso
      have : b * b < a * a := Int.mul_lt_mul' (by omega) h1 hb (by omega)
      omega
    · exact h1
theorem tdiv_mul_sq (p q : Int) (hq : 0 < q) : (p.tdiv q * q) * (p.tdiv q * q) ≤ p * p := by
  rcases Int.lt_or_le p 0 with h | h
  · have e : p.tdiv q = -((-p) / q) := by rw [← Int.tdiv_eq_ediv_of_nonneg (by omega), Int.neg_tdiv]; omega
    have h1 : 0 ≤ (-p) / q := Int.ediv_nonneg (by omega) (by omega)
    have h2 : (-p) / q * q ≤ -p := Int.ediv_mul_le _ (by omega)
    have h3 : 0 ≤ (-p) / q * q := Int.mul_nonneg h1 (by omega)
    rw [e]
    have e2 : (-((-p) / q) * q) * (-((-p) / q) * q) = ((-p) / q * q) * ((-p) / q * q) := by grind
    have e3 : p * p = -p * -p := by grind
    rw [e2, e3]
    exact Int.mul_le_mul h2 h2 h3 (by omega)
  · have e : p.tdiv q = p / q := Int.tdiv_eq_ediv_of_nonneg h
    have h1 : 0 ≤ p / q := Int.ediv_nonneg h (by omega)
    have h2 : p / q * q ≤ p := Int.ediv_mul_le _ (by omega)
    have h3 : 0 ≤ p / q * q := Int.mul_nonneg h1 (by omega)
    rw [e]
    exact Int.mul_le_mul h2 h2 h3 h
theorem hk_le (ux uy wx wy sq : Int) (hs : sq = wx * wx + wy * wy) (hp : 0 < sq) :
    (hh ux uy wx wy sq * hh ux uy wx wy sq + kk ux uy wx wy sq * kk ux uy wx wy sq) * sq ≤ ux * ux + uy * uy := by
  have h1 := tdiv_mul_sq (ux * wx + uy * wy) sq hp
  have h2 := tdiv_mul_sq (wx * uy - wy * ux) sq hp
  unfold hh kk
  generalize (ux * wx + uy * wy).tdiv sq = h at *
  generalize (wx * uy - wy * ux).tdiv sq = k at *
  have e1 : (h * h + k * k) * sq * sq = (h * sq) * (h * sq) + (k * sq) * (k * sq) := by grind
  have e2 : (ux * ux + uy * uy) * sq = (ux * wx + uy * wy) * (ux * wx + uy * wy) + (wx * uy - wy * ux) * (wx * uy - wy * ux) := by subst hs; grind
  exact Int.le_of_mul_le_mul_right (by rw [e1, e2]; omega) hp
structure KickRng (ux uy wx wy sq b r d : Int) : Prop where
  h1 : -50000000000 ≤ hh ux uy wx wy sq * wx ∧ hh ux uy wx wy sq * wx ≤ 50000000000
  h2 : -50000000000 ≤ hh ux uy wx wy sq * wy ∧ hh ux uy wx wy sq * wy ≤ 50000000000
  h3 : -50000000000 ≤ kk ux uy wx wy sq * wx ∧ kk ux uy wx wy sq * wx ≤ 50000000000
  h4 : -50000000000 ≤ kk ux uy wx wy sq * wy ∧ kk ux uy wx wy sq * wy ≤ 50000000000
  h5 : -50000000000 ≤ hh ux uy wx wy sq ∧ hh ux uy wx wy sq ≤ 50000000000
  h6 : -50000000000 ≤ kk ux uy wx wy sq ∧ kk ux uy wx wy sq ≤ 50000000000
  x : -50331648 ≤ k0x ux uy wx wy sq b r d ∧ k0x ux uy wx wy sq b r d ≤ 50331648
  y : -50331648 ≤ k0y ux uy wx wy sq b r d ∧ k0y ux uy wx wy sq b r d ≤ 50331648
theorem sq_mono {a A : Int} (h1 : -A ≤ a) (h2 : a ≤ A) : a * a ≤ A * A := (mul_bd a a A A h1 h2 h1 h2).2
theorem kick_rng {ux uy wx wy sq b r d : Int} (hs : sq = wx * wx + wy * wy) (hp : 0 < sq) (b1 : 1 ≤ b) (b2 : b ≤ 1000) (r1 : 0 ≤ r) (r2 : r ≤ 950) (d1 : 0 ≤ d) (d2 : d ≤ 300)
    (x1 : -(b * 16777216) ≤ ux) (x2 : ux ≤ b * 16777216) (y1 : -(b * 16777216) ≤ uy) (y2 : uy ≤ b * 16777216) : KickRng ux uy wx wy sq b r d := by
  have q1 := sq_mono x1 x2
  have q2 := sq_mono y1 y2
  have q3 : b * b ≤ 1000 * 1000 := sq_mono (by omega) b2
  have e3 : (b * 16777216) * (b * 16777216) = b * b * 281474976710656 := by grind
  have key : ∀ (h k X Y : Int), (h * h + k * k) * sq ≤ ux * ux + uy * uy → X = ((1000 + r) * h * wx - d * k * wy).tdiv (1000 * b) → Y = ((1000 + r) * h * wy + d * k * wx).tdiv (1000 * b) →
      (-50000000000 ≤ h * wx ∧ h * wx ≤ 50000000000) ∧ (-50000000000 ≤ h * wy ∧ h * wy ≤ 50000000000) ∧ (-50000000000 ≤ k * wx ∧ k * wx ≤ 50000000000) ∧ (-50000000000 ≤ k * wy ∧ k * wy ≤ 50000000000) ∧ (-50000000000 ≤ h ∧ h ≤ 50000000000) ∧ (-50000000000 ≤ k ∧ k ≤ 50000000000) ∧ (-50331648 ≤ X ∧ X ≤ 50331648) ∧ (-50331648 ≤ Y ∧ Y ≤ 50331648) := by
    intro h k X Y hk dx dy
    have hU : (h * h + k * k) * sq ≤ b * b * 562949953421312 := by omega
    have n1 := sq_nonneg (h * wx)
    have n2 := sq_nonneg (h * wy)
    have n3 := sq_nonneg (k * wx)
    have n4 := sq_nonneg (k * wy)
    have hE : (h * h + k * k) * sq = (h * wx) * (h * wx) + (h * wy) * (h * wy) + (k * wx) * (k * wx) + (k * wy) * (k * wy) := by subst hs; grind
    have hB : 50000000000 * 50000000000 = 2500000000000000000000 := by decide
    have bd : ∀ z : Int, z * z ≤ b * b * 562949953421312 → -50000000000 ≤ z ∧ z ≤ 50000000000 := fun z hz => of_sq (by omega) (by omega)
    have nh := sq_nonneg h
    have nk := sq_nonneg k
    have hsq : (h * h + k * k) * 1 ≤ (h * h + k * k) * sq := Int.mul_le_mul_of_nonneg_left (by omega) (by omega)
    have hkp : 0 ≤ (h * h + k * k) * sq := Int.mul_nonneg (by omega) (by omega)
    -- the sum before it is divided
    have r3 : (1000 + r) * (1000 + r) ≤ 1950 * 1950 := sq_mono (by omega) (by omega)
    have r4 : d * d ≤ 1950 * 1950 := sq_mono (by omega) (by omega)
    have hA : ((1000 + r) * h * wx - d * k * wy) * ((1000 + r) * h * wx - d * k * wy) + ((1000 + r) * h * wy + d * k * wx) * ((1000 + r) * h * wy + d * k * wx) ≤ 3802500 * (b * b * 562949953421312) := by
      have e : ((1000 + r) * h * wx - d * k * wy) * ((1000 + r) * h * wx - d * k * wy) + ((1000 + r) * h * wy + d * k * wx) * ((1000 + r) * h * wy + d * k * wx) = (1000 + r) * (1000 + r) * (h * h * sq) + d * d * (k * k * sq) := by subst hs; grind
      have p1 : 0 ≤ h * h * sq := Int.mul_nonneg nh (by omega)
      have p2 : 0 ≤ k * k * sq := Int.mul_nonneg nk (by omega)
      have p3 := Int.mul_le_mul_of_nonneg_right r3 p1
      have p4 := Int.mul_le_mul_of_nonneg_right r4 p2
      have e5 : (h * h + k * k) * sq = h * h * sq + k * k * sq := by grind
      rw [e]
      omega
    have hd : 0 < 1000 * b := by omega
    have fin : ∀ (A Z : Int), Z = A.tdiv (1000 * b) → A * A ≤ 3802500 * (b * b * 562949953421312) → -50331648 ≤ Z ∧ Z ≤ 50331648 := fun A Z hZ hAA => by
      have t1 := tdiv_mul_sq A (1000 * b) hd
      rw [← hZ] at t1
      refine of_sq (by omega) ?_
      have bb : 0 < b * b := Int.mul_pos (by omega) (by omega)
      have e6 : (Z * (1000 * b)) * (Z * (1000 * b)) = (Z * Z * 1000000) * (b * b) := by grind
      have e7 : 3802500 * (b * b * 562949953421312) = 2140617197884538880000 * (b * b) := by grind
      rw [e6] at t1
      rw [e7] at hAA
      have := Int.le_of_mul_le_mul_right (Int.le_trans t1 hAA) bb
      omega
    have s1 := sq_nonneg ((1000 + r) * h * wx - d * k * wy)
    have s2 := sq_nonneg ((1000 + r) * h * wy + d * k * wx)
    exact ⟨bd _ (by omega), bd _ (by omega), bd _ (by omega), bd _ (by omega), bd _ (by omega), bd _ (by omega), fin _ _ dx (by omega), fin _ _ dy (by omega)⟩
  obtain ⟨g1, g2, g3, g4, g5, g6, g7, g8⟩ := key _ _ _ _ (hk_le ux uy wx wy sq hs hp) rfl rfl
  exact ⟨g1, g2, g3, g4, g5, g6, g7, g8⟩
theorem round_rng {b ux uy x y : Int} (b1 : 1 ≤ b) (b2 : b ≤ 1000) (u1 : -16777216000 ≤ ux) (u2 : ux ≤ 16777216000) (v1 : -16777216000 ≤ uy) (v2 : uy ≤ 16777216000) (x1 : -50331648 ≤ x) (x2 : x ≤ 50331648) (y1 : -50331648 ≤ y) (y2 : y ≤ 50331648) :
    (0 ≤ x * x ∧ x * x ≤ 2533274790395904) ∧ (0 ≤ y * y ∧ y * y ≤ 2533274790395904) ∧ (0 ≤ b * (x * x + y * y) ∧ b * (x * x + y * y) ≤ 5066549580791808000) ∧
    (-844424930131968000 ≤ ux * x ∧ ux * x ≤ 844424930131968000) ∧ (-844424930131968000 ≤ uy * y ∧ uy * y ≤ 844424930131968000) ∧ (-50331648 ≤ x.tdiv 2 ∧ x.tdiv 2 ≤ 50331648) ∧ (-50331648 ≤ y.tdiv 2 ∧ y.tdiv 2 ≤ 50331648) := by
  have a1 := sq_mono x1 x2
  have a2 := sq_mono y1 y2
  have a3 := sq_nonneg x
  have a4 := sq_nonneg y
  have a5 := mul_bd ux x 16777216000 50331648 u1 u2 x1 x2
  have a6 := mul_bd uy y 16777216000 50331648 v1 v2 y1 y2
  have a7 := mul_range b (x * x + y * y) 1000 5066549580791808 (by omega) b2 (by omega) (by omega)
  have w1 := within_half x
  have w2 := within_half y
  unfold Within at w1 w2
  refine ⟨by omega, by omega, by omega, by omega, by omega, ?_, ?_⟩
  · rcases Int.le_total 0 x with h | h
    · have := w1.1 h; omega
    · have := w1.2 h; omega
  · rcases Int.le_total 0 y with h | h
    · have := w2.1 h; omega
    · have := w2.2 h; omega
end Go.Proofs.YteefjegampdpoaaDoor.M
end
section
namespace Go.Proofs.YteefjegampdpoaaDoor.M
theorem mul_bd' {a b A B C : Int} (hC : A * B = C) (h1 : -A ≤ a ∧ a ≤ A) (h2 : -B ≤ b ∧ b ≤ B) : -C ≤ a * b ∧ a * b ≤ C := by
  subst hC
  exact mul_bd a b A B h1.1 h1.2 h2.1 h2.2
theorem kick_debts {ux uy wx wy sq b r d : Int} (hs : sq = wx * wx + wy * wy) (hp : 0 < sq) (b1 : 1 ≤ b) (b2 : b ≤ 1000) (r1 : 0 ≤ r) (r2 : r ≤ 950) (d1 : 0 ≤ d) (d2 : d ≤ 300)
    (x1 : -(b * 16777216) ≤ ux) (x2 : ux ≤ b * 16777216) (y1 : -(b * 16777216) ≤ uy) (y2 : uy ≤ b * 16777216) (w1 : -70000 ≤ wx) (w2 : wx ≤ 70000) (w3 : -70000 ≤ wy) (w4 : wy ≤ 70000) :
    ((-1174405120000000 ≤ ux * wx ∧ ux * wx ≤ 1174405120000000) ∧ (-1174405120000000 ≤ uy * wy ∧ uy * wy ≤ 1174405120000000) ∧ (-1174405120000000 ≤ wx * uy ∧ wx * uy ≤ 1174405120000000) ∧ (-1174405120000000 ≤ wy * ux ∧ wy * ux ≤ 1174405120000000)) ∧
    ((-50000000000 ≤ (ux * wx + uy * wy).tdiv sq ∧ (ux * wx + uy * wy).tdiv sq ≤ 50000000000) ∧ (-50000000000 ≤ (wx * uy - wy * ux).tdiv sq ∧ (wx * uy - wy * ux).tdiv sq ≤ 50000000000) ∧
    (-97500000000000 ≤ (1000 + r) * (ux * wx + uy * wy).tdiv sq ∧ (1000 + r) * (ux * wx + uy * wy).tdiv sq ≤ 97500000000000) ∧ (-97500000000000 ≤ d * (wx * uy - wy * ux).tdiv sq ∧ d * (wx * uy - wy * ux).tdiv sq ≤ 97500000000000) ∧
    (-97500000000000 ≤ (1000 + r) * (ux * wx + uy * wy).tdiv sq * wx ∧ (1000 + r) * (ux * wx + uy * wy).tdiv sq * wx ≤ 97500000000000) ∧ (-97500000000000 ≤ (1000 + r) * (ux * wx + uy * wy).tdiv sq * wy ∧ (1000 + r) * (ux * wx + uy * wy).tdiv sq * wy ≤ 97500000000000) ∧
    (-97500000000000 ≤ d * (wx * uy - wy * ux).tdiv sq * wx ∧ d * (wx * uy - wy * ux).tdiv sq * wx ≤ 97500000000000) ∧ (-97500000000000 ≤ d * (wx * uy - wy * ux).tdiv sq * wy ∧ d * (wx * uy - wy * ux).tdiv sq * wy ≤ 97500000000000)) ∧
    ((-50331648 ≤ ((1000 + r) * (ux * wx + uy * wy).tdiv sq * wx - d * (wx * uy - wy * ux).tdiv sq * wy).tdiv (1000 * b) ∧ ((1000 + r) * (ux * wx + uy * wy).tdiv sq * wx - d * (wx * uy - wy * ux).tdiv sq * wy).tdiv (1000 * b) ≤ 50331648) ∧
     (-50331648 ≤ ((1000 + r) * (ux * wx + uy * wy).tdiv sq * wy + d * (wx * uy - wy * ux).tdiv sq * wx).tdiv (1000 * b) ∧ ((1000 + r) * (ux * wx + uy * wy).tdiv sq * wy + d * (wx * uy - wy * ux).tdiv sq * wx).tdiv (1000 * b) ≤ 50331648)) := by
  have ⟨k1, k2, k3, k4, k5, k6, kx, ky⟩ := kick_rng hs hp b1 b2 r1 r2 d1 d2 x1 x2 y1 y2
  have ex : k0x ux uy wx wy sq b r d = ((1000 + r) * hh ux uy wx wy sq * wx - d * kk ux uy wx wy sq * wy).tdiv (1000 * b) := rfl
  have ey : k0y ux uy wx wy sq b r d = ((1000 + r) * hh ux uy wx wy sq * wy + d * kk ux uy wx wy sq * wx).tdiv (1000 * b) := rfl
  rw [ex] at kx
  rw [ey] at ky
  clear ex ey
  unfold hh at k1 k2 k5 kx ky
  unfold kk at k3 k4 k6 kx ky
  have hr : -1950 ≤ 1000 + r ∧ 1000 + r ≤ 1950 := by omega
  have hd : -1950 ≤ d ∧ d ≤ 1950 := by omega
  have hux : -16777216000 ≤ ux ∧ ux ≤ 16777216000 := by omega
  have huy : -16777216000 ≤ uy ∧ uy ≤ 16777216000 := by omega
  refine ⟨⟨mul_bd' (by decide) hux ⟨w1, w2⟩, mul_bd' (by decide) huy ⟨w3, w4⟩, mul_bd' (by decide) ⟨w1, w2⟩ huy, mul_bd' (by decide) ⟨w3, w4⟩ hux⟩, ⟨k5, k6, mul_bd' (by decide) hr k5, mul_bd' (by decide) hd k6, ?_, ?_, ?_, ?_⟩, kx, ky⟩
  · rw [Int.mul_assoc]; exact mul_bd' (by decide) hr k1
  · rw [Int.mul_assoc]; exact mul_bd' (by decide) hr k2
  · rw [Int.mul_assoc]; exact mul_bd' (by decide) hd k3
  · rw [Int.mul_assoc]; exact mul_bd' (by decide) hd k4
end Go.Proofs.YteefjegampdpoaaDoor.M
end
section
namespace Go.Proofs.YteefjegampdpoaaDoor.M
def In (x y : Int) : Prop := (-4194304 ≤ x ∧ x ≤ 4194304) ∧ (-4194304 ≤ y ∧ y ≤ 4194304)
theorem chk_cases (ps : List (Int × Int)) : (chk ps = 0 ∧ ∀ p ∈ ps, In p.1 p.2) ∨ (chk ps = 2 ∧ ∃ p ∈ ps, ¬ In p.1 p.2) := by
  unfold chk okAll
  by_cases h : ps.all (fun p => fits p.1 && fits p.2) = true
  · rw [if_pos h]
    rw [List.all_eq_true] at h
    refine .inl ⟨rfl, fun p hp => ?_⟩
    have := h p hp
    simp [fits] at this
    unfold In
    omega
  · rw [if_neg h]
    rw [Bool.not_eq_true, List.all_eq_false] at h
    obtain ⟨p, hp, hn⟩ := h
    refine .inr ⟨rfl, p, hp, fun hi => hn ?_⟩
    unfold In at hi
    simp [fits, hi]
theorem sq_bd {x y u v : Int} (h1 : In x y) (h2 : In u v) : 0 ≤ sq x y u v ∧ sq x y u v ≤ 140737488355328 := by
  unfold In at h1 h2
  obtain ⟨a1, a2⟩ := mul_bd (u - x) (u - x) 8388608 8388608 (by omega) (by omega) (by omega) (by omega)
  obtain ⟨b1, b2⟩ := mul_bd (v - y) (v - y) 8388608 8388608 (by omega) (by omega) (by omega) (by omega)
  have c1 := sq_nonneg (u - x)
  have c2 := sq_nonneg (v - y)
  unfold sq
  omega
end Go.Proofs.YteefjegampdpoaaDoor.M
end
section
namespace Go.Proofs.YteefjegampdpoaaDoor.M
theorem place_in {x y : Int} (h : placeB x y = true) : In x y := by
  simp only [placeB, Bool.and_eq_true, btw_iff] at h
  exact h
theorem mot_facts {m r a b u v p q : Int} (h : motB m r a b u v p q = true) : ((400 ≤ m ∧ m ≤ 500) ∧ (1000 ≤ r ∧ r ≤ 4096)) ∧ ((-4194304 ≤ a ∧ a ≤ 4194304) ∧ (-4194304 ≤ b ∧ b ≤ 4194304)) ∧ ((-16777216 ≤ u ∧ u ≤ 16777216) ∧ (-16777216 ≤ v ∧ v ≤ 16777216)) ∧ ((-(32 * m) ≤ p ∧ p ≤ 32 * m - 1) ∧ (-(32 * m) ≤ q ∧ q ≤ 32 * m - 1)) := by
  simp only [motB, ballB, placeB, momB, restB, Bool.and_eq_true, btw_iff] at h
  omega
theorem bnc_facts {r d : Int} (h : bncB r d = true) : (0 ≤ r ∧ r ≤ 950) ∧ (0 ≤ d ∧ d ≤ 300) := by
  simp only [bncB, Bool.and_eq_true, btw_iff] at h
  omega
theorem mot_place {m r a b u v p q : Int} (h : motB m r a b u v p q = true) : placeB a b = true := by
  simp only [motB, Bool.and_eq_true] at h
  exact h.1.1.2
def nearB (s R : Int) : Bool := decide (s ≤ R * R) && decide (225 * R * R ≤ 256 * s)
def kickE (near : Bool) (d : Int) : Int := if near then (if 0 < d then 0 else 10) else 5
def selC (e x : Int) : Int := if e = 0 then x else 0
theorem near_facts {x y u v R : Int} (h : nearB (sq x y u v) R = true) (h1 : 1 ≤ R) (h2 : R ≤ 69632) : 0 < sq x y u v ∧ (-R ≤ u - x ∧ u - x ≤ R) ∧ (-R ≤ v - y ∧ v - y ≤ R) := by
  simp only [nearB, Bool.and_eq_true, decide_eq_true_eq] at h
  have a1 : 1 * 1 ≤ R * R := Int.mul_le_mul h1 h1 (by omega) (by omega)
  have e1 : 225 * R * R = 225 * (R * R) := by grind
  have a2 := sq_nonneg (u - x)
  have a3 := sq_nonneg (v - y)
  have hs : sq x y u v = (u - x) * (u - x) + (v - y) * (v - y) := rfl
  exact ⟨by omega, of_sq (by omega) (by omega), of_sq (by omega) (by omega)⟩
theorem reach_facts {R : Int} (h1 : 1 ≤ R) (h2 : R ≤ 69632) : (1 ≤ R * R ∧ R * R ≤ 4848615424) ∧ (1 ≤ 225 * R ∧ 225 * R ≤ 15667200) ∧ (1 ≤ 225 * R * R ∧ 225 * R * R ≤ 1090938470400) := by
  have a1 : 1 * 1 ≤ R * R := Int.mul_le_mul h1 h1 (by omega) (by omega)
  have a2 : R * R ≤ 69632 * 69632 := sq_mono (by omega) h2
  have e1 : 225 * R * R = 225 * (R * R) := by grind
  omega
theorem urge_facts {m1 m2 u1 u2 : Int} (h1 : 400 ≤ m1 ∧ m1 ≤ 500) (h2 : 400 ≤ m2 ∧ m2 ≤ 500) (k1 : -16777216 ≤ u1 ∧ u1 ≤ 16777216) (k2 : -16777216 ≤ u2 ∧ u2 ≤ 16777216) :
    (-8388608000 ≤ m2 * u1 ∧ m2 * u1 ≤ 8388608000) ∧ (-8388608000 ≤ m1 * u2 ∧ m1 * u2 ≤ 8388608000) ∧ (-((m1 + m2) * 16777216) ≤ m2 * u1 - m1 * u2 ∧ m2 * u1 - m1 * u2 ≤ (m1 + m2) * 16777216) := by
  have a1 : m2 * u1 ≤ m2 * 16777216 := Int.mul_le_mul_of_nonneg_left k1.2 (by omega)
  have a2 : m2 * -16777216 ≤ m2 * u1 := Int.mul_le_mul_of_nonneg_left k1.1 (by omega)
  have a3 : m1 * u2 ≤ m1 * 16777216 := Int.mul_le_mul_of_nonneg_left k2.2 (by omega)
  have a4 : m1 * -16777216 ≤ m1 * u2 := Int.mul_le_mul_of_nonneg_left k2.1 (by omega)
  omega
theorem dot_facts {ux uy wx wy : Int} (x1 : -16777216000 ≤ ux ∧ ux ≤ 16777216000) (y1 : -16777216000 ≤ uy ∧ uy ≤ 16777216000) (w1 : -8388608 ≤ wx ∧ wx ≤ 8388608) (w2 : -8388608 ≤ wy ∧ wy ≤ 8388608) :
    (-140737488355328000 ≤ ux * wx ∧ ux * wx ≤ 140737488355328000) ∧ (-140737488355328000 ≤ uy * wy ∧ uy * wy ≤ 140737488355328000) ∧ (wx * ux = ux * wx ∧ wy * uy = uy * wy) :=
  ⟨mul_bd' (by decide) x1 w1, mul_bd' (by decide) y1 w2, Int.mul_comm _ _, Int.mul_comm _ _⟩
def KE (m1 r1 a1 b1 u1 v1 p1 q1 m2 r2 a2 b2 u2 v2 p2 q2 rb dg : Int) : Int := if motB m1 r1 a1 b1 u1 v1 p1 q1 && motB m2 r2 a2 b2 u2 v2 p2 q2 && bncB rb dg then kickE (nearB (sq a1 b1 a2 b2) (r1 + r2)) ((m2 * u1 - m1 * u2) * (a2 - a1) + (m2 * v1 - m1 * v2) * (b2 - b1)) else 2
def KX (m1 r1 a1 b1 u1 v1 p1 q1 m2 r2 a2 b2 u2 v2 p2 q2 rb dg : Int) : Int := if KE m1 r1 a1 b1 u1 v1 p1 q1 m2 r2 a2 b2 u2 v2 p2 q2 rb dg = 0 then kx (m2 * u1 - m1 * u2) (m2 * v1 - m1 * v2) (a2 - a1) (b2 - b1) (sq a1 b1 a2 b2) (m1 + m2) rb dg else 0
def KY (m1 r1 a1 b1 u1 v1 p1 q1 m2 r2 a2 b2 u2 v2 p2 q2 rb dg : Int) : Int := if KE m1 r1 a1 b1 u1 v1 p1 q1 m2 r2 a2 b2 u2 v2 p2 q2 rb dg = 0 then ky (m2 * u1 - m1 * u2) (m2 * v1 - m1 * v2) (a2 - a1) (b2 - b1) (sq a1 b1 a2 b2) (m1 + m2) rb dg else 0
def BE (m1 r1 a1 b1 u1 v1 p1 q1 m2 r2 a2 b2 u2 v2 p2 q2 rb dg : Int) : Int := if KE m1 r1 a1 b1 u1 v1 p1 q1 m2 r2 a2 b2 u2 v2 p2 q2 rb dg = 0 then (if momB (u1 - KX m1 r1 a1 b1 u1 v1 p1 q1 m2 r2 a2 b2 u2 v2 p2 q2 rb dg) (v1 - KY m1 r1 a1 b1 u1 v1 p1 q1 m2 r2 a2 b2 u2 v2 p2 q2 rb dg) && momB (u2 + KX m1 r1 a1 b1 u1 v1 p1 q1 m2 r2 a2 b2 u2 v2 p2 q2 rb dg) (v2 + KY m1 r1 a1 b1 u1 v1 p1 q1 m2 r2 a2 b2 u2 v2 p2 q2 rb dg) then 0 else 4) else KE m1 r1 a1 b1 u1 v1 p1 q1 m2 r2 a2 b2 u2 v2 p2 q2 rb dg
theorem KE_facts {m1 r1 a1 b1 u1 v1 p1 q1 m2 r2 a2 b2 u2 v2 p2 q2 rb dg : Int} (h : KE m1 r1 a1 b1 u1 v1 p1 q1 m2 r2 a2 b2 u2 v2 p2 q2 rb dg = 0) : motB m1 r1 a1 b1 u1 v1 p1 q1 = true ∧ motB m2 r2 a2 b2 u2 v2 p2 q2 = true ∧ bncB rb dg = true ∧ nearB (sq a1 b1 a2 b2) (r1 + r2) = true ∧ 0 < (m2 * u1 - m1 * u2) * (a2 - a1) + (m2 * v1 - m1 * v2) * (b2 - b1) := by
  unfold KE kickE at h
  split at h
  · rename_i hb
    simp only [Bool.and_eq_true] at hb
    split at h
    · split at h
      · exact ⟨hb.1.1, hb.1.2, hb.2, by assumption, by assumption⟩
      · omega
    · omega
  · omega
theorem within_bd {x X B : Int} (h : Within x X) (h1 : -B ≤ X ∧ X ≤ B) : -B ≤ x ∧ x ≤ B := by
  unfold Within at h
  rcases Int.le_total 0 X with k | k
  · have := h.1 k; omega
  · have := h.2 k; omega
theorem K_rng {m1 r1 a1 b1 u1 v1 p1 q1 m2 r2 a2 b2 u2 v2 p2 q2 rb dg : Int} (h : KE m1 r1 a1 b1 u1 v1 p1 q1 m2 r2 a2 b2 u2 v2 p2 q2 rb dg = 0) : KickRng (m2 * u1 - m1 * u2) (m2 * v1 - m1 * v2) (a2 - a1) (b2 - b1) (sq a1 b1 a2 b2) (m1 + m2) rb dg := by
  obtain ⟨h1, h2, hx, hn, _⟩ := KE_facts h
  obtain ⟨⟨hm1, hr1⟩, ⟨ha1, hb1⟩, ⟨hu1, hv1⟩, ⟨hp1, hq1⟩⟩ := mot_facts h1
  obtain ⟨⟨hm2, hr2⟩, ⟨ha2, hb2⟩, ⟨hu2, hv2⟩, ⟨hp2, hq2⟩⟩ := mot_facts h2
  obtain ⟨hrb, hdg⟩ := bnc_facts hx
  obtain ⟨_, _, hux⟩ := urge_facts hm1 hm2 hu1 hu2
  obtain ⟨_, _, huy⟩ := urge_facts hm1 hm2 hv1 hv2
  obtain ⟨h0, _, _⟩ := near_facts hn (by omega) (by omega)
  exact kick_rng rfl h0 (by omega) (by omega) hrb.1 hrb.2 hdg.1 hdg.2 hux.1 hux.2 huy.1 huy.2
theorem K_bd (m1 r1 a1 b1 u1 v1 p1 q1 m2 r2 a2 b2 u2 v2 p2 q2 rb dg : Int) : (-50331648 ≤ KX m1 r1 a1 b1 u1 v1 p1 q1 m2 r2 a2 b2 u2 v2 p2 q2 rb dg ∧ KX m1 r1 a1 b1 u1 v1 p1 q1 m2 r2 a2 b2 u2 v2 p2 q2 rb dg ≤ 50331648) ∧ (-50331648 ≤ KY m1 r1 a1 b1 u1 v1 p1 q1 m2 r2 a2 b2 u2 v2 p2 q2 rb dg ∧ KY m1 r1 a1 b1 u1 v1 p1 q1 m2 r2 a2 b2 u2 v2 p2 q2 rb dg ≤ 50331648) := by
  unfold KX KY
  by_cases h : KE m1 r1 a1 b1 u1 v1 p1 q1 m2 r2 a2 b2 u2 v2 p2 q2 rb dg = 0
  · rw [if_pos h, if_pos h]
    have hr := K_rng h
    obtain ⟨hx, hy⟩ := kx_within (m2 * u1 - m1 * u2) (m2 * v1 - m1 * v2) (a2 - a1) (b2 - b1) (sq a1 b1 a2 b2) (m1 + m2) rb dg
    exact ⟨within_bd hx hr.x, within_bd hy hr.y⟩
  · rw [if_neg h, if_neg h]; omega
end Go.Proofs.YteefjegampdpoaaDoor.M
end
section
namespace Go.Proofs.YteefjegampdpoaaDoor.M
open Go.Proofs.YteefjegampdpoaaDoor.E2
def goodB (xs ys : List Int) (i : Nat) : Bool := motB (at' xs (i * 2)) (at' xs (i * 2 + 1)) (at' ys (i * 6)) (at' ys (i * 6 + 1)) (at' ys (i * 6 + 2)) (at' ys (i * 6 + 3)) (at' ys (i * 6 + 4)) (at' ys (i * 6 + 5))
def allB (xs ys : List Int) (n : Nat) : Bool := (List.range n).all (goodB xs ys)
def lE (xs ys : List Int) (n k : Nat) : Int := if (8 : Int) < n then 6 else if (k : Int) = n then err (allB xs ys n) else 17
def rollF (xs ys : List Int) (k : Nat) : Int := if k % 8 < 2 then at' xs (k / 8 * 2 + k % 8) else at' ys (k / 8 * 6 + (k % 8 - 2))
def roll (xs ys : List Int) (n : Nat) : List Int := tab (n * 8) (rollF xs ys)
def rollTo (xs ys : List Int) (n i : Nat) : List Int := tab (n * 8) fun k => if k < i * 8 then rollF xs ys k else 0
theorem rollTo_0 (xs ys : List Int) (n : Nat) : rollTo xs ys n 0 = List.replicate (n * 8) 0 := by
  rw [rep_tab]
  exact tab_congr fun k hk => by rw [if_neg (by omega)]
theorem rollTo_n (xs ys : List Int) (n : Nat) : rollTo xs ys n n = roll xs ys n := tab_congr fun k hk => if_pos (by omega)
theorem rollTo_len (xs ys : List Int) (n i : Nat) : (rollTo xs ys n i).length = n * 8 := tab_len _ _
theorem roll_len (xs ys : List Int) (n : Nat) : (roll xs ys n).length = n * 8 := tab_len _ _
theorem rollF_at (xs ys : List Int) (i j : Nat) (h : j < 8) : rollF xs ys (i * 8 + j) = if j < 2 then at' xs (i * 2 + j) else at' ys (i * 6 + (j - 2)) := by
  unfold rollF
  rw [show (i * 8 + j) % 8 = j by omega, show (i * 8 + j) / 8 = i by omega]
theorem rollTo_put (xs ys : List Int) (n i : Nat) (hi : i < n) : putI (rollTo xs ys n i) (i * 8) [at' xs (i * 2), at' xs (i * 2 + 1), at' ys (i * 6), at' ys (i * 6 + 1), at' ys (i * 6 + 2), at' ys (i * 6 + 3), at' ys (i * 6 + 4), at' ys (i * 6 + 5)] = rollTo xs ys n (i + 1) := by
  unfold rollTo
  rw [putI_tab (by simp; omega)]
  refine tab_congr fun k hk => ?_
  simp only [List.length_cons, List.length_nil]
  by_cases h : i * 8 ≤ k ∧ k < i * 8 + (0 + 1 + 1 + 1 + 1 + 1 + 1 + 1 + 1)
  · rw [if_pos h, if_pos (by omega)]
    obtain ⟨j, rfl⟩ : ∃ j, k = i * 8 + j := ⟨k - i * 8, by omega⟩
    rw [rollF_at _ _ _ _ (by omega), show i * 8 + j - i * 8 = j by omega]
    have : j = 0 ∨ j = 1 ∨ j = 2 ∨ j = 3 ∨ j = 4 ∨ j = 5 ∨ j = 6 ∨ j = 7 := by omega
    rcases this with rfl | rfl | rfl | rfl | rfl | rfl | rfl | rfl <;> rfl
  · rw [if_neg h]
    by_cases h2 : k < i * 8
    · rw [if_pos h2, if_pos (by omega)]
    · rw [if_neg h2, if_neg (by omega)]
theorem at_roll (xs ys : List Int) {n i j : Nat} (hi : i < n) (h : j < 8) : at' (roll xs ys n) (i * 8 + j) = if j < 2 then at' xs (i * 2 + j) else at' ys (i * 6 + (j - 2)) := by
  unfold roll
  rw [at_tab (by omega), rollF_at _ _ _ _ h]
def goodZ (zs : List Int) (i : Nat) : Bool := motB (at' zs (i * 8)) (at' zs (i * 8 + 1)) (at' zs (i * 8 + 2)) (at' zs (i * 8 + 3)) (at' zs (i * 8 + 4)) (at' zs (i * 8 + 5)) (at' zs (i * 8 + 6)) (at' zs (i * 8 + 7))
def allZ (zs : List Int) (n : Nat) : Bool := (List.range n).all (goodZ zs)
theorem goodZ_roll (xs ys : List Int) {n i : Nat} (hi : i < n) : goodZ (roll xs ys n) i = goodB xs ys i := by
  have h : ∀ j, j < 8 → at' (roll xs ys n) (i * 8 + j) = if j < 2 then at' xs (i * 2 + j) else at' ys (i * 6 + (j - 2)) := fun j hj => at_roll xs ys hi hj
  have h0 : at' (roll xs ys n) (i * 8) = at' xs (i * 2) := h 0 (by omega)
  unfold goodZ goodB
  rw [h0, h 1 (by omega), h 2 (by omega), h 3 (by omega), h 4 (by omega), h 5 (by omega), h 6 (by omega), h 7 (by omega)]
  rfl
theorem allZ_roll (xs ys : List Int) (n : Nat) : allZ (roll xs ys n) n = allB xs ys n := by
  unfold allZ allB
  rw [Bool.eq_iff_iff, List.all_eq_true, List.all_eq_true]
  constructor
  · intro h i hi; rw [← goodZ_roll xs ys (List.mem_range.1 hi)]; exact h i hi
  · intro h i hi; rw [goodZ_roll xs ys (List.mem_range.1 hi)]; exact h i hi
def motF (zs : List Int) (k : Nat) : Int := at' zs (k / 6 * 8 + (k % 6 + 2))
def mots (zs : List Int) (n : Nat) : List Int := tab (n * 6) (motF zs)
def motTo (zs : List Int) (n i : Nat) : List Int := tab (n * 6) fun k => if k < i * 6 then motF zs k else 0
theorem motTo_0 (zs : List Int) (n : Nat) : motTo zs n 0 = List.replicate (n * 6) 0 := by
  rw [rep_tab]
  exact tab_congr fun k hk => by rw [if_neg (by omega)]
theorem motTo_n (zs : List Int) (n : Nat) : motTo zs n n = mots zs n := tab_congr fun k hk => if_pos (by omega)
theorem motTo_len (zs : List Int) (n i : Nat) : (motTo zs n i).length = n * 6 := tab_len _ _
theorem motF_at (zs : List Int) (i j : Nat) (h : j < 6) : motF zs (i * 6 + j) = at' zs (i * 8 + (j + 2)) := by
  unfold motF
  rw [show (i * 6 + j) % 6 = j by omega, show (i * 6 + j) / 6 = i by omega]
theorem motTo_put (zs : List Int) (n i : Nat) (hi : i < n) : putI (motTo zs n i) (i * 6) [at' zs (i * 8 + 2), at' zs (i * 8 + 3), at' zs (i * 8 + 4), at' zs (i * 8 + 5), at' zs (i * 8 + 6), at' zs (i * 8 + 7)] = motTo zs n (i + 1) := by
  unfold motTo
  rw [putI_tab (by simp; omega)]
  refine tab_congr fun k hk => ?_
  simp only [List.length_cons, List.length_nil]
  by_cases h : i * 6 ≤ k ∧ k < i * 6 + (0 + 1 + 1 + 1 + 1 + 1 + 1)
  · rw [if_pos h, if_pos (by omega)]
    obtain ⟨j, rfl⟩ : ∃ j, k = i * 6 + j := ⟨k - i * 6, by omega⟩
    rw [motF_at _ _ _ (by omega), show i * 6 + j - i * 6 = j by omega]
    have : j = 0 ∨ j = 1 ∨ j = 2 ∨ j = 3 ∨ j = 4 ∨ j = 5 := by omega
    rcases this with rfl | rfl | rfl | rfl | rfl | rfl <;> rfl
  · rw [if_neg h]
    by_cases h2 : k < i * 6
    · rw [if_pos h2, if_pos (by omega)]
    · rw [if_neg h2, if_neg (by omega)]
theorem mots_roll (xs ys : List Int) (n : Nat) (h : ys.length = n * 6) : mots (roll xs ys n) n = ys := by
  refine (eq_tab h fun k hk => ?_).symm
  obtain ⟨i, j, hj, rfl⟩ : ∃ i j, j < 6 ∧ k = i * 6 + j := ⟨k / 6, k % 6, by omega, by omega⟩
  rw [motF_at _ _ _ hj, at_roll xs ys (by omega) (by omega), if_neg (by omega)]
  congr 1
def sumY (ys : List Int) (o : Nat) : Nat → Int
  | 0 => 0
  | i + 1 => sumY ys o i + at' ys (i * 6 + o)
end Go.Proofs.YteefjegampdpoaaDoor.M
end
section
namespace Go.Proofs.YteefjegampdpoaaDoor.M
open Go.Proofs.YteefjegampdpoaaDoor.E2
def be (xs os : List Int) (rb dg : Int) (i k : Nat) : Int := BE (at' xs (i * 2)) (at' xs (i * 2 + 1)) (at' os (i * 6)) (at' os (i * 6 + 1)) (at' os (i * 6 + 2)) (at' os (i * 6 + 3)) (at' os (i * 6 + 4)) (at' os (i * 6 + 5)) (at' xs (k * 2)) (at' xs (k * 2 + 1)) (at' os (k * 6)) (at' os (k * 6 + 1)) (at' os (k * 6 + 2)) (at' os (k * 6 + 3)) (at' os (k * 6 + 4)) (at' os (k * 6 + 5)) rb dg
def bkx (xs os : List Int) (rb dg : Int) (i k : Nat) : Int := KX (at' xs (i * 2)) (at' xs (i * 2 + 1)) (at' os (i * 6)) (at' os (i * 6 + 1)) (at' os (i * 6 + 2)) (at' os (i * 6 + 3)) (at' os (i * 6 + 4)) (at' os (i * 6 + 5)) (at' xs (k * 2)) (at' xs (k * 2 + 1)) (at' os (k * 6)) (at' os (k * 6 + 1)) (at' os (k * 6 + 2)) (at' os (k * 6 + 3)) (at' os (k * 6 + 4)) (at' os (k * 6 + 5)) rb dg
def bky (xs os : List Int) (rb dg : Int) (i k : Nat) : Int := KY (at' xs (i * 2)) (at' xs (i * 2 + 1)) (at' os (i * 6)) (at' os (i * 6 + 1)) (at' os (i * 6 + 2)) (at' os (i * 6 + 3)) (at' os (i * 6 + 4)) (at' os (i * 6 + 5)) (at' xs (k * 2)) (at' xs (k * 2 + 1)) (at' os (k * 6)) (at' os (k * 6 + 1)) (at' os (k * 6 + 2)) (at' os (k * 6 + 3)) (at' os (k * 6 + 4)) (at' os (k * 6 + 5)) rb dg
def nI (xs os : List Int) (rb dg : Int) (i k j : Nat) : Int := selC (be xs os rb dg i k) (if j = 2 then at' os (i * 6 + j) - bkx xs os rb dg i k else if j = 3 then at' os (i * 6 + j) - bky xs os rb dg i k else at' os (i * 6 + j))
def nK (xs os : List Int) (rb dg : Int) (i k j : Nat) : Int := selC (be xs os rb dg i k) (if j = 2 then at' os (k * 6 + j) + bkx xs os rb dg i k else if j = 3 then at' os (k * 6 + j) + bky xs os rb dg i k else at' os (k * 6 + j))
def beZ (zs : List Int) (rb dg : Int) (i k : Nat) : Int := BE (at' zs (i * 8)) (at' zs (i * 8 + 1)) (at' zs (i * 8 + 2)) (at' zs (i * 8 + 3)) (at' zs (i * 8 + 4)) (at' zs (i * 8 + 5)) (at' zs (i * 8 + 6)) (at' zs (i * 8 + 7)) (at' zs (k * 8)) (at' zs (k * 8 + 1)) (at' zs (k * 8 + 2)) (at' zs (k * 8 + 3)) (at' zs (k * 8 + 4)) (at' zs (k * 8 + 5)) (at' zs (k * 8 + 6)) (at' zs (k * 8 + 7)) rb dg
def kxZ (zs : List Int) (rb dg : Int) (i k : Nat) : Int := KX (at' zs (i * 8)) (at' zs (i * 8 + 1)) (at' zs (i * 8 + 2)) (at' zs (i * 8 + 3)) (at' zs (i * 8 + 4)) (at' zs (i * 8 + 5)) (at' zs (i * 8 + 6)) (at' zs (i * 8 + 7)) (at' zs (k * 8)) (at' zs (k * 8 + 1)) (at' zs (k * 8 + 2)) (at' zs (k * 8 + 3)) (at' zs (k * 8 + 4)) (at' zs (k * 8 + 5)) (at' zs (k * 8 + 6)) (at' zs (k * 8 + 7)) rb dg
def kyZ (zs : List Int) (rb dg : Int) (i k : Nat) : Int := KY (at' zs (i * 8)) (at' zs (i * 8 + 1)) (at' zs (i * 8 + 2)) (at' zs (i * 8 + 3)) (at' zs (i * 8 + 4)) (at' zs (i * 8 + 5)) (at' zs (i * 8 + 6)) (at' zs (i * 8 + 7)) (at' zs (k * 8)) (at' zs (k * 8 + 1)) (at' zs (k * 8 + 2)) (at' zs (k * 8 + 3)) (at' zs (k * 8 + 4)) (at' zs (k * 8 + 5)) (at' zs (k * 8 + 6)) (at' zs (k * 8 + 7)) rb dg
def zI (zs : List Int) (rb dg : Int) (i k j : Nat) : Int := selC (beZ zs rb dg i k) (if j = 4 then at' zs (i * 8 + j) - kxZ zs rb dg i k else if j = 5 then at' zs (i * 8 + j) - kyZ zs rb dg i k else at' zs (i * 8 + j))
def zK (zs : List Int) (rb dg : Int) (i k j : Nat) : Int := selC (beZ zs rb dg i k) (if j = 4 then at' zs (k * 8 + j) + kxZ zs rb dg i k else if j = 5 then at' zs (k * 8 + j) + kyZ zs rb dg i k else at' zs (k * 8 + j))
structure St where
  os : List Int
  ps : List Int
  m : Nat
def stpC (xs : List Int) (rb dg : Int) (i k : Nat) (s : St) : Option St :=
  if be xs s.os rb dg i k = 4 then none else if be xs s.os rb dg i k = 0 then some ⟨putI (putI s.os (i * 6) [nI xs s.os rb dg i k 0, nI xs s.os rb dg i k 1, nI xs s.os rb dg i k 2, nI xs s.os rb dg i k 3, nI xs s.os rb dg i k 4, nI xs s.os rb dg i k 5]) (k * 6) [nK xs s.os rb dg i k 0, nK xs s.os rb dg i k 1, nK xs s.os rb dg i k 2, nK xs s.os rb dg i k 3, nK xs s.os rb dg i k 4, nK xs s.os rb dg i k 5], s.ps ++ [(i : Int), (k : Int)], s.m + 1⟩ else some s
def inn (xs : List Int) (rb dg : Int) (n i : Nat) (s : St) : Option St := iterO (fun k s => stpC xs rb dg i k s) (i + 1) (n - (i + 1)) s
def outr (xs : List Int) (rb dg : Int) (n : Nat) (s : St) : Option St := iterO (fun i s => inn xs rb dg n i s) 0 n s
def Inv (n i k : Nat) (s : St) : Prop := s.os.length = n * 6 ∧ s.ps.length = s.m * 2 ∧ s.m + i + 1 ≤ 8 * i + k
def InvO (n i : Nat) (s : St) : Prop := s.os.length = n * 6 ∧ s.ps.length = s.m * 2 ∧ s.m ≤ 8 * i
theorem stp_cases {xs : List Int} {rb dg : Int} {i k : Nat} {s s' : St} (h : stpC xs rb dg i k s = some s') : (¬ be xs s.os rb dg i k = 4) ∧ ((be xs s.os rb dg i k = 0 ∧ s' = ⟨putI (putI s.os (i * 6) [nI xs s.os rb dg i k 0, nI xs s.os rb dg i k 1, nI xs s.os rb dg i k 2, nI xs s.os rb dg i k 3, nI xs s.os rb dg i k 4, nI xs s.os rb dg i k 5]) (k * 6) [nK xs s.os rb dg i k 0, nK xs s.os rb dg i k 1, nK xs s.os rb dg i k 2, nK xs s.os rb dg i k 3, nK xs s.os rb dg i k 4, nK xs s.os rb dg i k 5], s.ps ++ [(i : Int), (k : Int)], s.m + 1⟩) ∨ ((¬ be xs s.os rb dg i k = 0) ∧ s' = s)) := by
  unfold stpC at h
  split at h
  · cases h
  · rename_i h4
    split at h
    · rename_i h0
      exact ⟨h4, .inl ⟨h0, (Option.some.inj h).symm⟩⟩
    · rename_i h0
      exact ⟨h4, .inr ⟨h0, (Option.some.inj h).symm⟩⟩
theorem stp_none {xs : List Int} {rb dg : Int} {i k : Nat} {s : St} (h : stpC xs rb dg i k s = none) : be xs s.os rb dg i k = 4 := by
  unfold stpC at h
  split at h
  · assumption
  · split at h <;> cases h
theorem Inv.step {xs : List Int} {rb dg : Int} {n i k : Nat} {s s' : St} (hi : i < n) (hk : k < n) (hv : Inv n i k s) (h : stpC xs rb dg i k s = some s') : Inv n i (k + 1) s' := by
  obtain ⟨v1, v2, v3⟩ := hv
  obtain ⟨_, ⟨_, rfl⟩ | ⟨_, rfl⟩⟩ := stp_cases h
  · refine ⟨?_, ?_, by show s.m + 1 + i + 1 ≤ _; omega⟩
    · simp only [putI_length, v1, List.length_cons, List.length_nil]; omega
    · simp only [List.length_append, v2, List.length_cons, List.length_nil]; omega
  · exact ⟨v1, v2, by omega⟩
end Go.Proofs.YteefjegampdpoaaDoor.M
end
section
namespace Go.Proofs.YteefjegampdpoaaDoor.M
open Go.Proofs.YteefjegampdpoaaDoor.E2
section
variable {xs os : List Int} {rb dg : Int} {n i k : Nat}
theorem at_roll8 (hi : i < n) : at' (roll xs os n) (i * 8) = at' xs (i * 2) ∧ at' (roll xs os n) (i * 8 + 1) = at' xs (i * 2 + 1) ∧ at' (roll xs os n) (i * 8 + 2) = at' os (i * 6) ∧ at' (roll xs os n) (i * 8 + 3) = at' os (i * 6 + 1) ∧ at' (roll xs os n) (i * 8 + 4) = at' os (i * 6 + 2) ∧ at' (roll xs os n) (i * 8 + 5) = at' os (i * 6 + 3) ∧ at' (roll xs os n) (i * 8 + 6) = at' os (i * 6 + 4) ∧ at' (roll xs os n) (i * 8 + 7) = at' os (i * 6 + 5) := by
  have h : ∀ j, j < 8 → at' (roll xs os n) (i * 8 + j) = if j < 2 then at' xs (i * 2 + j) else at' os (i * 6 + (j - 2)) := fun j hj => at_roll xs os hi hj
  exact ⟨h 0 (by omega), h 1 (by omega), h 2 (by omega), h 3 (by omega), h 4 (by omega), h 5 (by omega), h 6 (by omega), h 7 (by omega)⟩
theorem beZ_roll (hi : i < n) (hk : k < n) : beZ (roll xs os n) rb dg i k = be xs os rb dg i k ∧ kxZ (roll xs os n) rb dg i k = bkx xs os rb dg i k ∧ kyZ (roll xs os n) rb dg i k = bky xs os rb dg i k := by
  obtain ⟨a0, a1, a2, a3, a4, a5, a6, a7⟩ := at_roll8 (xs := xs) (os := os) hi
  obtain ⟨b0, b1, b2, b3, b4, b5, b6, b7⟩ := at_roll8 (xs := xs) (os := os) hk
  unfold beZ be kxZ bkx kyZ bky
  rw [a0, a1, a2, a3, a4, a5, a6, a7, b0, b1, b2, b3, b4, b5, b6, b7]
  exact ⟨rfl, rfl, rfl⟩
theorem roll_put (hi : i < n) (ho : os.length = n * 6) (a b u v p q : Int) : putI (roll xs os n) (i * 8) [at' xs (i * 2), at' xs (i * 2 + 1), a, b, u, v, p, q] = roll xs (putI os (i * 6) [a, b, u, v, p, q]) n := by
  unfold roll
  rw [putI_tab (by simp; omega)]
  refine tab_congr fun t ht => ?_
  simp only [List.length_cons, List.length_nil]
  obtain ⟨r, j, hj, rfl⟩ : ∃ r j, j < 8 ∧ t = r * 8 + j := ⟨t / 8, t % 8, by omega, by omega⟩
  rw [rollF_at _ _ _ _ hj, rollF_at _ _ _ _ hj]
  by_cases h : r = i
  · subst h
    rw [if_pos (by omega), show r * 8 + j - r * 8 = j by omega]
    have hat : ∀ t, t < 6 → at' (putI os (r * 6) [a, b, u, v, p, q]) (r * 6 + t) = at' [a, b, u, v, p, q] t := fun t ht => by
      rw [at_putI (by simp; omega), if_pos (by simp; omega), show r * 6 + t - r * 6 = t by omega]
    have : j = 0 ∨ j = 1 ∨ j = 2 ∨ j = 3 ∨ j = 4 ∨ j = 5 ∨ j = 6 ∨ j = 7 := by omega
    rcases this with rfl | rfl | rfl | rfl | rfl | rfl | rfl | rfl
    · rfl
    · rfl
    · exact (hat 0 (by omega)).symm
    · exact (hat 1 (by omega)).symm
    · exact (hat 2 (by omega)).symm
    · exact (hat 3 (by omega)).symm
    · exact (hat 4 (by omega)).symm
    · exact (hat 5 (by omega)).symm
  · rw [if_neg (by omega)]
    split
    · rfl
    · rw [at_putI (by simp; omega), if_neg (by simp; omega)]
theorem at_two (hi : i < n) (hk : k < n) (hik : i ≠ k) (ho : os.length = n * 6) {A B : List Int} (hA : A.length = 6) (hB : B.length = 6) (j t : Nat) (ht : t < 6) :
    at' (putI (putI os (i * 6) A) (k * 6) B) (j * 6 + t) = if j = k then at' B t else if j = i then at' A t else at' os (j * 6 + t) := by
  have hl : (putI os (i * 6) A).length = n * 6 := by rw [putI_len (by rw [hA]; omega)]; exact ho
  rw [at_putI (by rw [hl, hB]; omega), hB]
  by_cases h1 : j = k
  · subst h1
    rw [if_pos (by omega), if_pos rfl, show j * 6 + t - j * 6 = t by omega]
  · rw [if_neg (by omega), if_neg h1, at_putI (by rw [hA]; omega), hA]
    by_cases h2 : j = i
    · subst h2
      rw [if_pos (by omega), if_pos rfl, show j * 6 + t - j * 6 = t by omega]
    · rw [if_neg (by omega), if_neg h2]
theorem bounce_roll (hi : i < n) (hk : k < n) (hik : i ≠ k) (ho : os.length = n * 6) (hE : be xs os rb dg i k = 0) :
    putI (putI (roll xs os n) (i * 8) [zI (roll xs os n) rb dg i k 0, zI (roll xs os n) rb dg i k 1, zI (roll xs os n) rb dg i k 2, zI (roll xs os n) rb dg i k 3, zI (roll xs os n) rb dg i k 4, zI (roll xs os n) rb dg i k 5, zI (roll xs os n) rb dg i k 6, zI (roll xs os n) rb dg i k 7]) (k * 8) [zK (roll xs os n) rb dg i k 0, zK (roll xs os n) rb dg i k 1, zK (roll xs os n) rb dg i k 2, zK (roll xs os n) rb dg i k 3, zK (roll xs os n) rb dg i k 4, zK (roll xs os n) rb dg i k 5, zK (roll xs os n) rb dg i k 6, zK (roll xs os n) rb dg i k 7] =
    roll xs (putI (putI os (i * 6) [nI xs os rb dg i k 0, nI xs os rb dg i k 1, nI xs os rb dg i k 2, nI xs os rb dg i k 3, nI xs os rb dg i k 4, nI xs os rb dg i k 5]) (k * 6) [nK xs os rb dg i k 0, nK xs os rb dg i k 1, nK xs os rb dg i k 2, nK xs os rb dg i k 3, nK xs os rb dg i k 4, nK xs os rb dg i k 5]) n := by
  obtain ⟨a0, a1, a2, a3, a4, a5, a6, a7⟩ := at_roll8 (xs := xs) (os := os) hi
  obtain ⟨b0, b1, b2, b3, b4, b5, b6, b7⟩ := at_roll8 (xs := xs) (os := os) hk
  obtain ⟨e1, e2, e3⟩ := beZ_roll (xs := xs) (os := os) (rb := rb) (dg := dg) hi hk
  rw [← roll_put hk (by rw [putI_len (by simp; omega)]; exact ho), ← roll_put hi ho]
  unfold zI zK nI nK
  rw [e1, e2, e3, hE]
  simp [selC, a0, a1, a2, a3, a4, a5, a6, a7, b0, b1, b2, b3, b4, b5, b6, b7]
theorem BE_facts {m1 r1 a1 b1 u1 v1 p1 q1 m2 r2 a2 b2 u2 v2 p2 q2 rb dg : Int} (h : BE m1 r1 a1 b1 u1 v1 p1 q1 m2 r2 a2 b2 u2 v2 p2 q2 rb dg = 0) :
    motB m1 r1 a1 b1 (u1 - KX m1 r1 a1 b1 u1 v1 p1 q1 m2 r2 a2 b2 u2 v2 p2 q2 rb dg) (v1 - KY m1 r1 a1 b1 u1 v1 p1 q1 m2 r2 a2 b2 u2 v2 p2 q2 rb dg) p1 q1 = true ∧ motB m2 r2 a2 b2 (u2 + KX m1 r1 a1 b1 u1 v1 p1 q1 m2 r2 a2 b2 u2 v2 p2 q2 rb dg) (v2 + KY m1 r1 a1 b1 u1 v1 p1 q1 m2 r2 a2 b2 u2 v2 p2 q2 rb dg) p2 q2 = true := by
  unfold BE at h
  split at h
  · rename_i hK
    obtain ⟨k1, k2, _⟩ := KE_facts hK
    split at h
    · rename_i hm
      simp only [Bool.and_eq_true] at hm
      simp only [motB, Bool.and_eq_true] at k1 k2 ⊢
      exact ⟨⟨⟨k1.1.1, hm.1⟩, k1.2⟩, ⟨⟨k2.1.1, hm.2⟩, k2.2⟩⟩
    · cases h
  · exact absurd h (by assumption)
theorem goodB_at {j : Nat} {ws : List Int} (h : ∀ t, t < 6 → at' ws (j * 6 + t) = at' os (j * 6 + t)) : goodB xs ws j = goodB xs os j := by
  have h0 : at' ws (j * 6) = at' os (j * 6) := h 0 (by omega)
  unfold goodB
  rw [h0, h 1 (by omega), h 2 (by omega), h 3 (by omega), h 4 (by omega), h 5 (by omega)]
theorem allB_bounce (hi : i < n) (hk : k < n) (hik : i ≠ k) (ho : os.length = n * 6) (hE : be xs os rb dg i k = 0) (hg : allB xs os n = true) :
    allB xs (putI (putI os (i * 6) [nI xs os rb dg i k 0, nI xs os rb dg i k 1, nI xs os rb dg i k 2, nI xs os rb dg i k 3, nI xs os rb dg i k 4, nI xs os rb dg i k 5]) (k * 6) [nK xs os rb dg i k 0, nK xs os rb dg i k 1, nK xs os rb dg i k 2, nK xs os rb dg i k 3, nK xs os rb dg i k 4, nK xs os rb dg i k 5]) n = true := by
  unfold allB
  rw [List.all_eq_true]
  intro j hj
  have hj' := List.mem_range.1 hj
  have h := fun t ht => at_two (os := os) hi hk hik ho (A := [nI xs os rb dg i k 0, nI xs os rb dg i k 1, nI xs os rb dg i k 2, nI xs os rb dg i k 3, nI xs os rb dg i k 4, nI xs os rb dg i k 5]) (B := [nK xs os rb dg i k 0, nK xs os rb dg i k 1, nK xs os rb dg i k 2, nK xs os rb dg i k 3, nK xs os rb dg i k 4, nK xs os rb dg i k 5]) rfl rfl j t ht
  obtain ⟨f1, f2⟩ := BE_facts hE
  by_cases h1 : j = k
  · subst h1
    simp only [if_true] at h
    have h0 := h 0 (by omega)
    simp only [Nat.add_zero] at h0
    unfold goodB
    rw [h0, h 1 (by omega), h 2 (by omega), h 3 (by omega), h 4 (by omega), h 5 (by omega)]
    simp only [at', List.getD_cons_zero, List.getD_cons_succ, nK, hE, selC, if_true]
    exact f2
  · simp only [if_neg h1] at h
    by_cases h2 : j = i
    · subst h2
      simp only [if_true] at h
      have h0 := h 0 (by omega)
      simp only [Nat.add_zero] at h0
      unfold goodB
      rw [h0, h 1 (by omega), h 2 (by omega), h 3 (by omega), h 4 (by omega), h 5 (by omega)]
      simp only [at', List.getD_cons_zero, List.getD_cons_succ, nI, hE, selC, if_true]
      exact f1
    · simp only [if_neg h2] at h
      rw [goodB_at h]
      exact all_range hg j hj'
end
theorem allB_step {xs : List Int} {rb dg : Int} {n i k : Nat} {s s' : St} (hi : i < n) (hk : k < n) (hik : i ≠ k) (ho : s.os.length = n * 6) (h : stpC xs rb dg i k s = some s') (hg : allB xs s.os n = true) : allB xs s'.os n = true := by
  obtain ⟨_, ⟨hE, rfl⟩ | ⟨_, rfl⟩⟩ := stp_cases h
  · exact allB_bounce hi hk hik ho hE hg
  · exact hg
end Go.Proofs.YteefjegampdpoaaDoor.M
end
section
namespace Go.Proofs.YteefjegampdpoaaDoor
open Go.ChangeShapes Go.WideShapes Go.ChangeAt Go.RowKit
theorem grow4 {w W w1 : World} (h : Below w.heap.size w W) (hb : Below W.heap.size W w1) : Below w.heap.size w w1 ∧ W.heap.size ≤ w1.heap.size ∧ (∀ b o, b < W.heap.size → w1.cell? ⟨b, o, none⟩ = W.cell? ⟨b, o, none⟩) ∧ (∀ b o, b < W.heap.size → w1.frozen? ⟨b, o, none⟩ = W.frozen? ⟨b, o, none⟩) :=
  ⟨h.trans (hb.mono h.size), hb.size, fun b o h => hb.cell (p := ⟨b, o, none⟩) h, fun b o h => hb.frozen (p := ⟨b, o, none⟩) h⟩
set_option maxHeartbeats 1000000 in
theorem part_any (n d : Int) (w : World) (h1 : -1152921504606846976 ≤ n) (h2 : n ≤ 1152921504606846976) (h3 : 1 ≤ d) (h4 : d ≤ 1152921504606846976) :
    Calls Tryd.prog 86 #[.int .i64 n, .int .i64 d] w fun e w' => e = .returned (.agg #[.int .i64 (M.whole n d), .int .i64 (M.rest n d)]) ∧ Below w.heap.size w w' := by
  have hq := M.tdiv_bd n d (by omega) (-1152921504606846976) 1152921504606846976 (by omega) (by omega) h1 h2
  have hr := Int.tmod_lt_of_pos n (show 0 < d by omega)
  have hr2 : -d < n.tmod d := by
    have h1 := Int.tmod_lt_of_pos (-n) (show 0 < d by omega)
    rw [Int.neg_tmod] at h1
    omega
  obtain ⟨hq1, hq2⟩ := hq
  by_cases c1 : d ≤ 2 * n.tmod d
  · obtain ⟨e1, e2⟩ := M.part_up n d (by omega) c1
    rw [← e1, ← e2]
    clear e1 e2
    go_enter Tryd.func86, Tryd.ntmps86
    go_wp2
    go_region
    go_wp2
    go_returns
    exact ⟨rfl, by go_grown⟩
  by_cases c2 : 2 * n.tmod d < -d
  · obtain ⟨e1, e2⟩ := M.part_down n d (by omega) c2
    rw [← e1, ← e2]
    clear e1 e2
    go_enter Tryd.func86, Tryd.ntmps86
    go_wp2
    go_region
    go_wp2
    go_returns
    exact ⟨rfl, by go_grown⟩
  · obtain ⟨e1, e2⟩ := M.part_mid n d (by omega) c1 c2
    rw [← e1, ← e2]
    clear e1 e2
    go_enter Tryd.func86, Tryd.ntmps86
    go_wp2
    go_region
    go_wp2
    go_returns
    exact ⟨rfl, by go_grown⟩
theorem divide_ok (n d : Int) (w : World) (h1 : -1152921504606846976 ≤ n) (h2 : n ≤ 1152921504606846976) (h3 : 1 ≤ d) (h4 : d ≤ 1152921504606846976) :
    Calls Tryd.prog 49 #[.int .i64 n, .int .i64 d] w fun e w' => e = .returned (.tuple #[.agg #[.int .i64 (M.whole n d), .int .i64 (M.rest n d)], .int .i64 0]) ∧ Below w.heap.size w w' := by
  go_enter Tryd.func49, Tryd.ntmps49
  go_wp2_with (go_at_call 86; refine (part_any _ _ _ h1 h2 h3 h4).mono ?_; rintro e w1 ⟨rfl, hb1⟩; obtain ⟨hB1, hz1, hc1, hf1⟩ := grow4 (w := w) (by go_grown) hb1; (try simp only [World.size_alloc, World.size_setCell, World.size_drew] at hz1); (try have hy1 := Nat.lt_of_succ_le hz1); (try have hx1 := Nat.lt_of_succ_lt hy1); (try have hw1 := Nat.lt_of_succ_lt hx1); (try have hv1 := Nat.lt_of_succ_lt hw1); (try have ha1 : w.heap.size < w1.heap.size := (by omega)); (try have hi1 : w.heap.size + 1 < w1.heap.size := (by omega)); (try have hj1 : w.heap.size + 1 + 1 < w1.heap.size := (by omega)); (try have hk1 : w.heap.size + 1 + 1 + 1 < w1.heap.size := (by omega)); (try have hl1 : w.heap.size + 1 + 1 + 1 + 1 < w1.heap.size := (by omega)))
  all_goals
    refine bodyPost_ret (v := .tuple #[.agg #[.int .i64 (M.whole n d), .int .i64 (M.rest n d)], .int .i64 0]) (by simp [results, Tryd.results49, go_sem, hc1]) rfl ⟨rfl, ?_⟩
    go_grown
theorem nan64 (a : Int) (w : World) :
    Calls Tryd.prog 96 #[.int .i64 a] w fun e w' => e = .returned (.bool false) ∧ w = w' := by
  go_enter Tryd.func96, Tryd.ntmps96
  go_wp2
  go_returns
  exact ⟨rfl, rfl⟩
theorem cmp64 (a b : Int) (w : World) :
    Calls Tryd.prog 56 #[.int .i64 a, .int .i64 b] w fun e w' => e = .returned (.int .i64 (M.cmp a b)) ∧ w = w' := by
  rcases Int.lt_trichotomy a b with h | h | h
  · rw [M.cmp_lt h]
    go_enter Tryd.func56, Tryd.ntmps56
    go_wp2_with (go_at_call 96; refine (nan64 _ _).mono ?_; rintro e w' ⟨rfl, rfl⟩)
    go_returns
    exact ⟨rfl, rfl⟩
  · subst h
    rw [M.cmp_eq]
    go_enter Tryd.func56, Tryd.ntmps56
    go_wp2_with (go_at_call 96; refine (nan64 _ _).mono ?_; rintro e w' ⟨rfl, rfl⟩)
    go_returns
    exact ⟨rfl, rfl⟩
  · rw [M.cmp_gt h]
    go_enter Tryd.func56, Tryd.ntmps56
    go_wp2_with (go_at_call 96; refine (nan64 _ _).mono ?_; rintro e w' ⟨rfl, rfl⟩)
    go_returns
    exact ⟨rfl, rfl⟩
theorem fits_any (a : Int) (w : World) :
    Calls Tryd.prog 124 #[.int .i64 a] w fun e w' => e = .returned (.bool (M.fits a)) ∧ w = w' := by
  by_cases h : -4194304 ≤ a ∧ a ≤ 4194304
  · rw [M.fits_yes h]
    obtain ⟨h1, h2⟩ := h
    go_enter Tryd.func124, Tryd.ntmps124
    go_wp2
    go_returns
    exact ⟨rfl, rfl⟩
  · rw [M.fits_no h]
    by_cases h1 : -4194304 ≤ a
    all_goals
      go_enter Tryd.func124, Tryd.ntmps124
      go_wp2
      go_returns
      exact ⟨by first | rfl | (simp; omega), rfl⟩
theorem way_any (x y u v : Int) (w : World) (hx : -16777216 ≤ x) (hx2 : x ≤ 16777216) (hy : -16777216 ≤ y) (hy2 : y ≤ 16777216) (hu : -16777216 ≤ u) (hu2 : u ≤ 16777216) (hv : -16777216 ≤ v) (hv2 : v ≤ 16777216) :
    Calls Tryd.prog 97 #[.agg #[.int .i64 x, .int .i64 y], .agg #[.int .i64 u, .int .i64 v]] w fun e w' => e = .returned (.agg #[.int .i64 (u - x), .int .i64 (v - y)]) ∧ ((w.alloc (.cells #[.int .i64 x, .int .i64 y] 24)).alloc (.cells #[.int .i64 u, .int .i64 v] 24)).alloc (.cells #[.int .i64 (u - x), .int .i64 (v - y)] 24) = w' := by
  go_enter Tryd.func97, Tryd.ntmps97
  go_wp2
  go_returns
  exact ⟨rfl, rfl⟩
theorem square_any (x y u v : Int) (w : World) (hx : -16777216 ≤ x) (hx2 : x ≤ 16777216) (hy : -16777216 ≤ y) (hy2 : y ≤ 16777216) (hu : -16777216 ≤ u) (hu2 : u ≤ 16777216) (hv : -16777216 ≤ v) (hv2 : v ≤ 16777216) :
    Calls Tryd.prog 57 #[.agg #[.int .i64 x, .int .i64 y], .agg #[.int .i64 u, .int .i64 v]] w fun e w' => e = .returned (.int .i64 (M.sq x y u v)) ∧ Below w.heap.size w w' := by
  have b1 := M.mul_bd (u - x) (u - x) 33554432 33554432 (by omega) (by omega) (by omega) (by omega)
  have b2 := M.mul_bd (v - y) (v - y) 33554432 33554432 (by omega) (by omega) (by omega) (by omega)
  obtain ⟨b3, b4⟩ := b1
  obtain ⟨b5, b6⟩ := b2
  unfold M.sq
  go_enter Tryd.func57, Tryd.ntmps57
  go_wp2_with (go_at_call 97; refine (way_any _ _ _ _ _ hx hx2 hy hy2 hu hu2 hv hv2).mono ?_; rintro e w' ⟨rfl, rfl⟩)
  go_returns
  exact ⟨rfl, by go_grown⟩
end Go.Proofs.YteefjegampdpoaaDoor
end
