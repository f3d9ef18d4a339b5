/- An evaluator of a program's functions over values and blocks of its own numbering, to be run by the kernel: what it is. -/
import Derived.Control
import Derived.OrdersHeld
import Derived.KernelRfl
set_option linter.unusedVariables false
namespace Go.Proofs.YtgooihjcaoajnaaGreat.Ev
open Go

/-- values: blocks by numbers of our own -/
inductive AV where
  | i (k : IntKind) (n : Int)
  | b (x : Bool)
  | s (x : List UInt8)
  | p (g o : Nat)
  | np
  | sl (g o len cap : Nat) (op : Bool)
  | ns
  | m (g : Nat)
  | nm
  | f (fn : FuncId) (first cap : List AV)
  | nf
  | ie (t : TypeId) (v : AV)
  | ni
  | ag (l : List AV)
  | tu (l : List AV)
  | y (k : IntKind) (j : Nat)

/-- a binary trie -/
inductive T (α : Type) where
  | e
  | n (l : T α) (v : Option α) (r : T α)
def T.get {α} : T α → Nat → Option α
  | .e, _ => none
  | .n l v r, k => match k with
    | 0 => v
    | k + 1 => match Nat.beq (Nat.mod k 2) 0 with
      | true => l.get (Nat.div k 2)
      | false => r.get (Nat.div k 2)
def T.put {α} : Nat → T α → Nat → Option α → T α
  | 0, t, _, _ => t
  | f + 1, .e, k, x => match k with
    | 0 => .n .e x .e
    | k + 1 => match Nat.beq (Nat.mod k 2) 0 with
      | true => .n (T.put f .e (Nat.div k 2) x) none .e
      | false => .n .e none (T.put f .e (Nat.div k 2) x)
  | f + 1, .n l v r, k, x => match k with
    | 0 => .n l x r
    | k + 1 => match Nat.beq (Nat.mod k 2) 0 with
      | true => .n (T.put f l (Nat.div k 2) x) v r
      | false => .n l v (T.put f r (Nat.div k 2) x)

inductive AO where
  | cells (t : TypeId) (cs : List AV) (op : Bool)
  | map (es : List (AV × AV × Nat)) (clock : Nat)
  /-- a walk of map m that has not begun -/
  | iter (m : Nat) (clock : Nat)

structure AS where
  nxt : Nat
  heap : T AO

structure ADef where
  fn : FuncId
  args : List AV
  cap : List AV

structure Fr where
  n : Nat
  tm : T AV
  ds : List ADef

/-- what becomes of the blocks -/
inductive Eff where
  | none
  | new (o : AO)
  | set (g : Nat) (o : AO)
  | move (g : Nat) (o : AO)

inductive AR where
  | val (v : AV) (e : Eff)
  | enter (f : FuncId) (args : List AV)
  | defer (d : ADef)
  | panic (v : AV)
  | recover

def undefA : AV := .tu []
abbrev Rd := Nat → Option AO

def ofV : Value → Option AV
  | .bool x => some (.b x)
  | .int k n => some (.i k n)
  | .string ⟨⟨x⟩⟩ => some (.s x)
  | .pointer none => some .np
  | .slice none 0 0 => some .ns
  | .map none => some .nm
  | .func (.func f) ⟨[]⟩ ⟨[]⟩ => some (.f f [] [])
  | .nilFunc => some .nf
  | .nilIface => some .ni
  | .agg ⟨l⟩ => match go l with | some l => some (.ag l) | none => none
  | .tuple ⟨l⟩ => match go l with | some l => some (.tu l) | none => none
  | _ => none
where
  go : List Value → Option (List AV)
    | [] => some []
    | v :: l => match ofV v with
      | some a => match go l with
        | some r => some (a :: r)
        | none => none
      | none => none

def AV.cells : AV → List AV
  | .ag l => l
  | v => [v]

def wr (k : IntKind) (n : Int) : Int :=
  match k with
  | .i64 => match n with
    | .ofNat m => match Nat.blt m 9223372036854775808 with | true => n | false => IntKind.wrap .i64 n
    | .negSucc m => match Nat.blt m 9223372036854775808 with | true => n | false => IntKind.wrap .i64 n
  | k => k.wrap n

def memB (t : Nat) : List Nat → Bool
  | [] => false
  | a :: l => match Nat.beq t a with | true => true | false => memB t l
def allB {α} (p : α → Bool) : List α → Bool
  | [] => true
  | a :: l => match p a with | true => allB p l | false => false
def overL {α} (l : List α) (o : Nat) (vs : List α) : List α := l.take o ++ (vs ++ l.drop (o + vs.length))

section
variable (P : Program) (se : List TypeId) (ev : Operand → Option AV) (rd : Rd) (id : Nat)

def isAggT (t : TypeId) : Option Bool :=
  match P.underlying t with
  | some (.struct _) => some true
  | some (.array _ _) => some true
  | some _ => some false
  | none => none
def sizeT (t : TypeId) : Option Nat := match P.info? t with | some i => some i.size | none => none
def zeroT (t : TypeId) : Option AV := match P.info? t with
  | some i => match i.zero with | some v => ofV v | none => none
  | none => none

def partA (t : TypeId) (cs : List AV) (off : Nat) : Option AV :=
  match isAggT P t with
  | some true => match sizeT P t with
    | some n => match Nat.ble (off + n) cs.length with
      | true => some (.ag ((cs.drop off).take n))
      | false => none
    | none => none
  | some false => cs[off]?
  | none => none

def oneA : AV → Bool
  | .ag _ => false
  | .tu _ => false
  | _ => true

def loadA (t : TypeId) (g o : Nat) : Option AV :=
  match rd g with
  | some (.cells _ cs _) => partA P t cs o
  | _ => none

def intBin (op : BinOp) (k : IntKind) (a b : Int) : Option AV :=
  match op with
  | .add => some (.i k (wr k (a + b)))
  | .sub => some (.i k (wr k (a - b)))
  | .mul => some (.i k (wr k (a * b)))
  | .quo => match decide (b = 0) with | true => none | false => some (.i k (wr k (a.tdiv b)))
  | .rem => match decide (b = 0) with | true => none | false => some (.i k (a.tmod b))
  | .eql => some (.b (a == b))
  | .neq => some (.b (a != b))
  | .lss => some (.b (decide (a < b)))
  | .leq => some (.b (decide (a ≤ b)))
  | .gtr => some (.b (decide (a > b)))
  | .geq => some (.b (decide (a ≥ b)))
  | .and => some (.i k (k.wrap ((BitVec.ofInt k.bits a) &&& (BitVec.ofInt k.bits b)).toNat))
  | .or => some (.i k (k.wrap ((BitVec.ofInt k.bits a) ||| (BitVec.ofInt k.bits b)).toNat))
  | .xor => some (.i k (k.wrap ((BitVec.ofInt k.bits a) ^^^ (BitVec.ofInt k.bits b)).toNat))
  | .andNot => some (.i k (k.wrap ((BitVec.ofInt k.bits a) &&& ~~~(BitVec.ofInt k.bits b)).toNat))
  | .shl => match decide (b < 0) with | true => none | false => some (.i k (k.wrap (a * 2 ^ (min b.toNat k.bits))))
  | .shr => match decide (b < 0) with | true => none | false => some (.i k (a.fdiv (2 ^ (min b.toNat k.bits))))

/-- equality of two values of a type that is no struct and no array -/
def eq1 (d : TypeDesc) (x y : AV) : Option Bool :=
  match d, x, y with
  | .bool, .b p, .b q => some (p == q)
  | .int _, .i k p, .i j q => (match decide (k = j) with | true => some (p == q) | false => none)
  | .int _, .y k i, .y l j => (match decide (k = l ∧ i = j) with | true => some true | false => none)
  | .string, .s p, .s q => some (p == q)
  | .pointer _, .np, .np => some true
  | .pointer _, .np, .p _ _ => some false
  | .pointer _, .p _ _, .np => some false
  | .pointer e, .p g o, .p h q =>
    match rd g, rd h, sizeT P e with
    | some (.cells _ _ _), some (.cells _ _ _), some (_ + 1) => some (Nat.beq g h && Nat.beq o q)
    | _, _, _ => none
  | .slice _, .ns, .ns => some true
  | .slice _, .ns, .sl _ _ _ _ _ => some false
  | .slice _, .sl _ _ _ _ _, .ns => some false
  | .map _ _, .nm, .nm => some true
  | .map _ _, .nm, .m _ => some false
  | .map _ _, .m _, .nm => some false
  | .func _ _ _, .nf, .nf => some true
  | .func _ _ _, .nf, .f _ _ _ => some false
  | .func _ _ _, .f _ _ _, .nf => some false
  | .interface _, .ni, .ie _ _ => some false
  | .interface _, .ie _ _, .ni => some false
  | _, _, _ => none

/-- equality of structs: their fields one behind the other (types of which 'fl' says that they are plain) -/
def eqN : Nat → TypeId → AV → AV → Option Bool
  | 0, _, _, _ => none
  | d + 1, t, x, y => match P.underlying t with
    | some (.struct fs) => (match x, y with
      | .ag xs, .ag ys => (match memB t se with
        | true => eqF d fs.toList xs ys
        | false => none)
      | _, _ => none)
    | some (.array len e) => (match x, y with
      | .ag xs, .ag ys => (match memB t se with
        | true => (match sizeT P e with
          | some z => eqA d e z (List.range len) xs ys
          | none => none)
        | false => none)
      | _, _ => none)
    | some de => eq1 P rd de x y
    | none => none
where
  eqA : Nat → TypeId → Nat → List Nat → List AV → List AV → Option Bool
    | _, _, _, [], _, _ => some true
    | 0, _, _, _ :: _, _, _ => none
    | d + 1, e, z, i :: is, xs, ys => match partA P e xs (i * z) with
      | none => none
      | some a => match partA P e ys (i * z) with
        | none => none
        | some b => match eqN d e a b with
          | some true => eqA d e z is xs ys
          | some false => some false
          | none => none
  eqF : Nat → List Field → List AV → List AV → Option Bool
    | _, [], _, _ => some true
    | 0, _ :: _, _, _ => none
    | d + 1, f :: fs, xs, ys => match partA P f.type xs f.offset with
      | none => none
      | some a => match partA P f.type ys f.offset with
        | none => none
        | some b => match eqN d f.type a b with
          | some true => eqF d fs xs ys
          | some false => some false
          | none => none


/-! ### The operations -/
def v1 (x : Option AV) : Option AR := match x with | some v => some (.val v .none) | none => none
def aPick (c a b : Operand) : Option AR := match ev c with
  | some (.b true) => v1 (ev a)
  | some (.b false) => v1 (ev b)
  | _ => none
def aAlloc (t : TypeId) : Option AR := match zeroT P t with
  | some z => some (.val (.p id 0) (.new (.cells t z.cells false)))
  | none => none
def aBox (t : TypeId) (x : Operand) : Option AR := match ev x with
  | some v => some (.val (.p id 0) (.new (.cells t v.cells false)))
  | none => none
def fillA (place : Nat → Option (Nat × Nat)) (cells : List AV) : List (Nat × AV) → Option (List AV)
  | [] => some cells
  | (i, v) :: rest => match place i with
    | none => none
    | some (off, size) => match Nat.beq v.cells.length size with
      | true => match Nat.ble (off + size) cells.length with
        | true => fillA place (overL cells off v.cells) rest
        | false => none
      | false => none
def evps : List (Nat × Operand) → Option (List (Nat × AV))
  | [] => some []
  | (i, x) :: l => match ev x with
    | some a => match evps l with
      | some r => some ((i, a) :: r)
      | none => none
    | none => none
def evs : List Operand → Option (List AV)
  | [] => some []
  | x :: l => match ev x with
    | some a => match evs l with
      | some r => some (a :: r)
      | none => none
    | none => none
def placeS (fs : Array Field) (i : Nat) : Option (Nat × Nat) := match fs[i]? with
  | some f => (match sizeT P f.type with | some n => some (f.offset, n) | none => none)
  | none => none
def aBuild (t : TypeId) (parts : Array (Nat × Operand)) : Option AR := match zeroT P t with
  | some z => match evps ev parts.toList with
    | some ps => match P.underlying t with
      | some (.struct fs) => match allB (fun f => match sizeT P f.type with | some _ => true | none => false) fs.toList with
        | true => match fillA (placeS P fs) z.cells ps with
          | some cs => some (.val (.ag cs) .none)
          | none => none
        | false => none
      | some (.array _ e) => match sizeT P e with
        | some n => match fillA (fun i => some (i * n, n)) z.cells ps with
          | some cs => some (.val (.ag cs) .none)
          | none => none
        | none => none
      | _ => none
    | none => none
  | none => none
def elemZ (t : TypeId) : Option (TypeId × Nat) := match P.underlying t with
  | some (.slice e) => match sizeT P e with | some z => some (e, z) | none => none
  | _ => none
def repA (zero : List AV) : Nat → List AV
  | 0 => []
  | n + 1 => zero ++ repA zero n
def aBuildSlice (t : TypeId) (len : Nat) (parts : Array (Nat × Operand)) : Option AR := match elemZ P t with
  | some (e, z) => match len with
    | 0 => match parts.toList with
      | [] => some (.val (.sl id 0 0 0 false) (.new (.cells e [] false)))
      | _ => none
    | len + 1 => match z with
      | 0 => none
      | z + 1 => match zeroT P e with
        | some zz => match Nat.beq zz.cells.length (z + 1) with
          | true => match evps ev parts.toList with
            | some ps => match fillA (fun i => some (i * (z + 1), (z + 1))) (repA zz.cells (len + 1)) ps with
              | some cs => match Nat.ble ((len + 1) * (z + 1)) 1000000 with
                | true => some (.val (.sl id 0 (len + 1) (len + 1) false) (.new (.cells e cs false)))
                | false => none
              | none => none
            | none => none
          | false => none
        | none => none
  | none => none
def aLoad (t : TypeId) (x : Operand) : Option AR := match ev x with
  | some (.p g o) => v1 (loadA P rd t g o)
  | _ => none
def aStore (t : TypeId) (x y : Operand) : Option AR := match ev x with
  | some (.p g o) => match ev y with
    | some v => match rd g with
      | some (.cells tt cs op) => match sizeT P t with
        | some n => match Nat.beq v.cells.length n with
          | true => match Nat.ble (o + n) cs.length with
            | true => match allB oneA v.cells with
              | true => some (.val undefA (.set g (.cells tt (overL cs o v.cells) op)))
              | false => none
            | false => none
          | false => none
        | none => none
      | _ => none
    | none => none
  | _ => none
def nilDeref : AV := .ie P.rt.errorString (.s "invalid memory address or nil pointer dereference".toUTF8.data.toList)
def aNil (x : Operand) : Option AR := match ev x with
  | some .np => some (.panic (nilDeref P))
  | some .ni => some (.panic (nilDeref P))
  | some .nf => some (.panic (nilDeref P))
  | some v => some (.val v .none)
  | none => none
def isC : Operand → Bool
  | .const _ => true
  | _ => false
def eqT (t : TypeId) (x y : Operand) (a b : AV) : Option Bool := match a, b with
  | .ni, .ni => (match P.underlying t with
    | some (.interface _) => (match isC x with
      | true => some true
      | false => (match isC y with
        | true => some true
        | false => none))
    | _ => none)
  | a, b => eqN P se rd 60 t a b
def binA (op : BinOp) (t : TypeId) (x y : Operand) (a b : AV) : Option AV :=
  match a, b with
  | .i k m, .i j n => match op with
    | .shl => intBin .shl k m n
    | .shr => intBin .shr k m n
    | op => match decide (k = j) with | true => intBin op k m n | false => none
  | .s m, .s n => match op with
    | .eql => some (.b (m == n))
    | .neq => some (.b (!(m == n)))
    | .add => (match Nat.ble (m.length + n.length) 1000000 with | true => some (.s (m ++ n)) | false => none)
    | _ => none
  | .y _ _, _ => none
  | a, b => match op with
    | .eql => match eqT P se rd t x y a b with | some r => some (.b r) | none => none
    | .neq => match eqT P se rd t x y a b with | some r => some (.b (!r)) | none => none
    | _ => none
/-- a bound written into a symbol's number -/
def decI (n : Nat) : Option Int := match Nat.beq n 0 with
  | true => none
  | false => some (Int.ofNat n - 36893488147419103233)
/-- between what a symbol lies: its number's thousands tell; from a million on the number itself bears both bounds -/
def domS (j : Nat) : Option Int × Option Int := match Nat.blt j 1000000 with
  | true => (match j / 1000 with
    | 1 => (none, some 0)
    | 2 => (some 1, none)
    | 3 => (none, some (-1))
    | 4 => (some 0, none)
    | 5 => (some 2, none)
    | 6 => (some 1, some 1000)
    | 7 => (some 1001, none)
    | 8 => (none, some 1000)
    | _ => (none, none))
  | false => (match decI ((j / 1000000) % 73786976294838206464) with
    | none => (none, decI ((j / 1000000) / 73786976294838206464))
    | some l => (match decI ((j / 1000000) / 73786976294838206464) with
      | none => (some l, none)
      | some h => (match decide (l ≤ h) with
        | true => (some l, some h)
        | false => (none, none))))
/-- a symbol that lies below the one of the next number -/
def pairS (j : Nat) : Bool := match Nat.blt j 1000000 with
  | true => false
  | false => (match Nat.blt 999 (j % 1000000) && Nat.beq (j % 2) 0 with
    | true => (match domS j with
      | (some l, some h) => decide (l < h)
      | (none, none) => true
      | _ => false)
    | false => false)
def loA : AV → Option Int
  | .i _ n => some n
  | .y _ j => (domS j).1
  | _ => none
def hiA : AV → Option Int
  | .i _ n => some n
  | .y _ j => (domS j).2
  | _ => none
def ltP (a b : AV) : Bool := match a, b with
  | .y _ i, .y _ j => (match Nat.beq j (i + 1) with
    | true => pairS i
    | false => false)
  | _, _ => false
def sameS (a b : AV) : Bool := match a, b with
  | .y _ i, .y _ j => Nat.beq i j
  | _, _ => false
def ltS (a b : AV) : Bool := match ltP a b with
  | true => true
  | false => (match hiA a with
    | some h => (match loA b with
      | some l => decide (h < l)
      | none => false)
    | none => false)
def leS (a b : AV) : Bool := match ltP a b || sameS a b with
  | true => true
  | false => (match hiA a with
    | some h => (match loA b with
      | some l => decide (h ≤ l)
      | none => false)
    | none => false)
def symK (a b : AV) : Bool := match a, b with
  | .i k _, .y l _ => decide (k = l)
  | .y k _, .i l _ => decide (k = l)
  | .y k _, .y l _ => decide (k = l)
  | _, _ => false
def pickS (t f : Bool) : Option Bool := match t with
  | true => some true
  | false => match f with
    | true => some false
    | false => none
/-- a comparison in which a symbol stands -/
def symB (op : BinOp) (a b : AV) : Option Bool := match symK a b with
  | true => match op with
    | .lss => pickS (ltS a b) (leS b a)
    | .leq => pickS (leS a b) (ltS b a)
    | .gtr => pickS (ltS b a) (leS a b)
    | .geq => pickS (leS b a) (ltS a b)
    | .eql => pickS (sameS a b) (ltS a b || ltS b a)
    | .neq => (match pickS (sameS a b) (ltS a b || ltS b a) with
      | some r => some (!r)
      | none => none)
    | _ => none
  | false => none
def aBin (op : BinOp) (t : TypeId) (x y : Operand) : Option AR := match ev x with
  | some a => match ev y with
    | some b => match symB op a b with
      | some r => some (.val (.b r) .none)
      | none => v1 (binA P se rd op t x y a b)
    | none => none
  | none => none
def aUn (op : UnOp) (x : Operand) : Option AR := match op, ev x with
  | .neg, some (.i k n) => some (.val (.i k (wr k (0 - n))) .none)
  | .not, some (.b x) => some (.val (.b (!x)) .none)
  | _, _ => none
def natOf (x : Option AV) : Option Nat := match x with
  | some (.i _ (.ofNat m)) => some m
  | _ => none
/-- whether the number is the address: of an empty slice of a row that has grown it may be a pair -/
def okO (op : Bool) (n o : Nat) : Bool := match op with
  | false => true
  | true => match n with
    | 0 => Nat.blt o 18446744073709551616
    | _ + 1 => true
def rowA (v : AV) (z n : Nat) : Option (List AV) := match v with
  | .ns => (match n with | 0 => some [] | _ => none)
  | .sl g o len _ op => match okO op len o with
    | true => (match rd g with
      | some (.cells _ cs _) => match Nat.ble (o + n * z) cs.length with
        | true => some ((cs.drop o).take (n * z))
        | false => none
      | _ => none)
    | false => (match n with | 0 => some [] | _ => none)
  | _ => none
def lenA : AV → Option Nat
  | .ns => some 0
  | .sl _ _ n _ _ => some n
  | .s l => some l.length
  | _ => none
def byteV : AV → Option UInt8
  | .i .u8 (.ofNat n) => some (UInt8.ofNat n)
  | _ => none
def bytesV : List AV → Option (List UInt8)
  | [] => some []
  | v :: l => match byteV v with
    | some b => match bytesV l with
      | some r => some (b :: r)
      | none => none
    | none => none
def aConv (src dst : TypeId) (x : Operand) : Option AR := match P.underlying src with
  | some sd => match P.underlying dst with
    | some dd => match dd, ev x with
      | .int k, some (.i _ n) => some (.val (.i k (wr k n)) .none)
      | .string, some (.s l) => (match sd with
        | .string => some (.val (.s l) .none)
        | _ => none)
      | .string, some (.sl g o n c op) => (match sd with
        | .slice e => (match P.underlying e with
          | some (.int .u8) => (match okO op n o with | false => none | true => match rowA rd (.sl g o n c op) 1 n with
            | some cs => (match bytesV cs with
              | some l => some (.val (.s l) .none)
              | none => none)
            | none => none)
          | _ => none)
        | _ => none)
      | .string, some .ns => (match sd with
        | .slice e => (match P.underlying e with
          | some (.int .u8) => some (.val (.s []) .none)
          | _ => none)
        | _ => none)
      | _, _ => none
    | none => none
  | none => none
def aIface (t : TypeId) (x : Operand) : Option AR := match P.underlying t with
  | some (.interface _) => none
  | some _ => match ev x with
    | some v => some (.val (.ie t v) .none)
    | none => none
  | none => none
def aFunc (fn : Fn) (first cap : Array Operand) : Option AR := match fn with
  | .func f => match evs ev first.toList with
    | some a => match evs ev cap.toList with
      | some c => some (.val (.f f a c) .none)
      | none => none
    | none => none
  | _ => none
def aMakeMap (r : Option Operand) : Option AR := match r with
  | none => some (.val (.m id) (.new (.map [] 0)))
  | some _ => none
def aRange (t : TypeId) (x : Operand) : Option AR := match P.underlying t with
  | some (.map _ _) => match ev x with
    | some (.m g) => match rd g with
      | some (.map _ cl) => some (.val (.p id 0) (.new (.iter g cl)))
      | _ => none
    | _ => none
  | _ => none
/-- the next entry of a map that has none -/
def aNext (x : Operand) (str : Bool) : Option AR := match str with
  | true => none
  | false => match ev x with
    | some (.p i 0) => match rd i with
      | some (.iter g _) => match rd g with
        | some (.map [] _) => some (.val (.tu [.b false]) .none)
        | _ => none
      | _ => none
    | _ => none
def aMakeSlice (t : TypeId) (l c : Operand) : Option AR := match natOf (ev l) with
  | some n => match natOf (ev c) with
    | some m => match elemZ P t with
      | some (e, z) => match zeroT P e with
        | some zz => match Nat.beq zz.cells.length z with
          | true => match Nat.ble n m with
            | true => match Nat.ble m 65536 with
              | true => match Nat.ble (P.bytesOf e) 65536 with
                | true => match Nat.ble (m * z) 1000000 with
                  | true => some (.val (.sl id 0 n m false) (.new (.cells e (repA zz.cells m) false)))
                  | false => none
                | false => none
              | false => none
            | false => none
          | false => none
        | none => none
      | none => none
    | none => none
  | none => none
def boundA (x : Option Operand) (d : Nat) : Option Nat := match x with
  | none => some d
  | some x => natOf (ev x)
/-- a cut of a slice whose capacity is known -/
def cutX (g o len cap z l h : Nat) : Option AR :=
  match Nat.ble l h with
  | true => match Nat.ble h cap with
    | true => some (.val (.sl g (match Nat.beq cap l with | true => o | false => o + l * z) (h - l) (cap - l) false) .none)
    | false => none
  | false => none
/-- a cut of a slice at the head of which stands a row that has grown -/
def cutO (e g o cap z l h : Nat) : Option AR := match Nat.blt o 18446744073709551616 with
 | false => none
 | true => match rd g with
  | some (.cells tt cs true) => match Nat.beq tt e with
    | true => match Nat.beq o (cap * z) with
      | true => match Nat.ble (o + h * z) cs.length with
        | true => match Nat.ble l h with
          | true => match Nat.beq l 0 with
            | true => some (.val (.sl g o h cap true) .none)
            | false => match Nat.blt l h with
              | true => some (.val (.sl g (o + l * z) (h - l) (cap + l) true) .none)
              | false => some (.val (.sl g (o + (o + l * z) * 18446744073709551616) 0 (cap + l) true) .none)
          | false => none
        | false => none
      | false => none
    | false => none
  | _ => none
def aSlice (t : TypeId) (x : Operand) (lo hi mx : Option Operand) : Option AR := match mx with
  | some _ => none
  | none => match ev x with
    | some (.sl g o len cap op) => match elemZ P t with
      | some (e, z) => match boundA ev lo 0 with
        | some l => match boundA ev hi len with
          | some h => match op with
            | true => cutO rd e g o cap z l h
            | false => cutX g o len cap z l h
          | none => none
        | none => none
      | none => none
    | some (.s l) => match P.underlying t with
      | some .string => match boundA ev lo 0 with
        | some a => match boundA ev hi l.length with
          | some h => match Nat.ble a h with
            | true => match Nat.ble h l.length with
              | true => some (.val (.s ((l.drop a).take (h - a))) .none)
              | false => none
            | false => none
          | none => none
        | none => none
      | _ => none
    | some .ns => match elemZ P t with
      | some _ => match boundA ev lo 0 with
        | some 0 => match boundA ev hi 0 with
          | some 0 => some (.val .ns .none)
          | _ => none
        | _ => none
      | none => none
    | some (.p g o) => match P.underlying t with
      | some (.array n e) => match sizeT P e with
        | some z => match boundA ev lo 0 with
          | some l => match boundA ev hi n with
            | some h => cutX g o n n z l h
            | none => none
          | none => none
        | none => none
      | _ => none
    | _ => none
def aFieldAddr (s : TypeId) (x : Operand) (f : Nat) : Option AR := match ev x with
  | some (.p g o) => match P.underlying s with
    | some (.struct fs) => match fs[f]? with
      | some fd => match sizeT P fd.type with
        | some (_ + 1) => some (.val (.p g (o + fd.offset)) .none)
        | _ => none
      | none => none
    | _ => none
  | _ => none
def aField (t : TypeId) (x : Operand) (f : Nat) : Option AR := match ev x with
  | some (.ag cs) => match P.underlying t with
    | some (.struct fs) => match fs[f]? with
      | some fd => v1 (partA P fd.type cs fd.offset)
      | none => none
    | _ => none
  | _ => none
def aIndexAddr (t : TypeId) (x ix : Operand) : Option AR := match ev ix with
  | some (.i _ (.ofNat i)) => match ev x with
    | some (.sl g o len _ _) => match elemZ P t with
      | some (_, z) => match Nat.blt i len with
        | true => some (.val (.p g (o + i * z)) .none)
        | false => none
      | none => none
    | some (.p g o) => match P.underlying t with
      | some (.array n e) => match sizeT P e with
        | some z => match Nat.blt i n with
          | true => some (.val (.p g (o + i * z)) .none)
          | false => none
        | none => none
      | _ => none
    | _ => none
  | _ => none
def aIndex (t : TypeId) (x ix : Operand) : Option AR := match ev ix with
  | some (.i _ (.ofNat i)) => match ev x with
    | some (.ag cs) => match P.underlying t with
      | some (.array n e) => match sizeT P e with
        | some z => match Nat.blt i n with
          | true => v1 (partA P e cs (i * z))
          | false => none
        | none => none
      | _ => none
    | some (.s l) => match P.underlying t with
      | some .string => match l[i]? with
        | some b => some (.val (.i .u8 (Int.ofNat b.toNat)) .none)
        | none => none
      | _ => none
    | _ => none
  | _ => none
/-- an entry of a map, by its key, which is an integer -/
def findE (k : IntKind) (a : Int) : List (AV × AV × Nat) → Nat → Option (Option (Nat × AV))
  | [], _ => some none
  | (k', v, _) :: es, i => match k' with
    | .i j b => match decide (k = j) with
      | true => match a == b with
        | true => some (some (i, v))
        | false => findE k a es (i + 1)
      | false => none
    | _ => none
def mapA (x : Option AV) : Option (List (AV × AV × Nat)) := match x with
  | some .nm => some []
  | some (.m g) => match rd g with
    | some (.map es _) => some es
    | _ => none
  | _ => none
def isInt (t : TypeId) : Bool := match P.underlying t with | some (.int _) => true | _ => false
/-- a key that is a struct of integers alone -/
def keyS (kt : TypeId) (key : AV) : Bool := match key with
  | .ag l => (match P.underlying kt with
    | some (.struct fs) => allB (fun f => isInt P f.type && (!(f.name == "_") && Nat.blt f.offset l.length)) fs.toList
    | _ => false)
  | _ => false
def findK (kt : TypeId) (key : AV) : List (AV × AV × Nat) → Nat → Option (Option (Nat × AV))
  | [], _ => some none
  | (k', v, _) :: es, i => match eqN P se rd 60 kt key k' with
    | some true => some (some (i, v))
    | some false => findK kt key es (i + 1)
    | none => none
def aLookup (t : TypeId) (x k : Operand) (ok : Bool) : Option AR := match P.underlying t with
  | some (.map kt e) => match isInt P kt with
    | true => match ev k with
      | some (.i kk a) => match mapA rd (ev x) with
        | some es => match findE kk a es 0 with
          | some (some (_, v)) => some (.val (match ok with | true => .tu [v, .b true] | false => v) .none)
          | some none => match zeroT P e with
            | some z => some (.val (match ok with | true => .tu [z, .b false] | false => z) .none)
            | none => none
          | none => none
        | none => none
      | _ => none
    | false => match ev k with
      | some kv => match keyS P kt kv with
        | true => match mapA rd (ev x) with
          | some es => match findK P se rd kt kv es 0 with
            | some (some (_, v)) => some (.val (match ok with | true => .tu [v, .b true] | false => v) .none)
            | some none => match zeroT P e with
              | some z => some (.val (match ok with | true => .tu [z, .b false] | false => z) .none)
              | none => none
            | none => none
          | none => none
        | false => none
      | none => none
  | _ => none
def aMapUpdate (t : TypeId) (x k v : Operand) : Option AR := match P.underlying t with
  | some (.map kt _) => match isInt P kt with
    | true => match ev k with
      | some (.i kk a) => match ev v with
        | some vv => match ev x with
          | some (.m g) => match rd g with
            | some (.map es cl) => match findE kk a es 0 with
              | some (some (i, _)) => some (.val undefA (.set g (.map (es.modify i fun e => (.i kk a, vv, e.2.2)) cl)))
              | some none => some (.val undefA (.set g (.map (es ++ [(.i kk a, vv, cl)]) (cl + 1))))
              | none => none
            | _ => none
          | _ => none
        | none => none
      | _ => none
    | false => match ev k with
      | some kv => match keyS P kt kv with
        | true => match ev v with
          | some vv => match ev x with
            | some (.m g) => match rd g with
              | some (.map es cl) => match findK P se rd kt kv es 0 with
                | some none => some (.val undefA (.set g (.map (es ++ [(kv, vv, cl)]) (cl + 1))))
                | _ => none
              | _ => none
            | _ => none
          | none => none
        | false => none
      | none => none
  | _ => none
def aAssert (x : Operand) (t : TypeId) (ok : Bool) : Option AR := match P.underlying t with
  | some (.interface _) => none
  | some _ => match ev x with
    | some (.ie u v) => match Nat.beq u t with
      | true => some (.val (match ok with | true => .tu [v, .b true] | false => v) .none)
      | false => match ok with
        | true => match zeroT P t with
          | some z => some (.val (.tu [z, .b false]) .none)
          | none => none
        | false => none
    | some .ni => match ok with
      | true => match zeroT P t with
        | some z => some (.val (.tu [z, .b false]) .none)
        | none => none
      | false => none
    | _ => none
  | none => none
def aExtract (x : Operand) (i : Nat) : Option AR := match ev x with
  | some (.tu l) => v1 l[i]?
  | _ => none
def appendA (t : TypeId) (s x : AV) : Option AR := match elemZ P t with
  | some (e, z) => match z with
    | 0 => none
    | z + 1 => match zeroT P e with
     | none => none
     | some zz => match Nat.beq zz.cells.length (z + 1) with
      | false => none
      | true => match lenA x with
       | none => none
       | some n => match rowA rd x (z + 1) n with
        | none => none
        | some new => match allB oneA new with
         | false => none
         | true => match s with
          | .ns => (match n with
            | 0 => some (.val .ns .none)
            | n + 1 => match Nat.ble (n + 1) 1000000 with
              | true => match Nat.ble (P.bytesOf e) 65536 with
                | true => some (.val (.sl id 0 (n + 1) 0 true) (.new (.cells e new true)))
                | false => none
              | false => none)
          | .sl g o len cap op => match rd g with
            | some (.cells tt cs oo) => match Nat.ble (len + n) 1000000 with
              | false => none
              | true => match Nat.ble (P.bytesOf e) 65536 with
                | false => none
                | true => match op with
                  | false => match Nat.ble (len + n) cap with
                    | true => match Nat.ble (o + (len + n) * (z + 1)) cs.length with
                      | true => some (.val (.sl g o (len + n) cap false) (.set g (.cells tt (overL cs (o + len * (z + 1)) new) oo)))
                      | false => none
                    | false => match Nat.ble (o + len * (z + 1)) cs.length with
                      | true => match Nat.ble cap 1000000 with
                        | true => some (.val (.sl id 0 (len + n) 0 true) (.new (.cells e ((cs.drop o).take (len * (z + 1)) ++ new) true)))
                        | false => none
                      | false => none
                  | true => match okO true len o && oo with
                    | false => none
                    | true => match Nat.beq tt e with
                      | false => none
                      | true => match Nat.beq o (cap * (z + 1)) with
                        | false => none
                        | true => match Nat.ble (o + (len + n) * (z + 1)) cs.length with
                          | true => some (.val (.sl g o (len + n) cap true) (.set g (.cells tt (overL cs (o + len * (z + 1)) new) true)))
                          | false => match Nat.beq o 0 with
                            | false => none
                            | true => match Nat.ble (len * (z + 1)) cs.length with
                              | true => some (.val (.sl id 0 (len + n) 0 true) (.move g (.cells e (cs.take (len * (z + 1)) ++ new) true)))
                              | false => none
            | _ => none
          | _ => none
  | none => none
def copyA (t : TypeId) (s x : AV) : Option AR := match elemZ P t with
  | some (_, z) => match lenA x, lenA s with
    | some n, some d => match rowA rd x z (Nat.min n d) with
      | none => none
      | some new => match allB oneA new with
        | false => none
        | true => match s with
          | .ns => some (.val (.i .i64 (Int.ofNat (Nat.min n d))) .none)
          | .sl g o len _ op => match okO op len o with
           | false => none
           | true => match rd g with
            | some (.cells tt cs oo) => match Nat.ble (o + Nat.min n d * z) cs.length with
              | true => some (.val (.i .i64 (Int.ofNat (Nat.min n d))) (.set g (.cells tt (overL cs o new) oo)))
              | false => none
            | _ => none
          | _ => none
    | _, _ => none
  | none => none
def aLen (at_ : Array TypeId) (v : AV) : Option AR := match at_[0]? with
  | none => none
  | some t => match P.underlying t, v with
    | some (.slice _), .ns => some (.val (.i .i64 0) .none)
    | some (.slice _), .sl _ _ n _ _ => some (.val (.i .i64 (Int.ofNat n)) .none)
    | some .string, .s l => some (.val (.i .i64 (Int.ofNat l.length)) .none)
    | some (.map _ _), .nm => some (.val (.i .i64 0) .none)
    | some (.map _ _), .m g => (match rd g with
      | some (.map es _) => some (.val (.i .i64 (Int.ofNat es.length)) .none)
      | _ => none)
    | _, _ => none
def aBuiltin (b : Builtin) (at_ : Array TypeId) (args : List AV) : Option AR := match b, args with
  | .len, [v] => aLen P rd at_ v
  | .append, [s, x] => (match at_.toList with
    | [t, u] => (match P.underlying u with
      | some (.slice _) => appendA P rd id t s x
      | _ => none)
    | _ => none)
  | .copy, [s, x] => (match at_[0]? with
    | some t => copyA P rd t s x
    | none => none)
  | .max, [.i k x, .i _ y] => some (.val (.i k (if y > x then y else x)) .none)
  | .min, [.i k x, .i _ y] => some (.val (.i k (if y < x then y else x)) .none)
  | .panic, [.ie t v] => some (.panic (.ie t v))
  | .recover, [] => some .recover
  | _, _ => none
def bodied (f : FuncId) : Bool := match P.funcs[f]? with
  | some fn => match fn.body with
    | some _ => true
    | none => false
  | none => false
/-- the function behind a pointer's own method -/
def methA (t : TypeId) (name : String) : Option FuncId := match P.info? t with
  | some i => (match i.methods.find? (·.name == name) with
    | some m => (match m.path.toList with
      | [] => (match m.func with
        | some (f, true) => (match P.underlying t with
          | some (.pointer _) => some f
          | _ => none)
        | _ => none)
      | _ => none)
    | none => none)
  | none => none
def aCall (c : Call) : Option AR := match evs ev c.args.toList with
  | some args => match c.callee with
    | .builtin b => aBuiltin P rd id b c.argTypes args
    | .value x => match ev x with
      | some (.f f first cap) => match bodied P f with
        | true => some (.enter f (first ++ args ++ cap))
        | false => none
      | some .nf => some (.panic (nilDeref P))
      | _ => none
    | .invoke x name => match ev x with
      | some (.ie t v) => match methA P t name with
        | some f => match bodied P f with
          | true => some (.enter f (v :: args))
          | false => none
        | none => none
      | _ => none
  | none => none
def aDefer (c : Call) : Option AR := match evs ev c.args.toList with
  | some args => match c.callee with
    | .value x => match ev x with
      | some (.f f first cap) => some (.defer ⟨f, first ++ args, cap⟩)
      | _ => none
    | _ => none
  | none => none
def aPanic (x : Operand) : Option AR := match ev x with
  | some (.ie t v) => some (.panic (.ie t v))
  | _ => none

def opA (o : Op) : Option AR := match o with
  | .move x => v1 (ev x)
  | .assign x => v1 (ev x)
  | .pick c a b => aPick ev c a b
  | .alloc t => aAlloc P id t
  | .box t x => aBox ev id t x
  | .build t ps => aBuild P ev t ps
  | .buildSlice t n ps => aBuildSlice P ev id t n ps
  | .load t x => aLoad P ev rd t x
  | .store t x y => aStore P ev rd t x y
  | .nilCheck x => aNil P ev x
  | .binOp op t x y _ => aBin P se ev rd op t x y
  | .unOp op _ x => aUn ev op x
  | .convert s d x => aConv P ev rd s d x
  | .makeInterface t x => aIface P ev t x
  | .makeFunc fn a c => aFunc ev fn a c
  | .makeMap _ r => aMakeMap id r
  | .range t x => aRange P ev rd id t x
  | .next x s => aNext ev rd x s
  | .makeSlice t l c => aMakeSlice P ev id t l c
  | .slice t x lo hi mx => aSlice P ev rd t x lo hi mx
  | .fieldAddr s x f => aFieldAddr P ev s x f
  | .field t x f => aField P ev t x f
  | .indexAddr t x ix => aIndexAddr P ev t x ix
  | .index t x ix => aIndex P ev t x ix
  | .lookup t x k ok => aLookup P se ev rd t x k ok
  | .mapUpdate t x k v => aMapUpdate P se ev rd t x k v
  | .typeAssert x _ t ok => aAssert P ev x t ok
  | .extract x i => aExtract ev x i
  | .call c => aCall P ev rd id c
  | .defer c => aDefer ev c
  | .panic x => aPanic ev x
  | _ => none

/-! ### Frames, code -/
end
def Fr.ev (F : Fr) : Operand → Option AV
  | .tmp t => match F.tm.get t with | some v => some v | none => some undefA
  | .const v => ofV v
  | .global _ => none
  | .func f => some (.f f [] [])

inductive AE where
  | normal
  | exit (id : Nat)
  | ret
  | panic (v : AV)

inductive AEnd where
  | ret (v : AV)
  | panic (v : AV)

def putF (F : Fr) (d : Option Tmp) (v : AV) : Option Fr := match d with
  | none => some F
  | some d => match Nat.blt d F.n with
    | true => some ⟨F.n, F.tm.put 40 d (some v), F.ds⟩
    | false => none

def applyE (A : AS) (e : Eff) : Option AS := match e with
  | .none => some A
  | .new o => match Nat.ble A.nxt 1000000000 with
    | true => some ⟨A.nxt + 1, A.heap.put 40 A.nxt (some o)⟩
    | false => none
  | .set g o => match Nat.ble g 1000000000 with
    | true => some ⟨A.nxt, A.heap.put 40 g (some o)⟩
    | false => none
  | .move g o => match Nat.ble A.nxt 1000000000 with
    | true => match Nat.ble g 1000000000 with
      | true => some ⟨A.nxt + 1, (A.heap.put 40 g none).put 40 A.nxt (some o)⟩
      | false => none
    | false => none

def wantedA (F : Fr) (ops : Array Oper) (o : Oper) : Bool := match o.guard with
  | none => true
  | some (g, want) => match (ops[g]?).bind (·.dst) with
    | some d => match Nat.blt d F.n with
      | true => match F.tm.get d with
        | some (.b x) => x == want
        | _ => false
      | false => false
    | none => false

section
variable (P : Program) (se : List TypeId)

def resA (F : Fr) (A : AS) : List ResultVar → Option (List AV)
  | [] => some []
  | .tmp t :: l => match resA F A l with
    | some vs => match F.tm.get t with
      | some v => some (v :: vs)
      | none => some (undefA :: vs)
    | none => none
  | .cell a t :: l => match resA F A l with
    | some vs => match F.tm.get a with
      | some (.p g o) => match loadA P A.heap.get t g o with
        | some v => some (v :: vs)
        | none => none
      | _ => none
    | none => none

def argT : List AV → Nat → T AV → T AV
  | [], _, t => t
  | a :: l, i, t => argT l (i + 1) (t.put 40 i (some a))

/-- operations one behind the other -/
def opsA (call : FuncId → List AV → AS → Option (AEnd × AS)) (all : Array Oper) : List Oper → Fr → AS → Option (AE × Fr × AS)
  | [], F, A => some (.normal, F, A)
  | o :: rest, F, A => match wantedA F all o with
    | true => match opA P se F.ev A.heap.get A.nxt o.op with
      | some (.val v e) => match applyE A e with
        | some A => match putF F o.dst v with
          | some F => opsA call all rest F A
          | none => none
        | none => none
      | some (.enter f args) => match call f args A with
        | some (.ret v, A) => match putF F o.dst v with
          | some F => opsA call all rest F A
          | none => none
        | some (.panic v, A) => some (.panic v, F, A)
        | none => none
      | some (.defer d) => match putF ⟨F.n, F.tm, d :: F.ds⟩ o.dst undefA with
        | some F => opsA call all rest F A
        | none => none
      | some (.panic v) => some (.panic v, F, A)
      | some .recover => none
      | none => none
    | false => match putF F o.dst undefA with
      | some F => opsA call all rest F A
      | none => none
end
end Go.Proofs.YtgooihjcaoajnaaGreat.Ev
