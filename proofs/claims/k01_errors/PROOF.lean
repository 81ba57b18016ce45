import PyProof.Rows.All
import Wide.All
import OpenK.AllK
import Wide.FinOn
import HandS.ForMost
import HandS.IsInst
import HandS.More
import HandS.Deep
import HandS.Style
import HandS.TupAny
import HandS.TupMul
import HandS.Exc
import HandS.TryMany
import HandS.ExcInit
import HandS.ExcField
import HandS.ExcIs
import HandS.WordsExc
import KE.DataAny
import KE.GoesMore
import HandS.Conv
import KE.KExcIs
import PySem.Challenge.RW_chambercuts_k01_errors
set_option Elab.async false
set_option linter.all false
set_option maxRecDepth 100000
/-! data, what bears it, an evaluator over it -/
namespace DL
open PySem PySem.Spec PyProof.Rows L2

/-- data -/
inductive D where
  | non | bl (b : Bool) | int (i : Int) | str (x : Str)
  | tup (ds : List D) | lst (ds : List D) | src (ns : List Int)
  | ins (c : Nat) (fs : List (Str × D))
  /-- an error that was made -/
  | exv (c : Nat) (fs : List (Str × D))
  deriving Inhabited

/-- how a thing is held: frozen for ever; new and nobody else's; a lent local -/
inductive Kd where | fz | tmp | ln
  deriving DecidableEq, Inhabited
inductive Slot where | un | val (d : D) | own (d : D) | box (d : D) | exc (c : Nat) (d : D)
  deriving Inhabited
abbrev Env := List Slot

/-- what comes out -/
inductive R (α : Type) where
  | ok (a : α) (env : Env) | exn (c : Nat) (d : D) (env : Env) | bad
@[simp] def R.bind {α β : Type} : R α → (α → Env → R β) → R β
  | .ok a env, f => f a env
  | .exn c d env, _ => .exn c d env
  | .bad, _ => .bad
/-- what a def hands back: its value, whether it is new, what became of the lent boxes -/
inductive FR where
  | ok (d : D) (k : Kd) (outs : List D) | exn (c : Nat) (d : D) (outs : List D) | bad
inductive Md where | v | io
  deriving DecidableEq
structure FnI where
  name : Str
  ms : List Md
  sem : List D → FR

def LIM : Nat := 16777216

mutual
def toPy : D → PyData
  | .non => .none
  | .bl b => .bool b
  | .int i => .int i
  | .str x => .str x
  | .tup ds => .tuple (toPys ds)
  | .lst ds => .list (toPys ds)
  | .src _ => .none
  | .ins _ _ => .none
  | .exv _ _ => .none
def toPys : List D → List PyData
  | [] => []
  | d :: ds => toPy d :: toPys ds
end
mutual
/-- data that == may look at -/
def flatD : D → Bool
  | .non | .bl _ | .int _ => true
  | .str x => PyData.strOk x
  | .tup ds => flatDs ds
  | .lst ds => flatDs ds
  | .src _ => false
  | .ins _ _ => false
  | .exv _ _ => false
def flatDs : List D → Bool
  | [] => true
  | d :: ds => flatD d && flatDs ds
end
mutual
def depthD : D → Nat
  | .tup ds => depthDs ds + 1
  | .lst ds => depthDs ds + 1
  | _ => 0
def depthDs : List D → Nat
  | [] => 0
  | d :: ds => max (depthD d) (depthDs ds)
end
mutual
def eqv : D → D → Bool
  | .non, .non => true
  | .bl a, .bl b => a == b
  | .bl a, .int j => (if a then 1 else 0) == j
  | .int i, .bl b => i == (if b then 1 else 0)
  | .int i, .int j => i == j
  | .str x, .str y => x == y
  | .lst xs, .lst ys => eqvs xs ys
  | .tup xs, .tup ys => eqvs xs ys
  | _, _ => false
def eqvs : List D → List D → Bool
  | [], [] => true
  | x :: xs, y :: ys => eqv x y && eqvs xs ys
  | _, _ => false
end
def shD (d : D) : Bool := flatD d && decide (depthD d ≤ 60)

/-- a value with how it is held -/
structure Vl where
  d : D
  k : Kd

def sIx (n d : Nat) (o : Option Int) : Nat := HT.sIx n d o
def cut (ds : List D) (lo hi : Option Int) : List D := (ds.drop (HT.sIx ds.length 0 lo)).take (HT.sIx ds.length ds.length hi - HT.sIx ds.length 0 lo)

def okI (i : Int) : Option Vl := some ⟨.int i, .fz⟩
def okB (b : Bool) : Option Vl := some ⟨.bl b, .fz⟩

def binD (op : Operator) (x y : D) : Option Vl :=
  match op, x, y with
  | .Add, .int i, .int j => okI (i + j)
  | .Add, .str a, .str b => if a.length + b.length ≤ LIM then some ⟨.str (a ++ b), .fz⟩ else none
  | .Add, .tup a, .tup b => if a.length + b.length ≤ LIM then some ⟨.tup (a ++ b), .fz⟩ else none
  | .Add, .lst a, .lst b => if a.length + b.length ≤ LIM then some ⟨.lst (a ++ b), .tmp⟩ else none
  | .Sub, .int i, .int j => okI (i - j)
  | .Mult, .int i, .int j => if (-(2 ^ 64) < i ∧ i < 2 ^ 64) ∨ (-(2 ^ 64) < j ∧ j < 2 ^ 64) then okI (i * j) else none
  | .Mult, .tup a, .int k => if a ≠ [] ∧ 2 ≤ k ∧ k ≤ 1000 ∧ a.length ≤ 1000 then some ⟨.tup (List.replicate k.toNat a).flatten, .fz⟩ else none
  | .FloorDiv, .int i, .int j => if 0 < j ∧ j < 1073741824 then okI (i / j) else none
  | .Mod, .int i, .int j => if 0 < j then okI (i % j) else none
  | .Pow, .int i, .int j => if 0 ≤ j ∧ j ≤ 1000000 ∧ i.natAbs < 2 ^ 64 then okI (i ^ j.toNat) else none
  | _, _, _ => none
def intsD : List D → Option (List Int)
  | [] => some []
  | .int i :: r => (intsD r).map (i :: ·)
  | _ => none
def cmpD (op : CmpOp) (x y : D) : Option Vl :=
  match op with
  | .Eq => if shD x && shD y then okB (eqv x y) else none
  | .NotEq => if shD x && shD y then okB (!eqv x y) else none
  | .Lt => match x, y with
    | .int i, .int j => okB (decide (i < j))
    | _, _ => none
  | .LtE => match x, y with
    | .int i, .int j => okB (decide (i ≤ j))
    | _, _ => none
  | .Gt => match x, y with
    | .int i, .int j => okB (decide (j < i))
    | _, _ => none
  | .GtE => match x, y with
    | .int i, .int j => okB (decide (j ≤ i))
    | _, _ => none
  | .In => match y with
    | .lst ds => if shD x && shD (.lst ds) then okB (ds.any fun z => eqv z x) else none
    | .tup ds => if shD x && shD (.tup ds) then okB (ds.any fun z => eqv z x) else none
    | _ => none
  | .NotIn => match y with
    | .lst ds => if shD x && shD (.lst ds) then okB (!ds.any fun z => eqv z x) else none
    | .tup ds => if shD x && shD (.tup ds) then okB (!ds.any fun z => eqv z x) else none
    | _ => none
  | .Is => match x, y with
    | .bl a, .bl b => okB (decide (a = b))
    | _, .non => match x with
      | .non => okB true
      | _ => okB false
    | .bl _, _ => none
    | _, _ => none
  | .IsNot => match x, y with
    | .bl a, .bl b => okB (!decide (a = b))
    | _, .non => match x with
      | .non => okB false
      | _ => okB true
    | _, _ => none
def ixN (n : Nat) (i : Int) : Option Nat := if 0 ≤ i then (if i < n then some i.toNat else none) else if -(n : Int) ≤ i then some (i + n).toNat else none
def subD (x i : D) : Option Vl :=
  match x, i with
  | .lst ds, .int i => ((ixN ds.length i).bind fun j => ds[j]?).map fun d => ⟨d, .fz⟩
  | .tup ds, .int i => ((ixN ds.length i).bind fun j => ds[j]?).map fun d => ⟨d, .fz⟩
  | .src ns, .int i => ((ixN ns.length i).bind fun j => ns[j]?).map fun d => ⟨.int d, .fz⟩
  | _, _ => none
def slcD (x : D) (lo hi : Option Int) : Option Vl :=
  match x with
  | .lst ds => some ⟨.lst (cut ds lo hi), .tmp⟩
  | .tup ds => some ⟨.tup (cut ds lo hi), .fz⟩
  | _ => none
/-- a value's truth -/
def truD : D → Option Bool
  | .non => some false
  | .bl b => some b
  | .int i => some (i != 0)
  | .tup ds => some (!ds.isEmpty)
  | .lst ds => some (!ds.isEmpty)
  | _ => none
def tyD : D → Option String
  | .non => some "NoneType"
  | .bl _ => some "bool"
  | .int _ => some "int"
  | .str _ => some "str"
  | .tup _ => some "tuple"
  | .lst _ => some "list"
  | .src _ => some "list"
  | .ins _ _ => none
  | .exv _ _ => none
/-- built-ins by name -/
inductive BF where | len | abs | int | bool | tuple | list | sorted | max | min | any | all | str | sum
  deriving DecidableEq
def rangeL (lo : Int) : Nat → List D
  | 0 => []
  | n + 1 => .int lo :: rangeL (lo + 1) n
def boolsD : List D → Option (List Bool)
  | [] => some []
  | .bl b :: r => (boolsD r).map (b :: ·)
  | _ => none
def maxL : List Int → Int
  | [] => 0
  | [a] => a
  | a :: b :: r => if maxL (b :: r) ≤ a then a else maxL (b :: r)
def minL : List Int → Int
  | [] => 0
  | [a] => a
  | a :: b :: r => if a ≤ minL (b :: r) then a else minL (b :: r)
def insL (x : Int) : List Int → List Int
  | [] => [x]
  | y :: r => if x ≤ y then x :: y :: r else y :: insL x r
def sortL : List Int → List Int
  | [] => []
  | x :: r => insL x (sortL r)
def bfD (f : BF) (xs : List D) : Option Vl :=
  match f, xs with
  | .len, [.tup ds] => okI ds.length
  | .len, [.lst ds] => okI ds.length
  | .len, [.src ns] => okI ns.length
  | .abs, [.int i] => okI (if i < 0 then -i else i)
  | .int, [.int i] => okI i
  | .int, [.bl b] => okI (if b then 1 else 0)
  | .bool, [.bl b] => okB b
  | .tuple, [.tup ds] => some ⟨.tup ds, .fz⟩
  | .tuple, [.lst ds] => some ⟨.tup ds, .fz⟩
  | .list, [.tup ds] => some ⟨.lst ds, .tmp⟩
  | .list, [.lst ds] => some ⟨.lst ds, .tmp⟩
  | .str, [.int i] => if i.natAbs.log2 < 1920 then some ⟨.str (toString i), .fz⟩ else none
  | .max, [.int i, .int j] => okI (if j > i then j else i)
  | .min, [.int i, .int j] => okI (if j < i then j else i)
  | .all, [.lst ds] => (boolsD ds).bind fun bs => okB (bs.all id)
  | .any, [.lst ds] => (boolsD ds).bind fun bs => okB (bs.any id)
  | .max, [.lst ds] => (intsD ds).bind fun ns => if ns = [] then none else okI (maxL ns)
  | .min, [.lst ds] => (intsD ds).bind fun ns => if ns = [] then none else okI (minL ns)
  | .sum, [.lst ds] => (intsD ds).bind fun ns => okI ns.sum
  | .sorted, [.lst ds] => (intsD ds).bind fun ns => if ns.length < 64 then some ⟨.lst ((sortL ns).map .int), .tmp⟩ else none
  | _, _ => none

inductive E where
  | var (i : Nat)
  | cst (d : D)
  | tup (es : List E) | lst (es : List E)
  | bin (op : Operator) (a b : E)
  | neg (a : E) | not (a : E)
  | cmp (op : CmpOp) (a b : E)
  | cmp2 (op op' : CmpOp) (a b c : E)
  | and (a b : E) | or (a b : E)
  | ite (c a b : E)
  | sub (a i : E)
  | subc (n : Nat) (k : Nat)
  | slc (a : E) (lo hi : Option E)
  | bf (f : BF) (es : List E)
  | isi (a : E) (ty : String)
  | call (f : FnI) (es : List E)
  | lc (e : E) (i : Nat) (it : E) (ifs : Option E)
  | lcr (e : E) (i : Nat) (lo hi : E) (ifs : Option E)
  | exf (i : Nat)
  | bad
  | fld (cs : List Nat) (a : E) (f : Str)
  | isc (cs : List Nat) (a : E) (c : Nat)
  | mk (f : FnI) (c : Nat) (es : List E)
  | eqo (cs : List Nat) (q : List (Nat × FnI)) (a b : E)
  | rev (a : E)
  | rgl (tp : Bool) (lo hi : E)
  /-- an error is made; its field; of which class it is (none: ValueError) -/
  | mkx (c : Nat) (f : Str) (es : List E)
  | xfld (cs : List Nat) (a : E) (f : Str)
  | xis (cs : List Nat) (y : Option Nat) (l : List (Nat × Bool)) (a : E)

def lift (o : Option Vl) (env : Env) : R Vl := match o with
  | some v => .ok v env
  | none => .bad
def items : D → Option (List D)
  | .tup ds => some ds
  | .lst ds => some ds
  | .src ns => some (ns.map .int)
  | _ => none
def isiD (d : D) (ty : String) : Option Bool := match tyD d with
  | some t => some (t == ty || (t == "bool" && ty == "int"))
  | none => none
/-- is it of the own class c -/
inductive TY where | b (t : String) | o (c : Nat)
def tyO (cs : List Nat) : D → Option TY
  | .ins c _ => if cs.contains c then some (.o c) else none
  | d => (tyD d).map .b
def iscD (cs : List Nat) (d : D) (c : Nat) : Option Bool := match tyO cs d with
  | some (.o c') => some (c' == c)
  | some (.b _) => some false
  | none => none
def revD (d : D) : Option Vl := match d with
  | .tup ds => some ⟨.tup ds.reverse, .fz⟩
  | .lst ds => some ⟨.lst ds.reverse, .tmp⟩
  | _ => none
/-- what a class makes: its initializer's answer -/
def mkR (env : Env) : FR → R Vl
  | .ok .non _ [d] => .ok ⟨d, .tmp⟩ env
  | .exn c d [_] => .exn c d env
  | _ => .bad
/-- == by an own method -/
def eqR (env : Env) : FR → R Vl
  | .ok (.bl b) .fz [] => .ok ⟨.bl b, .fz⟩ env
  | _ => .bad
/-- an argument: its value, or the box in that slot -/
inductive Ar where | v (d : D) | b (i : Nat)
def resolve (env : Env) : List Ar → Option (List D)
  | [] => some []
  | .v d :: r => (resolve env r).map (d :: ·)
  | .b i :: r => match env[i]? with
    | some (.box d) => (resolve env r).map (d :: ·)
    | _ => none
def boxes : List Ar → List Nat
  | [] => []
  | .v _ :: r => boxes r
  | .b i :: r => i :: boxes r
def putOuts : List Nat → List D → Env → Env
  | i :: is, d :: ds, env => putOuts is ds (env.set i (.box d))
  | _, _, env => env
def nodupB (l : List Nat) : Bool := decide l.Nodup
def lcLoop (f : Env → R Vl) (c : Env → R Bool) (i : Nat) : List D → List D → Env → R (List D)
  | [], acc, env => .ok acc env
  | d :: ds, acc, env => (c (env.set i (.val d))).bind fun b env => if b then (f env).bind fun x env => if x.k = .ln then .bad else lcLoop f c i ds (acc ++ [x.d]) env else lcLoop f c i ds acc env
/-- a comprehension's own name is given back -/
def rst (i : Nat) (env env' : Env) : Env := match env[i]? with
  | some (.val d) => env'.set i (.val d)
  | _ => env'.set i .un
def lcFin (i : Nat) (env : Env) : R (List D) → R Vl
  | .ok acc env' => .ok ⟨.lst acc, .tmp⟩ (rst i env env')
  | .exn _ _ _ => .bad
  | .bad => .bad
mutual
def ev : E → Env → R Vl
  | .var i, env => match env[i]? with
    | some (.val d) => .ok ⟨d, .fz⟩ env
    | some (.own d) => .ok ⟨d, .ln⟩ env
    | _ => .bad
  | .cst d, env => .ok ⟨d, .fz⟩ env
  | .tup es, env => (evs es env).bind fun ds env => .ok ⟨.tup ds, .fz⟩ env
  | .lst es, env => (evs es env).bind fun ds env => .ok ⟨.lst ds, .tmp⟩ env
  | .bin op a b, env => (ev a env).bind fun x env => (ev b env).bind fun y env => lift (binD op x.d y.d) env
  | .neg a, env => (ev a env).bind fun x env => match x.d with
    | .int i => .ok ⟨.int (-i), .fz⟩ env
    | _ => .bad
  | .not a, env => (ev a env).bind fun x env => match truD x.d with
    | some b => .ok ⟨.bl (!b), .fz⟩ env
    | none => .bad
  | .cmp op a b, env => (ev a env).bind fun x env => (ev b env).bind fun y env => lift (cmpD op x.d y.d) env
  | .cmp2 op op' a b c, env => (ev a env).bind fun x env => (ev b env).bind fun y env => match cmpD op x.d y.d with
    | some ⟨.bl true, _⟩ => (ev c env).bind fun z env => lift (cmpD op' y.d z.d) env
    | some ⟨.bl false, _⟩ => .ok ⟨.bl false, .fz⟩ env
    | _ => .bad
  | .and a b, env => (ev a env).bind fun x env => match x.d with
    | .bl true => (ev b env).bind fun y env => match y.d with
      | .bl v => .ok ⟨.bl v, .fz⟩ env
      | _ => .bad
    | .bl false => .ok ⟨.bl false, .fz⟩ env
    | _ => .bad
  | .or a b, env => (ev a env).bind fun x env => match x.d with
    | .bl false => (ev b env).bind fun y env => match y.d with
      | .bl v => .ok ⟨.bl v, .fz⟩ env
      | _ => .bad
    | .bl true => .ok ⟨.bl true, .fz⟩ env
    | _ => .bad
  | .ite c a b, env => (ev c env).bind fun x env => match truD x.d with
    | some true => ev a env
    | some false => ev b env
    | none => .bad
  | .sub a i, env => (ev a env).bind fun x env => (ev i env).bind fun y env => lift (subD x.d y.d) env
  | .subc n k, env => match env[n]? with
    | some (.val d) => lift (subD d (.int k)) env
    | some (.own d) => lift (subD d (.int k)) env
    | some (.box d) => lift (subD d (.int k)) env
    | _ => .bad
  | .slc a lo hi, env => (ev a env).bind fun x env => (evo lo env).bind fun l env => (evo hi env).bind fun h env => lift (slcD x.d l h) env
  | .bf f es, env => (evp es env).bind fun ds env => lift (bfD f ds) env
  | .isi a ty, env => (ev a env).bind fun x env => match isiD x.d ty with
    | some b => .ok ⟨.bl b, .fz⟩ env
    | none => .bad
  | .call f es, env => (eva f.ms es env).bind fun as env => match resolve env as with
    | some ds => if nodupB (boxes as) then (match f.sem ds with
      | .ok d k outs => if outs.length = (boxes as).length then .ok ⟨d, k⟩ (putOuts (boxes as) outs env) else .bad
      | .exn c d outs => if outs.length = (boxes as).length then .exn c d (putOuts (boxes as) outs env) else .bad
      | .bad => .bad) else .bad
    | none => .bad
  | .lc e i it none, env => (ev it env).bind fun x env => match items x.d with
    | some ds => lcFin i env (lcLoop (ev e) (fun env => .ok true env) i ds [] (env.set i .un))
    | none => .bad
  | .lc e i it (some c), env => (ev it env).bind fun x env => match items x.d with
    | some ds => lcFin i env (lcLoop (ev e) (fun env => (ev c env).bind fun y env => match truD y.d with | some b => .ok b env | none => .bad) i ds [] (env.set i .un))
    | none => .bad
  | .lcr e i lo hi none, env => (ev lo env).bind fun x env => (ev hi env).bind fun y env => match x.d, y.d with
    | .int a, .int b => if -1000000000 ≤ a ∧ a ≤ 1000000000 ∧ -1000000000 ≤ b ∧ b ≤ 1000000000 ∧ (b - a).toNat ≤ LIM then lcFin i env (lcLoop (ev e) (fun env => .ok true env) i (rangeL a (b - a).toNat) [] (env.set i .un)) else .bad
    | _, _ => .bad
  | .lcr e i lo hi (some c), env => (ev lo env).bind fun x env => (ev hi env).bind fun y env => match x.d, y.d with
    | .int a, .int b => if -1000000000 ≤ a ∧ a ≤ 1000000000 ∧ -1000000000 ≤ b ∧ b ≤ 1000000000 ∧ (b - a).toNat ≤ LIM then lcFin i env (lcLoop (ev e) (fun env => (ev c env).bind fun y env => match truD y.d with | some b => .ok b env | none => .bad) i (rangeL a (b - a).toNat) [] (env.set i .un)) else .bad
    | _, _ => .bad
  | .exf i, env => match env[i]? with
    | some (.exc _ d) => .ok ⟨d, .fz⟩ env
    | _ => .bad
  | .bad, _ => .bad
  | .fld cs a f, env => (ev a env).bind fun x env => match x.d with
    | .ins c fs => if cs.contains c then lift ((fs.lookup f).map fun d => ⟨d, .fz⟩) env else .bad
    | _ => .bad
  | .isc cs a c, env => (ev a env).bind fun x env => match iscD cs x.d c with
    | some b => .ok ⟨.bl b, .fz⟩ env
    | none => .bad
  | .mk f c es, env => (eva f.ms.tail es env).bind fun as env => match boxes as, resolve env as with
    | [], some ds => mkR env (f.sem (.ins c [] :: ds))
    | _, _ => .bad
  | .eqo cs q a b, env => (ev a env).bind fun x env => if x.k = .ln then .bad else (ev b env).bind fun y env => if y.k = .ln then .bad else match x.d with
    | .ins c _ => match q.lookup c, tyO cs y.d with
      | some f, some _ => if cs.contains c then eqR env (f.sem [x.d, y.d]) else .bad
      | _, _ => .bad
    | _ => lift (cmpD .Eq x.d y.d) env
  | .rev a, env => (ev a env).bind fun x env => lift (revD x.d) env
  | .rgl tp lo hi, env => (ev lo env).bind fun x env => (ev hi env).bind fun y env => match x.d, y.d with
    | .int a, .int b => if -1000000000 ≤ a ∧ a ≤ 1000000000 ∧ -1000000000 ≤ b ∧ b ≤ 1000000000 ∧ (b - a).toNat ≤ LIM then .ok (if tp then ⟨.tup (rangeL a (b - a).toNat), .fz⟩ else ⟨.lst (rangeL a (b - a).toNat), .tmp⟩) env else .bad
    | _, _ => .bad
  | .mkx c f es, env => (eva [.v] es env).bind fun as env => match as with
    | [.v d] => .ok ⟨.exv c [(f, d)], .fz⟩ env
    | _ => .bad
  | .xfld cs a f, env => (ev a env).bind fun x env => match x.d with
    | .exv c fs => if cs.contains c then lift ((fs.lookup f).map fun d => ⟨d, .fz⟩) env else .bad
    | _ => .bad
  | .xis cs y l a, env => (ev a env).bind fun x env => match x.d with
    | .exv c _ => if cs.contains c then (match l.lookup c with
      | some b => .ok ⟨.bl b, .fz⟩ env
      | none => .bad) else .bad
    | _ => .bad
/-- items that escape -/
def evs : List E → Env → R (List D)
  | [], env => .ok [] env
  | e :: es, env => (ev e env).bind fun x env => if x.k = .ln then .bad else (evs es env).bind fun ds env => .ok (x.d :: ds) env
/-- items that are only looked at -/
def evp : List E → Env → R (List D)
  | [], env => .ok [] env
  | e :: es, env => (ev e env).bind fun x env => (evp es env).bind fun ds env => .ok (x.d :: ds) env
def evo : Option E → Env → R (Option Int)
  | none, env => .ok none env
  | some e, env => (ev e env).bind fun x env => match x.d with
    | .int i => .ok (some i) env
    | _ => .bad
def eva : List Md → List E → Env → R (List Ar)
  | [], [], env => .ok [] env
  | .v :: ms, e :: es, env => (ev e env).bind fun x env => if x.k = .ln then .bad else (eva ms es env).bind fun as env => .ok (.v x.d :: as) env
  | .io :: ms, .var i :: es, env => match env[i]? with
    | some (.box _) => (eva ms es env).bind fun as env => .ok (.b i :: as) env
    | _ => .bad
  | _, _, _ => .bad
end

/-! statements -/
inductive Tg where | one (i : Nat) | many (is : List Nat)
inductive It where | seq (e : E) | rng (lo hi : E) | enm (e : E)
/-- each with its number -/
def enumL : Nat → List D → List D
  | _, [] => []
  | i, d :: ds => .tup [.int i, d] :: enumL (i + 1) ds
inductive S where
  | asg (i : Nat) (e : E)
  | asgb (i : Nat) (e : E)
  | unp (is : List Nat) (e : E)
  | par (i j : Nat) (a b : E)
  | ex (e : E)
  | app (i : Nat) (e : E)
  | insr (i : Nat) (k e : E)
  | setc (i k : Nat) (e : E)
  | setf (cs : List Nat) (i : Nat) (f : Str) (e : E)
  | ret (e : E)
  | retv (i : Nat)
  | retN
  | ifs (c : E) (a b : List S)
  | for_ (tg : Tg) (it : It) (body : List S) (fg : List Nat)
  | pass
  | brk
  | cnt
  | raise (c : Nat) (e : E)
  | tryw (body : List S) (ecs : List Nat) (hs : List (Nat × Str))
  /-- try .. except B as e: return isinstance(e, C) and e.f == i -/
  | tryi (body : List S) (ecs : List Nat) (y : Nat) (l : List (Nat × Bool)) (i : Int)
inductive SR where
  | next (env : Env) | ret (v : Vl) (env : Env) | brk (env : Env) | cnt (env : Env) | exn (c : Nat) (d : D) (env : Env) | bad
@[simp] def SR.of {α : Type} : R α → (α → Env → SR) → SR
  | .ok a env, f => f a env
  | .exn c d env, _ => .exn c d env
  | .bad, _ => .bad
@[simp] def SR.then : SR → (Env → SR) → SR
  | .next env, f => f env
  | r, _ => r
/-! the locals that an expression hands on -/
mutual
def esc : E → List Nat
  | .var _ | .cst _ | .subc _ _ | .exf _ | .bad => []
  | .fld _ a _ | .isc _ a _ | .rev a | .xfld _ a _ | .xis _ _ _ a => esc a
  | .mk f _ es => esca f.ms.tail es
  | .mkx _ _ es => esca [.v] es
  | .eqo _ _ a b => escd a ++ escd b
  | .tup es | .lst es => escs es
  | .bin _ a b | .cmp _ a b | .and a b | .or a b | .sub a b | .rgl _ a b => esc a ++ esc b
  | .neg a | .not a | .isi a _ => esc a
  | .cmp2 _ _ a b c | .ite c a b => esc a ++ esc b ++ esc c
  | .slc a lo hi => esc a ++ esco lo ++ esco hi
  | .bf _ es => escp es
  | .call f es => esca f.ms es
  | .lc e _ it ifs => escd e ++ esc it ++ esco ifs
  | .lcr e _ lo hi ifs => escd e ++ esc lo ++ esc hi ++ esco ifs
/-- handed on itself -/
def escd : E → List Nat
  | .var i => [i]
  | .cst _ | .subc _ _ | .exf _ | .bad => []
  | .fld _ a _ | .isc _ a _ | .rev a | .xfld _ a _ | .xis _ _ _ a => esc a
  | .mk f _ es => esca f.ms.tail es
  | .mkx _ _ es => esca [.v] es
  | .eqo _ _ a b => escd a ++ escd b
  | .tup es | .lst es => escs es
  | .bin _ a b | .cmp _ a b | .and a b | .or a b | .sub a b | .rgl _ a b => esc a ++ esc b
  | .neg a | .not a | .isi a _ => esc a
  | .cmp2 _ _ a b c => esc a ++ esc b ++ esc c
  | .ite c a b => escd a ++ escd b ++ esc c
  | .slc a lo hi => esc a ++ esco lo ++ esco hi
  | .bf _ es => escp es
  | .call f es => esca f.ms es
  | .lc e _ it ifs => escd e ++ esc it ++ esco ifs
  | .lcr e _ lo hi ifs => escd e ++ esc lo ++ esc hi ++ esco ifs
def escs : List E → List Nat
  | [] => []
  | e :: es => escd e ++ escs es
def escp : List E → List Nat
  | [] => []
  | e :: es => esc e ++ escp es
def esco : Option E → List Nat
  | none => []
  | some e => esc e
def esca : List Md → List E → List Nat
  | .v :: ms, e :: es => escd e ++ esca ms es
  | _ :: ms, _ :: es => esca ms es
  | _, _ => []
end
def frz1 (i : Nat) (env : Env) : Env := match env[i]? with
  | some (.own d) => env.set i (.val d)
  | _ => env
def frz : List Nat → Env → Env
  | [], env => env
  | i :: is, env => frz is (frz1 i env)
def fgt : List Nat → Env → Env
  | [], env => env
  | i :: is, env => fgt is (env.set i .un)
/-- how a stored value is held -/
def hold (v : Vl) : Option Slot := match v.k with
  | .fz => some (.val v.d)
  | .tmp => some (.own v.d)
  | .ln => none
def setMany : List Nat → List D → Env → Option Env
  | [], [], env => some env
  | i :: is, d :: ds, env => setMany is ds (env.set i (.val d))
  | _, _, _ => none
def bind1 (tg : Tg) (d : D) (env : Env) : Option Env := match tg with
  | .one i => some (env.set i (.val d))
  | .many is => match d with
    | .tup ds => setMany is ds env
    | _ => none
def forL (f : D → Env → SR) : List D → Env → SR
  | [], env => .next env
  | d :: ds, env => match f d env with
    | .next env' => forL f ds env'
    | .cnt env' => forL f ds env'
    | .brk env' => .next env'
    | .ret v env' => .ret v env'
    | .exn c d env' => .exn c d env'
    | .bad => .bad
def fgtR (fg : List Nat) : SR → SR
  | .next env => .next (fgt fg env)
  | .cnt env => .next (fgt fg env)
  | .brk env => .brk (fgt fg env)
  | r => r
def itemsIt (it : It) (env : Env) : R (List D) := match it with
  | .seq e => (ev e (frz (escd e) env)).bind fun x env => match items x.d with
    | some ds => if x.k = .ln then .bad else .ok ds env
    | none => .bad
  | .enm e => (ev e (frz (escd e) env)).bind fun x env => match items x.d with
    | some ds => if x.k = .ln then .bad else .ok (enumL 0 ds) env
    | none => .bad
  | .rng lo hi => (ev lo (frz (esc lo ++ esc hi) env)).bind fun x env => (ev hi env).bind fun y env => match x.d, y.d with
    | .int a, .int b => if -1000000000 ≤ a ∧ a ≤ 1000000000 ∧ -1000000000 ≤ b ∧ b ≤ 1000000000 then .ok (rangeL a (b - a).toNat) env else .bad
    | _, _ => .bad
def tst (c : E) (env : Env) : R Bool := (ev c (frz (esc c) env)).bind fun x env => match truD x.d with
  | some b => .ok b env
  | none => .bad
/-- a field stored -/
def putD (f : Str) (d : D) : List (Str × D) → List (Str × D)
  | [] => [(f, d)]
  | (g, x) :: r => if g = f then (g, d) :: r else (g, x) :: putD f d r
mutual
def exec : S → Env → SR
  | .asg i e, env => .of (ev e (frz (escd e) env)) fun x env => match hold x with
    | some s => .next (env.set i s)
    | none => .bad
  | .asgb i e, env => .of (ev e (frz (escd e) env)) fun x env => match x.k with
    | .tmp => .next (env.set i (.box x.d))
    | _ => .bad
  | .unp is e, env => .of (ev e (frz (escd e) env)) fun x env => match x.d with
    | .tup ds => match setMany is ds env with
      | some env => .next env
      | none => .bad
    | _ => .bad
  | .par i j a b, env => .of (ev a (frz (escd a ++ escd b) env)) fun x env => .of (ev b env) fun y env => match hold x, hold y with
    | some s, some t => .next ((env.set i s).set j t)
    | _, _ => .bad
  | .ex e, env => .of (ev e (frz (esc e) env)) fun _ env => .next env
  | .app i e, env => match (frz (escd e) env)[i]? with
    | some (.own (.lst _)) => .of (ev e (frz (escd e) env)) fun x env => if x.k = .ln then .bad else match env[i]? with
      | some (.own (.lst ds)) => if ds.length < LIM then .next (env.set i (.own (.lst (ds ++ [x.d])))) else .bad
      | _ => .bad
    | _ => .bad
  | .insr i k e, env => match (frz (esc k ++ escd e) env)[i]? with
    | some (.own (.lst _)) => .of (ev k (frz (esc k ++ escd e) env)) fun y env => .of (ev e env) fun x env => if x.k = .ln then .bad else match env[i]?, y.d with
      | some (.own (.lst ds)), .int n => if 0 ≤ n ∧ n ≤ ds.length ∧ ds.length < LIM then .next (env.set i (.own (.lst (ds.take n.toNat ++ x.d :: ds.drop n.toNat)))) else .bad
      | _, _ => .bad
    | _ => .bad
  | .setc i k e, env => .of (ev e (frz (escd e) env)) fun x env => if x.k = .ln then .bad else match env[i]? with
    | some (.own (.lst ds)) => if k < ds.length then .next (env.set i (.own (.lst (ds.set k x.d)))) else .bad
    | some (.box (.lst ds)) => if k < ds.length then .next (env.set i (.box (.lst (ds.set k x.d)))) else .bad
    | _ => .bad
  | .setf cs i f e, env => .of (ev e (frz (escd e) env)) fun x env => if x.k = .ln then .bad else match env[i]? with
    | some (.own (.ins c fs)) => if cs.contains c && decide (fs.length < 1000) then .next (env.set i (.own (.ins c (putD f x.d fs)))) else .bad
    | some (.box (.ins c fs)) => if cs.contains c && decide (fs.length < 1000) then .next (env.set i (.box (.ins c (putD f x.d fs)))) else .bad
    | _ => .bad
  | .ret e, env => .of (ev e (frz (esc e) env)) fun x env => match x.k with
    | .ln => .bad
    | .fz => .ret ⟨x.d, .fz⟩ env
    | .tmp => .ret ⟨x.d, .tmp⟩ env
  | .retv i, env => match env[i]? with
    | some (.val d) => .ret ⟨d, .fz⟩ env
    | some (.own d) => .ret ⟨d, .tmp⟩ env
    | _ => .bad
  | .retN, env => .ret ⟨.non, .fz⟩ env
  | .ifs c a b, env => .of (tst c env) fun v env => if v then execs a env else execs b env
  | .for_ tg it body fg, env => .of (itemsIt it env) fun ds env => forL (fun d env => match bind1 tg d env with
      | some env => fgtR fg (execs body env)
      | none => .bad) ds (fgt fg env)
  | .pass, env => .next env
  | .brk, env => .brk env
  | .cnt, env => .cnt env
  | .raise c e, env => .of (ev e (frz (escd e) env)) fun x env => if x.k = .ln then .bad else .exn c x.d env
  | .tryw body ecs hs, env => match execs body env with
    | .exn c d env' => if ecs.contains c then (match hs.lookup c with
      | some w => .ret ⟨.tup [.str w, d], .fz⟩ env'
      | none => .exn c d env') else .bad
    | .next env' => .next env'
    | .ret v env' => .ret v env'
    | .brk env' => .brk env'
    | .cnt env' => .cnt env'
    | .bad => .bad
  | .tryi body ecs y l i, env => match execs body env with
    | .exn c d env' => if ecs.contains c then (match l.lookup c with
      | some true => if c = y then (match d with
        | .int j => .ret ⟨.bl (j == i), .fz⟩ env'
        | _ => .bad) else .bad
      | some false => .ret ⟨.bl false, .fz⟩ env'
      | none => .bad) else .bad
    | .next env' => .next env'
    | .ret v env' => .ret v env'
    | .brk env' => .brk env'
    | .cnt env' => .cnt env'
    | .bad => .bad
def execs : List S → Env → SR
  | [], env => .next env
  | s :: ss, env => match exec s env with
    | .next env' => execs ss env'
    | .ret v env' => .ret v env'
    | .brk env' => .brk env'
    | .cnt env' => .cnt env'
    | .exn c d env' => .exn c d env'
    | .bad => .bad
end
end DL
set_option Elab.async false
set_option linter.all false
set_option autoImplicit false
set_option maxRecDepth 100000
namespace DL
open PySem PySem.Spec PyProof.Rows L2

structure Gc where
  K : PySem.W.Frag
  cA : Nat → Addr
  cF : Nat → Str

mutual
inductive Rep (G : Gc) (Z : Hp) : V → D → Prop
  | non : Rep G Z .non .non
  | bl (b : Bool) : Rep G Z (.bl b) (.bl b)
  | int (i : Int) : Rep G Z (.int i) (.int i)
  | str (x : Str) : Rep G Z (.str x) (.str x)
  | tup {a : Addr} {vs : List V} {ds : List D} : SqT G.K Z a vs → RepL G Z vs ds → Rep G Z (.ref a) (.tup ds)
  | lst {a : Addr} {vs : List V} {ds : List D} : Z a = some (.lst vs) → RepL G Z vs ds → Rep G Z (.ref a) (.lst ds)
  | src {a : Addr} {ns : List Int} : SqL G.K Z a (ns.map V.int) → Rep G Z (.ref a) (.src ns)
  | exv {a dx : Addr} {vs : List (Str × V)} {c : Nat} {fs : List (Str × D)} : Z a = some (exo a (G.cA c) (some dx)) → Z dx = some (exd dx vs) → vs.length ≤ 900 → RepF G Z vs fs → Rep G Z (.ref a) (.exv c fs)
  | ins {a dx : Addr} {vs : List (Str × V)} {c : Nat} {fs : List (Str × D)} : Z a = some (.ins (G.cA c) dx vs) → RepF G Z vs fs → Rep G Z (.ref a) (.ins c fs)
inductive RepL (G : Gc) (Z : Hp) : List V → List D → Prop
  | nil : RepL G Z [] []
  | cons {v : V} {vs : List V} {d : D} {ds : List D} : Rep G Z v d → RepL G Z vs ds → RepL G Z (v :: vs) (d :: ds)
inductive RepF (G : Gc) (Z : Hp) : List (Str × V) → List (Str × D) → Prop
  | nil : RepF G Z [] []
  | cons {x : Str} {v : V} {vs : List (Str × V)} {d : D} {ds : List (Str × D)} : Rep G Z v d → RepF G Z vs ds → RepF G Z ((x, v) :: vs) ((x, d) :: ds)
end
section
variable {G : Gc} {Z Z' : Hp}
theorem seqT_mono {K : PySem.W.Frag} (e : Same Z Z') {a : Addr} {xs : List V} (h : SqT K Z a xs) : SqT K Z' a xs := by
  rcases h with (h | ⟨o, h⟩) | h
  · exact .inl (.inl (e _ _ h))
  · exact .inl (.inr ⟨o, e _ _ h⟩)
  · exact .inr h
mutual
theorem Rep.mono (e : Same Z Z') : ∀ {v : V} {d : D}, Rep G Z v d → Rep G Z' v d
  | _, _, .non => .non
  | _, _, .bl b => .bl b
  | _, _, .int i => .int i
  | _, _, .str x => .str x
  | _, _, .tup h r => .tup (seqT_mono e h) (RepL.mono e r)
  | _, _, .lst h r => .lst (e _ _ h) (RepL.mono e r)
  | _, _, .src h => .src (e.seq h)
  | _, _, .ins h r => .ins (e _ _ h) (RepF.mono e r)
  | _, _, .exv h1 h2 l r => .exv (e _ _ h1) (e _ _ h2) l (RepF.mono e r)
theorem RepL.mono (e : Same Z Z') : ∀ {vs : List V} {ds : List D}, RepL G Z vs ds → RepL G Z' vs ds
  | _, _, .nil => .nil
  | _, _, .cons h r => .cons (Rep.mono e h) (RepL.mono e r)
theorem RepF.mono (e : Same Z Z') : ∀ {vs : List (Str × V)} {ds : List (Str × D)}, RepF G Z vs ds → RepF G Z' vs ds
  | _, _, .nil => .nil
  | _, _, .cons h r => .cons (Rep.mono e h) (RepF.mono e r)
end
theorem RepL.length : ∀ {vs : List V} {ds : List D}, RepL G Z vs ds → vs.length = ds.length
  | _, _, .nil => rfl
  | _, _, .cons _ r => by simp [RepL.length r]
theorem RepL.append : ∀ {vs ws : List V} {ds es : List D}, RepL G Z vs ds → RepL G Z ws es → RepL G Z (vs ++ ws) (ds ++ es)
  | _, _, _, _, .nil, s => s
  | _, _, _, _, .cons h r, s => .cons h (RepL.append r s)
theorem RepL.get : ∀ {vs : List V} {ds : List D} {i : Nat} {d : D}, RepL G Z vs ds → ds[i]? = some d → ∃ v, vs[i]? = some v ∧ Rep G Z v d
  | _, _, _, _, .nil, e => by simp at e
  | _, _, 0, _, .cons h _, e => by simp at e; subst e; exact ⟨_, rfl, h⟩
  | _, _, i + 1, _, .cons _ r, e => by
    obtain ⟨v, h1, h2⟩ := RepL.get (i := i) r (by simpa using e)
    exact ⟨v, by simpa using h1, h2⟩
theorem RepL.getV : ∀ {vs : List V} {ds : List D} {i : Nat} {v : V}, RepL G Z vs ds → vs[i]? = some v → ∃ d, ds[i]? = some d ∧ Rep G Z v d
  | _, _, _, _, .nil, e => by simp at e
  | _, _, 0, _, .cons h _, e => by simp at e; subst e; exact ⟨_, rfl, h⟩
  | _, _, i + 1, _, .cons _ r, e => by
    obtain ⟨v, h1, h2⟩ := RepL.getV (i := i) r (by simpa using e)
    exact ⟨v, by simpa using h1, h2⟩
theorem RepL.take : ∀ {vs : List V} {ds : List D} (n : Nat), RepL G Z vs ds → RepL G Z (vs.take n) (ds.take n)
  | _, _, 0, _ => by simp; exact .nil
  | _, _, _ + 1, .nil => .nil
  | _, _, n + 1, .cons h r => .cons h (RepL.take n r)
theorem RepL.drop : ∀ {vs : List V} {ds : List D} (n : Nat), RepL G Z vs ds → RepL G Z (vs.drop n) (ds.drop n)
  | _, _, 0, r => by simpa using r
  | _, _, _ + 1, .nil => .nil
  | _, _, n + 1, .cons _ r => RepL.drop n r
theorem RepL.set {v : V} {d : D} (h : Rep G Z v d) : ∀ {vs : List V} {ds : List D} (n : Nat), RepL G Z vs ds → RepL G Z (vs.set n v) (ds.set n d)
  | _, _, _, .nil => .nil
  | _, _, 0, .cons _ r => .cons h r
  | _, _, n + 1, .cons g r => .cons g (RepL.set h n r)
theorem RepL.flat {vs : List V} {ds : List D} (r : RepL G Z vs ds) : ∀ k : Nat, RepL G Z (List.replicate k vs).flatten (List.replicate k ds).flatten
  | 0 => .nil
  | k + 1 => by rw [List.replicate_succ, List.flatten_cons, List.replicate_succ, List.flatten_cons]; exact r.append (RepL.flat r k)
theorem RepL.cut {vs : List V} {ds : List D} (r : RepL G Z vs ds) (lo hi : Option Int) : RepL G Z (cutV vs lo hi) (DL.cut ds lo hi) := by
  unfold cutV DL.cut
  rw [r.length]
  exact (r.drop _).take _
theorem RepL.ints : ∀ (ns : List Int), RepL G Z (ns.map V.int) (ns.map D.int)
  | [] => .nil
  | n :: ns => .cons (.int n) (RepL.ints ns)
end

/-- a thing at a, that may be changed -/
def ObjAt (G : Gc) (Z H : Hp) (a : Addr) : D → Prop
  | .lst ds => ∃ vs, H a = some (.lst vs) ∧ RepL G Z vs ds
  | .ins c fs => ∃ dx vs, H a = some (.ins (G.cA c) dx vs) ∧ RepF G Z vs fs
  | _ => False
theorem ObjAt.there {G : Gc} {Z H : Hp} {a : Addr} {d : D} (h : ObjAt G Z H a d) : ∃ o, H a = some o := by
  cases d <;> first | exact False.elim h | (obtain ⟨vs, e, _⟩ := h; exact ⟨_, e⟩) | (obtain ⟨dx, vs, e, _⟩ := h; exact ⟨_, e⟩)
theorem ObjAt.move {G : Gc} {Z H Z' H' : Hp} {a : Addr} {d : D} (h : ObjAt G Z H a d) (z : Same Z Z') (k : ∀ o, H a = some o → H' a = some o) : ObjAt G Z' H' a d := by
  cases d <;> first
    | exact False.elim h
    | (obtain ⟨vs, e, r⟩ := h; exact ⟨vs, k _ e, r.mono z⟩)
    | (obtain ⟨dx, vs, e, r⟩ := h; exact ⟨dx, vs, k _ e, r.mono z⟩)

/-- .. becomes frozen -/
theorem ObjAt.freeze {G : Gc} {Z H : Hp} {a : Addr} {d : D} {o : HO} (h : ObjAt G Z H a d) (ho : H a = some o) (zn : Z a = none) : Rep G (upd Z a o) (.ref a) d := by
  have z : Same Z (upd Z a o) := fun b u e => by rw [upd_ne (ne_of_none e zn)]; exact e
  cases d with
  | lst ds =>
    obtain ⟨vs, e, r⟩ := h
    rw [ho] at e; cases e
    exact .lst upd_same (r.mono z)
  | ins c fs =>
    obtain ⟨dx, vs, e, r⟩ := h
    rw [ho] at e; cases e
    exact .ins upd_same (r.mono z)
  | _ => exact False.elim h

def SlotOk (G : Gc) (Z H : Hp) (o : Option V) : Slot → Prop
  | .un => True
  | .val d => ∃ v, o = some v ∧ Rep G Z v d
  | .own d => ∃ a, o = some (.ref a) ∧ Z a = none ∧ ObjAt G Z H a d
  | .box d => ∃ a, o = some (.ref a) ∧ Z a = none ∧ ObjAt G Z H a d
  | .exc _ _ => True
def IsOB : Option Slot → Prop
  | some (.own _) => True
  | some (.box _) => True
  | _ => False

/-- the places of the lent boxes, of what is held by names -/
structure Bd where
  bx : Addr → Prop
  ow : Addr → Prop
structure Rel (G : Gc) (bx : Bd) (Z : Hp) (env : Env) (σ : L2.St) (H : Hp) : Prop where
  le : Same Z H
  len : env.length = σ.length
  slot : ∀ i s, env[i]? = some s → SlotOk G Z H (σ.getD i none) s
  inj : ∀ i j a, IsOB env[i]? → IsOB env[j]? → σ.getD i none = some (.ref a) → σ.getD j none = some (.ref a) → i = j
  bin : ∀ i d a, env[i]? = some (.box d) → σ.getD i none = some (.ref a) → bx.bx a
  own : ∀ i d a, env[i]? = some (.own d) → σ.getD i none = some (.ref a) → ¬ bx.bx a
  owi : ∀ i d a, env[i]? = some (.own d) → σ.getD i none = some (.ref a) → bx.ow a
  bd : ∀ a, bx.bx a ∨ bx.ow a → ∃ o, H a = some o
structure Ext (bx : Bd) (Z H Z' H' : Hp) : Prop where
  z : Same Z Z'
  h : ∀ a o, H a = some o → ¬ bx.bx a → H' a = some o
  d : ∀ a o, H a = some o → ∃ o', H' a = some o'
  n : ∀ a o, Z' a = some o → Z a = some o ∨ H a = none
theorem Ext.refl {bx : Bd} {Z H : Hp} : Ext bx Z H Z H := ⟨fun _ _ e => e, fun _ _ e _ => e, fun _ o e => ⟨o, e⟩, fun _ _ e => .inl e⟩
theorem Ext.gone {bx : Bd} {Z H Z' H' : Hp} (e : Ext bx Z H Z' H') {a : Addr} (h : H' a = none) : H a = none := by
  cases q : H a with
  | none => rfl
  | some o => obtain ⟨o', q'⟩ := e.d a o q; rw [h] at q'; cases q'
theorem Ext.trans {bx : Bd} {Z H Z1 H1 Z2 H2 : Hp} (e : Ext bx Z H Z1 H1) (f : Ext bx Z1 H1 Z2 H2) : Ext bx Z H Z2 H2 :=
  ⟨e.z.trans f.z, fun a o q nb => f.h a o (e.h a o q nb) nb, fun a o q => let ⟨o', q'⟩ := e.d a o q; f.d a o' q', fun a o q => by
    rcases f.n a o q with q | q
    · exact e.n a o q
    · exact .inr (e.gone q)⟩
/-- a new thing is laid, not frozen -/
theorem Ext.laid {bx : Bd} {Z H : Hp} {p : Addr} {o : HO} (hn : H p = none) : Ext bx Z H Z (upd H p o) :=
  ⟨fun _ _ e => e, fun a u e _ => by rw [upd_ne (ne_of_none e hn)]; exact e, fun a u e => ⟨u, by rw [upd_ne (ne_of_none e hn)]; exact e⟩, fun _ _ e => .inl e⟩
/-- .. and frozen -/
theorem Ext.laidZ {bx : Bd} {Z H : Hp} {p : Addr} {o : HO} (hn : H p = none) (le : Same Z H) : Ext bx Z H (upd Z p o) (upd H p o) := by
  have zn : Z p = none := le.free hn
  refine ⟨fun a u e => by rw [upd_ne (ne_of_none e zn)]; exact e, fun a u e _ => by rw [upd_ne (ne_of_none e hn)]; exact e, fun a u e => ⟨u, by rw [upd_ne (ne_of_none e hn)]; exact e⟩, fun a u e => ?_⟩
  by_cases h : a = p
  · subst h; exact .inr hn
  · rw [upd_ne h] at e; exact .inl e
section
variable {G : Gc} {bx : Bd} {Z H Z' H' : Hp} {env : Env} {σ : L2.St}
theorem Rel.get_val (R : Rel G bx Z env σ H) {i : Nat} {d : D} (h : env[i]? = some (.val d)) : ∃ v, σ[i]? = some (some v) ∧ Rep G Z v d := by
  obtain ⟨v, e, r⟩ := R.slot i _ h
  have hi : i < σ.length := by rw [← R.len]; exact (List.getElem?_eq_some_iff.mp h).1
  refine ⟨v, ?_, r⟩
  rw [List.getD_eq_getElem?_getD] at e
  cases q : σ[i]? with
  | none => rw [q] at e; cases e
  | some w => rw [q] at e; simp at e; rw [e]
theorem Rel.get_ref (R : Rel G bx Z env σ H) {i : Nat} {s : Slot} {a : Addr} (h : env[i]? = some s) (e : σ.getD i none = some (.ref a)) : σ[i]? = some (some (.ref a)) := by
  rw [List.getD_eq_getElem?_getD] at e
  cases q : σ[i]? with
  | none => rw [q] at e; cases e
  | some w => rw [q] at e; simp at e; rw [e]
/-- the slots stand where the boxes do -/
theorem Rel.ext (R : Rel G bx Z env σ H) (e : Ext bx Z H Z' H') (le : Same Z' H') (hb : ∀ i d a, env[i]? = some (.box d) → σ.getD i none = some (.ref a) → Z' a = none ∧ ObjAt G Z' H' a d) : Rel G bx Z' env σ H' := by
  refine ⟨le, R.len, fun i s h => ?_, R.inj, R.bin, R.own, R.owi, fun a ha => let ⟨o, q⟩ := R.bd a ha; e.d a o q⟩
  have q := R.slot i s h
  cases s with
  | un => trivial
  | exc _ _ => trivial
  | val d => obtain ⟨v, e1, r⟩ := q; exact ⟨v, e1, r.mono e.z⟩
  | own d =>
    obtain ⟨a, e1, zn, o⟩ := q
    have nb := R.own i d a h e1
    obtain ⟨u, hu⟩ := o.there
    refine ⟨a, e1, ?_, o.move e.z fun o ho => e.h a o ho nb⟩
    cases q : Z' a with
    | none => rfl
    | some w =>
      rcases e.n a w q with q | q
      · rw [zn] at q; cases q
      · rw [hu] at q; cases q
  | box d =>
    obtain ⟨a, e1, zn, o⟩ := q
    exact ⟨a, e1, hb i d a h e1⟩
/-- nothing that was is changed -/
theorem Rel.same (R : Rel G bx Z env σ H) (e : Ext bx Z H Z' H') (le : Same Z' H') (k : Same H H') : Rel G bx Z' env σ H' := by
  refine R.ext e le fun i d a h e1 => ?_
  obtain ⟨a', e2, zn, o⟩ := R.slot i _ h
  rw [e1] at e2; cases e2
  obtain ⟨u, hu⟩ := o.there
  refine ⟨?_, o.move e.z fun o ho => k a o ho⟩
  cases q : Z' a with
  | none => rfl
  | some w =>
    rcases e.n a w q with q | q
    · rw [zn] at q; cases q
    · rw [hu] at q; cases q
theorem same_upd {H : Hp} {p : Addr} {o : HO} (hn : H p = none) : Same H (upd H p o) := fun a u e => by rw [upd_ne (ne_of_none e hn)]; exact e
theorem same_updZ {Z H : Hp} {p : Addr} {o : HO} (le : Same Z H) : Same (upd Z p o) (upd H p o) := fun a u e => by
  by_cases h : a = p
  · subst h; rw [upd_same] at e ⊢; exact e
  · rw [upd_ne h] at e ⊢; exact le _ _ e
theorem Rel.laid (R : Rel G bx Z env σ H) {p : Addr} {o : HO} (hn : H p = none) : Rel G bx Z env σ (upd H p o) :=
  R.same (.laid hn) (R.le.trans (same_upd hn)) (same_upd hn)
theorem Rel.laidZ (R : Rel G bx Z env σ H) {p : Addr} {o : HO} (hn : H p = none) : Rel G bx (upd Z p o) env σ (upd H p o) :=
  R.same (.laidZ hn R.le) (same_updZ R.le) (same_upd hn)
end

/-- how a value stands -/
def VOk (G : Gc) (bx : Bd) (H0 Z H : Hp) (x : Vl) (v : V) : Prop :=
  match x.k with
  | .fz => Rep G Z v x.d
  | .tmp => ∃ a, v = .ref a ∧ Z a = none ∧ H0 a = none ∧ ¬ bx.bx a ∧ ObjAt G Z H a x.d
  | .ln => ∃ a, v = .ref a ∧ ¬ bx.bx a ∧ ObjAt G Z H a x.d
theorem VOk.ext {G : Gc} {bx : Bd} {H0 Z H Z' H' : Hp} {x : Vl} {v : V} (h : VOk G bx H0 Z H x v) (e : Ext bx Z H Z' H') : VOk G bx H0 Z' H' x v := by
  obtain ⟨d, k⟩ := x
  cases k with
  | fz => exact Rep.mono e.z h
  | tmp =>
    obtain ⟨a, e1, zn, hn, nb, o⟩ := h
    obtain ⟨u, hu⟩ := o.there
    refine ⟨a, e1, ?_, hn, nb, o.move e.z fun o ho => e.h a o ho nb⟩
    cases q : Z' a with
    | none => rfl
    | some w =>
      rcases e.n a w q with q | q
      · rw [zn] at q; cases q
      · rw [hu] at q; cases q
  | ln =>
    obtain ⟨a, e1, nb, o⟩ := h
    exact ⟨a, e1, nb, o.move e.z fun o ho => e.h a o ho nb⟩
theorem VOk.older {G : Gc} {bx : Bd} {H0 H1 Z H : Hp} {x : Vl} {v : V} (h : VOk G bx H1 Z H x v) (e : ∀ a, H1 a = none → H0 a = none) : VOk G bx H0 Z H x v := by
  obtain ⟨d, k⟩ := x
  cases k with
  | fz => exact h
  | tmp => obtain ⟨a, e1, zn, hn, nb, o⟩ := h; exact ⟨a, e1, zn, e a hn, nb, o⟩
  | ln => exact h

/-- what is wanted of what comes out -/
def Rd {α β : Type} (G : Gc) (W : WX) (bx : Bd) (Z H : Hp) (σ : L2.St) (P : Hp → Hp → α → β → Prop) : R α → (β → Hp → Prop) → Prop
  | .ok x env, Q => ∀ v Z' H', Ext bx Z H Z' H' → Rel G bx Z' env σ H' → P Z' H' x v → Q v H'
  | .exn c d env, _ => ∀ (dd : Addr) (v : V) (Z' H' : Hp), Ext bx Z H Z' H' → Rel G bx Z' env σ H' → H' dd = some (.xd [(G.cF c, v)]) → Rep G Z' v d → W (.ref (G.cA c)) (some dd) σ H'
  | .bad, _ => False
section
variable {α β γ δ : Type} {G : Gc} {W : WX} {bx : Bd} {Z H Z1 H1 : Hp} {σ : L2.St}
theorem Rd.ext {P : Hp → Hp → α → β → Prop} {r : R α} {Q : β → Hp → Prop} (h : Rd G W bx Z H σ P r Q) (e : Ext bx Z H Z1 H1) : Rd G W bx Z1 H1 σ P r Q := by
  cases r with
  | ok x env => exact fun v Z' H' e' R p => h v Z' H' (e.trans e') R p
  | exn c d env => exact fun dd v Z' H' e' R p r => h dd v Z' H' (e.trans e') R p r
  | bad => exact h
theorem Rd.imp {P P' : Hp → Hp → α → β → Prop} {r : R α} {Q Q' : β → Hp → Prop} (h : Rd G W bx Z H σ P r Q) (hp : ∀ Z' H' x v, Ext bx Z H Z' H' → P' Z' H' x v → P Z' H' x v) (hq : ∀ v H', Q v H' → Q' v H') : Rd G W bx Z H σ P' r Q' := by
  cases r with
  | ok x env => exact fun v Z' H' e' R p => hq _ _ (h v Z' H' e' R (hp _ _ _ _ e' p))
  | exn c d env => exact h
  | bad => exact h
theorem Rd.bind {P : Hp → Hp → α → β → Prop} {P' : Hp → Hp → γ → δ → Prop} {r : R α} {f : α → Env → R γ} {Q : δ → Hp → Prop} (h : Rd G W bx Z H σ P' (r.bind f) Q) :
    Rd G W bx Z H σ P r (fun v H1 => ∃ Z1 env1 x, Ext bx Z H Z1 H1 ∧ Rel G bx Z1 env1 σ H1 ∧ P Z1 H1 x v ∧ Rd G W bx Z1 H1 σ P' (f x env1) Q) := by
  cases r with
  | ok x env => exact fun v Z' H' e R p => ⟨Z', env, x, e, R, p, Rd.ext (r := f x env) h e⟩
  | exn c d env => exact h
  | bad => exact h
end
/-- as Rd.bind, what follows at the start -/
theorem Rd.bind0 {α β γ δ : Type} {G : Gc} {W : WX} {bx : Bd} {Z H : Hp} {σ : L2.St} {P : Hp → Hp → α → β → Prop} {P' : Hp → Hp → γ → δ → Prop} {r : R α} {f : α → Env → R γ} {Q : δ → Hp → Prop} (h : Rd G W bx Z H σ P' (r.bind f) Q) :
    Rd G W bx Z H σ P r (fun v H1 => ∃ Z1 env1 x, Ext bx Z H Z1 H1 ∧ Rel G bx Z1 env1 σ H1 ∧ P Z1 H1 x v ∧ Rd G W bx Z H σ P' (f x env1) Q) := by
  cases r with
  | ok x env => exact fun v Z' H' e R p => ⟨Z', env, x, e, R, p, h⟩
  | exn c d env => exact h
  | bad => exact h
/-- what is new and nobody's is frozen -/
theorem VOk.freeze {G : Gc} {bx : Bd} {Z H Z1 H1 : Hp} {env : Env} {σ : L2.St} {x : Vl} {v : V} (hbd : ∀ a, bx.bx a ∨ bx.ow a → ∃ o, H a = some o) (e : Ext bx Z H Z1 H1) (R : Rel G bx Z1 env σ H1) (p : VOk G bx H Z1 H1 x v) (hk : x.k ≠ .ln) :
    ∃ Z2, Ext bx Z H Z2 H1 ∧ Rel G bx Z2 env σ H1 ∧ Same Z1 Z2 ∧ Rep G Z2 v x.d := by
  obtain ⟨d, k⟩ := x
  cases k with
  | fz => exact ⟨Z1, e, R, fun _ _ q => q, p⟩
  | ln => exact absurd rfl hk
  | tmp =>
    obtain ⟨a, rfl, zn, hn, nb, o⟩ := p
    obtain ⟨u, hu⟩ := o.there
    have hs : Same Z1 (upd Z1 a u) := fun b w q => by rw [upd_ne (ne_of_none q zn)]; exact q
    have hz : ∀ b, b ≠ a → upd Z1 a u b = Z1 b := fun b hb => upd_ne hb
    refine ⟨upd Z1 a u, ⟨e.z.trans hs, e.h, e.d, fun b w q => ?_⟩, ⟨fun b w q => ?_, R.len, fun i s h => ?_, R.inj, R.bin, R.own, R.owi, R.bd⟩, hs, o.freeze hu zn⟩
    · by_cases hb : b = a
      · subst hb; exact .inr hn
      · rw [hz b hb] at q; exact e.n b w q
    · by_cases hb : b = a
      · subst hb; rw [upd_same] at q; cases q; exact hu
      · rw [hz b hb] at q; exact R.le b w q
    · have q := R.slot i s h
      have ne : ∀ b, bx.bx b ∨ bx.ow b → b ≠ a := fun b hb z => by
        obtain ⟨w, hw⟩ := hbd b hb
        rw [z, hn] at hw; cases hw
      cases s with
      | un => trivial
      | exc _ _ => trivial
      | val d => obtain ⟨v, e1, r⟩ := q; exact ⟨v, e1, r.mono hs⟩
      | own d =>
        obtain ⟨b, e1, zb, o'⟩ := q
        exact ⟨b, e1, by rw [hz b (ne b (.inr (R.owi i d b h e1)))]; exact zb, o'.move hs fun _ q => q⟩
      | box d =>
        obtain ⟨b, e1, zb, o'⟩ := q
        exact ⟨b, e1, by rw [hz b (ne b (.inl (R.bin i d b h e1)))]; exact zb, o'.move hs fun _ q => q⟩
/-- the reading of an expression -/
def tE (G : Gc) (W : WX) (c : E) : TE := fun σ H Q => ∃ bx Z env, Rel G bx Z env σ H ∧ Rd G W bx Z H σ (VOk G bx H) (ev c env) Q
end DL
set_option Elab.async false
set_option linter.all false
set_option autoImplicit false
set_option maxRecDepth 100000
namespace DL
open PySem PySem.Spec PyProof.Rows L2

structure Ctx (X : Cx) (G : Gc) : Prop where
  K : G.K = X.K
  nd : X.N.Nodup
  un : X.A.units + 70 < cLine

def isO : D → Bool
  | .lst _ => true
  | .ins _ _ => true
  | _ => false
section
variable {G : Gc} {bx : Bd} {H0 Z H : Hp} {x : Vl} {v : V}
theorem VOk.rep (h : VOk G bx H0 Z H x v) (ho : isO x.d = false) : Rep G Z v x.d := by
  obtain ⟨d, k⟩ := x
  cases k with
  | fz => exact h
  | tmp => obtain ⟨a, _, _, _, _, o⟩ := h; cases d <;> first | exact False.elim o | cases ho
  | ln => obtain ⟨a, _, _, o⟩ := h; cases d <;> first | exact False.elim o | cases ho
theorem VOk.lst {ds : List D} (h : VOk G bx H0 Z H x v) (hd : x.d = .lst ds) (le : Same Z H) : ∃ a vs, v = .ref a ∧ H a = some (.lst vs) ∧ RepL G Z vs ds := by
  obtain ⟨d, k⟩ := x
  cases hd
  cases k with
  | fz => cases (show Rep G Z v (.lst ds) from h) with | lst h' r => exact ⟨_, _, rfl, le _ _ h', r⟩
  | tmp => obtain ⟨a, e, _, _, _, vs, o, r⟩ := h; exact ⟨a, vs, e, o, r⟩
  | ln => obtain ⟨a, e, _, vs, o, r⟩ := h; exact ⟨a, vs, e, o, r⟩
theorem VOk.tup {ds : List D} (h : VOk G bx H0 Z H x v) (hd : x.d = .tup ds) (le : Same Z H) : ∃ a vs, v = .ref a ∧ SqT G.K H a vs ∧ SqT G.K Z a vs ∧ RepL G Z vs ds := by
  have q := h.rep (by rw [hd]; rfl)
  rw [hd] at q
  cases q with | tup h' r => exact ⟨_, _, rfl, seqT_mono le h', h', r⟩
theorem VOk.int {i : Int} (h : VOk G bx H0 Z H x v) (hd : x.d = .int i) : v = .int i := by
  have q := h.rep (by rw [hd]; rfl)
  rw [hd] at q
  cases q; rfl
theorem VOk.str {i : Str} (h : VOk G bx H0 Z H x v) (hd : x.d = .str i) : v = .str i := by
  have q := h.rep (by rw [hd]; rfl)
  rw [hd] at q
  cases q; rfl
theorem VOk.bl {i : Bool} (h : VOk G bx H0 Z H x v) (hd : x.d = .bl i) : v = .bl i := by
  have q := h.rep (by rw [hd]; rfl)
  rw [hd] at q
  cases q; rfl
end
/-! data that == looks at -/
section
variable {G : Gc} {Z H : Hp}
mutual
theorem Rep.dp (le : Same Z H) : ∀ {v : V} {d : D}, Rep G Z v d → flatD d = true → Dp G.K H v (toPy d)
  | _, _, .non, _ => by rw [toPy]; exact .non
  | _, _, .bl b, _ => by rw [toPy]; exact .bl b
  | _, _, .int i, _ => by rw [toPy]; exact .int i
  | _, _, .str x, _ => by rw [toPy]; exact .str x
  | _, _, .tup h r, f => by rw [toPy]; exact .tup (seqT_mono le h) (RepL.dp le r (by simpa [flatD] using f))
  | _, _, .lst h r, f => by rw [toPy]; exact .lst (.of (le _ _ h)) (RepL.dp le r (by simpa [flatD] using f))
  | _, _, .src h, f => by simp [flatD] at f
  | _, _, .ins h r, f => by simp [flatD] at f
  | _, _, .exv _ _ _ _, f => by simp [flatD] at f
theorem RepL.dp (le : Same Z H) : ∀ {vs : List V} {ds : List D}, RepL G Z vs ds → flatDs ds = true → DpAll G.K H vs (toPys ds)
  | _, _, .nil, _ => by rw [toPys]; exact .nil
  | _, _, @RepL.cons _ _ _ _ d ds h r, f => by
    have f' : flatD d = true ∧ flatDs ds = true := by simpa [flatDs] using f
    rw [toPys]
    exact .cons (Rep.dp le h f'.1) (RepL.dp le r f'.2)
end
mutual
theorem lay_flat : ∀ d : D, flatD d = true → (toPy d).canLay0 = true
  | .non, _ => by simp [toPy, PyData.canLay0]
  | .bl _, _ => by simp [toPy, PyData.canLay0]
  | .int _, _ => by simp [toPy, PyData.canLay0]
  | .str x, h => by simpa [toPy, PyData.canLay0, flatD] using h
  | .tup ds, h => by rw [toPy, PyData.canLay0]; exact lay_flats ds (by simpa [flatD] using h)
  | .lst ds, h => by rw [toPy, PyData.canLay0]; exact lay_flats ds (by simpa [flatD] using h)
  | .src _, h => by simp [flatD] at h
  | .ins _ _, h => by simp [flatD] at h
  | .exv _ _, h => by simp [flatD] at h
theorem lay_flats : ∀ ds : List D, flatDs ds = true → PyData.canLayAll0 (toPys ds) = true
  | [], _ => by simp [toPys, PyData.canLayAll0]
  | d :: ds, h => by
    have f' : flatD d = true ∧ flatDs ds = true := by simpa [flatDs] using h
    rw [toPys, PyData.canLayAll0, lay_flat d f'.1, lay_flats ds f'.2]; rfl
end
mutual
theorem depth_py : ∀ d : D, (toPy d).depth ≤ depthD d
  | .non => by simp [toPy, PyData.depth]
  | .bl _ => by simp [toPy, PyData.depth]
  | .int _ => by simp [toPy, PyData.depth]
  | .str x => by simp [toPy, PyData.depth]
  | .tup ds => by rw [toPy, PyData.depth, depthD]; have := depths_py ds; omega
  | .lst ds => by rw [toPy, PyData.depth, depthD]; have := depths_py ds; omega
  | .src _ => by simp [toPy, PyData.depth]
  | .ins _ _ => by simp [toPy, PyData.depth]
  | .exv _ _ => by simp [toPy, PyData.depth]
theorem depths_py : ∀ ds : List D, PyData.depthAll (toPys ds) ≤ depthDs ds
  | [] => by simp [toPys, PyData.depthAll]
  | d :: ds => by rw [toPys, PyData.depthAll, depthDs]; have := depth_py d; have := depths_py ds; omega
end
theorem sh_shaped {d : D} (h : shD d = true) : SeqAt.shaped (toPy d) = true := by
  unfold shD at h
  rw [Bool.and_eq_true, decide_eq_true_eq] at h
  unfold SeqAt.shaped
  rw [lay_flat d h.1, Bool.true_and, decide_eq_true_eq]
  have := depth_py d
  omega
mutual
theorem eqv_py : ∀ d e : D, flatD d = true → flatD e = true → PyData.eqv (toPy d) (toPy e) = eqv d e
  | .non, e, _, f => by cases e <;> simp [toPy, PyData.eqv, eqv, flatD] at f ⊢
  | .bl _, e, _, f => by cases e <;> simp [toPy, PyData.eqv, eqv, flatD] at f ⊢
  | .int _, e, _, f => by cases e <;> simp [toPy, PyData.eqv, eqv, flatD] at f ⊢
  | .str _, e, _, f => by cases e <;> simp [toPy, PyData.eqv, eqv, flatD] at f ⊢
  | .tup ds, e, h, f => by
    cases e <;> first
      | (rename_i es; simp only [toPy, PyData.eqv, eqv]; exact eqvs_py ds es (by simpa [flatD] using h) (by simpa [flatD] using f))
      | simp [toPy, PyData.eqv, eqv, flatD] at f ⊢
  | .lst ds, e, h, f => by
    cases e <;> first
      | (rename_i es; simp only [toPy, PyData.eqv, eqv]; exact eqvs_py ds es (by simpa [flatD] using h) (by simpa [flatD] using f))
      | simp [toPy, PyData.eqv, eqv, flatD] at f ⊢
  | .src _, _, h, _ => by simp [flatD] at h
  | .ins _ _, _, h, _ => by simp [flatD] at h
  | .exv _ _, _, h, _ => by simp [flatD] at h
theorem eqvs_py : ∀ ds es : List D, flatDs ds = true → flatDs es = true → PyData.eqvAll (toPys ds) (toPys es) = eqvs ds es
  | [], [], _, _ => by simp [toPys, PyData.eqvAll, eqvs]
  | [], _ :: _, _, _ => by simp [toPys, PyData.eqvAll, eqvs]
  | _ :: _, [], _, _ => by simp [toPys, PyData.eqvAll, eqvs]
  | d :: ds, e :: es, h, f => by
    have h' : flatD d = true ∧ flatDs ds = true := by simpa [flatDs] using h
    have f' : flatD e = true ∧ flatDs es = true := by simpa [flatDs] using f
    rw [toPys, toPys, PyData.eqvAll, eqvs, eqv_py d e h'.1 f'.1, eqvs_py ds es h'.2 f'.2]
end
theorem toPys_any (x : D) (hx : flatD x = true) : ∀ ds : List D, flatDs ds = true → ((toPys ds).any fun z => PyData.eqv z (toPy x)) = ds.any fun z => eqv z x
  | [], _ => by simp [toPys]
  | d :: ds, h => by
    have h' : flatD d = true ∧ flatDs ds = true := by simpa [flatDs] using h
    rw [toPys, List.any_cons, List.any_cons, eqv_py d x h'.1 hx, toPys_any x hx ds h'.2]
theorem sh_flat {d : D} (h : shD d = true) : flatD d = true := by
  unfold shD at h
  rw [Bool.and_eq_true] at h
  exact h.1
theorem VOk.dp {bx : Bd} {H0 : Hp} {x : Vl} {v : V} (h : VOk G bx H0 Z H x v) (le : Same Z H) (f : flatD x.d = true) : Dp G.K H v (toPy x.d) := by
  obtain ⟨d, k⟩ := x
  cases q : isO d with
  | false => exact Rep.dp le (h.rep q) f
  | true =>
    cases d with
    | lst ds =>
      obtain ⟨a, vs, rfl, ha, r⟩ := h.lst rfl le
      show Dp G.K H (.ref a) (toPy (.lst ds))
      rw [toPy]
      have f : flatD (.lst ds) = true := f
      exact .lst (.of ha) (RepL.dp le r (by simpa [flatD] using f))
    | ins c fs =>
      have f : flatD (.ins c fs) = true := f
      simp [flatD] at f
    | _ => cases q
end
/-! in, not in a tuple of data -/
section
variable {X : Cx}
def rInT (K : PySem.W.Frag) : R2 := fun x y H Q => ∃ d ds, Dp K H x d ∧ Dp K H y (.tuple ds) ∧ SeqAt.shaped d = true ∧ SeqAt.shaped (.tuple ds) = true ∧ Q (.bl (ds.any fun z => PyData.eqv z d)) H
def rNotInT (K : PySem.W.Frag) : R2 := fun x y H Q => ∃ d ds, Dp K H x d ∧ Dp K H y (.tuple ds) ∧ SeqAt.shaped d = true ∧ SeqAt.shaped (.tuple ds) = true ∧ Q (.bl (!ds.any fun z => PyData.eqv z d)) H
theorem room_in {d : PyData} {n u : Nat} (sd : SeqAt.shaped d = true) (hu : u + 66 < cLine) : u + 1 + min n d.depth < cLine := by
  have := SeqAt.depth_of_shaped sd
  have := Nat.min_le_right n d.depth
  omega
theorem op_inT (hu : X.A.units + 66 < cLine) : OpR X (compareOp .In) (rInT X.K) := by
  intro pins s σ H x y v u Q I rx ry h
  obtain ⟨d, ds, hd, he, sd, se, q⟩ := h
  obtain ⟨as, r1⟩ := Dp.reads I d x v hd rx
  obtain ⟨bs, r2⟩ := Dp.reads I (.tuple ds) y u he ry
  exact SeqAt.in_tuple_reads r2 r1 (SeqAt.canLay_of_shaped se) (SeqAt.canLay_of_shaped sd) (room_in sd hu) ⟨.bl _, H, I, rfl, q⟩
theorem op_notInT (hu : X.A.units + 66 < cLine) : OpR X (compareOp .NotIn) (rNotInT X.K) := by
  intro pins s σ H x y v u Q I rx ry h
  obtain ⟨d, ds, hd, he, sd, se, q⟩ := h
  obtain ⟨as, r1⟩ := Dp.reads I d x v hd rx
  obtain ⟨bs, r2⟩ := Dp.reads I (.tuple ds) y u he ry
  exact SeqAt.notIn_tuple_reads r2 r1 (SeqAt.canLay_of_shaped se) (SeqAt.canLay_of_shaped sd) (room_in sd hu) ⟨.bl _, H, I, rfl, q⟩
end

section
variable {X : Cx} {G : Gc} {W : WX} {bx : Bd} {Z H H0 : Hp} {σ : L2.St} {env : DL.Env} {Q : VK} {pins : List (Addr × PySem.Obj)} {s : Shared} {xv yv : V} {u v : Value}
/-- a value that needs nothing new -/
theorem rd_pure {d : D} {r : V} (h : Rd G W bx Z H σ (VOk G bx H0) (lift (some ⟨d, .fz⟩) env) Q) (R : Rel G bx Z env σ H) (p : Rep G Z r d) : Q r H := h r Z H .refl R p
/-- a new thing, frozen -/
theorem rd_newZ {d : D} {o : HO} (h : Rd G W bx Z H σ (VOk G bx H0) (lift (some ⟨d, .fz⟩) env) Q) (R : Rel G bx Z env σ H) (p : ∀ a, Rep G (upd Z a o) (.ref a) d ∨ (Z a = none → Rep G (upd Z a o) (.ref a) d)) : ∀ a, H a = none → Q (.ref a) (upd H a o) := fun a hn =>
  h (.ref a) (upd Z a o) (upd H a o) (.laidZ hn R.le) (R.laidZ hn) (by rcases p a with p | p; exact p; exact p (R.le.free hn))
/-- a new thing, nobody's yet -/
theorem rd_new {d : D} {o : HO} (h : Rd G W bx Z H σ (VOk G bx H0) (lift (some ⟨d, .tmp⟩) env) Q) (R : Rel G bx Z env σ H) (old : ∀ a, H a = none → H0 a = none) (p : ∀ a, ObjAt G Z (upd H a o) a d) : ∀ a, H a = none → Q (.ref a) (upd H a o) := fun a hn =>
  h (.ref a) Z (upd H a o) (.laid hn) (R.laid hn) ⟨a, rfl, R.le.free hn, old a hn, (fun z => by obtain ⟨o, e⟩ := R.bd a (.inl z); rw [hn] at e; cases e), p a⟩
theorem rd_bad {P : Hp → Hp → Vl → V → Prop} (h : Rd G W bx Z H σ P (lift none env) Q) {p : Prop} : p := False.elim h
end
end DL
set_option Elab.async false
set_option linter.all false
set_option autoImplicit false
set_option maxRecDepth 100000
set_option maxHeartbeats 1000000
namespace DL
open PySem PySem.Spec PyProof.Rows L2
theorem LIM_eq : LIM = sizeLine := by rw [sizeLine_eq]; rfl
section
variable {X : Cx} {G : Gc} {W : WX} {bx : Bd} {Z H H0 : Hp} {σ : L2.St} {env : DL.Env} {Q : VK} {pins : List (Addr × PySem.Obj)} {s : Shared} {x y : Vl} {xv yv : V} {u v : Value}
theorem add_i {i j : Int} (hx : x.d = .int i) (hy : y.d = .int j) (px : VOk G bx H0 Z H x xv) (py : VOk G bx H0 Z H y yv) : xv = .int i ∧ yv = .int j := ⟨px.int hx, py.int hy⟩
theorem bin_ok {op : Operator} (C : Ctx X G) (I : Inv X pins σ H s) (R : Rel G bx Z env σ H) (old : ∀ a, H a = none → H0 a = none) (rx : RelV xv v) (ry : RelV yv u) (px : VOk G bx H0 Z H x xv) (py : VOk G bx H0 Z H y yv)
    (h : Rd G W bx Z H σ (VOk G bx H0) (lift (binD op x.d y.d) env) Q) : wpAny (model X.prog X.w) X.A (binaryOp op v u) (EP X pins σ Q) X.xe s := by
  have hu := C.un
  unfold binD at h
  split at h
  · rename_i i j hx hy
    cases px.int hx; cases py.int hy
    exact op_add pins s σ H _ _ v u Q I rx ry ⟨i, j, rfl, rfl, rd_pure h R (.int _)⟩
  · rename_i i j hx hy
    cases px.str hx; cases py.str hy
    split at h
    · rename_i hl
      exact op_add_str pins s σ H _ _ v u Q I rx ry ⟨i, j, rfl, rfl, by rw [← LIM_eq]; exact hl, rd_pure h R (.str _)⟩
    · exact rd_bad h
  · rename_i i j hx hy
    obtain ⟨a, vs, rfl, ha, haZ, ra⟩ := px.tup hx R.le
    obtain ⟨b, ws, rfl, hb, hbZ, rb⟩ := py.tup hy R.le
    rw [C.K] at ha hb
    split at h
    · rename_i hl
      refine op_catA pins s σ H _ _ v u Q I rx ry ⟨a, b, vs, ws, rfl, rfl, ha, hb, ?_, ?_, ?_, ?_⟩
      · rw [ra.length, rb.length, ← LIM_eq]; exact hl
      · intro e; subst e; cases ra
        exact rd_pure h R (.tup hbZ rb)
      · intro _ e; subst e; cases rb
        exact rd_pure h R (by rw [List.append_nil]; exact .tup haZ ra)
      · intro _ _
        exact rd_newZ h R fun p => .inr fun zn => .tup (.inl (.inl upd_same)) ((ra.append rb).mono fun b u e => by rw [upd_ne (ne_of_none e zn)]; exact e)
    · exact rd_bad h
  · rename_i i j hx hy
    obtain ⟨a, vs, rfl, ha, ra⟩ := px.lst hx R.le
    obtain ⟨b, ws, rfl, hb, rb⟩ := py.lst hy R.le
    split at h
    · rename_i hl
      refine op_cat pins s σ H _ _ v u Q I rx ry ⟨a, b, vs, ws, rfl, rfl, ha, hb, by rw [ra.length, rb.length, ← LIM_eq]; exact hl, ?_⟩
      exact rd_new h R old fun p => ⟨_, upd_same, ra.append rb⟩
    · exact rd_bad h
  · rename_i i j hx hy
    cases px.int hx; cases py.int hy
    exact op_sub pins s σ H _ _ v u Q I rx ry ⟨i, j, rfl, rfl, rd_pure h R (.int _)⟩
  · rename_i i j hx hy
    cases px.int hx; cases py.int hy
    split at h
    · rename_i hc
      exact op_mul pins s σ H _ _ v u Q I rx ry ⟨i, j, rfl, rfl, hc, rd_pure h R (.int _)⟩
    · exact rd_bad h
  · rename_i i k hx hy
    obtain ⟨a, vs, rfl, ha, haZ, ra⟩ := px.tup hx R.le
    cases py.int hy
    rw [C.K] at ha
    split at h
    · rename_i hc
      obtain ⟨c1, c2, c3, c4⟩ := hc
      refine op_repT pins s σ H _ _ v u Q I rx ry ⟨a, k, vs, rfl, rfl, ha, ?_, c2, c3, by rw [ra.length]; exact c4, ?_⟩
      · intro e; subst e; cases ra; exact c1 rfl
      · exact rd_newZ h R fun p => .inr fun zn => .tup (.inl (.inl upd_same)) ((ra.flat k.toNat).mono fun b u e => by rw [upd_ne (ne_of_none e zn)]; exact e)
    · exact rd_bad h
  · rename_i i j hx hy
    cases px.int hx; cases py.int hy
    split at h
    · rename_i hc
      exact op_fdiv pins s σ H _ _ v u Q I rx ry ⟨i, j, rfl, rfl, hc, rd_pure h R (.int _)⟩
    · exact rd_bad h
  · rename_i i j hx hy
    cases px.int hx; cases py.int hy
    split at h
    · rename_i hc
      exact op_mod pins s σ H _ _ v u Q I rx ry ⟨i, j, rfl, rfl, hc, rd_pure h R (.int _)⟩
    · exact rd_bad h
  · rename_i i j hx hy
    cases px.int hx; cases py.int hy
    split at h
    · rename_i hc
      exact op_pow pins s σ H _ _ v u Q I rx ry ⟨i, j, rfl, rfl, hc, rd_pure h R (.int _)⟩
    · exact rd_bad h
  · exact rd_bad h
theorem int_cmp {op : CmpOp} {f : Int → Int → Bool} {i j : Int} (ho : OpR X (compareOp op) (rI0 fun i j => .bl (f i j))) (I : Inv X pins σ H s) (R : Rel G bx Z env σ H) (rx : RelV xv v) (ry : RelV yv u) (hx : x.d = .int i) (hy : y.d = .int j) (px : VOk G bx H0 Z H x xv) (py : VOk G bx H0 Z H y yv)
    (h : Rd G W bx Z H σ (VOk G bx H0) (lift (okB (f i j)) env) Q) : wpAny (model X.prog X.w) X.A (compareOp op v u) (EP X pins σ Q) X.xe s := by
  cases px.int hx; cases py.int hy
  exact ho pins s σ H _ _ v u Q I rx ry ⟨i, j, rfl, rfl, rd_pure h R (.bl _)⟩
/-- is None, of any value -/
theorem VOk.nonIff (px : VOk G bx H0 Z H x xv) : (xv = .non) ↔ x.d = .non := by
  cases q : isO x.d with
  | false =>
    have r := px.rep q
    constructor
    · intro e; subst e; cases hd : x.d <;> rw [hd] at r <;> first | rfl | cases r
    · intro e; rw [e] at r; cases r; rfl
  | true =>
    obtain ⟨d, k⟩ := x
    have q : isO d = true := q
    constructor
    · intro e
      subst e
      cases k with
      | fz =>
        cases d with
        | lst ds => cases (show Rep G Z V.non (.lst ds) from px)
        | ins c fs => cases (show Rep G Z V.non (.ins c fs) from px)
        | _ => cases q
      | tmp => obtain ⟨a, e, _⟩ := px; cases e
      | ln => obtain ⟨a, e, _⟩ := px; cases e
    · intro e
      have e : d = .non := e
      subst e; cases q
theorem cmp_ok {op : CmpOp} (C : Ctx X G) (I : Inv X pins σ H s) (R : Rel G bx Z env σ H) (rx : RelV xv v) (ry : RelV yv u) (px : VOk G bx H0 Z H x xv) (py : VOk G bx H0 Z H y yv)
    (h : Rd G W bx Z H σ (VOk G bx H0) (lift (cmpD op x.d y.d) env) Q) : wpAny (model X.prog X.w) X.A (compareOp op v u) (EP X pins σ Q) X.xe s := by
  have hu := C.un
  have hK := C.K
  have dp : ∀ {z : Vl} {zv : V}, VOk G bx H0 Z H z zv → shD z.d = true → Dp X.K H zv (toPy z.d) := fun p hs => by rw [← hK]; exact p.dp R.le (sh_flat hs)
  cases op with
  | Eq =>
    simp only [cmpD] at h
    split at h
    · rename_i hs
      rw [Bool.and_eq_true] at hs
      exact op_eqD (by omega) pins s σ H _ _ v u Q I rx ry ⟨_, _, dp px hs.1, dp py hs.2, sh_shaped hs.1, sh_shaped hs.2, by rw [eqv_py _ _ (sh_flat hs.1) (sh_flat hs.2)]; exact rd_pure h R (.bl _)⟩
    · exact rd_bad h
  | NotEq =>
    simp only [cmpD] at h
    split at h
    · rename_i hs
      rw [Bool.and_eq_true] at hs
      exact op_neD (by omega) pins s σ H _ _ v u Q I rx ry ⟨_, _, dp px hs.1, dp py hs.2, sh_shaped hs.1, sh_shaped hs.2, by rw [eqv_py _ _ (sh_flat hs.1) (sh_flat hs.2)]; exact rd_pure h R (.bl _)⟩
    · exact rd_bad h
  | Lt =>
    simp only [cmpD] at h
    split at h
    · rename_i i j hx hy; exact int_cmp op_lt I R rx ry hx hy px py h
    · exact rd_bad h
  | LtE =>
    simp only [cmpD] at h
    split at h
    · rename_i i j hx hy; exact int_cmp op_le I R rx ry hx hy px py h
    · exact rd_bad h
  | Gt =>
    simp only [cmpD] at h
    split at h
    · rename_i i j hx hy; exact int_cmp op_gt I R rx ry hx hy px py h
    · exact rd_bad h
  | GtE =>
    simp only [cmpD] at h
    split at h
    · rename_i i j hx hy; exact int_cmp op_ge I R rx ry hx hy px py h
    · exact rd_bad h
  | In =>
    simp only [cmpD] at h
    split at h
    · rename_i ds hy
      split at h
      · rename_i hs
        rw [Bool.and_eq_true] at hs
        have hl : shD y.d = true := by rw [hy]; exact hs.2
        have d2 := dp py hl
        have s2 := sh_shaped hs.2
        rw [hy] at d2
        simp only [toPy] at d2 s2
        refine op_inD (by omega) pins s σ H _ _ v u Q I rx ry ⟨_, _, dp px hs.1, d2, sh_shaped hs.1, s2, ?_⟩
        rw [toPys_any _ (sh_flat hs.1) ds (by have := sh_flat hs.2; simpa [flatD] using this)]
        exact rd_pure h R (.bl _)
      · exact rd_bad h
    · rename_i ds hy
      split at h
      · rename_i hs
        rw [Bool.and_eq_true] at hs
        have hl : shD y.d = true := by rw [hy]; exact hs.2
        have d2 := dp py hl
        have s2 := sh_shaped hs.2
        rw [hy] at d2
        simp only [toPy] at d2 s2
        refine op_inT (by omega) pins s σ H _ _ v u Q I rx ry ⟨_, _, dp px hs.1, d2, sh_shaped hs.1, s2, ?_⟩
        rw [toPys_any _ (sh_flat hs.1) ds (by have := sh_flat hs.2; simpa [flatD] using this)]
        exact rd_pure h R (.bl _)
      · exact rd_bad h
    · exact rd_bad h
  | NotIn =>
    simp only [cmpD] at h
    split at h
    · rename_i ds hy
      split at h
      · rename_i hs
        rw [Bool.and_eq_true] at hs
        have hl : shD y.d = true := by rw [hy]; exact hs.2
        have d2 := dp py hl
        have s2 := sh_shaped hs.2
        rw [hy] at d2
        simp only [toPy] at d2 s2
        refine op_notInD (by omega) pins s σ H _ _ v u Q I rx ry ⟨_, _, dp px hs.1, d2, sh_shaped hs.1, s2, ?_⟩
        rw [toPys_any _ (sh_flat hs.1) ds (by have := sh_flat hs.2; simpa [flatD] using this)]
        exact rd_pure h R (.bl _)
      · exact rd_bad h
    · rename_i ds hy
      split at h
      · rename_i hs
        rw [Bool.and_eq_true] at hs
        have hl : shD y.d = true := by rw [hy]; exact hs.2
        have d2 := dp py hl
        have s2 := sh_shaped hs.2
        rw [hy] at d2
        simp only [toPy] at d2 s2
        refine op_notInT (by omega) pins s σ H _ _ v u Q I rx ry ⟨_, _, dp px hs.1, d2, sh_shaped hs.1, s2, ?_⟩
        rw [toPys_any _ (sh_flat hs.1) ds (by have := sh_flat hs.2; simpa [flatD] using this)]
        exact rd_pure h R (.bl _)
      · exact rd_bad h
    · exact rd_bad h
  | Is =>
    simp only [cmpD] at h
    split at h
    · rename_i a b hx hy
      cases px.bl hx; cases py.bl hy
      exact op_isBl pins s σ H _ _ v u Q I rx ry ⟨a, b, rfl, rfl, rd_pure h R (.bl _)⟩
    · rename_i _ hy
      have ey : yv = .non := py.nonIff.mpr hy
      refine op_isN pins s σ H _ _ v u Q I rx ry ⟨ey, ?_⟩
      split at h
      · rename_i hx
        rw [decide_eq_true (px.nonIff.mpr hx)]
        exact rd_pure h R (.bl _)
      · rename_i hx
        rw [decide_eq_false (fun e => hx (px.nonIff.mp e))]
        exact rd_pure h R (.bl _)
    · exact rd_bad h
    · exact rd_bad h
  | IsNot =>
    simp only [cmpD] at h
    split at h
    · rename_i a b hx hy
      cases px.bl hx; cases py.bl hy
      exact op_notBl pins s σ H _ _ v u Q I rx ry ⟨a, b, rfl, rfl, rd_pure h R (.bl _)⟩
    · rename_i _ hy
      have ey : yv = .non := py.nonIff.mpr hy
      refine op_notN pins s σ H _ _ v u Q I rx ry ⟨ey, ?_⟩
      split at h
      · rename_i hx
        rw [decide_eq_true (px.nonIff.mpr hx)]
        exact rd_pure h R (.bl _)
      · rename_i hx
        rw [decide_eq_false (fun e => hx (px.nonIff.mp e))]
        exact rd_pure h R (.bl _)
    · exact rd_bad h
end
end DL
set_option Elab.async false
set_option linter.all false
set_option autoImplicit false
set_option maxRecDepth 100000
set_option maxHeartbeats 1000000
namespace DL
open PySem PySem.Spec PyProof.Rows L2
abbrev PEx (X : Cx) (G : Gc) (W : WX) (e : Expr) (c : E) : Prop := PE X e (tE G W c)
/-- items that are looked at -/
def PkL (G : Gc) (bx : Bd) (Z H : Hp) : List D → List V → Prop
  | [], [] => True
  | d :: ds, v :: vs => (∃ k, VOk G bx H Z H ⟨d, k⟩ v ∧ k ≠ .tmp) ∧ PkL G bx Z H ds vs
  | _, _ => False
theorem VOk.pk {G : Gc} {bx : Bd} {H0 Z H : Hp} {x : Vl} {v : V} (h : VOk G bx H0 Z H x v) : ∃ k, VOk G bx H Z H ⟨x.d, k⟩ v ∧ k ≠ .tmp := by
  obtain ⟨d, k⟩ := x
  cases k with
  | fz => exact ⟨.fz, h, by decide⟩
  | tmp => obtain ⟨a, e1, zn, hn, nb, o⟩ := h; exact ⟨.ln, ⟨a, e1, nb, o⟩, by decide⟩
  | ln => exact ⟨.ln, h, by decide⟩
theorem PkL.ext {G : Gc} {bx : Bd} {Z H Z' H' : Hp} (e : Ext bx Z H Z' H') : ∀ {ds : List D} {vs : List V}, PkL G bx Z H ds vs → PkL G bx Z' H' ds vs
  | [], [], _ => trivial
  | d :: ds, v :: vs, ⟨⟨k, h, hk⟩, r⟩ => ⟨⟨k, by cases k <;> first | exact absurd rfl hk | exact (VOk.ext (x := ⟨d, _⟩) h e), hk⟩, PkL.ext e r⟩
  | [], _ :: _, h => h.elim
  | _ :: _, [], h => h.elim
/-- items that are kept -/
def tEs (G : Gc) (W : WX) (cs : List E) : TA := fun σ H Q => ∃ bx Z env, Rel G bx Z env σ H ∧ Rd G W bx Z H σ (fun Z' _ ds vs => RepL G Z' vs ds) (evs cs env) Q
def tEp (G : Gc) (W : WX) (cs : List E) : TA := fun σ H Q => ∃ bx Z env, Rel G bx Z env σ H ∧ Rd G W bx Z H σ (fun Z' H' ds vs => PkL G bx Z' H' ds vs) (evp cs env) Q
section
variable {X : Cx} {G : Gc} {W : WX} {pos : Pos}
theorem PE.imp {e : Expr} {t t' : TE} (h : PE X e t) (i : ∀ σ H Q, t' σ H Q → t σ H Q) : PE X e t' := ⟨fun pins s σ H Q I q => h.run pins s σ H Q I (i _ _ _ q)⟩
theorem PA.imp {e : List Expr} {t t' : TA} (h : PA X e t) (i : ∀ σ H Q, t' σ H Q → t σ H Q) : PA X e t' := ⟨fun pos pins s σ H Q I q => h.run pos pins s σ H Q I (i _ _ _ q)⟩
/-- a sub-expression in its place -/
theorem sub1 {c : E} {bx : Bd} {Z H H0 : Hp} {env : DL.Env} {σ : L2.St} {γ δ : Type} {P' : Hp → Hp → γ → δ → Prop} {f : Vl → DL.Env → R γ} {Q : δ → Hp → Prop} (Re : Rel G bx Z env σ H) (h : Rd G W bx Z H σ P' ((ev c env).bind f) Q) :
    tE G W c σ H (fun v H1 => ∃ Z1 env1 x, Ext bx Z H Z1 H1 ∧ Rel G bx Z1 env1 σ H1 ∧ VOk G bx H Z1 H1 x v ∧ Rd G W bx Z1 H1 σ P' (f x env1) Q) := ⟨bx, Z, env, Re, h.bind⟩
theorem VOk.from_ {bx : Bd} {H0 Z H Z1 H1 : Hp} {x : Vl} {v : V} (h : VOk G bx H1 Z1 H1 x v) : True := trivial
/-! names, constants -/
theorem snd_var {i : Nat} {x : Str} (hN : X.N[i]? = some x) (hv : Vis X.env.scope x) (hd : (x == ("__debug__" : Str)) = false) (hcd : (x == ("__classdict__" : Str)) = false) : PEx X G W (.Name x pos) (.var i) := by
  refine PE.imp (pe_var hN hv hd hcd) fun σ H Q h => ?_
  obtain ⟨bx, Z, env, Re, h⟩ := h
  simp only [ev] at h
  cases q : env[i]? with
  | none => rw [q] at h; exact False.elim h
  | some s =>
    rw [q] at h
    cases s with
    | val d =>
      obtain ⟨v, e, r⟩ := Re.get_val q
      exact ⟨v, e, h v Z H .refl Re r⟩
    | own d =>
      obtain ⟨a, e, zn, o⟩ := Re.slot i _ q
      exact ⟨.ref a, Re.get_ref q e, h (.ref a) Z H .refl Re ⟨a, rfl, Re.own i d a q e, o⟩⟩
    | un => exact False.elim h
    | box d => exact False.elim h
    | exc c d => exact False.elim h
theorem snd_cst {e : Expr} {v : V} {d : D} (h : PE X e (tC v)) (r : ∀ Z, Rep G Z v d) : PEx X G W e (.cst d) := by
  refine PE.imp h fun σ H Q h => ?_
  obtain ⟨bx, Z, env, Re, h⟩ := h
  exact h v Z H .refl Re (r Z)
/-! two at once -/
theorem snd_bin {op : Operator} {a b : Expr} {ca cb : E} (C : Ctx X G) (ha : PEx X G W a ca) (hb : PEx X G W b cb) : PEx X G W (.BinOp a op b pos) (.bin op ca cb) := by
  refine ⟨fun pins s σ H Q I h => ?_⟩
  obtain ⟨bx, Z, env, Re, h⟩ := h
  simp only [ev] at h
  refine wpAny_BinOp (thn (ha.run pins s σ H _ I (sub1 (H0 := H) Re h)) fun v s1 ⟨x, H1, I1, r1, Z1, env1, xd, e1, R1, p1, h1⟩ => ?_)
  refine thn (hb.run pins s1 σ H1 _ I1 (sub1 (H0 := H) R1 h1)) fun u s2 ⟨y, H2, I2, r2, Z2, env2, yd, e2, R2, p2, h2⟩ => ?_
  exact bin_ok C I2 R2 (fun a q => e1.gone (e2.gone q)) r1 r2 (p1.ext e2) (p2.older fun a q => e1.gone q) h2
theorem snd_cmp {op : CmpOp} {a b : Expr} {ca cb : E} (C : Ctx X G) (hm : behindInMarks op b = false) (ha : PEx X G W a ca) (hb : PEx X G W b cb) : PEx X G W (.Compare a [op] [b] pos) (.cmp op ca cb) := by
  refine ⟨fun pins s σ H Q I h => ?_⟩
  obtain ⟨bx, Z, env, Re, h⟩ := h
  simp only [ev] at h
  refine wpAny_Compare1 (thn (ha.run pins s σ H _ I (sub1 (H0 := H) Re h)) fun v s1 ⟨x, H1, I1, r1, Z1, env1, xd, e1, R1, p1, h1⟩ => ?_) hm
  refine thn (hb.run pins s1 σ H1 _ I1 (sub1 (H0 := H) R1 h1)) fun u s2 ⟨y, H2, I2, r2, Z2, env2, yd, e2, R2, p2, h2⟩ => ?_
  exact cmp_ok C I2 R2 r1 r2 (p1.ext e2) (p2.older fun a q => e1.gone q) h2
/-- a comparison's answer is a bool -/
theorem cmpD_bl {op : CmpOp} {x y : D} {z : Vl} (h : cmpD op x y = some z) : ∃ b, z = ⟨.bl b, .fz⟩ := by
  unfold cmpD okB at h
  repeat' split at h
  all_goals first
    | (cases h; done)
    | (cases h; exact ⟨_, rfl⟩)
theorem snd_cmp2 {op op' : CmpOp} {a b c : Expr} {ca cb cc : E} (C : Ctx X G) (hm : lastMarks [op, op'] [b, c] = false) (ha : PEx X G W a ca) (hb : PEx X G W b cb) (hc : PEx X G W c cc) : PEx X G W (.Compare a [op, op'] [b, c] pos) (.cmp2 op op' ca cb cc) := by
  refine ⟨fun pins s σ H Q I h => ?_⟩
  obtain ⟨bx, Z, env, Re, h⟩ := h
  simp only [ev] at h
  refine Compare_chain (thn (ha.run pins s σ H _ I (sub1 (H0 := H) Re h)) fun v s1 ⟨x, H1, I1, r1, Z1, env1, xd, e1, R1, p1, h1⟩ => chain_link ?_) hm
  refine thn (hb.run pins s1 σ H1 _ I1 (sub1 (H0 := H) R1 h1)) fun u s2 ⟨y, H2, I2, r2, Z2, env2, yd, e2, R2, p2, h2⟩ => ?_
  have p1' := p1.ext e2
  have p2' := VOk.older (H0 := H) p2 fun a q => e1.gone q
  cases q : cmpD op xd.d yd.d with
  | none => rw [q] at h2; exact False.elim h2
  | some z =>
    obtain ⟨k, rfl⟩ := cmpD_bl q
    rw [q] at h2
    have go := cmp_ok (op := op) (W := W) (Q := fun z' H' => z' = .bl k ∧ ∃ Z', Ext bx Z2 H2 Z' H' ∧ Rel G bx Z' env2 σ H') C I2 R2 r1 r2 p1' p2' (by
      rw [q]
      intro v' Z' H' e R' p
      have p : Rep G Z' v' (.bl k) := p
      cases p
      exact ⟨rfl, Z', e, R'⟩)
    refine thn go fun d s3 ⟨z, H3, I3, r3, e3, Z3, x3, R3⟩ => ?_
    subst e3
    cases r3
    refine wpAny_truthy_bool ?_
    cases k with
    | false => exact ite_ff ⟨.bl false, H3, I3, rfl, h2 (.bl false) Z3 H3 x3 R3 (Rep.bl false)⟩
    | true =>
      have h3 := Rd.ext (r := (ev cc env2).bind fun z env => lift (cmpD op' yd.d z.d) env) h2 x3
      refine ite_tt (chain_last (thn (hc.run pins s3 σ H3 _ I3 (sub1 (H0 := H) R3 h3)) fun w' s4 ⟨z', H4, I4, r4, Z4, env4, zd, e4, R4, p4, h4⟩ => ?_))
      exact cmp_ok C I4 R4 r2 r4 ((p2'.ext x3).ext e4) (p4.older fun a q => e1.gone (e2.gone (x3.gone q))) h4
theorem snd_neg {a : Expr} {ca : E} (ha : PEx X G W a ca) : PEx X G W (.UnaryOp .USub a pos) (.neg ca) := by
  refine ⟨fun pins s σ H Q I h => ?_⟩
  obtain ⟨bx, Z, env, Re, h⟩ := h
  simp only [ev] at h
  refine UnaryOp_ (thn (ha.run pins s σ H _ I (sub1 (H0 := H) Re h)) fun v s1 ⟨x, H1, I1, r1, Z1, env1, xd, e1, R1, p1, h1⟩ => ?_)
  split at h1
  · rename_i i hx
    cases p1.int hx
    exact un_neg pins s1 σ H1 _ v Q I1 r1 ⟨i, rfl, h1 _ _ _ .refl R1 (Rep.int _)⟩
  · exact False.elim h1
/-- a value's truth -/
theorem tru_of {bx : Bd} {H0 Z H : Hp} {x : Vl} {xv : V} {b : Bool} (hK : G.K = X.K) (le : Same Z H) (p : VOk G bx H0 Z H x xv) (h : truD x.d = some b) : TruV X.K xv H b := by
  obtain ⟨d, k⟩ := x
  cases d with
  | non => cases p.rep rfl; cases h; rfl
  | bl c => cases p.rep rfl; cases h; rfl
  | int i => cases p.rep rfl; cases h; rfl
  | str _ => cases h
  | src _ => cases h
  | ins _ _ => cases h
  | exv _ _ => cases h
  | tup ds =>
    obtain ⟨a, vs, rfl, ha, _, r⟩ := p.tup rfl le
    rw [hK] at ha
    refine .inr (.inl ⟨vs, ha, ?_⟩)
    cases h
    cases r <;> rfl
  | lst ds =>
    obtain ⟨a, vs, rfl, ha, r⟩ := p.lst rfl le
    refine .inl ⟨vs, .of ha, ?_⟩
    cases h
    cases r <;> rfl
def tTr (G : Gc) (W : WX) (c : E) : TT := fun σ H Q => ∃ bx Z env, Rel G bx Z env σ H ∧ Rd G W bx Z H σ (fun _ _ b b' => b = b') ((ev c env).bind fun x env => match truD x.d with
  | some b => .ok b env
  | none => .bad) Q
abbrev PTx (X : Cx) (G : Gc) (W : WX) (e : Expr) (c : E) : Prop := PT X e (tTr G W c)
/-- a test by its value -/
theorem snd_tv {a : Expr} {ca : E} (C : Ctx X G) (ha : PEx X G W a ca) (he : ∀ whole, isTrue a X.env whole = (do let v ← whole; standAt a.pos; holding [v] (truthy v))) : PTx X G W a ca := by
  refine ⟨fun pins s σ H Q I h => ?_⟩
  obtain ⟨bx, Z, env, Re, h⟩ := h
  refine isTrue_plain (thn (ha.run pins s σ H _ I (sub1 (H0 := H) Re h)) fun v s1 ⟨x, H1, I1, r1, Z1, env1, xd, e1, R1, p1, h1⟩ => ?_) (he _)
  cases q : truD xd.d with
  | none => rw [q] at h1; exact False.elim h1
  | some b =>
    rw [q] at h1
    exact tru_ok pins s1 σ H1 x v Q I1 r1 ⟨b, tru_of C.K R1.le p1 q, h1 b Z1 H1 .refl R1 rfl⟩
theorem snd_not {a : Expr} {ca : E} (C : Ctx X G) (ha : PEx X G W a ca) : PEx X G W (.UnaryOp .Not a pos) (.not ca) := by
  refine ⟨fun pins s σ H Q I h => ?_⟩
  obtain ⟨bx, Z, env, Re, h⟩ := h
  simp only [ev] at h
  refine UnaryOp_ (thn (ha.run pins s σ H _ I (sub1 (H0 := H) Re h)) fun v s1 ⟨x, H1, I1, r1, Z1, env1, xd, e1, R1, p1, h1⟩ => ?_)
  cases q : truD xd.d with
  | none => rw [q] at h1; exact False.elim h1
  | some b =>
    rw [q] at h1
    refine not_of (thn (tru_ok pins s1 σ H1 x v (fun b' H' => b' = b ∧ H' = H1) I1 r1 ⟨b, tru_of C.K R1.le p1 q, rfl, rfl⟩) fun b' s2 ⟨H2, I2, e2, e3⟩ => ?_)
    subst e2 e3
    exact ⟨.bl (!b'), H2, I2, rfl, h1 (.bl (!b')) Z1 H2 .refl R1 (Rep.bl _)⟩
/-- not, as a test -/
theorem sndT_not {a : Expr} {ca : E} (ha : PTx X G W a ca) : PTx X G W (.UnaryOp .Not a pos) (.not ca) := by
  refine ⟨fun pins s σ H Q I h => ?_⟩
  obtain ⟨bx, Z, env, Re, h⟩ := h
  refine isTrue_not (thn (ha.run pins s σ H (fun b H' => Q (!b) H') I ⟨bx, Z, env, Re, ?_⟩) fun b s1 ⟨H1, I1, q⟩ => ⟨H1, I1, q⟩)
  simp only [ev] at h
  cases q : ev ca env with
  | ok x env1 =>
    rw [q] at h
    simp only [R.bind] at h ⊢
    cases q2 : truD x.d with
    | none => rw [q2] at h; exact False.elim h
    | some b =>
      rw [q2] at h
      intro v Z' H' e R' p
      subst p
      exact h (!b) Z' H' e R' rfl
  | exn c d env1 => rw [q] at h; exact h
  | bad => rw [q] at h; exact False.elim h
theorem Rd.bool {bx : Bd} {Z H : Hp} {σ : L2.St} {b : Bool} {env : DL.Env} {Q : Bool → Hp → Prop} (h : Rd G W bx Z H σ (fun _ _ b b' => b = b') (.ok b env) Q) {H' Z' : Hp} (e : Ext bx Z H Z' H') (R' : Rel G bx Z' env σ H') : Q b H' := h b Z' H' e R' rfl
/-- a test by value of what is a bool -/
theorem sndT_cmp {op : CmpOp} {a b : Expr} {ca cb : E} (hm : behindInMarks op b = false) (h : PEx X G W (.Compare a [op] [b] pos) (.cmp op ca cb)) (C : Ctx X G) (ha : PEx X G W a ca) (hb : PEx X G W b cb) : PTx X G W (.Compare a [op] [b] pos) (.cmp op ca cb) := by
  refine ⟨fun pins s σ H Q I h => ?_⟩
  obtain ⟨bx, Z, env, Re, h⟩ := h
  simp only [ev] at h
  have h' : Rd G W bx Z H σ (fun _ _ b b' => b = b') ((ev ca env).bind fun x env => (ev cb env).bind fun y env => (lift (cmpD op x.d y.d) env).bind fun z env => match truD z.d with
    | some b => .ok b env
    | none => .bad) Q := by
    cases q : ev ca env with
    | ok x env1 =>
      rw [q] at h
      simp only [R.bind] at h ⊢
      cases q' : ev cb env1 <;> (rw [q'] at h; exact h)
    | exn c d env1 => rw [q] at h; exact h
    | bad => rw [q] at h; exact h
  refine wpAny_isTrue_Compare1 (thn (ha.run pins s σ H _ I (sub1 (H0 := H) Re h')) fun v s1 ⟨x, H1, I1, r1, Z1, env1, xd, e1, R1, p1, h1⟩ => ?_) hm
  refine thn (hb.run pins s1 σ H1 _ I1 (sub1 (H0 := H) R1 h1)) fun u s2 ⟨y, H2, I2, r2, Z2, env2, yd, e2, R2, p2, h2⟩ => ?_
  have p1' := p1.ext e2
  have p2' := VOk.older (H0 := H) p2 fun a q => e1.gone q
  cases q : cmpD op xd.d yd.d with
  | none => rw [q] at h2; exact False.elim h2
  | some z =>
    obtain ⟨k, rfl⟩ := cmpD_bl q
    rw [q] at h2
    have go := cmp_ok (op := op) (W := W) (Q := fun z' H' => z' = .bl k ∧ ∃ Z', Ext bx Z2 H2 Z' H' ∧ Rel G bx Z' env2 σ H') C I2 R2 r1 r2 p1' p2' (by
      rw [q]
      intro v' Z' H' e R' p
      have p : Rep G Z' v' (.bl k) := p
      cases p
      exact ⟨rfl, Z', e, R'⟩)
    refine thn go fun d s3 ⟨z, H3, I3, r3, e3, Z3, x3, R3⟩ => ?_
    subst e3
    cases r3
    exact wpAny_truthy_bool ⟨H3, I3, h2 k Z3 H3 x3 R3 rfl⟩
/-! and, or -/
theorem snd_and {a b : Expr} {rest : List Expr} {ca cb : E} (ha : PEx X G W a ca) (hb : PEx X G W (.BoolOp .And (b :: rest) pos) cb) : PEx X G W (.BoolOp .And (a :: b :: rest) pos) (.and ca cb) := by
  refine PE.imp (pe_and ha hb) fun σ H Q h => ?_
  obtain ⟨bx, Z, env, Re, h⟩ := h
  simp only [ev] at h
  obtain ⟨bx', Z', env', Re', q⟩ := sub1 (H0 := H) Re h
  refine ⟨bx', Z', env', Re', q.imp (fun _ _ _ _ _ p => p) fun v H1 ⟨Z1, env1, xd, e1, R1, p1, h1⟩ => ?_⟩
  split at h1
  · rename_i hx
    cases p1.bl hx
    refine ⟨true, rfl, ?_⟩
    rw [if_pos rfl]
    obtain ⟨bx2, Z2, env2, Re2, q2⟩ := sub1 (H0 := H) R1 h1
    refine ⟨bx2, Z2, env2, Re2, q2.imp (fun _ _ _ _ _ p => p) fun v H2 ⟨Z3, env3, yd, e3, R3, p3, h3⟩ => ?_⟩
    split at h3
    · rename_i k hy
      cases p3.bl hy
      exact h3 (.bl k) Z3 H2 .refl R3 (Rep.bl _)
    · exact False.elim h3
  · rename_i hx
    cases p1.bl hx
    refine ⟨false, rfl, ?_⟩
    rw [if_neg Bool.false_ne_true]
    exact h1 (.bl false) Z1 H1 .refl R1 (Rep.bl _)
  · exact False.elim h1
theorem snd_or {a b : Expr} {rest : List Expr} {ca cb : E} (ha : PEx X G W a ca) (hb : PEx X G W (.BoolOp .Or (b :: rest) pos) cb) : PEx X G W (.BoolOp .Or (a :: b :: rest) pos) (.or ca cb) := by
  refine PE.imp (pe_or ha hb) fun σ H Q h => ?_
  obtain ⟨bx, Z, env, Re, h⟩ := h
  simp only [ev] at h
  obtain ⟨bx', Z', env', Re', q⟩ := sub1 (H0 := H) Re h
  refine ⟨bx', Z', env', Re', q.imp (fun _ _ _ _ _ p => p) fun v H1 ⟨Z1, env1, xd, e1, R1, p1, h1⟩ => ?_⟩
  split at h1
  · rename_i hx
    cases p1.bl hx
    refine ⟨false, rfl, ?_⟩
    rw [if_neg Bool.false_ne_true]
    obtain ⟨bx2, Z2, env2, Re2, q2⟩ := sub1 (H0 := H) R1 h1
    refine ⟨bx2, Z2, env2, Re2, q2.imp (fun _ _ _ _ _ p => p) fun v H2 ⟨Z3, env3, yd, e3, R3, p3, h3⟩ => ?_⟩
    split at h3
    · rename_i k hy
      cases p3.bl hy
      exact h3 (.bl k) Z3 H2 .refl R3 (Rep.bl _)
    · exact False.elim h3
  · rename_i hx
    cases p1.bl hx
    refine ⟨true, rfl, ?_⟩
    rw [if_pos rfl]
    exact h1 (.bl true) Z1 H1 .refl R1 (Rep.bl _)
  · exact False.elim h1
theorem snd_ite {c a b : Expr} {cc ca cb : E} (hc : PTx X G W c cc) (ha : PEx X G W a ca) (hb : PEx X G W b cb) : PEx X G W (.IfExp c a b pos) (.ite cc ca cb) := by
  refine PE.imp (pe_ifExp hc ha hb) fun σ H Q h => ?_
  obtain ⟨bx, Z, env, Re, h⟩ := h
  simp only [ev] at h
  refine ⟨bx, Z, env, Re, ?_⟩
  cases q : ev cc env with
  | ok x env1 =>
    rw [q] at h
    simp only [R.bind] at h ⊢
    cases q2 : truD x.d with
    | none => rw [q2] at h; exact False.elim h
    | some k =>
      rw [q2] at h
      intro k' Z' H' e R' p
      subst p
      cases k with
      | true => rw [if_pos rfl]; exact ⟨bx, Z', env1, R', (h.ext e).imp (fun _ _ _ _ _ p => p.older fun a q => e.gone q) fun _ _ q => q⟩
      | false => rw [if_neg Bool.false_ne_true]; exact ⟨bx, Z', env1, R', (h.ext e).imp (fun _ _ _ _ _ p => p.older fun a q => e.gone q) fun _ _ q => q⟩
  | exn c d env1 => rw [q] at h; exact h
  | bad => rw [q] at h; exact False.elim h
end
end DL
set_option Elab.async false
set_option linter.all false
set_option autoImplicit false
set_option maxRecDepth 100000
set_option maxHeartbeats 1000000
namespace DL
open PySem PySem.Spec PyProof.Rows L2
section
variable {X : Cx} {G : Gc} {W : WX} {pos : Pos}
theorem sub1o {c : E} {bx : Bd} {Z H : Hp} {env : DL.Env} {σ : L2.St} {γ δ : Type} {P' : Hp → Hp → γ → δ → Prop} {f : Vl → DL.Env → R γ} {Q : δ → Hp → Prop} (Re : Rel G bx Z env σ H) (h : Rd G W bx Z H σ P' ((ev c env).bind f) Q) :
    tE G W c σ H (fun v H1 => ∃ Z1 env1 x, Ext bx Z H Z1 H1 ∧ Rel G bx Z1 env1 σ H1 ∧ VOk G bx H Z1 H1 x v ∧ Rd G W bx Z H σ P' (f x env1) Q) := ⟨bx, Z, env, Re, h.bind0⟩
/-! lists of expressions -/
theorem spa_nil : PA X [] (tEs G W []) := PA.imp pa_nil fun σ H Q ⟨bx, Z, env, Re, h⟩ => by
  simp only [evs] at h
  exact h [] Z H .refl Re .nil
theorem spa_cons {e : Expr} {es : List Expr} {c : E} {cs : List E} (ha : PEx X G W e c) (hr : PA X es (tEs G W cs)) (hs : starEach (e :: es) X.env = (false, eval e X.env) :: starEach es X.env) : PA X (e :: es) (tEs G W (c :: cs)) := by
  refine PA.imp (pa_cons ha hr hs) fun σ H Q ⟨bx, Z, env, Re, h⟩ => ?_
  simp only [evs] at h
  obtain ⟨b', Z', e', R', q⟩ := sub1o Re h
  refine ⟨b', Z', e', R', q.imp (fun _ _ _ _ _ p => p) fun v H1 ⟨Z1, env1, x, e1, R1, p1, h1⟩ => ?_⟩
  split at h1
  · exact False.elim h1
  · rename_i hk
    obtain ⟨Z2, e2, R2, s2, r2⟩ := p1.freeze Re.bd e1 R1 hk
    have h2 := Rd.bind0 (P := fun Z' _ ds vs => RepL G Z' vs ds) (h1.ext e2)
    refine ⟨bx, Z2, env1, R2, h2.imp (fun _ _ _ _ _ p => p) fun vs H3 ⟨Z3, env3, ds, e3, R3, p3, h3⟩ => ?_⟩
    exact h3 (v :: vs) Z3 H3 e3 R3 (.cons (r2.mono e3.z) p3)
theorem spp_nil : PA X [] (tEp G W []) := PA.imp pa_nil fun σ H Q ⟨bx, Z, env, Re, h⟩ => by
  simp only [evp] at h
  exact h [] Z H .refl Re trivial
theorem VOk.toPk {bx : Bd} {H0 Z H : Hp} {x : Vl} {v : V} (h : VOk G bx H0 Z H x v) : ∃ k, VOk G bx H Z H ⟨x.d, k⟩ v ∧ k ≠ .tmp := h.pk
theorem spp_cons {e : Expr} {es : List Expr} {c : E} {cs : List E} (ha : PEx X G W e c) (hr : PA X es (tEp G W cs)) (hs : starEach (e :: es) X.env = (false, eval e X.env) :: starEach es X.env) : PA X (e :: es) (tEp G W (c :: cs)) := by
  refine PA.imp (pa_cons ha hr hs) fun σ H Q ⟨bx, Z, env, Re, h⟩ => ?_
  simp only [evp] at h
  obtain ⟨b', Z', e', R', q⟩ := sub1o Re h
  refine ⟨b', Z', e', R', q.imp (fun _ _ _ _ _ p => p) fun v H1 ⟨Z1, env1, x, e1, R1, p1, h1⟩ => ?_⟩
  have h2 := Rd.bind0 (P := fun Z' H' ds vs => PkL G bx Z' H' ds vs) (h1.ext e1)
  refine ⟨bx, Z1, env1, R1, h2.imp (fun _ _ _ _ _ p => p) fun vs H3 ⟨Z3, env3, ds, e3, R3, p3, h3⟩ => ?_⟩
  obtain ⟨k, p, hk⟩ := p1.pk
  refine h3 (v :: vs) Z3 H3 e3 R3 ⟨⟨k, ?_, hk⟩, p3⟩
  cases k with
  | fz => exact VOk.ext (x := ⟨_, .fz⟩) p e3
  | tmp => exact absurd rfl hk
  | ln => exact VOk.ext (x := ⟨_, .ln⟩) p e3
theorem small1000' {n : Nat} (h : n ≤ 1000) : n ≤ sizeLine := Nat.le_of_lt (small1000 h)
theorem evs_len : ∀ {cs : List E} {env env' : DL.Env} {ds : List D}, evs cs env = .ok ds env' → ds.length = cs.length
  | [], env, env', ds, h => by simp only [evs] at h; cases h; rfl
  | c :: cs, env, env', ds, h => by
    simp only [evs] at h
    cases q : ev c env with
    | ok x env1 =>
      rw [q] at h
      simp only [R.bind] at h
      split at h
      · cases h
      · cases q2 : evs cs env1 with
        | ok es env2 =>
          rw [q2] at h
          cases h
          simp [evs_len q2]
        | exn _ _ _ => rw [q2] at h; cases h
        | bad => rw [q2] at h; cases h
    | exn _ _ _ => rw [q] at h; cases h
    | bad => rw [q] at h; cases h
/-- the length is known too -/
theorem tEs_len {cs : List E} {bx : Bd} {Z H : Hp} {env : DL.Env} {σ : L2.St} {γ δ : Type} {P' : Hp → Hp → γ → δ → Prop} {f : List D → DL.Env → R γ} {Q : δ → Hp → Prop} (Re : Rel G bx Z env σ H) (h : Rd G W bx Z H σ P' ((evs cs env).bind f) Q) :
    tEs G W cs σ H (fun vs H1 => vs.length = cs.length ∧ ∃ Z1 env1 ds, Ext bx Z H Z1 H1 ∧ Rel G bx Z1 env1 σ H1 ∧ RepL G Z1 vs ds ∧ Rd G W bx Z H σ P' (f ds env1) Q) := by
  refine ⟨bx, Z, env, Re, ?_⟩
  cases q : evs cs env with
  | ok ds env1 =>
    rw [q] at h
    intro vs Z' H' e R' p
    exact ⟨by rw [p.length, evs_len q], Z', env1, ds, e, R', p, h⟩
  | exn c d env1 => rw [q] at h; exact h
  | bad => rw [q] at h; exact h
theorem snd_tup {es : List Expr} {cs : List E} {k : Nat} (hp : PA X es (tEs G W cs)) (hl : cs.length ≤ 1000) : PEx X G W (.Tuple es k pos) (.tup cs) := by
  refine PE.imp (pe_tup hp) fun σ H Q ⟨bx, Z, env, Re, h⟩ => ?_
  simp only [ev] at h
  obtain ⟨b', Z', e', R', q⟩ := tEs_len Re h
  refine ⟨b', Z', e', R', q.imp (fun _ _ _ _ _ p => p) fun vs H1 ⟨hvl, Z1, env1, ds, e1, R1, p1, h1⟩ => ⟨small1000' (by rw [hvl]; exact hl), ?_⟩⟩
  exact rd_newZ (h1.ext e1 : Rd G W bx Z1 H1 σ (VOk G bx H) (lift (some ⟨.tup ds, .fz⟩) env1) Q) R1 fun a => .inr fun zn => .tup (.inl (.inl upd_same)) (p1.mono fun b u e => by rw [upd_ne (ne_of_none e zn)]; exact e)
theorem snd_lst {es : List Expr} {cs : List E} (hp : PA X es (tEs G W cs)) (hl : cs.length ≤ 1000) : PEx X G W (.List es pos) (.lst cs) := by
  refine PE.imp (pe_lst hp) fun σ H Q ⟨bx, Z, env, Re, h⟩ => ?_
  simp only [ev] at h
  obtain ⟨b', Z', e', R', q⟩ := tEs_len Re h
  refine ⟨b', Z', e', R', q.imp (fun _ _ _ _ _ p => p) fun vs H1 ⟨hvl, Z1, env1, ds, e1, R1, p1, h1⟩ => ⟨small1000' (by rw [hvl]; exact hl), ?_⟩⟩
  exact rd_new (h1.ext e1 : Rd G W bx Z1 H1 σ (VOk G bx H) (lift (some ⟨.lst ds, .tmp⟩) env1) Q) R1 (fun a q => e1.gone q) fun a => ⟨vs, upd_same, p1⟩
/-! items -/
theorem atI_of {ds : List D} {vs : List V} {Z : Hp} {i : Int} {j : Nat} {d : D} (r : RepL G Z vs ds) (h1 : DL.ixN ds.length i = some j) (h2 : ds[j]? = some d) : ∃ v, atI vs i = some v ∧ Rep G Z v d := by
  obtain ⟨v, e, q⟩ := r.get h2
  refine ⟨v, ?_, q⟩
  unfold atI
  have : L2.ixN vs.length i = some j := by rw [r.length]; exact h1
  rw [this]
  exact e
theorem sub_r {bx : Bd} {Z H H0 : Hp} {env : DL.Env} {σ : L2.St} {Q : VK} {x y : Vl} {xv yv : V} (C : Ctx X G) (R : Rel G bx Z env σ H) (px : VOk G bx H0 Z H x xv) (py : VOk G bx H0 Z H y yv) {P : Hp → Hp → Vl → V → Prop} (hP : ∀ v d, Rep G Z v d → P Z H ⟨d, .fz⟩ v)
    (h : Rd G W bx Z H σ P (lift (subD x.d y.d) env) Q) : rIx X.K xv yv H Q := by
  have done : ∀ {v : V} {d : D}, Rep G Z v d → Rd G W bx Z H σ P (lift (some ⟨d, .fz⟩) env) Q → Q v H := fun r h => h _ Z H .refl R (hP _ _ r)
  unfold subD at h
  split at h
  · rename_i ds i hx hy
    obtain ⟨a, vs, rfl, ha, ra⟩ := px.lst hx R.le
    cases py.int hy
    cases q : DL.ixN ds.length i with
    | none => rw [q] at h; exact False.elim h
    | some j =>
      rw [q] at h
      cases q2 : ds[j]? with
      | none => simp only [Option.bind, q2, Option.map] at h; exact False.elim h
      | some d =>
        simp only [Option.bind, q2, Option.map] at h
        obtain ⟨v, e, r⟩ := atI_of ra q q2
        exact .inl ⟨a, vs, i, v, rfl, rfl, .of ha, e, done r h⟩
  · rename_i ds i hx hy
    obtain ⟨a, vs, rfl, ha, _, ra⟩ := px.tup hx R.le
    cases py.int hy
    rw [C.K] at ha
    cases q : DL.ixN ds.length i with
    | none => rw [q] at h; exact False.elim h
    | some j =>
      rw [q] at h
      cases q2 : ds[j]? with
      | none => simp only [Option.bind, q2, Option.map] at h; exact False.elim h
      | some d =>
        simp only [Option.bind, q2, Option.map] at h
        obtain ⟨v, e, r⟩ := atI_of ra q q2
        exact .inr (.inl ⟨a, vs, i, v, rfl, rfl, ha, e, done r h⟩)
  · rename_i ns i hx hy
    have r0 := px.rep (by rw [hx]; rfl)
    rw [hx] at r0
    cases py.int hy
    cases r0 with
    | @src a _ hs =>
      rw [C.K] at hs
      cases q : DL.ixN ns.length i with
      | none => rw [q] at h; exact False.elim h
      | some j =>
        rw [q] at h
        cases q2 : ns[j]? with
        | none => simp only [Option.bind, q2, Option.map] at h; exact False.elim h
        | some d =>
          simp only [Option.bind, q2, Option.map] at h
          refine .inl ⟨a, ns.map V.int, i, .int d, rfl, rfl, R.le.seq hs, ?_, done (Rep.int d) h⟩
          unfold atI
          have : L2.ixN (ns.map V.int).length i = some j := by rw [List.length_map]; exact q
          rw [this]
          show (ns.map V.int)[j]? = _
          rw [List.getElem?_map, q2]; rfl
  · exact False.elim h
theorem snd_sub {a b : Expr} {ca cb : E} (C : Ctx X G) (hp : PlainIx b) (ha : PEx X G W a ca) (hb : PEx X G W b cb) : PEx X G W (.Subscript a b pos) (.sub ca cb) := by
  refine PE.imp (pe_ix ix_seq ha hb hp) fun σ H Q ⟨bx, Z, env, Re, h⟩ => ?_
  simp only [ev] at h
  obtain ⟨b', Z', e', R', q⟩ := sub1o Re h
  refine ⟨b', Z', e', R', q.imp (fun _ _ _ _ _ p => p) fun v H1 ⟨Z1, env1, x, e1, R1, p1, h1⟩ => ?_⟩
  obtain ⟨b', Z', e', R', q⟩ := sub1o R1 (h1.ext e1)
  refine ⟨b', Z', e', R', q.imp (fun _ _ _ _ _ p => p) fun u H2 ⟨Z2, env2, y, e2, R2, p2, h2⟩ => ?_⟩
  exact sub_r C R2 (p1.ext e2) (p2.older fun a q => e1.gone q) (fun _ _ r => r) (h2.ext e2)
theorem snd_subc {i : Nat} {x : Str} {k : Nat} {n : Nat} {p1 p2 : Pos} (C : Ctx X G) (hN : X.N[i]? = some x) (hv : Vis X.env.scope x) (hd : (x == ("__debug__" : Str)) = false) (hcd : (x == ("__classdict__" : Str)) = false) :
    PEx X G W (.Subscript (.Name x p1) (.Constant (.int (k : Int)) n p2) pos) (.subc i k) := by
  refine PE.imp (pe_ix ix_seq (pe_var hN hv hd hcd) pe_int (fun _ _ => rfl)) fun σ H Q ⟨bx, Z, env, Re, h⟩ => ?_
  simp only [ev] at h
  cases q : env[i]? with
  | none => rw [q] at h; exact False.elim h
  | some s =>
    rw [q] at h
    cases s with
    | val d =>
      obtain ⟨v, e, r⟩ := Re.get_val q
      exact ⟨v, e, sub_r (x := ⟨d, .fz⟩) (y := ⟨.int k, .fz⟩) (H0 := H) C Re r (Rep.int _) (fun _ _ r => r) h⟩
    | own d =>
      obtain ⟨a, e, zn, o⟩ := Re.slot i _ q
      exact ⟨.ref a, Re.get_ref q e, sub_r (x := ⟨d, .ln⟩) (y := ⟨.int k, .fz⟩) (H0 := H) C Re ⟨a, rfl, Re.own i d a q e, o⟩ (Rep.int _) (fun _ _ r => r) h⟩
    | box d =>
      obtain ⟨a, e, zn, o⟩ := Re.slot i _ q
      refine ⟨.ref a, Re.get_ref q e, ?_⟩
      cases d with
      | lst ds =>
        obtain ⟨vs, ha, r⟩ := o
        simp only [subD] at h
        cases q1 : DL.ixN ds.length k with
        | none => rw [q1] at h; exact False.elim h
        | some j =>
          rw [q1] at h
          cases q2 : ds[j]? with
          | none => simp only [Option.bind, q2, Option.map] at h; exact False.elim h
          | some d =>
            simp only [Option.bind, q2, Option.map] at h
            obtain ⟨v, e, r'⟩ := atI_of r q1 q2
            exact .inl ⟨a, vs, k, v, rfl, rfl, .of ha, e, h v Z H .refl Re r'⟩
      | ins c fs => simp only [subD] at h; exact False.elim h
      | _ => exact False.elim o
    | un => exact False.elim h
    | exc c d => exact False.elim h
/-! slices -/
def tEo (G : Gc) (W : WX) (c : Option E) : TO := fun σ H Q => ∃ bx Z env, Rel G bx Z env σ H ∧ Rd G W bx Z H σ (fun _ _ o o' => o = o') (evo c env) Q
theorem PO.imp {e : Option Expr} {t t' : TO} (h : PO X e t) (i : ∀ σ H Q, t' σ H Q → t σ H Q) : PO X e t' := ⟨fun pins s σ H Q I q => h.run pins s σ H Q I (i _ _ _ q)⟩
theorem spo_none : PO X none (tEo G W none) := PO.imp po_none fun σ H Q ⟨bx, Z, env, Re, h⟩ => by
  simp only [evo] at h
  exact h none Z H .refl Re rfl
theorem spo_some {e : Expr} {c : E} (he : PEx X G W e c) : PO X (some e) (tEo G W (some c)) := PO.imp (po_some he) fun σ H Q ⟨bx, Z, env, Re, h⟩ => by
  simp only [evo] at h
  obtain ⟨b', Z', e', R', q⟩ := sub1o Re h
  refine ⟨b', Z', e', R', q.imp (fun _ _ _ _ _ p => p) fun v H1 ⟨Z1, env1, x, e1, R1, p1, h1⟩ => ?_⟩
  split at h1
  · rename_i i hx
    cases p1.int hx
    exact ⟨i, rfl, h1 (some i) Z1 H1 e1 R1 rfl⟩
  · exact False.elim h1
theorem snd_slc {a : Expr} {lo hi : Option Expr} {ca : E} {cl ch : Option E} {p2 : Pos} (C : Ctx X G) (ha : PEx X G W a ca) (hl : PO X lo (tEo G W cl)) (hh : PO X hi (tEo G W ch)) : PEx X G W (.Subscript a (.Slice lo hi none p2) pos) (.slc ca cl ch) := by
  refine PE.imp (pe_slice (sl_list.or sl_tupA) ha hl hh) fun σ H Q ⟨bx, Z, env, Re, h⟩ => ?_
  simp only [ev] at h
  obtain ⟨b', Z', e', R', q⟩ := sub1o Re h
  refine ⟨b', Z', e', R', q.imp (fun _ _ _ _ _ p => p) fun v H1 ⟨Z1, env1, x, e1, R1, p1, h1⟩ => ?_⟩
  refine ⟨bx, Z1, env1, R1, (Rd.bind0 (P := fun _ _ o o' => o = o') (h1.ext e1)).imp (fun _ _ _ _ _ p => p) fun l H2 ⟨Z2, env2, l', e2, R2, p2, h2⟩ => ?_⟩
  subst p2
  refine ⟨bx, Z2, env2, R2, (Rd.bind0 (P := fun _ _ o o' => o = o') (h2.ext e2)).imp (fun _ _ _ _ _ p => p) fun u H3 ⟨Z3, env3, u', e3, R3, p3, h3⟩ => ?_⟩
  subst p3
  have p := (p1.ext e2).ext e3
  have h3 := h3.ext e3
  unfold slcD at h3
  split at h3
  · rename_i ds hx
    obtain ⟨b, vs, rfl, hb, r⟩ := p.lst hx R3.le
    exact .inl ⟨b, vs, rfl, .of hb, rd_new h3 R3 (fun a q => e1.gone (e2.gone (e3.gone q))) fun a => ⟨_, upd_same, r.cut l' u'⟩⟩
  · rename_i ds hx
    obtain ⟨b, vs, rfl, hb, hbZ, r⟩ := p.tup hx R3.le
    rw [C.K] at hb
    refine .inr ⟨b, vs, rfl, hb, fun hw => ?_, fun hw => ?_⟩
    · refine rd_pure h3 R3 ?_
      have : DL.cut ds l' u' = ds := by
        unfold DL.cut
        rw [← r.length, hw.1, hw.2, List.drop_zero, r.length, Nat.sub_zero, List.take_length]
      rw [this]
      exact .tup hbZ r
    · exact rd_newZ h3 R3 fun a => .inr fun zn => .tup (.inl (.inl upd_same)) ((r.cut l' u').mono fun b u e => by rw [upd_ne (ne_of_none e zn)]; exact e)
  · exact False.elim h3
end
end DL
set_option Elab.async false
set_option linter.all false
set_option autoImplicit false
set_option maxRecDepth 100000
set_option maxHeartbeats 1000000
namespace DL
open PySem PySem.Spec PyProof.Rows L2
def bfV : BF → Value
  | .len => .builtin "len" | .abs => .builtin "abs" | .int => .type "int" | .bool => .type "bool" | .tuple => .type "tuple" | .list => .type "list"
  | .sorted => .builtin "sorted" | .max => .builtin "max" | .min => .builtin "min" | .any => .builtin "any" | .all => .builtin "all" | .str => .type "str" | .sum => .builtin "sum"
def bfTab : List (Str × BF) := [("len", .len), ("abs", .abs), ("int", .int), ("bool", .bool), ("tuple", .tuple), ("list", .list), ("max", .max), ("min", .min), ("str", .str), ("all", .all), ("any", .any), ("sum", .sum), ("sorted", .sorted)]
def bfN (x : Str) : Option BF := bfTab.lookup x
section
variable {X : Cx} {G : Gc} {W : WX} {pos : Pos}
theorem pk1 {bx : Bd} {Z H : Hp} {d : D} {vs : List V} (h : PkL G bx Z H [d] vs) : ∃ v k, vs = [v] ∧ VOk G bx H Z H ⟨d, k⟩ v := by
  match vs, h with
  | [v], ⟨⟨k, p, _⟩, _⟩ => exact ⟨v, k, rfl, p⟩
theorem pk2 {bx : Bd} {Z H : Hp} {d e : D} {vs : List V} (h : PkL G bx Z H [d, e] vs) : ∃ v w k l, vs = [v, w] ∧ VOk G bx H Z H ⟨d, k⟩ v ∧ VOk G bx H Z H ⟨e, l⟩ w := by
  match vs, h with
  | [v, w], ⟨⟨k, p, _⟩, ⟨⟨l, q, _⟩, _⟩⟩ => exact ⟨v, w, k, l, rfl, p, q⟩
theorem rd_newT {bx : Bd} {Z H H0 : Hp} {env : DL.Env} {σ : L2.St} {Q : VK} {ds : List D} {vs : List V} (h : Rd G W bx Z H σ (VOk G bx H0) (lift (some ⟨.tup ds, .fz⟩) env) Q) (R : Rel G bx Z env σ H) (r : RepL G Z vs ds) : ∀ a, H a = none → Q (.ref a) (upd H a (.tup vs)) :=
  rd_newZ h R fun a => .inr fun zn => .tup (.inl (.inl upd_same)) (r.mono fun b u e => by rw [upd_ne (ne_of_none e zn)]; exact e)
/-! lists of bools, of ints -/
theorem vals_bools : ∀ {bs : List Bool} {us : List Value}, Vals (bs.map V.bl) us → us = bs.map Value.bool
  | [], _, .nil => rfl
  | b :: bs, _, .cons r rs => by
    rw [vals_bools rs]
    cases (show _ = Value.bool b from r)
    rfl
theorem reads_bools {h : Heap} : ∀ (bs : List Bool), ReadsAll h (bs.map Value.bool) (bs.map PyData.bool) []
  | [] => .nil
  | b :: bs => .cons (as := []) (bs := []) (.bool b) (reads_bools bs)
theorem plain_bools : ∀ (bs : List Bool), PyData.plainAll (bs.map PyData.bool) = true
  | [] => rfl
  | b :: bs => by
    show (true && PyData.plainAll (bs.map PyData.bool)) = true
    rw [plain_bools bs]; rfl
theorem fits_bools (bs : List Bool) : ∀ x ∈ bs.map PyData.bool, x.fits63 := fun x hx => by
  obtain ⟨b, _, rfl⟩ := List.mem_map.mp hx
  trivial
theorem call_allB (hc : X.calm = true) : CallR X (.builtin "all") (fun vs H Q => ∃ (a : Addr) (bs : List Bool), vs = [V.ref a] ∧ SqL X.K H a (bs.map V.bl) ∧ Q (.bl (bs.all id)) H) := by
  intro pins s σ H vs us Q I r ⟨a, bs, e, hs, q⟩
  subst e
  obtain ⟨its, rv, hl, _⟩ := I.list hs
  rw [Vals.ref1 r]
  rw [vals_bools rv] at hl
  refine PySem.W.all_list_data (I.ok.hd hc) hl.isList (reads_bools bs) (plain_bools bs) (fits_bools bs) fun h' tk hk => ⟨.bl _, H, I.kept hk, ?_, q⟩
  show _ = Value.bool _
  rw [List.all_map]; rfl
theorem call_anyB (hc : X.calm = true) : CallR X (.builtin "any") (fun vs H Q => ∃ (a : Addr) (bs : List Bool), vs = [V.ref a] ∧ SqL X.K H a (bs.map V.bl) ∧ Q (.bl (bs.any id)) H) := by
  intro pins s σ H vs us Q I r ⟨a, bs, e, hs, q⟩
  subst e
  obtain ⟨its, rv, hl, _⟩ := I.list hs
  rw [Vals.ref1 r]
  rw [vals_bools rv] at hl
  refine PySem.W.any_list_data (I.ok.hd hc) hl.isList (reads_bools bs) (plain_bools bs) (fits_bools bs) fun h' tk hk => ⟨.bl _, H, I.kept hk, ?_, q⟩
  show _ = Value.bool _
  rw [List.any_map]; rfl
theorem RepL.bools {Z : Hp} : ∀ {vs : List V} {ds : List D} {bs : List Bool}, RepL G Z vs ds → boolsD ds = some bs → vs = bs.map V.bl
  | _, _, bs, .nil, h => by cases h; rfl
  | _, d :: ds, bs, .cons (v := v) r rs, h => by
    cases d <;> first | (cases h; done) | skip
    rename_i b
    simp only [boolsD] at h
    cases q : boolsD ds with
    | none => rw [q] at h; cases h
    | some l =>
      rw [q] at h
      cases h
      rw [RepL.bools rs q]
      cases r; rfl
theorem RepL.nums {Z : Hp} : ∀ {vs : List V} {ds : List D} {ns : List Int}, RepL G Z vs ds → intsD ds = some ns → vs = ns.map V.int
  | _, _, ns, .nil, h => by cases h; rfl
  | _, d :: ds, ns, .cons (v := v) r rs, h => by
    cases d <;> first | (cases h; done) | skip
    rename_i b
    simp only [intsD] at h
    cases q : intsD ds with
    | none => rw [q] at h; cases h
    | some l =>
      rw [q] at h
      cases h
      rw [RepL.nums rs q]
      cases r; rfl
theorem maxL_is : ∀ {ns : List Int} {m : Int}, m ∈ ns → (∀ y, y ∈ ns → y ≤ m) → m = maxL ns
  | [a], m, hm, h => by simpa [maxL] using hm
  | a :: b :: r, m, hm, h => by
    have top : maxL (b :: r) ∈ b :: r ∧ ∀ y ∈ b :: r, y ≤ maxL (b :: r) := by
      clear hm h
      induction r generalizing b with
      | nil => simp [maxL]
      | cons c r ih =>
        obtain ⟨h1, h2⟩ := ih c
        simp only [maxL]
        split
        · rename_i hle
          refine ⟨by simp, fun y hy => ?_⟩
          rcases List.mem_cons.mp hy with rfl | hy
          · omega
          · have := h2 y hy; omega
        · rename_i hle
          refine ⟨List.mem_cons_of_mem _ h1, fun y hy => ?_⟩
          rcases List.mem_cons.mp hy with rfl | hy
          · omega
          · exact h2 y hy
    have h1 := h a (by simp)
    have h2 := h _ (List.mem_cons_of_mem a top.1)
    simp only [maxL]
    split
    · rename_i hle
      rcases List.mem_cons.mp hm with rfl | hm
      · rfl
      · have := top.2 m hm; omega
    · rename_i hle
      rcases List.mem_cons.mp hm with rfl | hm
      · omega
      · have := top.2 m hm; omega
theorem minL_is : ∀ {ns : List Int} {m : Int}, m ∈ ns → (∀ y, y ∈ ns → m ≤ y) → m = minL ns
  | [a], m, hm, h => by simpa [minL] using hm
  | a :: b :: r, m, hm, h => by
    have top : minL (b :: r) ∈ b :: r ∧ ∀ y ∈ b :: r, minL (b :: r) ≤ y := by
      clear hm h
      induction r generalizing b with
      | nil => simp [minL]
      | cons c r ih =>
        obtain ⟨h1, h2⟩ := ih c
        simp only [minL]
        split
        · rename_i hle
          refine ⟨by simp, fun y hy => ?_⟩
          rcases List.mem_cons.mp hy with rfl | hy
          · omega
          · have := h2 y hy; omega
        · rename_i hle
          refine ⟨List.mem_cons_of_mem _ h1, fun y hy => ?_⟩
          rcases List.mem_cons.mp hy with rfl | hy
          · omega
          · exact h2 y hy
    have h1 := h a (by simp)
    have h2 := h _ (List.mem_cons_of_mem a top.1)
    simp only [minL]
    split
    · rename_i hle
      rcases List.mem_cons.mp hm with rfl | hm
      · rfl
      · have := top.2 m hm; omega
    · rename_i hle
      rcases List.mem_cons.mp hm with rfl | hm
      · omega
      · have := top.2 m hm; omega
theorem insL_perm (x : Int) : ∀ (l : List Int), (insL x l).Perm (x :: l)
  | [] => List.Perm.refl _
  | y :: r => by
    simp only [insL]
    split
    · exact List.Perm.refl _
    · exact ((insL_perm x r).cons y).trans (List.Perm.swap x y r)
theorem insL_up (x : Int) : ∀ {l : List Int}, l.Pairwise (· ≤ ·) → (insL x l).Pairwise (· ≤ ·)
  | [], _ => by simp [insL]
  | y :: r, h => by
    simp only [insL]
    have h' := List.pairwise_cons.mp h
    split
    · rename_i hle
      refine List.pairwise_cons.mpr ⟨fun z hz => ?_, h⟩
      rcases List.mem_cons.mp hz with rfl | hz
      · exact hle
      · have := h'.1 z hz; omega
    · rename_i hle
      refine List.pairwise_cons.mpr ⟨fun z hz => ?_, insL_up x h'.2⟩
      rcases List.mem_cons.mp ((insL_perm x r).mem_iff.mp hz) with rfl | hz
      · omega
      · exact h'.1 z hz
theorem sortL_perm : ∀ (l : List Int), (sortL l).Perm l
  | [] => List.Perm.refl _
  | x :: r => (insL_perm x (sortL r)).trans ((sortL_perm r).cons x)
theorem sortL_up : ∀ (l : List Int), (sortL l).Pairwise (· ≤ ·)
  | [] => List.Pairwise.nil
  | x :: r => insL_up x (sortL_up r)
theorem up_one : ∀ {l m : List Int}, l.Perm m → l.Pairwise (· ≤ ·) → m.Pairwise (· ≤ ·) → l = m
  | [], m, p, _, _ => (List.Perm.nil_eq p)
  | a :: l, m, p, h1, h2 => by
    cases m with
    | nil => exact absurd p.length_eq (by simp)
    | cons b m =>
      have e : a = b := by
        have ha := (List.pairwise_cons.mp h1).1
        have hb := (List.pairwise_cons.mp h2).1
        have m1 : b ∈ a :: l := p.mem_iff.mpr (by simp)
        have m2 : a ∈ b :: m := p.mem_iff.mp (by simp)
        rcases List.mem_cons.mp m1 with e | m1
        · exact e.symm
        · rcases List.mem_cons.mp m2 with e | m2
          · exact e
          · have := ha b m1; have := hb a m2; omega
      subst e
      rw [up_one (List.Perm.cons_inv p) (List.pairwise_cons.mp h1).2 (List.pairwise_cons.mp h2).2]
theorem bf_ok {f : BF} {bx : Bd} {Z H H0 : Hp} {env : DL.Env} {σ : L2.St} {Q : VK} {pins : List (Addr × PySem.Obj)} {s : Shared} {ds : List D} {vs : List V} {us : List Value} (C : Ctx X G) (hc : X.calm = true) (I : Inv X pins σ H s) (R : Rel G bx Z env σ H) (old : ∀ a, H a = none → H0 a = none)
    (p : PkL G bx Z H ds vs) (rv : Vals vs us) (h : Rd G W bx Z H σ (VOk G bx H0) (lift (bfD f ds) env) Q) : wpAny (model X.prog X.w) X.A (call (bfV f) us) (EP X pins σ Q) X.xe s := by
  unfold bfD at h
  split at h
  · obtain ⟨v, k, rfl, q⟩ := pk1 p
    obtain ⟨a, vs, rfl, ha, _, r⟩ := q.tup rfl R.le
    rw [C.K] at ha
    exact call_len pins s σ H _ us Q I rv ⟨_, vs.length, rfl, .inr ⟨vs, ha, rfl⟩, by rw [r.length]; exact rd_pure h R (Rep.int _)⟩
  · obtain ⟨v, k, rfl, q⟩ := pk1 p
    obtain ⟨a, vs, rfl, ha, r⟩ := q.lst rfl R.le
    exact call_len pins s σ H _ us Q I rv ⟨_, vs.length, rfl, .inl ⟨vs, .of ha, rfl⟩, by rw [r.length]; exact rd_pure h R (Rep.int _)⟩
  · rename_i ns
    obtain ⟨v, k, rfl, q⟩ := pk1 p
    have r0 := q.rep rfl
    cases r0 with
    | @src a _ hs =>
      rw [C.K] at hs
      exact call_len pins s σ H _ us Q I rv ⟨_, (ns.map V.int).length, rfl, .inl ⟨_, R.le.seq hs, rfl⟩, by rw [List.length_map]; exact rd_pure h R (Rep.int _)⟩
  · rename_i i
    obtain ⟨v, k, rfl, q⟩ := pk1 p
    cases q.int rfl
    exact call_abs pins s σ H _ us Q I rv ⟨i, rfl, rd_pure h R (Rep.int _)⟩
  · rename_i i
    obtain ⟨v, k, rfl, q⟩ := pk1 p
    cases q.int rfl
    exact call_int1 pins s σ H _ us Q I rv (.inl ⟨i, rfl, rd_pure h R (Rep.int _)⟩)
  · rename_i b
    obtain ⟨v, k, rfl, q⟩ := pk1 p
    cases q.bl rfl
    exact call_int1 pins s σ H _ us Q I rv (.inr ⟨b, rfl, rd_pure h R (Rep.int _)⟩)
  · rename_i b
    obtain ⟨v, k, rfl, q⟩ := pk1 p
    cases q.bl rfl
    exact call_bool1 pins s σ H _ us Q I rv (.inr ⟨b, rfl, rd_pure h R (Rep.bl _)⟩)
  · obtain ⟨v, k, rfl, q⟩ := pk1 p
    obtain ⟨a, vs, rfl, ha, haZ, r⟩ := q.tup rfl R.le
    rw [C.K] at ha
    exact call_tuple_of pins s σ H _ us Q I rv ⟨a, vs, rfl, .inr ⟨ha, rd_pure h R (.tup haZ r)⟩⟩
  · obtain ⟨v, k, rfl, q⟩ := pk1 p
    obtain ⟨a, vs, rfl, ha, r⟩ := q.lst rfl R.le
    exact call_tuple_of pins s σ H _ us Q I rv ⟨a, vs, rfl, .inl ⟨.of ha, rd_newT h R r⟩⟩
  · obtain ⟨v, k, rfl, q⟩ := pk1 p
    obtain ⟨a, vs, rfl, ha, haZ, r⟩ := q.tup rfl R.le
    rw [C.K] at ha
    exact call_list_of pins s σ H _ us Q I rv ⟨a, vs, rfl, .inr ha, rd_new h R old fun a => ⟨vs, upd_same, r⟩⟩
  · obtain ⟨v, k, rfl, q⟩ := pk1 p
    obtain ⟨a, vs, rfl, ha, r⟩ := q.lst rfl R.le
    exact call_list_of pins s σ H _ us Q I rv ⟨a, vs, rfl, .inl (.of ha), rd_new h R old fun a => ⟨vs, upd_same, r⟩⟩
  · rename_i i
    obtain ⟨v, k, rfl, q⟩ := pk1 p
    cases q.int rfl
    split at h
    · rename_i hl
      exact call_str_int pins s σ H _ us Q I rv ⟨i, rfl, hl, rd_pure h R (Rep.str _)⟩
    · exact False.elim h
  · rename_i i j
    obtain ⟨v, w, k, l, rfl, q, q'⟩ := pk2 p
    cases q.int rfl; cases q'.int rfl
    exact call_max2 hc pins s σ H _ us Q I rv ⟨i, j, rfl, rd_pure h R (Rep.int _)⟩
  · rename_i i j
    obtain ⟨v, w, k, l, rfl, q, q'⟩ := pk2 p
    cases q.int rfl; cases q'.int rfl
    exact call_min2 hc pins s σ H _ us Q I rv ⟨i, j, rfl, rd_pure h R (Rep.int _)⟩
  · obtain ⟨v, k, rfl, q⟩ := pk1 p
    obtain ⟨a, vs, rfl, ha, r⟩ := q.lst rfl R.le
    cases q2 : boolsD _ with
    | none => rw [q2] at h; exact False.elim h
    | some bs =>
      rw [q2] at h
      have e := r.bools q2
      subst e
      exact call_allB hc pins s σ H _ us Q I rv ⟨a, bs, rfl, .of ha, rd_pure h R (Rep.bl _)⟩
  · obtain ⟨v, k, rfl, q⟩ := pk1 p
    obtain ⟨a, vs, rfl, ha, r⟩ := q.lst rfl R.le
    cases q2 : boolsD _ with
    | none => rw [q2] at h; exact False.elim h
    | some bs =>
      rw [q2] at h
      have e := r.bools q2
      subst e
      exact call_anyB hc pins s σ H _ us Q I rv ⟨a, bs, rfl, .of ha, rd_pure h R (Rep.bl _)⟩
  · obtain ⟨v, k, rfl, q⟩ := pk1 p
    obtain ⟨a, vs, rfl, ha, r⟩ := q.lst rfl R.le
    cases q2 : intsD _ with
    | none => rw [q2] at h; exact False.elim h
    | some ns =>
      rw [q2] at h
      simp only [Option.bind] at h
      have e := r.nums q2
      subst e
      split at h
      · exact False.elim h
      · rename_i hne
        refine cr_max hc pins s σ H _ us Q I rv ⟨a, ns, rfl, .of ha, List.length_pos_iff.mpr hne, fun m h1 h2 => ?_⟩
        rw [maxL_is h1 h2]
        exact rd_pure h R (Rep.int _)
  · obtain ⟨v, k, rfl, q⟩ := pk1 p
    obtain ⟨a, vs, rfl, ha, r⟩ := q.lst rfl R.le
    cases q2 : intsD _ with
    | none => rw [q2] at h; exact False.elim h
    | some ns =>
      rw [q2] at h
      simp only [Option.bind] at h
      have e := r.nums q2
      subst e
      split at h
      · exact False.elim h
      · rename_i hne
        refine cr_min hc pins s σ H _ us Q I rv ⟨a, ns, rfl, .of ha, List.length_pos_iff.mpr hne, fun m h1 h2 => ?_⟩
        rw [minL_is h1 h2]
        exact rd_pure h R (Rep.int _)
  · obtain ⟨v, k, rfl, q⟩ := pk1 p
    obtain ⟨a, vs, rfl, ha, r⟩ := q.lst rfl R.le
    cases q2 : intsD _ with
    | none => rw [q2] at h; exact False.elim h
    | some ns =>
      rw [q2] at h
      have e := r.nums q2
      subst e
      exact cr_sum hc pins s σ H _ us Q I rv ⟨a, ns, rfl, .of ha, rd_pure h R (Rep.int _)⟩
  · obtain ⟨v, k, rfl, q⟩ := pk1 p
    obtain ⟨a, vs, rfl, ha, r⟩ := q.lst rfl R.le
    cases q2 : intsD _ with
    | none => rw [q2] at h; exact False.elim h
    | some ns =>
      rw [q2] at h
      simp only [Option.bind] at h
      have e := r.nums q2
      subst e
      split at h
      · rename_i hl
        refine cr_sorted pins s σ H _ us Q I rv ⟨a, ns, rfl, .of ha, hl, fun ns' p h1 h2 hp => ?_⟩
        rw [up_one (h1.trans (sortL_perm ns).symm) h2 (sortL_up ns)]
        exact rd_new h R old (fun a => ⟨_, upd_same, RepL.ints _⟩) p hp
      · exact False.elim h
  · exact False.elim h
theorem boot_bf {x : Str} {f : BF} (h : bfN x = some f) : bootBuiltins x = some (bfV f) ∧ x ≠ "__name__" ∧ (x == ("__debug__" : Str)) = false := by
  have all : (bfTab.all fun p => decide (bootBuiltins p.1 = some (bfV p.2)) && decide (p.1 ≠ "__name__") && !(p.1 == ("__debug__" : Str))) = true := by decide +kernel
  have q := List.all_eq_true.mp all _ (PySem.mem_of_lookup h)
  rw [Bool.and_eq_true, Bool.and_eq_true] at q
  exact ⟨of_decide_eq_true q.1.1, of_decide_eq_true q.1.2, by simpa using q.2⟩
theorem tyish (f : BF) : (∃ id, bfV f = .builtin id) ∨ ∃ T, bfV f = .type T := by
  cases f <;> first | exact .inl ⟨_, rfl⟩ | exact .inr ⟨_, rfl⟩
theorem snd_bf {x : Str} {f : BF} {e : Expr} {es : List Expr} {cs : List E} {p : Pos} (C : Ctx X G) (hc : X.calm = true) (hf : bfN x = some f) (hg : Gl X x) (hm : X.mg x = none) (ha : PA X (e :: es) (tEp G W cs))
    (he : starEach (e :: es) X.env = (false, eval e X.env) :: starEach es X.env) (hpl : (backTo pos (starEach es X.env)).any (·.1) = false) : PEx X G W (.Call (.Name x p) (e :: es) [] pos) (.bf f cs) := by
  obtain ⟨hv, hn, hdb⟩ := boot_bf hf
  refine ⟨fun pins s σ H Q I h => ?_⟩
  obtain ⟨bx, Z, env, Re, h⟩ := h
  simp only [ev] at h
  have h := Rd.bind0 (P := fun Z' H' ds vs => PkL G bx Z' H' ds vs) h
  refine wpAny_Call_Name_kw (ld_blt I hg hm hv ?_ hn hdb)
  have run : wpAny (model X.prog X.w) X.A (spliced (backTo pos (starEach (e :: es) X.env))) (fun us s1 => wpAny (model X.prog X.w) X.A (call (bfV f) us) (EP X pins σ Q) X.xe s1) X.xe s :=
    thn (ha.run pos pins s σ H _ I ⟨bx, Z, env, Re, h⟩) fun us s1 ⟨vs, H1, I1, r1, Z1, env1, ds, e1, R1, p1, h1⟩ => bf_ok C hc I1 R1 (fun a q => e1.gone q) p1 r1 (h1.ext e1)
  rcases tyish f with ⟨id, q⟩ | ⟨T, q⟩
  · rw [q] at run ⊢
    exact PyProof.Rows.callWith_builtin1 run he hpl
  · rw [q] at run ⊢
    exact PyProof.Rows.callWith_type1 run he hpl
/-! isinstance of built-in types -/
theorem tyx_of {bx : Bd} {H0 Z H : Hp} {x : Vl} {v : V} {t : String} (hK : G.K = X.K) (le : Same Z H) (p : VOk G bx H0 Z H x v) (h : tyD x.d = some t) : TyX X.K H v (.type t) := by
  obtain ⟨d, k⟩ := x
  cases d with
  | non => cases p.rep rfl; cases h; exact .base .non
  | bl c => cases p.rep rfl; cases h; exact .base (.bl _)
  | int i => cases p.rep rfl; cases h; exact .base (.int _)
  | str _ => cases p.rep rfl; cases h; exact .base (.str _)
  | ins _ _ => cases h
  | exv _ _ => cases h
  | src ns =>
    cases h
    cases p.rep rfl with
    | src hs =>
      rw [hK] at hs
      rcases le.seq hs with (e | ⟨o, e⟩) | ⟨o, its, n, e, c, _⟩
      · exact .base (.lst e)
      · exact .base (.frz e)
      · exact .kList e c
  | tup ds =>
    cases h
    obtain ⟨a, vs, rfl, ha, _, r⟩ := p.tup rfl le
    rw [hK] at ha
    rcases ha with (e | ⟨o, e⟩) | ⟨o, its, n, e, c, _⟩
    · exact .base (.tup e)
    · exact .fTuple e
    · exact .kTuple e c
  | lst ds =>
    cases h
    obtain ⟨a, vs, rfl, ha, r⟩ := p.lst rfl le
    exact .base (.lst ha)
def tyN (x : Str) : Option String := if x = "int" then some "int" else if x = "bool" then some "bool" else if x = "str" then some "str" else if x = "tuple" then some "tuple" else if x = "list" then some "list" else none
theorem boot_ty {x : Str} {t : String} (h : tyN x = some t) : bootBuiltins x = some (.type t) ∧ x ≠ "__name__" ∧ (x == ("__debug__" : Str)) = false := by
  unfold tyN at h
  repeat' split at h
  all_goals first
    | (cases h; done)
    | (rename_i e; cases h; subst e; exact ⟨by decide +kernel, by decide, by decide⟩)
theorem kit_all {t ty : String} (h1 : t ∈ ["NoneType", "bool", "int", "str", "tuple", "list"]) (h2 : ty ∈ ["int", "bool", "str", "tuple", "list"]) : kitB t ty = some (t == ty || (t == "bool" && ty == "int")) := by
  have all : (["NoneType", "bool", "int", "str", "tuple", "list"].all fun t => ["int", "bool", "str", "tuple", "list"].all fun ty => decide (kitB t ty = some (t == ty || (t == "bool" && ty == "int")))) = true := by decide +kernel
  rw [List.all_eq_true] at all
  have q := all t h1
  rw [List.all_eq_true] at q
  exact of_decide_eq_true (q ty h2)
theorem tyN_mem {x : Str} {t : String} (h : tyN x = some t) : t ∈ ["int", "bool", "str", "tuple", "list"] := by
  unfold tyN at h
  repeat' split at h
  all_goals first
    | (cases h; done)
    | (cases h; decide)
theorem tyD_mem {d : D} {t : String} (h : tyD d = some t) : t ∈ ["NoneType", "bool", "int", "str", "tuple", "list"] := by
  cases d <;> first | (cases h; done) | (cases h; decide)
theorem snd_isi {x : Str} {t : String} {a : Expr} {ca : E} {p p2 : Pos} (C : Ctx X G) (hi : Gl X "isinstance") (hmi : X.mg "isinstance" = none) (ht : tyN x = some t) (hg : Gl X x) (hm : X.mg x = none) (ha : PEx X G W a ca)
    (he : starEach [a, .Name x p2] X.env = (false, eval a X.env) :: starEach [.Name x p2] X.env) : PEx X G W (.Call (.Name "isinstance" p) [a, .Name x p2] [] pos) (.isi ca t) := by
  obtain ⟨hv, hn, hdb⟩ := boot_ty ht
  have hx : PE X (.Name x p2) (tC (.ty t)) := pe_bltn (v := .ty t) hg hm hv rfl hn hdb
  refine PE.imp (pe_callB call_isi hi hmi (by decide +kernel) (pa_cons ha (pa_cons hx pa_nil) he) (he := he)) fun σ H Q ⟨bx, Z, env, Re, h⟩ => ?_
  simp only [ev] at h
  obtain ⟨b', Z', e', R', q⟩ := sub1o Re h
  refine ⟨b', Z', e', R', q.imp (fun _ _ _ _ _ p => p) fun v H1 ⟨Z1, env1, y, e1, R1, p1, h1⟩ => ?_⟩
  show rIsi X.K [v, .ty t] H1 Q
  unfold isiD at h1
  cases q2 : tyD y.d with
  | none => rw [q2] at h1; exact False.elim h1
  | some t0 =>
    rw [q2] at h1
    exact ⟨v, .ty t, _, _, _, rfl, .ty t, tyx_of C.K R1.le p1 q2, kit_ty (kit_all (tyD_mem q2) (tyN_mem ht)), h1 _ Z1 H1 e1 R1 (Rep.bl _)⟩
end
end DL
set_option Elab.async false
set_option linter.all false
set_option autoImplicit false
set_option maxRecDepth 100000
set_option maxHeartbeats 1000000
namespace DL
open PySem PySem.Spec PyProof.Rows L2
/-! promises over data -/
def ioA : List Md → List V → List Addr
  | .io :: ms, .ref a :: vs => a :: ioA ms vs
  | _ :: ms, _ :: vs => ioA ms vs
  | _, _ => []
def ArgsOk (G : Gc) (Z H : Hp) : List Md → List V → List D → Prop
  | [], [], [] => True
  | .v :: ms, v :: vs, d :: ds => Rep G Z v d ∧ ArgsOk G Z H ms vs ds
  | .io :: ms, v :: vs, d :: ds => (∃ a, v = .ref a ∧ Z a = none ∧ ObjAt G Z H a d) ∧ ArgsOk G Z H ms vs ds
  | _, _, _ => False
def OutsOk (G : Gc) (Z H : Hp) : List Addr → List D → Prop
  | [], [] => True
  | a :: as, d :: ds => (Z a = none ∧ ObjAt G Z H a d) ∧ OutsOk G Z H as ds
  | _, _ => False
def bxOf (as : List Addr) : Bd := ⟨fun a => a ∈ as, fun _ => False⟩
/-- what a def promises of data -/
def spF (G : Gc) (ms : List Md) (sem : List D → FR) : Sp := fun vs H Q E => ∃ (Z : Hp) (ds : List D), Same Z H ∧ ArgsOk G Z H ms vs ds ∧ (ioA ms vs).Nodup ∧
  match sem ds with
  | .ok d k outs => ∀ v Z' H', Ext (bxOf (ioA ms vs)) Z H Z' H' → Same Z' H' → OutsOk G Z' H' (ioA ms vs) outs → k ≠ .ln → VOk G (bxOf (ioA ms vs)) H Z' H' ⟨d, k⟩ v → Q v H'
  | .exn c d outs => ∀ dd v Z' H', Ext (bxOf (ioA ms vs)) Z H Z' H' → Same Z' H' → OutsOk G Z' H' (ioA ms vs) outs → H' dd = some (.xd [(G.cF c, v)]) → Rep G Z' v d → E (.ref (G.cA c)) (some dd) H'
  | .bad => False
theorem ArgsOk.len {G : Gc} {Z H : Hp} : ∀ {ms : List Md} {vs : List V} {ds : List D}, ArgsOk G Z H ms vs ds → vs.length = ms.length
  | [], [], [], _ => rfl
  | .v :: ms, v :: vs, d :: ds, ⟨_, h⟩ => by simp [ArgsOk.len h]
  | .io :: ms, v :: vs, d :: ds, ⟨_, h⟩ => by simp [ArgsOk.len h]
  | [], _ :: _, _, h => h.elim
  | [], [], _ :: _, h => h.elim
  | .v :: _, [], _, h => h.elim
  | .v :: _, _ :: _, [], h => h.elim
  | .io :: _, [], _, h => h.elim
  | .io :: _, _ :: _, [], h => h.elim
/-! slots given up, boxes laid -/
section
variable {G : Gc} {bx : Bd} {Z H Z' H' : Hp} {env : DL.Env} {σ : L2.St}
theorem isOB_set {env : DL.Env} {i j : Nat} {s : Slot} (hs : ¬ IsOB (some s)) (h : IsOB (env.set i s)[j]?) : IsOB env[j]? ∧ j ≠ i := by
  by_cases e : i = j
  · subst e
    by_cases hi : i < env.length
    · rw [List.getElem?_set_self hi] at h; exact absurd h hs
    · rw [List.getElem?_eq_none (by simpa using hi)] at h; exact h.elim
  · rw [List.getElem?_set_ne e] at h
    exact ⟨h, fun z => e z.symm⟩
theorem set_get {env : DL.Env} {i j : Nat} {s t : Slot} (h : (env.set i s)[j]? = some t) : (j = i ∧ t = s) ∨ (j ≠ i ∧ env[j]? = some t) := by
  by_cases e : i = j
  · subst e
    by_cases hi : i < env.length
    · rw [List.getElem?_set_self hi] at h; cases h; exact .inl ⟨rfl, rfl⟩
    · rw [List.getElem?_eq_none (by simpa using hi)] at h; cases h
  · rw [List.getElem?_set_ne e] at h
    exact .inr ⟨fun z => e z.symm, h⟩
/-- a slot is given up -/
theorem Rel.un (R : Rel G bx Z env σ H) (i : Nat) : Rel G bx Z (env.set i .un) σ H := by
  refine ⟨R.le, by rw [List.length_set]; exact R.len, fun j s h => ?_, fun j k a hj hk => ?_, fun j d a h => ?_, fun j d a h => ?_, fun j d a h => ?_, R.bd⟩
  · rcases set_get h with ⟨_, rfl⟩ | ⟨_, h⟩
    · trivial
    · exact R.slot j s h
  · exact R.inj j k a (isOB_set (s := .un) (fun z => z) hj).1 (isOB_set (s := .un) (fun z => z) hk).1
  · rcases set_get h with ⟨_, e⟩ | ⟨_, h⟩
    · cases e
    · exact R.bin j d a h
  · rcases set_get h with ⟨_, e⟩ | ⟨_, h⟩
    · cases e
    · exact R.own j d a h
  · rcases set_get h with ⟨_, e⟩ | ⟨_, h⟩
    · cases e
    · exact R.owi j d a h
theorem Rel.fgt : ∀ (is : List Nat) {env : DL.Env}, Rel G bx Z env σ H → Rel G bx Z (DL.fgt is env) σ H
  | [], _, R => R
  | i :: is, _, R => Rel.fgt is (R.un i)
theorem fgt_get : ∀ {is : List Nat} {env : DL.Env} {j : Nat} {s : Slot}, (DL.fgt is env)[j]? = some s → s = .un ∨ (j ∉ is ∧ env[j]? = some s)
  | [], _, _, _, h => .inr ⟨by simp, h⟩
  | i :: is, env, j, s, h => by
    rcases fgt_get (is := is) h with h | ⟨h1, h⟩
    · exact .inl h
    · rcases set_get h with ⟨_, e⟩ | ⟨h2, h⟩
      · exact .inl e
      · exact .inr ⟨by simp [h2, h1], h⟩
theorem fgt_set {is : List Nat} {i : Nat} {s : Slot} (h : i ∉ is) : ∀ {env : DL.Env}, (DL.fgt is env).set i s = DL.fgt is (env.set i s) := by
  induction is with
  | nil => intro env; rfl
  | cons k is ih =>
    intro env
    have hk : i ≠ k := fun e => h (by simp [e])
    show (DL.fgt is (env.set k .un)).set i s = DL.fgt is ((env.set i s).set k .un)
    rw [ih (fun z => h (by simp [z])), List.set_comm _ _ hk]
theorem putOuts_fgt : ∀ {is : List Nat} {ds : List D} {env : DL.Env}, is.length = ds.length → is.Nodup → putOuts is ds (DL.fgt is env) = putOuts is ds env
  | [], [], _, _, _ => rfl
  | i :: is, d :: ds, env, hl, nd => by
    have nd' := List.nodup_cons.mp nd
    show putOuts is ds ((DL.fgt is (env.set i .un)).set i (.box d)) = putOuts is ds (env.set i (.box d))
    rw [fgt_set nd'.1, List.set_set, putOuts_fgt (by simpa using hl) nd'.2]
/-- a box is laid -/
theorem Rel.box (R : Rel G bx Z env σ H) {i : Nat} {a : Addr} {d : D} (hi : σ[i]? = some (some (.ref a))) (zn : Z a = none) (o : ObjAt G Z H a d) (hb : bx.bx a) (alone : ∀ j, IsOB env[j]? → σ.getD j none = some (.ref a) → j = i) : Rel G bx Z (env.set i (.box d)) σ H := by
  have hg : σ.getD i none = some (.ref a) := by rw [List.getD_eq_getElem?_getD, hi]; rfl
  refine ⟨R.le, by rw [List.length_set]; exact R.len, fun j s h => ?_, fun j k b hj hk ej ek => ?_, fun j d a h => ?_, fun j d a h => ?_, fun j d a h => ?_, R.bd⟩
  · rcases set_get h with ⟨rfl, rfl⟩ | ⟨_, h⟩
    · exact ⟨a, hg, zn, o⟩
    · exact R.slot j s h
  · by_cases e1 : j = i
    · subst e1
      rw [hg] at ej; cases ej
      by_cases e2 : k = j
      · exact e2.symm
      · rw [List.getElem?_set_ne (fun z => e2 z.symm)] at hk
        exact (alone k hk ek).symm
    · rw [List.getElem?_set_ne (fun z => e1 z.symm)] at hj
      by_cases e2 : k = i
      · subst e2
        rw [hg] at ek; cases ek
        exact alone j hj ej
      · rw [List.getElem?_set_ne (fun z => e2 z.symm)] at hk
        exact R.inj j k b hj hk ej ek
  · rcases set_get h with ⟨rfl, e⟩ | ⟨_, h⟩
    · intro e1; rw [hg] at e1; cases e1; exact hb
    · exact R.bin j d a h
  · rcases set_get h with ⟨_, e⟩ | ⟨_, h⟩
    · cases e
    · exact R.own j d a h
  · rcases set_get h with ⟨_, e⟩ | ⟨_, h⟩
    · cases e
    · exact R.owi j d a h
theorem Rel.boxes : ∀ {is : List Nat} {as : List Addr} {ds : List D} {env : DL.Env}, Rel G bx Z env σ H → Paired (fun i a => σ[i]? = some (some (.ref a)) ∧ bx.bx a) is as → is.Nodup → (∀ i j a, i ∈ is → IsOB env[j]? → σ.getD i none = some (.ref a) → σ.getD j none = some (.ref a) → j = i) →
    (∀ i j a, i ∈ is → j ∈ is → σ.getD i none = some (.ref a) → σ.getD j none = some (.ref a) → i = j) → OutsOk G Z H as ds → Rel G bx Z (putOuts is ds env) σ H
  | [], [], [], _, R, _, _, _, _, _ => R
  | i :: is, a :: as, d :: ds, env, R, .cons ⟨hi, hb⟩ p, nd, al, inj, ⟨⟨zn, o⟩, r⟩ => by
    have nd' := List.nodup_cons.mp nd
    have hg : σ.getD i none = some (.ref a) := by rw [List.getD_eq_getElem?_getD, hi]; rfl
    show Rel G bx Z (putOuts is ds (env.set i (.box d))) σ H
    refine Rel.boxes (R.box hi zn o hb fun j hj ej => al i j a (by simp) hj hg ej) p nd'.2 (fun k j b hk hj ek ej => ?_) (fun k j b hk hj => inj k j b (by simp [hk]) (by simp [hj])) r
    by_cases e : i = j
    · subst e
      exact inj i k b (by simp) (by simp [hk]) ej ek
    · rw [List.getElem?_set_ne e] at hj
      exact al k j b (by simp [hk]) hj ek ej
  | [], [], _ :: _, _, _, _, _, _, _, h => h.elim
  | _ :: _, _ :: _, [], _, _, _, _, _, _, h => h.elim
end
/-! arguments -/
def ArOk (G : Gc) (Z : Hp) (σ : L2.St) : List Ar → List V → Prop
  | [], [] => True
  | .v d :: as, v :: vs => Rep G Z v d ∧ ArOk G Z σ as vs
  | .b i :: as, v :: vs => (σ[i]? = some (some v)) ∧ ArOk G Z σ as vs
  | _, _ => False
theorem ArOk.mono {G : Gc} {Z Z' : Hp} {σ : L2.St} (e : Same Z Z') : ∀ {as : List Ar} {vs : List V}, ArOk G Z σ as vs → ArOk G Z' σ as vs
  | [], [], _ => trivial
  | .v d :: as, v :: vs, ⟨r, h⟩ => ⟨r.mono e, ArOk.mono e h⟩
  | .b i :: as, v :: vs, ⟨r, h⟩ => ⟨r, ArOk.mono e h⟩
  | [], _ :: _, h => h.elim
  | .v _ :: _, [], h => h.elim
  | .b _ :: _, [], h => h.elim
def ShapeOk : List Md → List Ar → Prop
  | [], [] => True
  | .v :: ms, .v _ :: as => ShapeOk ms as
  | .io :: ms, .b _ :: as => ShapeOk ms as
  | _, _ => False
def tEa (G : Gc) (W : WX) (ms : List Md) (cs : List E) : TA := fun σ H Q => ∃ bx Z env, Rel G bx Z env σ H ∧ Rd G W bx Z H σ (fun Z' _ as vs => ArOk G Z' σ as vs ∧ ShapeOk ms as) (eva ms cs env) Q
section
variable {X : Cx} {G : Gc} {W : WX} {pos : Pos}
theorem saa_nil : PA X [] (tEa G W [] []) := PA.imp pa_nil fun σ H Q ⟨bx, Z, env, Re, h⟩ => by
  simp only [eva] at h
  exact h [] Z H .refl Re ⟨trivial, trivial⟩
theorem saa_v {e : Expr} {es : List Expr} {c : E} {cs : List E} {ms : List Md} (ha : PEx X G W e c) (hr : PA X es (tEa G W ms cs)) (hs : starEach (e :: es) X.env = (false, eval e X.env) :: starEach es X.env) : PA X (e :: es) (tEa G W (.v :: ms) (c :: cs)) := by
  refine PA.imp (pa_cons ha hr hs) fun σ H Q ⟨bx, Z, env, Re, h⟩ => ?_
  simp only [eva] at h
  obtain ⟨b', Z', e', R', q⟩ := sub1o Re h
  refine ⟨b', Z', e', R', q.imp (fun _ _ _ _ _ p => p) fun v H1 ⟨Z1, env1, x, e1, R1, p1, h1⟩ => ?_⟩
  split at h1
  · exact False.elim h1
  · rename_i hk
    obtain ⟨Z2, e2, R2, s2, r2⟩ := p1.freeze Re.bd e1 R1 hk
    have h2 := Rd.bind0 (P := fun Z' _ as vs => ArOk G Z' σ as vs ∧ ShapeOk ms as) (h1.ext e2)
    refine ⟨bx, Z2, env1, R2, h2.imp (fun _ _ _ _ _ p => p) fun vs H3 ⟨Z3, env3, ds, e3, R3, ⟨p3, p4⟩, h3⟩ => ?_⟩
    exact h3 (v :: vs) Z3 H3 e3 R3 ⟨⟨r2.mono e3.z, p3⟩, p4⟩
theorem saa_io {x : Str} {p : Pos} {i : Nat} {es : List Expr} {cs : List E} {ms : List Md} (hN : X.N[i]? = some x) (hv : Vis X.env.scope x) (hd : (x == ("__debug__" : Str)) = false) (hcd : (x == ("__classdict__" : Str)) = false) (hr : PA X es (tEa G W ms cs)) : PA X (.Name x p :: es) (tEa G W (.io :: ms) (.var i :: cs)) := by
  refine PA.imp (pa_cons (pe_var hN hv hd hcd) hr) fun σ H Q ⟨bx, Z, env, Re, h⟩ => ?_
  simp only [eva] at h
  split at h
  · rename_i d q
    obtain ⟨a, e, zn, o⟩ := Re.slot i _ q
    refine ⟨.ref a, Re.get_ref q e, ?_⟩
    have h2 := Rd.bind0 (P := fun Z' _ as vs => ArOk G Z' σ as vs ∧ ShapeOk ms as) h
    refine ⟨bx, Z, env, Re, h2.imp (fun _ _ _ _ _ p => p) fun vs H3 ⟨Z3, env3, ds, e3, R3, ⟨p3, p4⟩, h3⟩ => ?_⟩
    exact h3 (.ref a :: vs) Z3 H3 e3 R3 ⟨⟨Re.get_ref q e, p3⟩, p4⟩
  · exact False.elim h
/-- the arguments as the callee has them -/
theorem args_of {bx : Bd} {Z H : Hp} {env : DL.Env} {σ : L2.St} (R : Rel G bx Z env σ H) : ∀ {ms : List Md} {as : List Ar} {vs : List V} {ds : List D}, ArOk G Z σ as vs → ShapeOk ms as → resolve env as = some ds →
    ArgsOk G Z H ms vs ds ∧ Paired (fun i a => σ[i]? = some (some (.ref a)) ∧ bx.bx a) (boxes as) (ioA ms vs) ∧ ∀ i ∈ boxes as, ∃ d, env[i]? = some (.box d)
  | [], [], [], ds, _, _, h => by cases h; exact ⟨trivial, .nil, by simp [boxes]⟩
  | .v :: ms, .v d :: as, v :: vs, ds, ⟨r, ha⟩, hs, h => by
    simp only [resolve] at h
    cases q : resolve env as with
    | none => rw [q] at h; cases h
    | some es =>
      rw [q] at h
      cases h
      obtain ⟨h1, h2, h3⟩ := args_of R (ms := ms) ha hs q
      exact ⟨⟨r, h1⟩, h2, h3⟩
  | .io :: ms, .b i :: as, v :: vs, ds, ⟨r, ha⟩, hs, h => by
    simp only [resolve] at h
    split at h
    · rename_i d q1
      cases q : resolve env as with
      | none => rw [q] at h; cases h
      | some es =>
        rw [q] at h
        cases h
        obtain ⟨h1, h2, h3⟩ := args_of R (ms := ms) ha hs q
        obtain ⟨a, e, zn, o⟩ := R.slot i _ q1
        have e' := R.get_ref q1 e
        rw [r] at e'; cases e'
        refine ⟨⟨⟨a, rfl, zn, o⟩, h1⟩, .cons ⟨r, R.bin i d a q1 e⟩ h2, fun j hj => ?_⟩
        rcases List.mem_cons.mp hj with rfl | hj
        · exact ⟨d, q1⟩
        · exact h3 j hj
    · cases h
  | [], [], _ :: _, _, h, _, _ => h.elim
  | [], .v _ :: _, _, _, _, h, _ => h.elim
  | [], .b _ :: _, _, _, _, h, _ => h.elim
  | .v :: _, [], _, _, _, h, _ => h.elim
  | .v :: _, .b _ :: _, _, _, _, h, _ => h.elim
  | .io :: _, [], _, _, _, h, _ => h.elim
  | .io :: _, .v _ :: _, _, _, _, h, _ => h.elim
  | .v :: _, .v _ :: _, [], _, h, _, _ => h.elim
  | .io :: _, .b _ :: _, [], _, h, _, _ => h.elim
theorem pair_nodup {σ : L2.St} {bx : Bd} : ∀ {is : List Nat} {as : List Addr}, Paired (fun i a => σ[i]? = some (some (.ref a)) ∧ bx.bx a) is as → is.Nodup → (∀ i j a, i ∈ is → j ∈ is → σ.getD i none = some (.ref a) → σ.getD j none = some (.ref a) → i = j) → as.Nodup
  | [], [], _, _, _ => List.nodup_nil
  | i :: is, a :: as, .cons ⟨hi, hb⟩ p, nd, inj => by
    have nd' := List.nodup_cons.mp nd
    refine List.nodup_cons.mpr ⟨fun ha => ?_, pair_nodup p nd'.2 fun i j a hi hj => inj i j a (by simp [hi]) (by simp [hj])⟩
    have : ∃ j ∈ is, σ[j]? = some (some (.ref a)) := by
      clear inj nd nd'
      induction p with
      | nil => cases ha
      | cons h t ih =>
        rcases List.mem_cons.mp ha with rfl | ha
        · exact ⟨_, by simp, h.1⟩
        · obtain ⟨j, hj, e⟩ := ih ha
          exact ⟨j, by simp [hj], e⟩
    obtain ⟨j, hj, e⟩ := this
    have e1 : σ.getD i none = some (.ref a) := by rw [List.getD_eq_getElem?_getD, hi]; rfl
    have e2 : σ.getD j none = some (.ref a) := by rw [List.getD_eq_getElem?_getD, e]; rfl
    have := inj i j a (by simp) (by simp [hj]) e1 e2
    subst this
    exact nd'.1 hj
/-- behind the call -/
theorem rel_outs {bx : Bd} {Z H Z' H' : Hp} {env : DL.Env} {σ : L2.St} {is : List Nat} {as : List Addr} {outs : List D} (R : Rel G bx Z env σ H) (p : Paired (fun i a => σ[i]? = some (some (.ref a)) ∧ bx.bx a) is as) (nd : is.Nodup) (hbox : ∀ i ∈ is, ∃ d, env[i]? = some (.box d))
    (e : Ext (bxOf as) Z H Z' H') (le : Same Z' H') (o : OutsOk G Z' H' as outs) (hl : outs.length = is.length) : Ext bx Z H Z' H' ∧ Rel G bx Z' (putOuts is outs env) σ H' := by
  have sub : ∀ a, a ∈ as → bx.bx a := by
    clear o hl e nd hbox
    intro a ha
    induction p with
    | nil => cases ha
    | cons h t ih =>
      rcases List.mem_cons.mp ha with rfl | ha
      · exact h.2
      · exact ih ha
  have back : ∀ a, a ∈ as → ∃ i ∈ is, σ.getD i none = some (.ref a) := by
    clear o hl e nd hbox sub
    intro a ha
    induction p with
    | nil => cases ha
    | cons h t ih =>
      rcases List.mem_cons.mp ha with rfl | ha
      · exact ⟨_, List.mem_cons_self, by rw [List.getD_eq_getElem?_getD, h.1]; rfl⟩
      · obtain ⟨j, hj, e⟩ := ih ha
        exact ⟨j, by simp [hj], e⟩
  have ex : Ext bx Z H Z' H' := ⟨e.z, fun a o q nb => e.h a o q fun z => nb (sub a z), e.d, e.n⟩
  have hOB : ∀ i ∈ is, IsOB env[i]? := fun i hi => by obtain ⟨d, q⟩ := hbox i hi; rw [q]; trivial
  have R1 : Rel G bx Z' (DL.fgt is env) σ H' := by
    refine (Rel.fgt is R).ext ex le fun i d a h e1 => ?_
    rcases fgt_get h with h | ⟨hi, h⟩
    · cases h
    · obtain ⟨a', e2, zn, o'⟩ := R.slot i _ h
      rw [e1] at e2; cases e2
      have na : a ∉ as := fun ha => by
        obtain ⟨j, hj, ej⟩ := back a ha
        have := R.inj i j a (by rw [h]; trivial) (hOB j hj) e1 ej
        subst this
        exact hi hj
      obtain ⟨u, hu⟩ := o'.there
      refine ⟨?_, o'.move e.z fun o ho => e.h a o ho na⟩
      cases q : Z' a with
      | none => rfl
      | some w =>
        rcases e.n a w q with q | q
        · rw [zn] at q; cases q
        · rw [hu] at q; cases q
  refine ⟨ex, ?_⟩
  rw [← putOuts_fgt (is := is) hl.symm nd]
  refine Rel.boxes R1 p nd (fun i j a hi hj ei ej => ?_) (fun i j a hi hj ei ej => R.inj i j a (hOB i hi) (hOB j hj) ei ej) o
  have hj' : j ∉ is ∧ IsOB env[j]? := by
    cases q : (DL.fgt is env)[j]? with
    | none => rw [q] at hj; exact hj.elim
    | some s =>
      rcases fgt_get q with z | ⟨z1, z2⟩
      · rw [q, z] at hj; exact hj.elim
      · rw [q] at hj; exact ⟨z1, by rw [z2]; exact hj⟩
  exact R.inj j i a hj'.2 (hOB i hi) ej ei
/-- a def as it stands, with its promise -/
structure FnAt (X : Cx) (G : Gc) (k : Nat) (i : FnI) : Prop where
  ex : ∃ (f : Addr) (fd : FuncData) (ps : List Str), FnOk X.prog X.w X.K X.mg X.base (L2.CX X.prog X.w) k f fd ps (spF G i.ms i.sem) ∧ X.mg i.name = some (.ref f) ∧ PySem.W.keepIn X.K (.ref f) = true ∧ Binds X.K fd ps [] ∧ ps.length = i.ms.length
  db : (i.name == ("__debug__" : Str)) = false
theorem snd_call {i : FnI} {k : Nat} {e : Expr} {es : List Expr} {cs : List E} {p : Pos} (F : FnAt X G k i) (hr : Room k X.A) (tk : Takes X W) (hg : Gl X i.name) (ha : PA X (e :: es) (tEa G W i.ms cs))
    (he : starEach (e :: es) X.env = (false, eval e X.env) :: starEach es X.env) (hpl : (backTo pos (starEach es X.env)).any (·.1) = false) : PEx X G W (.Call (.Name i.name p) (e :: es) [] pos) (.call i cs) := by
  obtain ⟨f, fd, ps, hf, hm, hk, hb, hps⟩ := F.ex
  refine ⟨fun pins s σ H Q I h => ?_⟩
  obtain ⟨bx, Z, env, Re, h⟩ := h
  simp only [ev] at h
  have h := Rd.bind0 (P := fun Z' _ as vs => ArOk G Z' σ as vs ∧ ShapeOk i.ms as) h
  refine wpAny_Call_Name_kw (ld_glob I hg hm ?_ F.db)
  refine PySem.W.callWith_K (h₀ := X.base) I.ok.mod.kin hk (thn (ha.run pos pins s σ H _ I ⟨bx, Z, env, Re, h⟩) fun us s1 ⟨vs, H1, I1, r, Z1, env1, as, e1, R1, ⟨p1, p2⟩, h1⟩ => ⟨I1.kIn, ?_⟩) he hpl
  split at h1
  · rename_i ds hres
    split at h1
    · rename_i hnd
      have nd : (boxes as).Nodup := of_decide_eq_true hnd
      obtain ⟨hA, hP, hB⟩ := args_of R1 p1 p2 hres
      have inj : ∀ i j a, i ∈ boxes as → j ∈ boxes as → σ.getD i none = some (.ref a) → σ.getD j none = some (.ref a) → i = j := fun i j a hi hj => R1.inj i j a (by obtain ⟨d, q⟩ := hB i hi; rw [q]; trivial) (by obtain ⟨d, q⟩ := hB j hj; rw [q]; trivial)
      have ndA := pair_nodup hP nd inj
      have hsp : spF G i.ms i.sem (vs ++ []) H1 Q (fun cls d H' => W cls d σ H') := by
        rw [List.append_nil]
        refine ⟨Z1, ds, R1.le, hA, ndA, ?_⟩
        cases q : i.sem ds with
        | ok d kk outs =>
          rw [q] at h1
          show ∀ v Z' H', _
          intro v Z' H' e2 le2 o2 hkk p3
          have h1 : Rd G W bx Z H σ (VOk G bx H) (if outs.length = (boxes as).length then .ok ⟨d, kk⟩ (putOuts (boxes as) outs env1) else .bad) Q := h1
          split at h1
          · rename_i hl
            obtain ⟨e3, R3⟩ := rel_outs R1 hP nd hB e2 le2 o2 hl
            refine h1 v Z' H' (e1.trans e3) R3 ?_
            cases kk with
            | fz => exact p3
            | tmp =>
              obtain ⟨a, ea, zn, hn, nb, o⟩ := p3
              exact ⟨a, ea, zn, e1.gone hn, (fun z => by obtain ⟨w, hw⟩ := R1.bd a (.inl z); rw [hn] at hw; cases hw), o⟩
            | ln => exact absurd rfl hkk
          · exact False.elim h1
        | exn c d outs =>
          rw [q] at h1
          show ∀ dd v Z' H', _
          intro dd v Z' H' e2 le2 o2 hx r2
          have h1 : Rd G W bx Z H σ (VOk G bx H) (if outs.length = (boxes as).length then .exn c d (putOuts (boxes as) outs env1) else .bad) Q := h1
          split at h1
          · rename_i hl
            obtain ⟨e3, R3⟩ := rel_outs R1 hP nd hB e2 le2 o2 hl
            exact h1 dd v Z' H' (e1.trans e3) R3 hx r2
          · exact False.elim h1
        | bad => rw [q] at h1; exact h1
      have r2 : Vals (vs ++ []) (us ++ []) := r.append .nil
      have hl : (us ++ ([] : List Value)).length = ps.length := by rw [← r2.length]; exact hf.len _ _ _ _ hsp
      refine wpAny_call (codeAny_mono (hf.run X.A X.stack s1 H1 ⟨us, []⟩ (us ++ []) (vs ++ []) Q (fun cls d H' => W cls d σ H') hr I1.env0 (hb s1 us I1.kIn hl) r2 hsp) fun r s' hq => ?_)
      cases r with
      | error e => exact tk e s' (XE.of_call I1 (fun _ _ _ z => z) hq)
      | ok fl =>
        cases fl with
        | ret u => exact I1.after hq
        | next => exact False.elim hq
        | brk => exact False.elim hq
        | cont => exact False.elim hq
    · exact False.elim h1
  · exact False.elim h1
end
end DL
set_option Elab.async false
set_option linter.all false
set_option autoImplicit false
set_option maxRecDepth 100000
set_option maxHeartbeats 1000000
namespace DL
open PySem PySem.Spec PyProof.Rows L2
section
variable {X : Cx} {tg : Expr}
/-- a list or a tuple, walked -/
def iSeq (K : PySem.W.Frag) (tl : TE) : TI := fun σ H R => tl σ H fun x H1 => ∃ a, x = .ref a ∧
  ((∃ xs, SqL K H1 a xs ∧ (xs.length ≤ sizeLine → R (Itl K a) H1)) ∨ (∃ xs, SqT K H1 a xs ∧ (xs.length ≤ sizeLine → R (Itt K a) H1)))
theorem pie_one {pins : List (Addr × PySem.Obj)} {σ : L2.St} {H : Hp} {s : Shared} {o : PySem.Obj} {J : L2.It} {tn : Nat → Heap → Prop} {R : L2.It → Hp → Prop} (I : Inv X pins σ H s) (t : Turn X.prog X.w X.K tg J [s.heap.objs.size] s.heap.objs.size tn) (st : tn 0 (s.heap.push o)) (q : R J H) :
    PIE X pins σ tg R (.ref s.heap.objs.size) { s with heap := s.heap.push o } :=
  ⟨_, _, tn, J, H, rfl, I.kept (t' := s.toks) fun _ _ z => Heap.get?_push_of_some _ z, t, st, (fun b hb => by rw [List.mem_singleton.mp hb]; exact I.fpOk (Nat.le_refl _) (I.hok.fresh (Nat.le_refl _))), q⟩
theorem pi_seq {l : Expr} {tl : TE} (hl : PE X l tl) : PI X tg l (iSeq X.K tl) := ⟨fun pins s σ H R I h => thn (hl.run pins s σ H _ I h) fun v s1 ⟨x, H1, I1, r1, a, e, q⟩ => by
  subst e
  cases r1
  rcases q with ⟨xs, hx, go⟩ | ⟨xs, hx, go⟩
  · obtain ⟨us, ru, at_, room⟩ := I1.list hx
    exact wpAny_pyIter_list at_.isList (pie_one I1 (turn_list a _) ⟨_, Heap.get?_push_size _ rfl, rfl, rfl⟩ (go room))
  · obtain ⟨us, ru, at_, room⟩ := I1.tuple hx
    exact wpAny_pyIter_tuple (show s1.heap.IsTuple a us.toArray from at_) (pie_one I1 (turn_tuple a _) ⟨_, Heap.get?_push_size _ rfl, rfl, rfl⟩ (go room))⟩
end
abbrev W0 : WX := fun _ _ _ _ => False
section
variable {G : Gc} {bx : Bd} {Z H Z' H' : Hp} {env : DL.Env} {σ : L2.St}
theorem set_getD {σ : L2.St} {i j : Nat} {o : Option V} : (σ.set i o).getD j none = if j = i ∧ i < σ.length then o else σ.getD j none := by
  rw [List.getD_eq_getElem?_getD, List.getD_eq_getElem?_getD]
  by_cases e : i = j
  · subst e
    by_cases hi : i < σ.length
    · rw [List.getElem?_set_self hi, if_pos ⟨rfl, hi⟩]; rfl
    · rw [List.getElem?_eq_none (by simpa using hi), if_neg (fun z => hi z.2), List.getElem?_eq_none (by simpa using hi)]
  · rw [List.getElem?_set_ne e, if_neg (fun z => e z.1.symm)]
/-- a slot takes a value -/
theorem Rel.setVal (R : Rel G bx Z env σ H) {i : Nat} {v : V} {d : D} (r : Rep G Z v d) : Rel G bx Z (env.set i (.val d)) (σ.set i (some v)) H := by
  have nob : ¬ IsOB (some (.val d)) := fun z => z
  refine ⟨R.le, by rw [List.length_set, List.length_set]; exact R.len, fun j s h => ?_, fun j k a hj hk ej ek => ?_, fun j d a h e => ?_, fun j d a h e => ?_, fun j d a h e => ?_, R.bd⟩
  · rcases set_get h with ⟨rfl, rfl⟩ | ⟨hne, h⟩
    · have hi : j < σ.length := by
        rw [← R.len]
        have := (List.getElem?_eq_some_iff.mp h).1
        simpa using this
      exact ⟨v, by rw [set_getD, if_pos ⟨rfl, hi⟩], r⟩
    · have := R.slot j s h
      rwa [set_getD, if_neg (fun z => hne z.1)]
  · obtain ⟨hj, n1⟩ := isOB_set nob hj
    obtain ⟨hk, n2⟩ := isOB_set nob hk
    rw [set_getD, if_neg (fun z => n1 z.1)] at ej
    rw [set_getD, if_neg (fun z => n2 z.1)] at ek
    exact R.inj j k a hj hk ej ek
  · rcases set_get h with ⟨_, z⟩ | ⟨hne, h⟩
    · cases z
    · rw [set_getD, if_neg (fun z => hne z.1)] at e
      exact R.bin j d a h e
  · rcases set_get h with ⟨_, z⟩ | ⟨hne, h⟩
    · cases z
    · rw [set_getD, if_neg (fun z => hne z.1)] at e
      exact R.own j d a h e
  · rcases set_get h with ⟨_, z⟩ | ⟨hne, h⟩
    · cases z
    · rw [set_getD, if_neg (fun z => hne z.1)] at e
      exact R.owi j d a h e
/-- whatever the slot holds -/
theorem Rel.setUn (R : Rel G bx Z env σ H) {i : Nat} {o : Option V} : Rel G bx Z (env.set i .un) (σ.set i o) H := by
  have nob : ¬ IsOB (some .un) := fun z => z
  refine ⟨R.le, by rw [List.length_set, List.length_set]; exact R.len, fun j s h => ?_, fun j k a hj hk ej ek => ?_, fun j d a h e => ?_, fun j d a h e => ?_, fun j d a h e => ?_, R.bd⟩
  · rcases set_get h with ⟨rfl, rfl⟩ | ⟨hne, h⟩
    · trivial
    · have := R.slot j s h
      rwa [set_getD, if_neg (fun z => hne z.1)]
  · obtain ⟨hj, n1⟩ := isOB_set nob hj
    obtain ⟨hk, n2⟩ := isOB_set nob hk
    rw [set_getD, if_neg (fun z => n1 z.1)] at ej
    rw [set_getD, if_neg (fun z => n2 z.1)] at ek
    exact R.inj j k a hj hk ej ek
  · rcases set_get h with ⟨_, z⟩ | ⟨hne, h⟩
    · cases z
    · rw [set_getD, if_neg (fun z => hne z.1)] at e
      exact R.bin j d a h e
  · rcases set_get h with ⟨_, z⟩ | ⟨hne, h⟩
    · cases z
    · rw [set_getD, if_neg (fun z => hne z.1)] at e
      exact R.own j d a h e
  · rcases set_get h with ⟨_, z⟩ | ⟨hne, h⟩
    · cases z
    · rw [set_getD, if_neg (fun z => hne z.1)] at e
      exact R.owi j d a h e
/-- something that no slot holds is changed -/
theorem Rel.updD (R : Rel G bx Z env σ H) {p : Addr} {o o' : HO} (hp : H p = some o) (zp : Z p = none) (nb : ∀ a, bx.bx a ∨ bx.ow a → a ≠ p) : Rel G bx Z env σ (upd H p o') := by
  refine ⟨fun a u e => by rw [upd_ne (ne_of_none e zp)]; exact R.le a u e, R.len, fun i s h => ?_, R.inj, R.bin, R.own, R.owi, fun a ha => ?_⟩
  · have q := R.slot i s h
    cases s with
    | un => trivial
    | exc _ _ => trivial
    | val d => exact q
    | own d =>
      obtain ⟨a, e1, zn, o1⟩ := q
      exact ⟨a, e1, zn, o1.move (fun _ _ z => z) fun u hu => by rw [upd_ne (nb a (.inr (R.owi i d a h e1)))]; exact hu⟩
    | box d =>
      obtain ⟨a, e1, zn, o1⟩ := q
      exact ⟨a, e1, zn, o1.move (fun _ _ z => z) fun u hu => by rw [upd_ne (nb a (.inl (R.bin i d a h e1)))]; exact hu⟩
  · obtain ⟨u, hu⟩ := R.bd a ha
    exact ⟨u, by rw [upd_ne (nb a ha)]; exact hu⟩
end
/-- behind n turns of a comprehension -/
def LcP (G : Gc) (bx : Bd) (p : Addr) (i : Nat) (σ : L2.St) (f : DL.Env → R Vl) (c : DL.Env → R Bool) (Z1 H1 : Hp) (ds : List D) (res : R (List D)) (n : Nat) (Hn : Hp) : Prop :=
  ∃ Zn envn acc av, Ext bx Z1 H1 Zn Hn ∧ Rel G bx Zn (envn.set i .un) (σ.set i none) Hn ∧ Zn p = none ∧ Hn p = some (.lst av) ∧ RepL G Zn av acc ∧ acc.length ≤ n ∧ lcLoop f c i (ds.drop n) acc envn = res
def okR (r : R (List D)) : Prop := match r with
  | .ok _ _ => True
  | _ => False
section
variable {G : Gc} {bx : Bd} {σ : L2.St} {i : Nat} {Z1 H1 : Hp} {ds : List D} {res : R (List D)} {Dd : Addr} {ce : E} {cc : DL.Env → R Bool}
/-- a test within a comprehension -/
def tCc (G : Gc) (W : WX) (c : DL.Env → R Bool) : TT := fun σ H Q => ∃ bx Z env, Rel G bx Z env σ H ∧ Rd G W bx Z H σ (fun _ _ b b' => b = b') (c env) Q
theorem lc_turn (hd : H1 Dd = none) (hbd : ∀ a, bx.bx a ∨ bx.ow a → ∃ o, H1 a = some o) (hres : okR res) (hl : ds.length ≤ sizeLine) {n : Nat} {x : V} {H : Hp} {d : D} (hn : ds[n]? = some d) (hx : ∀ Zn Hn, Ext bx Z1 H1 Zn Hn → Rep G Zn x d) (p : LcP G bx Dd i σ (ev ce) cc Z1 H1 ds res n H) :
    gName i x (wipe σ [i]) H fun σ2 H2 => wipe σ2 [i] = wipe σ [i] ∧ tCc G W0 cc σ2 H2 fun b H3 => if b = true then tE G W0 ce σ2 H3 fun y H4 => ∃ acc, H4 Dd = some (.lst acc) ∧ acc.length < sizeLine ∧ LcP G bx Dd i σ (ev ce) cc Z1 H1 ds res (n + 1) (upd H4 Dd (.lst (acc ++ [y]))) else LcP G bx Dd i σ (ev ce) cc Z1 H1 ds res (n + 1) H3 := by
  obtain ⟨Zn, envn, acc, av, e, R, zD, hD, ra, ha, hl2⟩ := p
  have hlt : n < ds.length := (List.getElem?_eq_some_iff.mp hn).1
  have hdrop : ds.drop n = d :: ds.drop (n + 1) := by
    rw [List.drop_eq_getElem_cons hlt]
    congr 1
    have := (List.getElem?_eq_some_iff.mp hn).2
    exact this
  rw [hdrop] at hl2
  simp only [lcLoop] at hl2
  have nD : ∀ a, bx.bx a ∨ bx.ow a → a ≠ Dd := fun a ha z => by
    obtain ⟨o, ho⟩ := hbd a ha
    rw [z, hd] at ho; cases ho
  have nbD : ¬ bx.bx Dd := fun z => nD Dd (.inl z) rfl
  have w1 : wipe σ [i] = σ.set i none := rfl
  refine ⟨?_, ?_⟩
  · show (((wipe σ [i]).set i (some x)).set i none) = _
    rw [w1, List.set_set, List.set_set]
  -- the test
  have R1 : Rel G bx Zn (envn.set i (.val d)) ((wipe σ [i]).set i (some x)) H := by
    have := R.setVal (i := i) (hx Zn H e)
    rw [List.set_set] at this
    rw [w1]
    exact this
  refine ⟨bx, Zn, _, R1, ?_⟩
  cases q : cc (envn.set i (.val d)) with
  | bad => rw [q] at hl2; subst hl2; exact hres.elim
  | exn c z e' => rw [q] at hl2; subst hl2; exact hres.elim
  | ok b env1 =>
    rw [q] at hl2
    simp only [DL.R.bind] at hl2
    intro b' Z2 H2 e2 R2 hb
    subst hb
    have hD2 : H2 Dd = some (.lst av) := e2.h _ _ hD nbD
    have zD2 : Z2 Dd = none := by
      cases q : Z2 Dd with
      | none => rfl
      | some w => rcases e2.n Dd w q with z | z
                  · rw [zD] at z; cases z
                  · rw [hD] at z; cases z
    have back : ∀ {Z H : Hp} {env : DL.Env}, Rel G bx Z env ((wipe σ [i]).set i (some x)) H → Rel G bx Z (env.set i .un) (σ.set i none) H := fun R => by
      have := R.setUn (i := i) (o := none)
      rw [w1, List.set_set, List.set_set] at this
      exact this
    cases b with
    | false =>
      rw [if_neg Bool.false_ne_true]
      refine ⟨Z2, env1, acc, av, e.trans e2, back R2, zD2, hD2, ra.mono e2.z, Nat.le_succ_of_le ha, ?_⟩
      simpa using hl2
    | true =>
      rw [if_pos rfl]
      rw [if_pos rfl] at hl2
      refine ⟨bx, Z2, env1, R2, ?_⟩
      cases q2 : ev ce env1 with
      | bad => rw [q2] at hl2; subst hl2; exact hres.elim
      | exn c z e' => rw [q2] at hl2; subst hl2; exact hres.elim
      | ok y env2 =>
        rw [q2] at hl2
        simp only [DL.R.bind] at hl2
        intro yv Z3 H3 e3 R3 p3
        split at hl2
        · subst hl2; exact hres.elim
        · rename_i hk
          obtain ⟨Z4, e4, R4, s4, r4⟩ := p3.freeze R2.bd e3 R3 hk
          have hD3 : H3 Dd = some (.lst av) := e4.h _ _ hD2 nbD
          have zD4 : Z4 Dd = none := by
            cases q : Z4 Dd with
            | none => rfl
            | some w => rcases e4.n Dd w q with z | z
                        · rw [zD2] at z; cases z
                        · rw [hD2] at z; cases z
          have e5 := (e.trans e2).trans e4
          refine ⟨av, hD3, ?_, Z4, env2, acc ++ [y.d], av ++ [yv], ⟨e5.z, fun a o ho nb => ?_, fun a o ho => ?_, e5.n⟩, ?_, zD4, upd_same, ?_, ?_, hl2⟩
          · rw [ra.length]; omega
          · rw [upd_ne (ne_of_none ho hd)]; exact e5.h a o ho nb
          · obtain ⟨o', q⟩ := e5.d a o ho
            exact ⟨o', by rw [upd_ne (ne_of_none ho hd)]; exact q⟩
          · exact (back R4).updD hD3 zD4 nD
          · exact (ra.mono (e2.z.trans e4.z)).append (.cons r4 .nil)
          · rw [List.length_append]; simp; omega
/-- the start -/
theorem lc_start {env1 : DL.Env} (hd : H1 Dd = none) (R1 : Rel G bx Z1 env1 σ H1) : LcP G bx Dd i σ (ev ce) cc Z1 H1 ds (lcLoop (ev ce) cc i ds [] (env1.set i .un)) 0 (upd H1 Dd (.lst [])) := by
  refine ⟨Z1, env1.set i .un, [], [], .laid hd, ?_, R1.le.free hd, upd_same, .nil, Nat.le_refl _, rfl⟩
  rw [List.set_set]
  exact R1.setUn.laid hd
/-- the end -/
theorem lc_done {env1 : DL.Env} {Z H H0 : Hp} {W : WX} {Q : VK} (hd : H1 Dd = none) (e1 : Ext bx Z H Z1 H1) (R1 : Rel G bx Z1 env1 σ H1) (old : ∀ a, H a = none → H0 a = none) {H' : Hp} (p : LcP G bx Dd i σ (ev ce) cc Z1 H1 ds res ds.length H')
    (h : Rd G W bx Z H σ (VOk G bx H0) (lcFin i env1 res) Q) : Q (.ref Dd) H' := by
  obtain ⟨Zn, envn, acc, av, e, R, zD, hD, ra, ha, hl2⟩ := p
  rw [List.drop_length] at hl2
  simp only [lcLoop] at hl2
  subst hl2
  refine h (.ref Dd) Zn H' (e1.trans e) ?_ ⟨Dd, rfl, zD, old _ (e1.gone hd), (fun z => by obtain ⟨o, ho⟩ := R1.bd Dd (.inl z); rw [hd] at ho; cases ho), ⟨av, hD, ra⟩⟩
  have R' : Rel G bx Zn (envn.set i .un) σ H' := by
    have hi : ((σ.set i none).set i (σ.getD i none)) = σ := by
      rw [List.set_set]
      apply List.ext_getElem?
      intro j
      by_cases e : i = j
      · subst e
        by_cases hi : i < σ.length
        · rw [List.getElem?_set_self hi, List.getD_eq_getElem?_getD, List.getElem?_eq_getElem hi]; rfl
        · rw [List.getElem?_eq_none (by simpa using hi), List.getElem?_eq_none (by simpa using hi)]
      · rw [List.getElem?_set_ne e]
    have := R.setUn (i := i) (o := σ.getD i none)
    rw [hi, List.set_set] at this
    exact this
  unfold rst
  split
  · rename_i d hv
    obtain ⟨v, hv1, r⟩ := R1.get_val hv
    have := R'.setVal (i := i) (r.mono e.z)
    have hs : σ.set i (some v) = σ := by
      apply List.ext_getElem?
      intro j
      by_cases e : i = j
      · subst e
        have hi := (List.getElem?_eq_some_iff.mp hv1).1
        rw [List.getElem?_set_self hi, hv1]
      · rw [List.getElem?_set_ne e]
    rw [hs, List.set_set] at this
    exact this
  · exact R'
end
end DL
set_option Elab.async false
set_option linter.all false
set_option autoImplicit false
set_option maxRecDepth 100000
set_option maxHeartbeats 1000000
namespace DL
open PySem PySem.Spec PyProof.Rows L2
def condF (co : Option E) (env : DL.Env) : R Bool := match co with
  | none => .ok true env
  | some c => (ev c env).bind fun y env => match truD y.d with | some b => .ok b env | none => .bad
theorem ev_lc {e it : E} {i : Nat} {co : Option E} {env : DL.Env} : ev (.lc e i it co) env = (ev it env).bind fun x env => match items x.d with
    | some ds => lcFin i env (lcLoop (ev e) (condF co) i ds [] (env.set i .un))
    | none => .bad := by
  cases co <;> simp only [ev] <;> rfl
theorem ev_lcr {e lo hi : E} {i : Nat} {co : Option E} {env : DL.Env} : ev (.lcr e i lo hi co) env = (ev lo env).bind fun x env => (ev hi env).bind fun y env => match x.d, y.d with
    | .int a, .int b => if -1000000000 ≤ a ∧ a ≤ 1000000000 ∧ -1000000000 ≤ b ∧ b ≤ 1000000000 ∧ (b - a).toNat ≤ LIM then lcFin i env (lcLoop (ev e) (condF co) i (rangeL a (b - a).toNat) [] (env.set i .un)) else .bad
    | _, _ => .bad := by
  cases co <;> simp only [ev] <;> rfl
theorem rangeL_len : ∀ (n : Nat) (a : Int), (rangeL a n).length = n
  | 0, _ => rfl
  | n + 1, a => by simp [rangeL, rangeL_len n]
theorem rangeL_get : ∀ (n : Nat) (a : Int) (j : Nat), j < n → (rangeL a n)[j]? = some (.int (a + j))
  | 0, _, _, h => by omega
  | n + 1, a, 0, _ => by simp [rangeL]
  | n + 1, a, j + 1, h => by
    simp only [rangeL, List.getElem?_cons_succ]
    rw [rangeL_get n (a + 1) j (by omega)]
    congr 2
    omega
section
variable {G : Gc} {bx : Bd} {H0 Z H : Hp} {x : Vl} {v : V}
/-- a list that is looked at stands while only boxes change -/
theorem VOk.lstS {ds : List D} (h : VOk G bx H0 Z H x v) (hd : x.d = .lst ds) (le : Same Z H) : ∃ a vs, v = .ref a ∧ H a = some (.lst vs) ∧ RepL G Z vs ds ∧ ∀ Z' H', Ext bx Z H Z' H' → Same Z' H' → H' a = some (.lst vs) := by
  obtain ⟨d, k⟩ := x
  cases hd
  cases k with
  | fz => cases (show Rep G Z v (.lst ds) from h) with | lst h' r => exact ⟨_, _, rfl, le _ _ h', r, fun Z' H' e l => l _ _ (e.z _ _ h')⟩
  | tmp => obtain ⟨a, e, _, _, nb, vs, o, r⟩ := h; exact ⟨a, vs, e, o, r, fun Z' H' e l => e.h _ _ o nb⟩
  | ln => obtain ⟨a, e, nb, vs, o, r⟩ := h; exact ⟨a, vs, e, o, r, fun Z' H' e l => e.h _ _ o nb⟩
end
section
variable {X : Cx} {G : Gc} {W : WX} {pos : Pos} {elt iter : Expr} {v : Str} {tp : Pos} {ifs : List Expr} {scope : Scope} {ce ci : E} {co : Option E} {i : Nat}
theorem lc_imp (C : Ctx X G) {σ : L2.St} {H : Hp} {Q : VK} (h : tE G W (.lc ce i ci co) σ H Q) : tLc (iSeq X.K (tE G W ci)) (gName i) (tCc G W0 (condF co)) (tE G W0 ce) [i] σ H Q := by
  obtain ⟨bx, Z, env, Re, h⟩ := h
  rw [ev_lc] at h
  obtain ⟨b', Z', e', R', q⟩ := sub1o Re h
  refine ⟨b', Z', e', R', q.imp (fun _ _ _ _ _ p => p) fun u H1 ⟨Z1, env1, x, e1, R1, p1, h1⟩ => ?_⟩
  have go : ∀ {ds : List D} {vs : List V}, items x.d = some ds → vs.length = ds.length → vs.length ≤ sizeLine → (∀ (n : Nat) (w : V) (d : D), vs[n]? = some w → ds[n]? = some d → Rep G Z1 w d) → ∀ Dd, H1 Dd = none → ∃ Pv : Nat → Hp → Prop, Pv 0 (upd H1 Dd (.lst [])) ∧ (∀ n H, Pv n H → ∃ Zn, Ext bx Z1 H1 Zn H ∧ Same Zn H) ∧
      (∀ (n : Nat) (w : V) (H : Hp), vs[n]? = some w → Pv n H → gName i w (wipe σ [i]) H fun σ2 H2 => wipe σ2 [i] = wipe σ [i] ∧ tCc G W0 (condF co) σ2 H2 fun b H3 => if b = true then tE G W0 ce σ2 H3 fun y H4 => ∃ acc, H4 Dd = some (.lst acc) ∧ acc.length < sizeLine ∧ Pv (n + 1) (upd H4 Dd (.lst (acc ++ [y]))) else Pv (n + 1) H3) ∧
      ∀ H, Pv vs.length H → Q (.ref Dd) H := by
    intro ds vs hx hlen hz hrep Dd hd
    rw [hx] at h1
    have h1 : Rd G W bx Z H σ (VOk G bx H) (lcFin i env1 (lcLoop (ev ce) (condF co) i ds [] (env1.set i .un))) Q := h1
    generalize hres : lcLoop (ev ce) (condF co) i ds [] (env1.set i .un) = res at h1
    have hok : okR res := by
      cases res with
      | ok a e => trivial
      | exn c d e => exact False.elim h1
      | bad => exact False.elim h1
    refine ⟨LcP G bx Dd i σ (ev ce) (condF co) Z1 H1 ds res, by rw [← hres]; exact lc_start hd R1, fun n H p => let ⟨Zn, _, _, _, e, R, _⟩ := p; ⟨Zn, e, R.le⟩, fun n w H hw p => ?_, fun H p => lc_done hd e1 R1 (fun _ q => q) (by rw [← hlen]; exact p) h1⟩
    have hlt : n < vs.length := (List.getElem?_eq_some_iff.mp hw).1
    obtain ⟨d, hdn⟩ : ∃ d, ds[n]? = some d := ⟨ds[n]'(by omega), List.getElem?_eq_getElem _⟩
    exact lc_turn hd R1.bd hok (by omega) hdn (fun Zn Hn e => (hrep n w d hw hdn).mono e.z) p
  have rep_of : ∀ {ds : List D} {vs : List V}, RepL G Z1 vs ds → ∀ (n : Nat) (w : V) (d : D), vs[n]? = some w → ds[n]? = some d → Rep G Z1 w d := fun {ds vs} r n w d hw hd => by
    obtain ⟨w', e, q⟩ := r.get hd
    rw [hw] at e; cases e; exact q
  have bad : items x.d = none → tLc (iSeq X.K (tE G W ci)) (gName i) (tCc G W0 (condF co)) (tE G W0 ce) [i] σ H Q := fun hx => by rw [hx] at h1; exact False.elim h1
  cases hxd : x.d with
  | tup ds =>
    obtain ⟨a, vs, rfl, ha, haZ, r⟩ := p1.tup hxd R1.le
    rw [C.K] at ha haZ
    refine ⟨a, rfl, .inr ⟨vs, ha, fun hz D hD => ?_⟩⟩
    obtain ⟨Pv, h0, hext, hst, hdn⟩ := go (ds := ds) (vs := vs) (by rw [hxd]; rfl) r.length hz (rep_of r) D hD
    exact lc_tup (xs := vs) Pv h0 (fun n H _ p => by obtain ⟨Zn, e, le⟩ := hext n H p; exact seqT_mono le (seqT_mono e.z haZ)) hst hdn
  | lst ds =>
    obtain ⟨a, vs, rfl, ha, r, st⟩ := p1.lstS hxd R1.le
    refine ⟨a, rfl, .inl ⟨vs, .of ha, fun hz D hD => ?_⟩⟩
    obtain ⟨Pv, h0, hext, hst, hdn⟩ := go (ds := ds) (vs := vs) (by rw [hxd]; rfl) r.length hz (rep_of r) D hD
    exact lc_list (xs := vs) Pv h0 (fun n H _ p => by obtain ⟨Zn, e, le⟩ := hext n H p; exact .of (st Zn H e le)) hst hdn
  | src ns =>
    have r0 := p1.rep (by rw [hxd]; rfl)
    rw [hxd] at r0
    cases r0 with
    | @src a _ hs =>
      rw [C.K] at hs
      refine ⟨a, rfl, .inl ⟨_, R1.le.seq hs, fun hz D hD => ?_⟩⟩
      obtain ⟨Pv, h0, hext, hst, hdn⟩ := go (ds := ns.map .int) (vs := ns.map V.int) (by rw [hxd]; rfl) (by simp) hz (rep_of (RepL.ints ns)) D hD
      exact lc_list (xs := ns.map V.int) Pv h0 (fun n H _ p => by obtain ⟨Zn, e, le⟩ := hext n H p; exact le.seq (e.z.seq hs)) hst hdn
  | non => rw [hxd] at h1; exact False.elim h1
  | bl _ => rw [hxd] at h1; exact False.elim h1
  | int _ => rw [hxd] at h1; exact False.elim h1
  | str _ => rw [hxd] at h1; exact False.elim h1
  | ins _ _ => rw [hxd] at h1; exact False.elim h1
  | exv _ _ => rw [hxd] at h1; exact False.elim h1
theorem snd_lc (C : Ctx X G) (hc : X.calm = true) (hi : PEx X G W iter ci) (ok : BlkOk X.N X.env.scope scope [(v, i)])
    (hg : ∀ (s : Shared) (H : Hp) (C : Addr) (cl : List (Str × Addr)) (fp : List Addr), PG (X.blk s H scope (compEnvC scope cl C X.env) fp) (.Name v tp) (gName i))
    (ht : ∀ (s : Shared) (H : Hp) (C : Addr) (cl : List (Str × Addr)) (fp : List Addr), PTs (X.blk s H scope (compEnvC scope cl C X.env) fp) ifs (tCc G W0 (condF co)))
    (he : ∀ (s : Shared) (H : Hp) (C : Addr) (cl : List (Str × Addr)) (fp : List Addr), PEx (X.blk s H scope (compEnvC scope cl C X.env) fp) G W0 elt ce) (hs : ∀ x, foldedSetIterable iter X.env x = pure x) :
    PEx X G W (.ListComp elt [⟨.Name v tp, iter, ifs, 0⟩] scope pos) (.lc ce i ci co) :=
  PE.imp (pe_lc (own := [(v, i)]) hc C.nd (pi_seq hi) ok hg ht he hs) fun σ H Q h => lc_imp C h
/-- .. over a range -/
theorem lcr_core {σ : L2.St} {bx : Bd} {Z H H0 Z1 H1 : Hp} {env1 : DL.Env} {a : Int} {n : Nat} {Q : VK} {Dd : Addr} (hl : n ≤ sizeLine) (hd : H1 Dd = none) (e1 : Ext bx Z H Z1 H1) (R1 : Rel G bx Z1 env1 σ H1) (old : ∀ a, H a = none → H0 a = none)
    (h1 : Rd G W bx Z H σ (VOk G bx H0) (lcFin i env1 (lcLoop (ev ce) (condF co) i (rangeL a n) [] (env1.set i .un))) Q) :
    ∃ W : Nat → Nat → Hp → Prop, (∃ m, W 0 m (upd H1 Dd (.lst []))) ∧ ∀ k m H, W k m H →
      ((Itr a n).stop k H ∧ Q (.ref Dd) H) ∨ ((Itr a n).go k H ∧ ∃ Nx : Hp → Prop, (∀ H', Nx H' → ∃ m', m' < m ∧ W (k + 1) m' H') ∧ ∀ x H', (Itr a n).yld k H x H' → gName i x (wipe σ [i]) H' fun σ2 H2 => wipe σ2 [i] = wipe σ [i] ∧ tCc G W0 (condF co) σ2 H2 fun b H3 =>
        if b = true then tE G W0 ce σ2 H3 fun y H4 => ∃ acc, H4 Dd = some (.lst acc) ∧ acc.length < sizeLine ∧ Nx (upd H4 Dd (.lst (acc ++ [y]))) else Nx H3) := by
  generalize hres : lcLoop (ev ce) (condF co) i (rangeL a n) [] (env1.set i .un) = res at h1
  have hok : okR res := by
    cases res with
    | ok a e => trivial
    | exn c d e => exact False.elim h1
    | bad => exact False.elim h1
  refine lc_range (lo := a) (n := n) (Qd := fun H => Q (.ref Dd) H) (LcP G bx Dd i σ (ev ce) (condF co) Z1 H1 (rangeL a n) res) (by rw [← hres]; exact lc_start hd R1) (fun k H hk p => ?_) fun H p => lc_done hd e1 R1 old (by rw [rangeL_len]; exact p) h1
  exact lc_turn hd R1.bd hok (by rw [rangeL_len]; exact hl) (rangeL_get n a k hk) (fun Zn Hn e => Rep.int _) p
theorem lcr1_imp {ch : E} {σ : L2.St} {H : Hp} {Q : VK} (h : tE G W (.lcr ce i (.cst (.int 0)) ch co) σ H Q) : tLc (iRng1 (tCons (tE G W ch) tNil)) (gName i) (tCc G W0 (condF co)) (tE G W0 ce) [i] σ H Q := by
  obtain ⟨bx, Z, env, Re, h⟩ := h
  rw [ev_lcr] at h
  simp only [ev, DL.R.bind] at h
  obtain ⟨b', Z', e', R', q⟩ := sub1o Re h
  refine ⟨b', Z', e', R', q.imp (fun _ _ _ _ _ p => p) fun u H1 ⟨Z1, env1, y, e1, R1, p1, h1⟩ => ?_⟩
  split at h1
  · rename_i a b ha hb
    cases ha
    cases p1.int hb
    split at h1
    · rename_i hr
      obtain ⟨h2, h3, h4, h5, h6⟩ := hr
      refine ⟨b, rfl, by omega, by omega, fun D hD => ?_⟩
      have e0 : (b - 0).toNat = b.toNat := by simp
      rw [e0] at h1 h6
      exact lcr_core (by rw [← LIM_eq]; exact h6) hD e1 R1 (fun _ q => q) h1
    · exact False.elim h1
  · exact False.elim h1
theorem snd_lcr1 {hi : Expr} {ch : E} {p1 p2 : Pos} (C : Ctx X G) (hc : X.calm = true) (hgr : Gl X "range") (hmr : X.mg "range" = none) (hh : PEx X G W hi ch) (hst : starEach [hi] X.env = [(false, eval hi X.env)]) (ok : BlkOk X.N X.env.scope scope [(v, i)])
    (hg : ∀ (s : Shared) (H : Hp) (C : Addr) (cl : List (Str × Addr)) (fp : List Addr), PG (X.blk s H scope (compEnvC scope cl C X.env) fp) (.Name v tp) (gName i))
    (ht : ∀ (s : Shared) (H : Hp) (C : Addr) (cl : List (Str × Addr)) (fp : List Addr), PTs (X.blk s H scope (compEnvC scope cl C X.env) fp) ifs (tCc G W0 (condF co)))
    (he : ∀ (s : Shared) (H : Hp) (C : Addr) (cl : List (Str × Addr)) (fp : List Addr), PEx (X.blk s H scope (compEnvC scope cl C X.env) fp) G W0 elt ce) :
    PEx X G W (.ListComp elt [⟨.Name v tp, .Call (.Name "range" p1) [hi] [] p2, ifs, 0⟩] scope pos) (.lcr ce i (.cst (.int 0)) ch co) :=
  PE.imp (pe_lc (own := [(v, i)]) hc C.nd (pi_range1 hgr hmr (pa_cons hh pa_nil hst) hst) ok hg ht he) fun σ H Q h => lcr1_imp h
theorem lcr2_imp {cl ch : E} {σ : L2.St} {H : Hp} {Q : VK} (h : tE G W (.lcr ce i cl ch co) σ H Q) : tLc (iRng2 (tCons (tE G W cl) (tCons (tE G W ch) tNil))) (gName i) (tCc G W0 (condF co)) (tE G W0 ce) [i] σ H Q := by
  obtain ⟨bx, Z, env, Re, h⟩ := h
  rw [ev_lcr] at h
  obtain ⟨b', Z', e', R', q⟩ := sub1o Re h
  refine ⟨b', Z', e', R', q.imp (fun _ _ _ _ _ p => p) fun u H1 ⟨Z1, env1, x, e1, R1, p1, h1⟩ => ?_⟩
  obtain ⟨b', Z', e', R', q⟩ := sub1o R1 (h1.ext e1)
  refine ⟨b', Z', e', R', q.imp (fun _ _ _ _ _ p => p) fun w H2 ⟨Z2, env2, y, e2, R2, p2, h2⟩ => ?_⟩
  split at h2
  · rename_i a b ha hb
    have p1' := p1.ext e2
    cases p1'.int ha
    cases p2.int hb
    split at h2
    · rename_i hr
      obtain ⟨g2, g3, g4, g5, g6⟩ := hr
      refine ⟨a, b, rfl, ⟨by omega, by omega, by omega, by omega⟩, fun D hD => ?_⟩
      exact lcr_core (by rw [← LIM_eq]; exact g6) hD e2 R2 (fun _ q => e1.gone q) h2
    · exact False.elim h2
  · exact False.elim h2
theorem snd_lcr2 {lo hi : Expr} {cl ch : E} {p1 p2 : Pos} (C : Ctx X G) (hc : X.calm = true) (hgr : Gl X "range") (hmr : X.mg "range" = none) (hl : PEx X G W lo cl) (hh : PEx X G W hi ch) (hst : starEach [lo, hi] X.env = [(false, eval lo X.env), (false, eval hi X.env)]) (hst2 : starEach [hi] X.env = [(false, eval hi X.env)]) (ok : BlkOk X.N X.env.scope scope [(v, i)])
    (hg : ∀ (s : Shared) (H : Hp) (C : Addr) (cl : List (Str × Addr)) (fp : List Addr), PG (X.blk s H scope (compEnvC scope cl C X.env) fp) (.Name v tp) (gName i))
    (ht : ∀ (s : Shared) (H : Hp) (C : Addr) (cl : List (Str × Addr)) (fp : List Addr), PTs (X.blk s H scope (compEnvC scope cl C X.env) fp) ifs (tCc G W0 (condF co)))
    (he : ∀ (s : Shared) (H : Hp) (C : Addr) (cl : List (Str × Addr)) (fp : List Addr), PEx (X.blk s H scope (compEnvC scope cl C X.env) fp) G W0 elt ce) :
    PEx X G W (.ListComp elt [⟨.Name v tp, .Call (.Name "range" p1) [lo, hi] [] p2, ifs, 0⟩] scope pos) (.lcr ce i cl ch co) :=
  PE.imp (pe_lc (own := [(v, i)]) hc C.nd (pi_range2 hgr hmr (pa_cons hl (pa_cons hh pa_nil hst2) (by rw [hst, hst2])) hst hst2) ok hg ht he) fun σ H Q h => lcr2_imp h
end
end DL
set_option Elab.async false
set_option linter.all false
set_option autoImplicit false
set_option maxRecDepth 100000
set_option maxHeartbeats 2000000
namespace DL
open PySem PySem.Spec PyProof.Rows L2
/-! own classes: fields, isinstance, making, == -/
def tyV (G : Gc) : TY → Value
  | .b t => .type t
  | .o c => .ref (G.cA c)
structure ClsAt (K : PySem.W.Frag) (G : Gc) (cs : List Nat) (fl : List Str) (c : Nat) : Prop where
  cl : Cls K (G.cA c)
  no : ∀ f ∈ fl, NoAttr K (G.cA c) f
  ha : PySem.W.findIn K (.ref (G.cA c)) "__class__" = some (some (.builtin "object.__class__"))
  hn : PySem.W.specialIn K (.builtin "object.__class__") "__get__" = some (some (.builtin "getset_descriptor.__get__"))
  htk : PySem.W.takesIn K (.builtin "object.__class__") = some true
  hm : PySem.W.mroIn K (G.cA c) (.type "object") = some true
  ko : ∀ c' ∈ cs, PySem.W.kitOne K (.ref (G.cA c')) (.ref (G.cA c)) = some (c' == c)
  kb : ∀ t ∈ ["NoneType", "bool", "int", "str", "tuple", "list"], PySem.W.kitOne K (.type t) (.ref (G.cA c)) = some false
section
variable {X : Cx} {G : Gc} {W : WX} {pos : Pos}
theorem snd_bad {e : Expr} : PEx X G W e .bad := ⟨fun pins s σ H Q I ⟨bx, Z, env, Re, h⟩ => by simp only [ev] at h; exact False.elim h⟩
theorem sndT_bad {e : Expr} : PTx X G W e .bad := ⟨fun pins s σ H Q I ⟨bx, Z, env, Re, h⟩ => by simp only [ev, DL.R.bind] at h; exact False.elim h⟩
theorem RepF.get {Z : Hp} : ∀ {vs : List (Str × V)} {fs : List (Str × D)} {f : Str} {d : D}, RepF G Z vs fs → fs.lookup f = some d → ∃ v, vs.lookup f = some v ∧ Rep G Z v d
  | _, _, f, d, .nil, h => by cases h
  | _, _, f, d, @RepF.cons _ _ x v vs' d' ds' r rs, h => by
    rw [List.lookup_cons] at h ⊢
    cases q : f == x with
    | true => rw [q] at h; cases h; exact ⟨_, rfl, r⟩
    | false => rw [q] at h; exact RepF.get rs h
theorem VOk.ins {bx : Bd} {H0 Z H : Hp} {x : Vl} {v : V} {c : Nat} {fs : List (Str × D)} (h : VOk G bx H0 Z H x v) (hd : x.d = .ins c fs) (le : Same Z H) : ∃ a dx vs, v = .ref a ∧ H a = some (.ins (G.cA c) dx vs) ∧ RepF G Z vs fs := by
  obtain ⟨d, k⟩ := x
  cases hd
  cases k with
  | fz => cases (show Rep G Z v (.ins c fs) from h) with | ins h' r => exact ⟨_, _, _, rfl, le _ _ h', r⟩
  | tmp => obtain ⟨a, e, _, _, _, dx, vs, o, r⟩ := h; exact ⟨a, dx, vs, e, o, r⟩
  | ln => obtain ⟨a, e, _, dx, vs, o, r⟩ := h; exact ⟨a, dx, vs, e, o, r⟩
theorem snd_fld {cs : List Nat} {fl : List Str} {a : Expr} {ca : E} {f : Str} (hcl : ∀ c ∈ cs, ClsAt X.K G cs fl c) (hf : f ∈ fl) (ha : PEx X G W a ca) (hb : attributeBase a f X.env (eval a X.env) = eval a X.env) : PEx X G W (.Attribute a f pos) (.fld cs ca f) := by
  refine PE.imp (pe_fld ha hb) fun σ H Q ⟨bx, Z, env, Re, h⟩ => ?_
  simp only [ev] at h
  obtain ⟨b', Z', e', R', q⟩ := sub1o Re h
  refine ⟨b', Z', e', R', q.imp (fun _ _ _ _ _ p => p) fun v H1 ⟨Z1, env1, y, e1, R1, p1, h1⟩ => ?_⟩
  split at h1
  · rename_i c fs hd
    split at h1
    · rename_i hc
      have hc : c ∈ cs := by simpa using hc
      obtain ⟨a, dx, vs, rfl, ha, r⟩ := p1.ins hd R1.le
      cases q2 : fs.lookup f with
      | none => rw [q2] at h1; exact False.elim h1
      | some d =>
        rw [q2] at h1
        obtain ⟨w, e, rw'⟩ := r.get q2
        exact ⟨a, _, dx, vs, w, rfl, ha, (hcl c hc).cl, (hcl c hc).no f hf, e, h1 w Z1 H1 e1 R1 rw'⟩
    · exact False.elim h1
  · exact False.elim h1
/-- a value's type -/
theorem tyx_o {cs : List Nat} {fl : List Str} {bx : Bd} {H0 Z H : Hp} {x : Vl} {v : V} {t : TY} (hK : G.K = X.K) (hcl : ∀ c ∈ cs, ClsAt X.K G cs fl c) (le : Same Z H) (p : VOk G bx H0 Z H x v) (h : tyO cs x.d = some t) : TyX X.K H v (tyV G t) := by
  have plain : ∀ {t'}, tyD x.d = some t' → t = .b t' → TyX X.K H v (tyV G t) := fun {t'} h' e => e ▸ tyx_of hK le p h'
  cases hd : x.d with
  | ins c fs =>
    rw [hd] at h
    simp only [tyO] at h
    split at h
    · rename_i hc
      cases h
      have hc : c ∈ cs := by simpa using hc
      obtain ⟨a, dx, vs, rfl, ha, r⟩ := p.ins hd le
      exact .base (.ins ha (hcl c hc).cl (hcl c hc).ha (hcl c hc).hn (hcl c hc).htk (hcl c hc).hm)
    · cases h
  | non => rw [hd] at h; cases h; exact plain (by rw [hd]; rfl) rfl
  | bl _ => rw [hd] at h; cases h; exact plain (by rw [hd]; rfl) rfl
  | int _ => rw [hd] at h; cases h; exact plain (by rw [hd]; rfl) rfl
  | str _ => rw [hd] at h; cases h; exact plain (by rw [hd]; rfl) rfl
  | tup _ => rw [hd] at h; cases h; exact plain (by rw [hd]; rfl) rfl
  | lst _ => rw [hd] at h; cases h; exact plain (by rw [hd]; rfl) rfl
  | src _ => rw [hd] at h; cases h; exact plain (by rw [hd]; rfl) rfl
  | exv _ _ => rw [hd] at h; cases h
theorem tyO_mem {cs : List Nat} {d : D} : ∀ {t : TY}, tyO cs d = some t → (∃ u, t = .b u ∧ u ∈ ["NoneType", "bool", "int", "str", "tuple", "list"]) ∨ ∃ c, t = .o c ∧ c ∈ cs := fun {t} h => by
  cases d with
  | ins c fs =>
    simp only [tyO] at h
    split at h
    · rename_i hc; cases h; exact .inr ⟨c, rfl, by simpa using hc⟩
    · cases h
  | exv _ _ => cases h
  | _ => cases h; exact .inl ⟨_, rfl, by decide⟩
theorem snd_isc {cs : List Nat} {fl : List Str} {c : Nat} {t : Str} {a : Expr} {ca : E} {p p2 : Pos} (C : Ctx X G) (hcl : ∀ c ∈ cs, ClsAt X.K G cs fl c) (hc : c ∈ cs) (hi : Gl X "isinstance") (hmi : X.mg "isinstance" = none) (hg : Gl X t) (hm : X.mg t = some (.ref (G.cA c))) (hdb : (t == ("__debug__" : Str)) = false) (ha : PEx X G W a ca)
    (he : starEach [a, .Name t p2] X.env = (false, eval a X.env) :: starEach [.Name t p2] X.env) : PEx X G W (.Call (.Name "isinstance" p) [a, .Name t p2] [] pos) (.isc cs ca c) := by
  have hx : PE X (.Name t p2) (tC (.ref (G.cA c))) := pe_glob hg hm rfl hdb
  refine PE.imp (pe_callB call_isi hi hmi (by decide +kernel) (pa_cons ha (pa_cons hx pa_nil) he) (he := he)) fun σ H Q ⟨bx, Z, env, Re, h⟩ => ?_
  simp only [ev] at h
  obtain ⟨b', Z', e', R', q⟩ := sub1o Re h
  refine ⟨b', Z', e', R', q.imp (fun _ _ _ _ _ p => p) fun v H1 ⟨Z1, env1, y, e1, R1, p1, h1⟩ => ?_⟩
  show rIsi X.K [v, .ref (G.cA c)] H1 Q
  unfold iscD at h1
  cases q2 : tyO cs y.d with
  | none => rw [q2] at h1; exact False.elim h1
  | some t0 =>
    rw [q2] at h1
    have ty := tyx_o C.K hcl R1.le p1 q2
    rcases tyO_mem q2 with ⟨u, rfl, hu⟩ | ⟨c', rfl, hc'⟩
    · exact ⟨v, _, _, _, _, rfl, .own _, ty, (hcl c hc).kb u hu, h1 _ Z1 H1 e1 R1 (Rep.bl _)⟩
    · exact ⟨v, _, _, _, _, rfl, .own _, ty, (hcl c hc).ko c' hc', h1 _ Z1 H1 e1 R1 (Rep.bl _)⟩
/-- a class that is made by its initializer -/
structure MkAt (X : Cx) (G : Gc) (k : Nat) (x : Str) (c : Nat) (i : FnI) : Prop where
  ex : ∃ (f : Addr) (fd : FuncData) (ps : List Str), Mk X.K (G.cA c) f ∧ FnOk X.prog X.w X.K X.mg X.base (L2.CX X.prog X.w) k f fd ps (spF G i.ms i.sem) ∧ Binds X.K fd ps []
  mg : X.mg x = some (.ref (G.cA c))
  db : (x == ("__debug__" : Str)) = false
  ms : ∃ l, i.ms = .io :: l
theorem noBox {bx : Bd} {σ : L2.St} : ∀ {is : List Nat} {as : List Addr}, is = [] → Paired (fun i a => σ[i]? = some (some (.ref a)) ∧ bx.bx a) is as → as = []
  | [], [], _, _ => rfl
  | _ :: _, _, e, _ => by cases e
theorem snd_mk {i : FnI} {k c : Nat} {x : Str} {e : Expr} {es : List Expr} {ce : List E} {p : Pos} (T : MkAt X G k x c i) (hr : Room (k + 1) X.A) (tk : Takes X W) (hg : Gl X x) (ha : PA X (e :: es) (tEa G W i.ms.tail ce))
    (he : starEach (e :: es) X.env = (false, eval e X.env) :: starEach es X.env) (hpl : (backTo pos (starEach es X.env)).any (·.1) = false) : PEx X G W (.Call (.Name x p) (e :: es) [] pos) (.mk i c ce) := by
  obtain ⟨f, fd, ps, M, hf, hb⟩ := T.ex
  obtain ⟨ml, hms⟩ := T.ms
  refine ⟨fun pins s σ H Q I h => ?_⟩
  obtain ⟨bx, Z, env, Re, h⟩ := h
  simp only [ev] at h
  have h := Rd.bind0 (P := fun Z' _ as vs => ArOk G Z' σ as vs ∧ ShapeOk i.ms.tail as) h
  refine wpAny_Call_Name_kw (ld_glob I hg T.mg ?_ T.db)
  refine PySem.W.callWith_K (h₀ := X.base) I.ok.mod.kin M.kp (thn (ha.run pos pins s σ H _ I ⟨bx, Z, env, Re, h⟩) fun us s1 ⟨vs, H1, I1, r, Z1, env1, as, e1, R1, ⟨p1, p2⟩, h1⟩ => ⟨I1.kIn, ?_⟩) he hpl
  split at h1
  · rename_i ds hbx hres
    obtain ⟨hA, hP, hB⟩ := args_of R1 p1 p2 hres
    have hio : ioA i.ms.tail vs = [] := noBox hbx hP
    -- the new thing and its dict
    let q := s1.heap.objs.size + 1
    let dq := s1.heap.objs.size
    have nq : H1 q = none := I1.hok.fresh (Nat.le_succ _)
    have ndq : H1 dq = none := I1.hok.fresh (Nat.le_refl _)
    have ne : dq ≠ q := Nat.ne_of_lt (Nat.lt_succ_self _)
    let Hn := upd (upd H1 dq (.own q)) q (.ins (G.cA c) dq [])
    have keepN : ∀ a o, H1 a = some o → Hn a = some o := fun a o ho => by
      show upd (upd H1 dq (.own q)) q _ a = _
      rw [upd_ne (ne_of_none ho nq), upd_ne (ne_of_none ho ndq)]; exact ho
    have leN : Same Z1 Hn := fun a o z => keepN a o (R1.le a o z)
    have zq : Z1 q = none := R1.le.free nq
    have hsp : spF G i.ms i.sem (.ref q :: vs) Hn (fun v H2 => v = .non ∧ Q (.ref q) H2) (fun cls d H' => W cls d σ H') := by
      rw [hms] at hA hio ⊢
      refine ⟨Z1, .ins c [] :: ds, leN, ⟨⟨q, rfl, zq, dq, [], upd_same, .nil⟩, ?_⟩, ?_, ?_⟩
      · -- the others
        have go : ∀ {ms : List Md} {vs : List V} {ds : List D}, ArgsOk G Z1 H1 ms vs ds → ArgsOk G Z1 Hn ms vs ds := by
          intro ms
          induction ms with
          | nil => intro vs ds h; cases vs <;> cases ds <;> exact h
          | cons m ms ih =>
            intro vs ds h
            cases vs with
            | nil => cases m <;> exact h
            | cons v vs =>
              cases ds with
              | nil => cases m <;> exact h
              | cons d ds =>
                cases m with
                | v => exact ⟨h.1, ih h.2⟩
                | io =>
                  obtain ⟨⟨b, e, zn, o⟩, h⟩ := h
                  exact ⟨⟨b, e, zn, o.move (fun _ _ z => z) fun o ho => keepN _ _ ho⟩, ih h⟩
        exact go hA
      · show (q :: ioA ml vs).Nodup
        rw [show ioA ml vs = [] from hio]; simp
      · show match i.sem (.ins c [] :: ds) with | .ok d k outs => _ | .exn c d outs => _ | .bad => _
        have hbx2 : ioA (.io :: ml) (V.ref q :: vs) = [q] := by show q :: ioA ml vs = [q]; rw [show ioA ml vs = [] from hio]
        -- back
        have back : ∀ {Z' H'}, Ext (bxOf (ioA (.io :: ml) (V.ref q :: vs))) Z1 Hn Z' H' → Same Z' H' → Ext bx Z1 H1 Z' H' ∧ Rel G bx Z' env1 σ H' := fun {Z' H'} e2 le2 => by
          have hk : Same H1 H' := fun a o ho => e2.h a o (keepN a o ho) (by
            rw [hbx2]
            show ¬ a ∈ [q]
            intro z
            rw [List.mem_singleton] at z
            subst z
            rw [nq] at ho; cases ho)
          have ex : Ext bx Z1 H1 Z' H' := ⟨e2.z, fun a o ho _ => hk a o ho, fun a o ho => ⟨o, hk a o ho⟩, fun a o ho => by
            rcases e2.n a o ho with z | z
            · exact .inl z
            · refine .inr ?_
              cases w : H1 a with
              | none => rfl
              | some o => rw [keepN a o w] at z; cases z⟩
          exact ⟨ex, R1.same ex le2 hk⟩
        cases q3 : i.sem (.ins c [] :: ds) with
        | ok d kk outs =>
          rw [q3] at h1
          intro v Z' H' e2 le2 o2 hkk p3
          cases d <;> first | exact False.elim h1 | skip
          cases outs with
          | nil => exact False.elim h1
          | cons d1 outs =>
            cases outs with
            | cons _ _ => exact False.elim h1
            | nil =>
              rw [hbx2] at o2
              obtain ⟨⟨z1, o1⟩, _⟩ := o2
              obtain ⟨e3, R3⟩ := back e2 le2
              refine ⟨by cases p3.rep rfl; rfl, h1 (.ref q) Z' H' (e1.trans e3) R3 ⟨q, rfl, z1, e1.gone nq, fun z => ?_, o1⟩⟩
              obtain ⟨w, hw⟩ := R1.bd q (.inl z)
              rw [nq] at hw; cases hw
        | exn c' d outs =>
          rw [q3] at h1
          intro dd v Z' H' e2 le2 o2 hx r2
          cases outs with
          | nil => exact False.elim h1
          | cons d1 outs =>
            cases outs with
            | cons _ _ => exact False.elim h1
            | nil =>
              obtain ⟨e3, R3⟩ := back e2 le2
              exact h1 dd v Z' H' (e1.trans e3) R3 hx r2
        | bad => rw [q3] at h1; exact h1
    have J := Inv.made (C := G.cA c) I1
    have rv : Vals (V.ref q :: vs) (Value.ref q :: us) := .cons rfl r
    have hl : (Value.ref q :: us ++ ([] : List Value)).length = ps.length := by
      rw [List.append_nil, ← rv.length]; exact hf.len _ _ _ _ hsp
    have hbd := hb _ (Value.ref q :: us) J.kIn hl
    rw [List.append_nil] at hbd
    refine wpAny_call (make_map (f := f) I1.kIn M.makes M.init (beq_iff_eq.mp M.fn) (codeAny_mono (hf.run _ X.stack _ _ ⟨Value.ref q :: us, []⟩ (Value.ref q :: us) _ _ (fun cls d H' => W cls d σ H') (hr.make (G.cA c) us []) (J.env0.make (G.cA c) us []) hbd rv hsp) fun res s2 done => ?_))
    cases res with
    | error u => exact tk u s2 (XE.of_call J (fun _ _ _ z => z) done)
    | ok fl =>
      cases fl with
      | ret u =>
        obtain ⟨v, H', J2, rv2, ev2, q4⟩ := J.after done
        subst ev2
        exact ⟨rv2, ⟨V.ref q, H', J2, rfl, q4⟩⟩
      | next => exact False.elim done
      | brk => exact False.elim done
      | cont => exact False.elim done
  · exact False.elim h1
end
end DL
set_option Elab.async false
set_option linter.all false
set_option autoImplicit false
set_option maxRecDepth 100000
set_option maxHeartbeats 2000000
namespace DL
open PySem PySem.Spec PyProof.Rows L2
/-! == where the left one may be of an own class -/
def eqoR (cs : List Nat) (q : List (Nat × FnI)) (x y : D) (env : DL.Env) : R Vl := match x with
  | .ins c _ => match q.lookup c, tyO cs y with
    | some f, some _ => if cs.contains c then eqR env (f.sem [x, y]) else .bad
    | _, _ => .bad
  | _ => lift (cmpD .Eq x y) env
theorem ev_eqo {cs : List Nat} {q : List (Nat × FnI)} {a b : E} {env : DL.Env} : ev (.eqo cs q a b) env = (ev a env).bind fun x env => if x.k = .ln then .bad else (ev b env).bind fun y env => if y.k = .ln then .bad else eqoR cs q x.d y.d env := by
  simp only [ev]
  rfl
theorem eqoR_bl {cs : List Nat} {q : List (Nat × FnI)} {x y : D} {env : DL.Env} : (∃ k, eqoR cs q x y env = .ok ⟨.bl k, .fz⟩ env) ∨ eqoR cs q x y env = .bad := by
  have plain : (∃ k, lift (cmpD .Eq x y) env = .ok ⟨.bl k, .fz⟩ env) ∨ lift (cmpD .Eq x y) env = .bad := by
    cases h : cmpD .Eq x y with
    | none => exact .inr rfl
    | some z => obtain ⟨k, rfl⟩ := cmpD_bl h; exact .inl ⟨k, rfl⟩
  cases x <;> first | exact plain | skip
  simp only [eqoR]
  split
  · split
    · unfold eqR
      split
      · exact .inl ⟨_, rfl⟩
      · exact .inr rfl
    · exact .inr rfl
  · exact .inr rfl
structure EqAt (X : Cx) (G : Gc) (k : Nat) (cs : List Nat) (c : Nat) (i : FnI) : Prop where
  ex : ∃ (f : Addr) (fd : FuncData) (ps : List Str), FnOk X.prog X.w X.K X.mg X.base (L2.CX X.prog X.w) k f fd ps (spF G i.ms i.sem) ∧ PySem.W.findIn X.K (.ref (G.cA c)) "__eq__" = some (some (.ref f)) ∧ PySem.W.isFn X.K (.ref f) = true ∧ Binds X.K fd ps []
  ms : i.ms = [.v, .v]
  nb : ∀ t ∈ ["NoneType", "bool", "int", "str", "tuple", "list"], PySem.W.notFirst X.K (G.cA c) (.type t) = true
  no : ∀ c' ∈ cs, PySem.W.notFirst X.K (G.cA c) (.ref (G.cA c')) = true
section
variable {X : Cx} {G : Gc} {W : WX} {pos : Pos}
theorem eqo_ok {pins : List (Addr × PySem.Obj)} {s : Shared} {σ : L2.St} {H H0 Z : Hp} {env : DL.Env} {bx : Bd} {Q : VK} {cs : List Nat} {fl : List Str} {k : Nat} {q : List (Nat × FnI)} {xv yv : V} {v u : Value} {x y : D}
    (C : Ctx X G) (hcl : ∀ c ∈ cs, ClsAt X.K G cs fl c) (hq : ∀ c f, q.lookup c = some f → EqAt X G k cs c f) (hr : Room k X.A) (I : Inv X pins σ H s) (Re : Rel G bx Z env σ H) (rx : RelV xv v) (ry : RelV yv u) (px : Rep G Z xv x) (py : Rep G Z yv y)
    (h : Rd G W bx Z H σ (VOk G bx H0) (eqoR cs q x y env) Q) : wpAny (model X.prog X.w) X.A (compareOp .Eq v u) (EP X pins σ Q) X.xe s := by
  have plain : Rd G W bx Z H σ (VOk G bx H0) (lift (cmpD .Eq x y) env) Q → wpAny (model X.prog X.w) X.A (compareOp .Eq v u) (EP X pins σ Q) X.xe s := fun h => cmp_ok (x := ⟨x, .fz⟩) (y := ⟨y, .fz⟩) (H0 := H0) C I Re rx ry px py h
  cases x <;> first | exact plain h | skip
  rename_i c fs
  simp only [eqoR] at h
  split at h
  · rename_i i t hl ht
    split at h
    · rename_i hc
      have hc : c ∈ cs := by simpa using hc
      obtain ⟨f, fd, ps, hf, hfi, hfn, hb⟩ := (hq c i hl).ex
      have hms := (hq c i hl).ms
      cases px with
      | @ins a dx vs _ _ hz rf =>
        cases rx
        have ha := Re.le _ _ hz
        obtain ⟨mA, J, _⟩ := ins_get I.hok ha
        obtain ⟨od, J, _⟩ := J.look
        obtain ⟨m, hF⟩ := I.fr
        have ty : TyX X.K H yv (tyV G t) := tyx_o (x := ⟨y, .fz⟩) (bx := bx) (H0 := H0) C.K hcl Re.le py ht
        obtain ⟨P, kx, hp, _⟩ := kit_of I ry ty
        have nf : PySem.W.notFirst X.K (G.cA c) (tyV G t) = true := by
          rcases tyO_mem ht with ⟨w, rfl, hw⟩ | ⟨c', rfl, hc'⟩
          · exact (hq c i hl).nb w hw
          · exact (hq c i hl).no c' hc'
        show wpAny (model X.prog X.w) X.A (richCompare .Eq (.ref a) u) (EP X pins σ Q) X.xe s
        refine PySem.W.cmp_K (op := .Eq) hr.units0 hF I.ok.mod.kin J (kx.ty _ _ I.kIn hp) nf hfi hfn ?_
        unfold eqR at h
        split at h
        · rename_i b hsem
          have hsp : spF G i.ms i.sem [.ref a, yv] H (fun z H' => z = .bl b ∧ Q z H') (fun _ _ _ => False) := by
            rw [hms]
            refine ⟨Z, [.ins c fs, y], Re.le, ⟨.ins hz rf, py, trivial⟩, List.nodup_nil, ?_⟩
            show match i.sem [.ins c fs, y] with | .ok d k outs => _ | .exn c d outs => _ | .bad => _
            rw [hsem]
            intro z Z' H' e2 le2 _ _ p3
            have p3 : Rep G Z' z (.bl b) := p3
            cases p3
            have hk : Same H H' := fun w o ho => e2.h w o ho (by show ¬ w ∈ []; simp)
            have ex : Ext bx Z H Z' H' := ⟨e2.z, fun w o ho _ => hk w o ho, fun w o ho => ⟨o, hk w o ho⟩, e2.n⟩
            exact ⟨rfl, h (.bl b) Z' H' ex (Re.same ex le2 hk) (Rep.bl b)⟩
          have rv : Vals [V.ref a, yv] [Value.ref a, u] := .cons rfl (.cons ry .nil)
          have hlen := hf.len _ _ _ _ hsp
          have hbd := hb s [.ref a, u] I.kIn (by simpa using hlen)
          rw [List.append_nil] at hbd
          refine wpAny_call (codeAny_mono (hf.run X.A X.stack s H ⟨[.ref a, u], []⟩ [.ref a, u] [.ref a, yv] _ (fun _ _ _ => False) hr I.env0 hbd rv hsp) fun res s2 done => ?_)
          cases res with
          | error e =>
            obtain ⟨_, _, _, _, _, _, _, _, _, _, _, _, z⟩ := done
            exact z.elim
          | ok fl =>
            cases fl with
            | ret w =>
              obtain ⟨z, H', I', rz, ez, hQ⟩ := I.after done
              subst ez
              cases rz
              exact ⟨.bl b, H', I', rfl, hQ⟩
            | next => exact False.elim done
            | brk => exact False.elim done
            | cont => exact False.elim done
        · exact False.elim h
    · exact False.elim h
  · exact False.elim h
/-- both sides told -/
theorem eqo_two {a b : Expr} {ca cb : E} {cs : List Nat} {q : List (Nat × FnI)} {pins : List (Addr × PySem.Obj)} {s : Shared} {σ : L2.St} {H Z : Hp} {env : DL.Env} {bx : Bd} {γ δ : Type} {P' : Hp → Hp → γ → δ → Prop} {f : R Vl → R γ} {Q : δ → Hp → Prop} {QQ : Value → Shared → Prop}
    (hbad : f .bad = .bad) (ha : PEx X G W a ca) (hb : PEx X G W b cb) (I : Inv X pins σ H s) (Re : Rel G bx Z env σ H)
    (h : Rd G W bx Z H σ P' ((ev ca env).bind fun x env => if x.k = .ln then .bad else (ev cb env).bind fun y env => if y.k = .ln then .bad else f (eqoR cs q x.d y.d env)) Q)
    (fin : ∀ v u s2 xv yv x y H2 Z2 env2, Inv X pins σ H2 s2 → Ext bx Z H Z2 H2 → Rel G bx Z2 env2 σ H2 → RelV xv v → RelV yv u → Rep G Z2 xv x → Rep G Z2 yv y → Rd G W bx Z2 H2 σ P' (f (eqoR cs q x y env2)) Q → wpAny (model X.prog X.w) X.A (compareOp .Eq v u) QQ X.xe s2) :
    wpAny (model X.prog X.w) X.A (eval a X.env) (fun v s1 => wpAny (model X.prog X.w) X.A (eval b X.env) (fun u s2 => wpAny (model X.prog X.w) X.A (compareOp .Eq v u) QQ X.xe s2) X.xe s1) X.xe s := by
  refine thn (ha.run pins s σ H _ I (sub1o Re h)) fun v s1 ⟨xv, H1, I1, r1, Z1, env1, x, e1, R1, p1, h1⟩ => ?_
  split at h1
  · exact False.elim h1
  · rename_i hk1
    obtain ⟨Z1', e1', R1', _, rep1⟩ := p1.freeze Re.bd e1 R1 hk1
    refine thn (hb.run pins s1 σ H1 _ I1 (sub1o R1' (h1.ext e1'))) fun u s2 ⟨yv, H2, I2, r2, Z2, env2, y, e2, R2, p2, h2⟩ => ?_
    split at h2
    · exact False.elim h2
    · rename_i hk2
      obtain ⟨Z2', e2', R2', _, rep2⟩ := p2.freeze R1'.bd e2 R2 hk2
      exact fin v u s2 xv yv x.d y.d H2 Z2' env2 I2 (e1'.trans e2') R2' r1 r2 (rep1.mono e2'.z) rep2 (h2.ext e2')
theorem snd_eqo {cs : List Nat} {fl : List Str} {k : Nat} {q : List (Nat × FnI)} {a b : Expr} {ca cb : E} (C : Ctx X G) (hcl : ∀ c ∈ cs, ClsAt X.K G cs fl c) (hq : ∀ c f, q.lookup c = some f → EqAt X G k cs c f) (hr : Room k X.A) (hm : behindInMarks .Eq b = false) (ha : PEx X G W a ca) (hb : PEx X G W b cb) : PEx X G W (.Compare a [.Eq] [b] pos) (.eqo cs q ca cb) := by
  refine ⟨fun pins s σ H Q I h => ?_⟩
  obtain ⟨bx, Z, env, Re, h⟩ := h
  rw [ev_eqo] at h
  exact wpAny_Compare1 (eqo_two (f := fun r => r) rfl ha hb I Re h fun v u s2 xv yv x y H2 Z2 env2 I2 _ R2 r1 r2 p1 p2 h2 => eqo_ok C hcl hq hr I2 R2 r1 r2 p1 p2 h2) hm
theorem sndT_eqo {cs : List Nat} {fl : List Str} {k : Nat} {q : List (Nat × FnI)} {a b : Expr} {ca cb : E} (C : Ctx X G) (hcl : ∀ c ∈ cs, ClsAt X.K G cs fl c) (hq : ∀ c f, q.lookup c = some f → EqAt X G k cs c f) (hr : Room k X.A) (hm : behindInMarks .Eq b = false) (ha : PEx X G W a ca) (hb : PEx X G W b cb) : PTx X G W (.Compare a [.Eq] [b] pos) (.eqo cs q ca cb) := by
  refine ⟨fun pins s σ H Q I h => ?_⟩
  obtain ⟨bx, Z, env, Re, h⟩ := h
  rw [ev_eqo] at h
  have h' : Rd G W bx Z H σ (fun _ _ b b' => b = b') ((ev ca env).bind fun x env => if x.k = .ln then .bad else (ev cb env).bind fun y env => if y.k = .ln then .bad else (eqoR cs q x.d y.d env).bind fun z env => match truD z.d with
    | some b => .ok b env
    | none => .bad) Q := by
    cases q1 : ev ca env with
    | ok x env1 =>
      rw [q1] at h
      simp only [DL.R.bind] at h ⊢
      by_cases hk : x.k = .ln
      · rw [if_pos hk] at h; exact False.elim h
      · rw [if_neg hk] at h ⊢
        cases q2 : ev cb env1 with
        | ok y env2 =>
          rw [q2] at h
          simp only at h ⊢
          by_cases hk2 : y.k = .ln
          · rw [if_pos hk2] at h; exact False.elim h
          · rw [if_neg hk2] at h ⊢; exact h
        | exn c d e => rw [q2] at h; exact h
        | bad => rw [q2] at h; exact h
    | exn c d env1 => rw [q1] at h; exact h
    | bad => rw [q1] at h; exact h
  refine wpAny_isTrue_Compare1 (eqo_two (f := fun r => r.bind fun z env => match truD z.d with
    | some b => .ok b env
    | none => .bad) rfl ha hb I Re h' fun v u s2 xv yv x y H2 Z2 env2 I2 _ R2 r1 r2 p1 p2 h2 => ?_) hm
  rcases eqoR_bl (cs := cs) (q := q) (x := x) (y := y) (env := env2) with ⟨kb, e⟩ | e
  · simp only [e, DL.R.bind, truD] at h2
    have go := eqo_ok (W := W) (H0 := H) (Q := fun z' H' => z' = .bl kb ∧ ∃ Z', Ext bx Z2 H2 Z' H' ∧ Rel G bx Z' env2 σ H') C hcl hq hr I2 R2 r1 r2 p1 p2 (by
      rw [e]
      intro v' Z' H' e R' p
      have p : Rep G Z' v' (.bl kb) := p
      cases p
      exact ⟨rfl, Z', e, R'⟩)
    refine thn go fun d s3 ⟨z, H3, I3, r3, e3, Z3, x3, R3⟩ => ?_
    subst e3
    cases r3
    exact wpAny_truthy_bool ⟨H3, I3, h2 kb Z3 H3 x3 R3 rfl⟩
  · simp only [e] at h2
    exact False.elim h2
end
end DL
set_option Elab.async false
set_option linter.all false
set_option autoImplicit false
set_option maxRecDepth 100000
set_option maxHeartbeats 2000000
/-! x[::-1] of lists and tuples -/
namespace HT
open PySem PySem.Spec PyProof.Rows
section
variable {prog : Program} {w : World} {A : Around} {E : Value → Shared → Prop} {s : Shared}
theorem back_items (xs : Array Value) : ((List.range xs.size).filterMap fun (m : Nat) => xs[(((xs.size : Int) - 1) + (m : Int) * (-1)).toNat]?).toArray = xs.toList.reverse.toArray := by
  have e : (fun (m : Nat) => xs[(((xs.size : Int) - 1) + (m : Int) * (-1)).toNat]?) = fun m => xs[xs.size - 1 - m]? := by
    funext m
    have : (((xs.size : Int) - 1) + (m : Int) * (-1)).toNat = xs.size - 1 - m := by omega
    rw [this]
  rw [e, ← PySem.W.krv_pick xs]
  unfold slicePick
  rw [PySem.W.krv_bounds]
  show _ = ((sliceRange ((xs.size : Int) - 1) (-1) (-1)).filterMap (xs[·]?)).toArray
  rw [PySem.W.krv_sliceRange, List.filterMap_map]
  rfl
theorem applied_back {sl : Addr} {vl vu vs : Value} {n : Nat} {Q : Int × Int × Nat → Shared → Prop} (hs : s.heap.IsSliceOf sl vl vu vs) (pl : IsPart vl none) (pu : IsPart vu none) (ps : IsPart vs (some (-1)))
    (h : Q ((n : Int) - 1, -1, n) s) : wpAny (model prog w) A (Builtin.Slice.sliceApplied (.ref sl) (pure (n : Int))) Q E s := by
  obtain ⟨os, hos, hcs, hds⟩ := id hs
  unfold Builtin.Slice.sliceApplied Builtin.Slice.sliceFields
  refine wpAny_bind (wpAny_bind (wpAny_field hos hds (x := vl) rfl (wpAny_bind (wpAny_field hos hds (x := vu) rfl (wpAny_bind (wpAny_field hos hds (x := vs) rfl (wpAny_pure ?_)))))))
  refine wpAny_bind (slicePart_ ps ?_)
  show wpAny _ _ (if ((-1 : Int) == 0) = true then _ else _) _ _ s
  rw [if_neg (by decide)]
  refine wpAny_bind (slicePart_ pl (wpAny_bind (slicePart_ pu (wpAny_bind (wpAny_pure ?_)))))
  show wpAny _ _ (pure ((n : Int) - 1, (-1 : Int), Builtin.Slice.slicePlaces ((n : Int) - 1) (-1) (-1))) _ _ s
  have e : Builtin.Slice.slicePlaces ((n : Int) - 1) (-1) (-1) = n := by
    unfold Builtin.Slice.slicePlaces
    rw [if_neg (by decide)]
    split
    · rw [show (- (-1 : Int)) = 1 from rfl, Int.ediv_one]; omega
    · omega
  rw [e]
  exact wpAny_pure h
theorem tuple_back {t sl : Addr} {items : Array Value} {vl vu vs : Value} {Q : Value → Shared → Prop} (ht : IsTup s.heap t items) (hs : s.heap.IsSliceOf sl vl vu vs) (pl : IsPart vl none) (pu : IsPart vu none) (ps : IsPart vs (some (-1)))
    (h : Q (.ref s.heap.objs.size) { s with heap := s.heap.push { cls := .type "tuple", data := .seq items.toList.reverse.toArray } })
    (hsz : items.size ≤ sizeLine) : wpAny (model prog w) A (getItem (.ref t) (.ref sl)) Q E s := by
  have htake : sizeOk (.seq items.toList.reverse.toArray) := by
    show items.toList.reverse.toArray.size ≤ sizeLine
    rw [List.size_toArray, List.length_reverse, Array.length_toList]
    exact hsz
  obtain ⟨os, hos, hcs, hds⟩ := id hs
  have hTs : s.TypeIs (.ref sl) "slice" := ⟨os, hos, hcs⟩
  unfold getItem
  try with_reducible refine wpAny_holding ?_
  first | refine wpAny_bind (wpAny_pure ?_) | skip
  refine wpAny_bind (wpAny_sequenceKey ht.typeIs (by decide) ?_)
  refine wpAny_bind (wpAny_callSpecial?_slot (name := Str.ofString "__getitem__") ht.typeIs PyProof.Rows.slot_tuple_getitem (wpAny_call_entry PyProof.Rows.slot_tuple_getitem ht.typeIs entry_tuple_getitem ?_ (args_tuple_getitem _ _)))
  show wpAny _ _ (Builtin.Tuple.tupleItemsOf (.ref t) >>= _) _ _ s
  refine wpAny_bind (tupleItemsOf_ ht (wpAny_bind (wpAny_typeOf hTs ?_)))
  rw [if_pos (by decide)]
  refine wpAny_bind (applied_back hs pl pu ps ?_)
  show wpAny _ _ (if (((items.size : Int) - 1) == 0 && (-1 : Int) == 1 && items.size == items.size) = true then _ else _) _ _ s
  rw [if_neg (by simp), back_items]
  first
    | exact wpAny_bind (m := Builtin.Tuple.tupleExact _) (wpAny_newObj_type (wpAny_pure ⟨_, rfl, wpAny_pure h⟩) htake)
    | exact wpAny_bind (m := Builtin.Tuple.tupleExact _) (wpAny_newObj_type (wpAny_bind (wpAny_pure (wpAny_pure ⟨_, rfl, wpAny_pure h⟩))) htake)
    | exact wpAny_bind (wpAny_bind (m := Builtin.Tuple.tupleExact _) (wpAny_newObj_type (wpAny_pure (wpAny_pure ⟨_, rfl, wpAny_pure h⟩)) htake))
    | exact wpAny_bind (wpAny_bind (m := Builtin.Tuple.tupleExact _) (wpAny_newObj_type (wpAny_pure ⟨_, rfl, wpAny_pure h⟩) htake))
end
end HT
namespace DL
open PySem PySem.Spec PyProof.Rows L2
def tBack (K : PySem.W.Frag) (te : TE) : TE := fun σ H Q => te σ H fun x H1 => (∃ a xs, x = .ref a ∧ SqL K H1 a xs ∧ ∀ p, H1 p = none → Q (.ref p) (upd H1 p (.lst xs.reverse))) ∨ ∃ a xs, x = .ref a ∧ SqT K H1 a xs ∧ ∀ p, H1 p = none → Q (.ref p) (upd H1 p (.tup xs.reverse))
section
variable {X : Cx} {G : Gc} {W : WX} {pos : Pos}
theorem pe_back {e : Expr} {te : TE} {k : Nat} {p1 p2 p3 : Pos} (he : PE X e te) : PE X (.Subscript e (.Slice none none (some (.UnaryOp .USub (.Constant (.int 1) k p1) p2)) p3) pos) (tBack X.K te) := by
  refine ⟨fun pins s σ H Q I h => ?_⟩
  refine Subscript_ (thn (he.run pins s σ H _ I h) fun v s1 ⟨x, H1, I1, r1, q1⟩ => ?_)
  have minus : PO X (some (.UnaryOp .USub (.Constant (.int 1) k p1) p2)) (tPart (tUn (rU fun i => .int (-i)) (tC (.int 1)))) := po_some (pe_un un_neg pe_int)
  refine wpAny_Slice (thn (po_none.run pins s1 σ H1 (fun o J => o = none ∧ J = H1) I1 ⟨rfl, rfl⟩) fun vl s2 ⟨l, H2, I2, pl, e1, e2⟩ => ?_)
  subst e1 e2
  refine thn (po_none.run pins s2 σ H2 (fun o J => o = none ∧ J = H2) I2 ⟨rfl, rfl⟩) fun vu s3 ⟨u, H3, I3, pu, e1, e2⟩ => ?_
  subst e1 e2
  refine thn (minus.run pins s3 σ H3 (fun o J => o = some (-1) ∧ J = H3) I3 ⟨1, rfl, -1, rfl, rfl, rfl⟩) fun vs s4 ⟨o, H4, I4, ps, e1, e2⟩ => ?_
  subst e1 e2
  have I5 : Inv X pins σ H4 { s4 with heap := s4.heap.push { cls := .type "slice", data := .fields #[vl, vu, vs] } } := I4.kept (t' := s4.toks) fun b ob q => Heap.get?_push_of_some _ q
  show wpAny (model X.prog X.w) X.A (subscriptTail e (.Slice none none (some (.UnaryOp .USub (.Constant (.int 1) k p1) p2)) p3) v (.ref s4.heap.objs.size)) (EP X pins σ Q) X.xe { s4 with heap := s4.heap.push { cls := .type "slice", data := .fields #[vl, vu, vs] } }
  rcases q1 with ⟨a, xs, ex, hx, q⟩ | ⟨a, xs, ex, hx, q⟩
  · subst ex
    cases r1
    obtain ⟨its, r, ht, hz⟩ := I5.list hx
    have hlen := r.length
    refine tail_any (ops := [.ref a, .ref s4.heap.objs.size]) ht.isList.typeIs (PySem.slot_list_getitem.lookup) ?_ (by with_unfolding_all rfl)
    refine wpAny_getItem_list_slice ht.isList (Heap.IsSliceOf.new _ vl vu vs) pl pu ps (by decide) ?_ (by rw [List.size_toArray]; omega)
    rw [PySem.W.krv_pick]
    exact ⟨.ref _, _, I5.laid (t' := s4.toks) (o := .lst xs.reverse) (fun b ob q => Heap.get?_push_of_some _ q) (Nat.le_refl _) ⟨by rw [List.length_reverse]; exact hz, _, 0, r.reverse, Heap.get?_push_size _ rfl⟩, rfl, q _ (I5.hok.fresh (Nat.le_refl _))⟩
  · subst ex
    cases r1
    obtain ⟨its, r, ht, hz⟩ := I5.tuple hx
    have hlen : its.toArray.size = xs.length := by rw [List.size_toArray]; exact r.length.symm
    refine tail_any (ops := [.ref a, .ref s4.heap.objs.size]) ht.typeIs (PyProof.Rows.slot_tuple_getitem.lookup) ?_ (by with_unfolding_all rfl)
    refine HT.tuple_back ht (Heap.IsSliceOf.new _ vl vu vs) pl pu ps ?_ (by rw [hlen]; exact hz)
    exact ⟨.ref _, _, I5.laid (t' := s4.toks) (o := .tup xs.reverse) (fun b ob q => Heap.get?_push_of_some _ q) (Nat.le_refl _) ⟨by rw [List.length_reverse]; exact hz, _, r.reverse, IsTup.new _ _⟩, rfl, q _ (I5.hok.fresh (Nat.le_refl _))⟩
theorem RepL.rev {Z : Hp} : ∀ {vs : List V} {ds : List D}, RepL G Z vs ds → RepL G Z vs.reverse ds.reverse
  | _, _, .nil => .nil
  | _, _, .cons h t => by rw [List.reverse_cons, List.reverse_cons]; exact (RepL.rev t).append (.cons h .nil)
theorem snd_rev {a : Expr} {ca : E} {k : Nat} {p1 p2 p3 : Pos} (C : Ctx X G) (ha : PEx X G W a ca) : PEx X G W (.Subscript a (.Slice none none (some (.UnaryOp .USub (.Constant (.int 1) k p1) p2)) p3) pos) (.rev ca) := by
  refine PE.imp (pe_back ha) fun σ H Q ⟨bx, Z, env, Re, h⟩ => ?_
  simp only [ev] at h
  obtain ⟨b', Z', e', R', q⟩ := sub1o Re h
  refine ⟨b', Z', e', R', q.imp (fun _ _ _ _ _ p => p) fun v H1 ⟨Z1, env1, y, e1, R1, p1, h1⟩ => ?_⟩
  unfold revD at h1
  split at h1
  · rename_i ds hd
    obtain ⟨a, vs, rfl, ha, haZ, r⟩ := p1.tup hd R1.le
    rw [C.K] at ha
    exact .inr ⟨a, vs, rfl, ha, rd_newT (h1.ext e1) R1 r.rev⟩
  · rename_i ds hd
    obtain ⟨a, vs, rfl, ha, r⟩ := p1.lst hd R1.le
    exact .inl ⟨a, vs, rfl, .of ha, rd_new (h1.ext e1) R1 (fun a q => e1.gone q) fun a => ⟨vs.reverse, upd_same, r.rev⟩⟩
  · exact False.elim h1
end
end DL
set_option Elab.async false
set_option linter.all false
set_option autoImplicit false
set_option maxRecDepth 100000
set_option maxHeartbeats 2000000
/-! enumerate of lists and tuples -/
namespace ENT
open PySem PySem.Spec PyProof.Rows
open AutoSeq1 (wpAny_loadPart')
set_option maxHeartbeats 4000000 in
theorem new_over_tuple (q : Addr) (xs : Array Value) (n : Nat) (dd : Option Addr) (so : Array (Option Value)) :
    Meets (Builtin.«enumerate.__new__» ⟨[.type "enumerate", .ref q], []⟩) (fun _ R s => s.heap.get? q = some { cls := .type "tuple", dict := dd, data := .seq xs n, slots := so } ∧
      R (.ok (.ret (.ref (s.heap.push { cls := .type "tuple_iterator", data := .fields #[.ref q, .int 0 0] }).objs.size)))
        { s with heap := (s.heap.push { cls := .type "tuple_iterator", data := .fields #[.ref q, .int 0 0] }).push { cls := .type "enumerate", data := .fields #[.none, .bool false, .ref s.heap.objs.size, rawInt 0, .none, .none] } }) :=
  .of_wp fun prog w A R s h => by
    obtain ⟨hp, g, d, tk, os⟩ := s; obtain ⟨hl, h⟩ := h
    have hsub := sub_enumerate
    have ht : Heap.IsTuple (Shared.heap ⟨hp, g, d, tk, os⟩) q xs := ⟨_, hl, rfl, n, rfl⟩
    wp_walk using wpAny_loadPart' hl
    refine wpAny_stack_any fun st => wpAny_pure ?_
    split
    · rename_i c _ _ _ _ _
      cases (c == Value.type "enumerate") <;>
      · wp_walk using wpAny_loadPart' hl, wpAny_pyIter_tuple ht
        exact ⟨_, rfl, h⟩
    · wp_walk using wpAny_loadPart' hl, wpAny_pyIter_tuple ht
      exact ⟨_, rfl, h⟩
theorem tupOf {h : Heap} {a : Addr} {xs : Array Value} (p : IsTup h a xs) : h.IsTuple a xs := let ⟨o, q, c, n, d⟩ := p; ⟨o, q, c, n, d⟩
section
variable {prog : Program} {w : World} {A : Around} {E : Value → Shared → Prop} {s : Shared}
theorem call_over_tuple {q : Addr} {xs : Array Value} {Q : Value → Shared → Prop} (ht : s.heap.IsTuple q xs)
    (h : ∀ h', IsEnum h' (s.heap.objs.size + 1) s.heap.objs.size 0 .none → h'.IsTupleIter s.heap.objs.size q 0 → (∀ b o, s.heap.get? b = some o → h'.get? b = some o) → Q (.ref (s.heap.objs.size + 1)) { s with heap := h' }) :
    wpAny (model prog w) A (call (.type "enumerate") [.ref q]) Q E s := by
  obtain ⟨⟨c, dd, dt, so⟩, hl, hc, n, hd⟩ := ht
  have hc : c = .type "tuple" := hc
  have hd : dt = .seq xs n := hd
  subst hc hd
  refine callType_new F.called_enumerate (by decide) (F.typeCall_enumerate_1 _) (F.newCall_enumerate_1 _) (fun obj => F.args_object_init_2 obj _) F.entry_enumerate_new (new_over_tuple q xs n dd so) ⟨hl, ?_⟩
  have hz : (s.heap.push { cls := .type "tuple_iterator", data := .fields #[.ref q, .int 0 0] }).objs.size = s.heap.objs.size + 1 := Heap.size_push ..
  show _ ∧ _
  rw [hz]
  have he : IsEnum ((s.heap.push { cls := .type "tuple_iterator", data := .fields #[.ref q, .int 0 0] }).push { cls := .type "enumerate", data := .fields #[.none, .bool false, .ref s.heap.objs.size, rawInt 0, .none, .none] }) (s.heap.objs.size + 1) s.heap.objs.size 0 .none := by
    have := Heap.get?_push_size (s.heap.push { cls := .type "tuple_iterator", data := .fields #[.ref q, .int 0 0] }) (o := { cls := .type "enumerate", data := .fields #[.none, .bool false, .ref s.heap.objs.size, rawInt 0, .none, .none] }) rfl
    rw [hz] at this; exact this
  exact ⟨⟨_, he, rfl⟩, h _ he ⟨_, Heap.get?_push_of_some _ (Heap.get?_push_size _ rfl), rfl, rfl⟩ fun b o x => Heap.get?_push_of_some _ (Heap.get?_push_of_some _ x)⟩
end
end ENT
namespace DL
open PySem PySem.Spec PyProof.Rows L2
/-- the tuple at a, each item in a new pair with its number -/
def IteT (K : PySem.W.Frag) (a : Addr) : L2.It :=
  ⟨fun i H => ∃ (xs : List V) (x : V), SqT K H a xs ∧ xs[i]? = some x, fun i H v H' => ∃ T x, v = .ref T ∧ H T = none ∧ H' = upd H T (.tup [.int (i : Nat), x]) ∧ ∀ xs, SqT K H a xs → xs[i]? = some x, fun i H => ∃ xs : List V, SqT K H a xs ∧ xs.length ≤ i⟩
theorem turn_over {P : Program} {w : World} {K : PySem.W.Frag} {elts : List Expr} {kk : Nat} {tpos : Pos} (a e it : Addr) :
    Turn P w K (.Tuple elts kk tpos) (IteT K a) [e, it] e (fun i h => (∃ old, IsEnum h e it ((i : Nat) : Int) old) ∧ h.IsTupleIter it a i ∧ e ≠ it) where
  mem := by simp
  obj := fun i h st b hb => by
    obtain ⟨⟨old, he⟩, ⟨o, ho, hc, hd⟩, _⟩ := st
    rcases (by simpa using hb : b = e ∨ b = it) with rfl | rfl
    · exact ⟨_, he, fun v q => nomatch q⟩
    · exact ⟨o, ho, fun v q => by rw [hd] at q; cases q⟩
  keep := fun i h h' st k => let ⟨⟨old, he⟩, hi, hne⟩ := st; ⟨⟨old, k e (by simp) _ he⟩, hi.at fun o q => k it (by simp) o q, hne⟩
  item := by
    intro X hP hw hK hc i pins s σ H E I hf st hg
    subst hP hw hK
    obtain ⟨⟨old, he⟩, hit, hne⟩ := st
    obtain ⟨xs, x, hq, hx⟩ := hg
    obtain ⟨its, rv, p, hz⟩ := I.tuple hq
    obtain ⟨u, hu, ru⟩ := rv.get hx
    have hel : e < s.heap.objs.size := Heap.lt_size he
    have hil : it < s.heap.objs.size := by obtain ⟨_, q, _⟩ := hit; exact Heap.lt_size q
    have hai : a ≠ it := by
      obtain ⟨o1, q1, c1, _⟩ := hit
      obtain ⟨o2, q2, c2, _⟩ := p
      intro z
      rw [z] at q2
      rw [q1] at q2; cases q2
      rw [c1] at c2
      exact absurd c2 (by decide)
    have hae : e ∉ [it, a] := by
      intro z
      rcases (by simpa using z : e = it ∨ e = a) with z | z
      · exact hne z
      · obtain ⟨o2, q2, c2, _⟩ := p
        rw [← z] at q2
        have he' : s.heap.get? e = _ := he
        rw [he'] at q2; cases q2
        have c2 : Value.type "enumerate" = Value.type "tuple" := c2
        exact absurd c2 (by decide)
    have hlt : i < its.toArray.size := by
      have := (List.getElem?_eq_some_iff.mp hu).1
      simpa using this
    refine wpAny_pyNext_enum_itemD (Draws.tuple (A := X.A.in1) (I.ok.hd hc) it a hai its.toArray) he ⟨hit, (ENT.tupOf p)⟩ hlt hne hae fun y h' tk hy ho hit' hT hsz hk => ?_
    have hy : y = u := by
      have hy : its.toArray[i]? = some y := hy
      rw [List.getElem?_toArray, hu] at hy; cases hy; rfl
    subst hy
    refine ⟨_, rfl, wpAny_letOwnedTupleGo_enum (s := { s with heap := h', toks := tk + 1 }) ho fun h'' he' sb => ?_⟩
    have hT2 : h''.get? s.heap.objs.size = some { cls := .type "tuple", data := .seq #[.int i tk, y] } := (sb.2 _ (Nat.ne_of_gt hel)).trans hT
    have new : ObjOk X.prog X.w (upd H s.heap.objs.size (.tup [.int (i : Nat), x])) h'' s.heap.objs.size (.tup [.int (i : Nat), x]) :=
      ⟨by show 2 ≤ sizeLine; decide, [.int i tk, y], .cons ⟨_, rfl⟩ (.cons ru .nil), ⟨_, hT2, rfl, _, rfl⟩⟩
    have I1 : Inv X pins σ (upd H s.heap.objs.size (.tup [.int (i : Nat), x])) { s with heap := h'', toks := tk + 1 } :=
      I.turnedNew (ch := [e, it]) (fun b ob hb q => (sb.2 b (fun z => hb (by simp [z]))).trans (hk b ob (fun z => hb (by simp [z])) (fun z => hb (by simp [z])) q)) hf (Nat.le_refl _) new
    refine ⟨.ref s.heap.objs.size, _, I1, rfl, ⟨_, x, rfl, I.hok.fresh (Nat.le_refl _), rfl, fun ys hy => by rw [I.tuple_inj hy hq]; exact hx⟩, ⟨⟨y, ?_⟩, hit'.1.at fun o q => (sb.2 it (Ne.symm hne)).trans q, hne⟩, fun b hb => ?_⟩
    · have e1 : ((i + 1 : Nat) : Int) = (i : Int) + 1 := by omega
      rw [e1]; exact he'
    · have hb' : b < s.heap.objs.size := by
        rcases (by simpa using hb : b = e ∨ b = it) with rfl | rfl
        · exact hel
        · exact hil
      rw [upd_ne (Nat.ne_of_lt hb')]
      exact (hf b hb).1
  done := by
    intro X hP hw hK hc i pins s σ H E I hf st hg
    subst hP hw hK
    obtain ⟨⟨old, he⟩, hit, hne⟩ := st
    obtain ⟨xs, hq, hx⟩ := hg
    obtain ⟨its, rv, p, hz⟩ := I.tuple hq
    obtain ⟨f0, f1, f2, f3, f4, f5⟩ := hf it (by simp)
    have hl := rv.length
    have stop : wpAny (model X.prog X.w) X.A.in1 (Builtin.SmallTypes.nextOf (.ref it)) (fun _ _ => False) (fun ex s1 => ∃ h' e', ex = .ref e' ∧ s1 = { s with heap := h' } ∧ Heap.ExtBut it s.heap h' ∧ ∃ o, h'.get? e' = some o ∧ o.cls = .type "StopIteration") s :=
      wpAny_nextOf_tuple_end (A := X.A.in1) (I.ok.hd hc) hit (ENT.tupOf p) (by simp; omega) fun h' e' x y => ⟨h', e', rfl, rfl, x, y⟩
    have hT : s.TypeIs (.ref e) "enumerate" := ⟨_, he, rfl⟩
    unfold pyNext
    refine wpAny_bind (wpAny_attempt (wpAny_callSpecial?_slot (name := Str.ofString "__next__") hT F.slot_enumerate_next (wpAny_call_entry F.slot_enumerate_next hT F.entry_enumerate_next ?_ (F.args_enumerate_next_1 _))))
    show wpAny _ _ (field (.ref e) 2 >>= _) _ _ _
    refine wpAny_bind (wpAny_field he rfl (x := .ref it) rfl ?_)
    refine wpAny_bind (wpAny_mono stop (fun _ _ z => z.elim) fun ex s1 ⟨h', e', e1, e2, eb, o, ho, hcl⟩ => ?_)
    subst e1 e2
    refine wpAny_bind (wpAny_isInstance (T := "StopIteration") (b := true) ⟨o, ho, hcl⟩ isSubtype_stop ?_)
    exact wpAny_pure ⟨rfl, I.turned (t' := s.toks) (fun b o hb q => eb b o hb q) f0 f1 f3 f4 f5⟩
  self := fun A i s Q E st h => let ⟨⟨_, he⟩, _⟩ := st; wpAny_pyIter_enum he h
def iNum (K : PySem.W.Frag) (te : TE) : TI := fun σ H R => te σ H fun v H1 => ∃ a xs, v = .ref a ∧ ((SqL K H1 a xs ∧ R (Ite K a) H1) ∨ (SqT K H1 a xs ∧ R (IteT K a) H1))
theorem pi_num {X : Cx} {e : Expr} {te : TE} {p pos tpos : Pos} {elts : List Expr} {kk : Nat} (hg : Gl X "enumerate") (hm : X.mg "enumerate" = none) (he : PE X e te) (hs : starEach [e] X.env = [(false, eval e X.env)]) :
    PI X (.Tuple elts kk tpos) (.Call (.Name "enumerate" p) [e] [] pos) (iNum X.K te) := by
  refine ⟨fun pins s σ H R I h => ?_⟩
  have ha : PA X [e] (tCons te tNil) := pa_cons he pa_nil hs
  refine Call_ (ld_blt I hg hm boot_enumerate (PyProof.Rows.callWith_type1 (thn (ha.run pos pins s σ H (fun vs H1 => match vs with
    | [v] => ∃ a xs, v = V.ref a ∧ ((SqL X.K H1 a xs ∧ R (Ite X.K a) H1) ∨ (SqT X.K H1 a xs ∧ R (IteT X.K a) H1))
    | _ => False) I h) fun us s1 ⟨vs, H1, I1, r1, q0⟩ => ?_) hs rfl))
  simp only at q0
  split at q0
  case h_2 => exact q0.elim
  obtain ⟨a, xs, ea, q⟩ := q0
  subst ea
  cases r1 with
  | cons r rr =>
    cases rr
    cases r
    have two : ∀ {b}, b ∈ [s1.heap.objs.size + 1, s1.heap.objs.size] → FpOk X pins H1 b := fun {b} hb => by
      have hle : s1.heap.objs.size ≤ b := by
        rcases (by simpa using hb : b = s1.heap.objs.size + 1 ∨ b = s1.heap.objs.size) with rfl | rfl
        · exact Nat.le_add_right _ _
        · exact Nat.le_refl _
      exact I1.fpOk hle (I1.hok.fresh hle)
    rcases q with ⟨hq, q⟩ | ⟨hq, q⟩
    · obtain ⟨its, rv, p', hz⟩ := I1.list hq
      refine call_enumerate_list p'.isList fun h' he hit hsz hk => wpAny_pyIter_enum he ?_
      exact ⟨s1.heap.objs.size + 1, [s1.heap.objs.size + 1, s1.heap.objs.size], _, _, H1, rfl, I1.kept (t' := s1.toks) hk, turn_enum a (s1.heap.objs.size + 1) s1.heap.objs.size, ⟨⟨.none, he⟩, hit, Nat.succ_ne_self _⟩, fun b hb => two hb, q⟩
    · obtain ⟨its, rv, p', hz⟩ := I1.tuple hq
      refine ENT.call_over_tuple (ENT.tupOf p') fun h' he hit hk => wpAny_pyIter_enum he ?_
      exact ⟨s1.heap.objs.size + 1, [s1.heap.objs.size + 1, s1.heap.objs.size], _, _, H1, rfl, I1.kept (t' := s1.toks) hk, turn_over a (s1.heap.objs.size + 1) s1.heap.objs.size, ⟨⟨.none, he⟩, hit, Nat.succ_ne_self _⟩, fun b hb => two hb, q⟩
section
variable {X : Cx} {G : Gc} {W : WX} {pos : Pos}
/-! tuple(range(..)), list(range(..)) -/
theorem rg_rep {Z : Hp} : ∀ (n : Nat) (a : Int), RepL G Z ((List.range n).map fun i => V.int (a + (i : Nat))) (rangeL a n)
  | 0, _ => .nil
  | n + 1, a => by
    rw [List.range_succ_eq_map, List.map_cons, List.map_map]
    have e : ((fun i => V.int (a + ((i : Nat) : Int))) ∘ Nat.succ) = fun (i : Nat) => V.int (a + 1 + (i : Nat)) := by
      funext i
      show V.int (a + ((i + 1 : Nat) : Int)) = _
      congr 1; omega
    rw [e]
    simp only [rangeL]
    exact .cons (by simpa using Rep.int a) (rg_rep n (a + 1))
theorem rg_end {bx : Bd} {Z H H0 : Hp} {env : DL.Env} {σ : L2.St} {Q : VK} {a b : Int} {tp : Bool} (Re : Rel G bx Z env σ H) (old : ∀ a, H a = none → H0 a = none)
    (h : Rd G W bx Z H σ (VOk G bx H0) (if -1000000000 ≤ a ∧ a ≤ 1000000000 ∧ -1000000000 ≤ b ∧ b ≤ 1000000000 ∧ (b - a).toNat ≤ LIM then .ok (if tp then ⟨.tup (rangeL a (b - a).toNat), .fz⟩ else ⟨.lst (rangeL a (b - a).toNat), .tmp⟩) env else .bad : DL.R Vl) Q) :
    RgOk a b ∧ (tp = true → ∀ q, H q = none → Q (.ref q) (upd H q (.tup (rgV a b)))) ∧ (tp = false → ∀ q, H q = none → Q (.ref q) (upd H q (.lst (rgV a b)))) := by
  split at h
  · rename_i hb
    obtain ⟨b1, b2, b3, b4, b5⟩ := hb
    refine ⟨⟨by omega, by omega, by omega, by omega, by unfold LIM at b5; omega⟩, fun e => ?_, fun e => ?_⟩
    · subst e
      exact rd_newT (H0 := H0) h Re (rg_rep _ _)
    · subst e
      exact rd_new h Re old fun a => ⟨_, upd_same, rg_rep _ _⟩
  · exact False.elim h
theorem snd_rgl1 {x : Str} {e : Expr} {ce : E} {p p1 p2 : Pos} (hc : X.calm = true) (hx : x = "tuple" ∨ x = "list") (hg : Gl X x) (hm : X.mg x = none) (hgr : Gl X "range") (hmr : X.mg "range" = none) (he : PEx X G W e ce) (hst : starEach [e] X.env = (false, eval e X.env) :: starEach [] X.env) :
    PEx X G W (.Call (.Name x p) [.Call (.Name "range" p1) [e] [] p2] [] pos) (.rgl (x == "tuple") (.cst (.int 0)) ce) := by
  have core : ∀ {σ H Q}, tE G W (.rgl (x == "tuple") (.cst (.int 0)) ce) σ H Q → tE G W ce σ H fun v H1 => ∃ n, v = .int n ∧ RgOk 0 n ∧ ((x == ("tuple" : Str)) = true → ∀ q, H1 q = none → Q (.ref q) (upd H1 q (.tup (rgV 0 n)))) ∧ ((x == ("tuple" : Str)) = false → ∀ q, H1 q = none → Q (.ref q) (upd H1 q (.lst (rgV 0 n)))) := fun {σ H Q} ⟨bx, Z, env, Re, h⟩ => by
    simp only [ev] at h
    have h : Rd G W bx Z H σ (VOk G bx H) ((ev ce env).bind fun y env => match y.d with
      | .int b => if -1000000000 ≤ (0 : Int) ∧ (0 : Int) ≤ 1000000000 ∧ -1000000000 ≤ b ∧ b ≤ 1000000000 ∧ (b - 0).toNat ≤ LIM then .ok (if (x == ("tuple" : Str)) = true then ⟨.tup (rangeL 0 (b - 0).toNat), .fz⟩ else ⟨.lst (rangeL 0 (b - 0).toNat), .tmp⟩) env else .bad
      | _ => .bad) Q := by
      simp only [DL.R.bind] at h ⊢
      cases q : ev ce env with
      | ok y e1 =>
        rw [q] at h
        simp only at h ⊢
        cases hy : y.d <;> (rw [hy] at h; exact h)
      | exn c d e1 => rw [q] at h; exact h
      | bad => rw [q] at h; exact h
    obtain ⟨b', Z', e', R', q⟩ := sub1o Re h
    refine ⟨b', Z', e', R', q.imp (fun _ _ _ _ _ p => p) fun v H1 ⟨Z1, env1, y, e1, R1, p1, h1⟩ => ?_⟩
    split at h1
    · rename_i b hy
      cases p1.int hy
      exact ⟨b, rfl, rg_end R1 (fun a q => e1.gone q) (h1.ext e1)⟩
    · exact False.elim h1
  rcases hx with rfl | rfl
  · refine PE.imp (pe_tupRg hc hg hm (prg_1 hgr hmr he hst)) fun σ H Q h => ?_
    obtain ⟨b', Z', e', R', q⟩ := core h
    exact ⟨b', Z', e', R', q.imp (fun _ _ _ _ _ p => p) fun v H1 ⟨n, e, ok, t, _⟩ => ⟨n, e, ok, t rfl⟩⟩
  · refine PE.imp (pe_listRg hc hg hm (prg_1 hgr hmr he hst)) fun σ H Q h => ?_
    obtain ⟨b', Z', e', R', q⟩ := core h
    exact ⟨b', Z', e', R', q.imp (fun _ _ _ _ _ p => p) fun v H1 ⟨n, e, ok, _, t⟩ => ⟨n, e, ok, t (by decide)⟩⟩
end
end DL
set_option Elab.async false
set_option linter.all false
set_option autoImplicit false
set_option maxRecDepth 100000
set_option maxHeartbeats 2000000
namespace DL
open PySem PySem.Spec PyProof.Rows L2
/-! errors held as values -/
/-! error classes: class C(..): def __init__(self, f): self.f = f -/
def spInit (C : Addr) (f : Str) : Sp := fun vs H Q _ => ∃ (a : Addr) (v : V), vs = [.ref a, v] ∧ H a = some (exo a C none) ∧ ∀ dx, H dx = none → dx ≠ a → Q .non (upd (upd H dx (exd dx [(f, v)])) a (exo a C (some dx)))
structure ErrAt (X : Cx) (G : Gc) (k : Nat) (c : Nat) (x : Str) : Prop where
  ox : OexC X.K (G.cA c)
  xf : XfC X.K (G.cA c)
  no : PySem.W.findIn X.K (.ref (G.cA c)) (G.cF c) = some none
  ini : ∃ (fI : Addr) (fd : FuncData) (ps : List Str), PySem.W.findIn X.K (.ref (G.cA c)) "__init__" = some (some (.ref fI)) ∧ PySem.W.typeIn X.K (.ref fI) = some (.type "function") ∧ FnOk X.prog X.w X.K X.mg X.base (L2.CX X.prog X.w) k fI fd ps (spInit (G.cA c) (G.cF c)) ∧ Binds X.K fd ps []
  mg : X.mg x = some (.ref (G.cA c))
  db : (x == ("__debug__" : Str)) = false
/-- what a class of errors says of its instances -/
structure XvAt (K : PySem.W.Frag) (C : Addr) : Prop where
  xf : XfC K C
  ic : PySem.W.isClsIn K C = true
  ha : PySem.W.findIn K (.ref C) "__class__" = some (some (.builtin "object.__class__"))
  hn : PySem.W.specialIn K (.builtin "object.__class__") "__get__" = some (some (.builtin "getset_descriptor.__get__"))
  htk : PySem.W.takesIn K (.builtin "object.__class__") = some true
  hm : PySem.W.mroIn K C (.type "object") = some true
section
variable {X : Cx} {G : Gc} {W : WX} {pos : Pos}
theorem snd_mkx {k c : Nat} {x : Str} {e : Expr} {es : List Expr} {ce : List E} {p : Pos} (T : ErrAt X G k c x) (hr : Room (k + 1) X.A) (hg : Gl X x) (ha : PA X (e :: es) (tEa G W [.v] ce))
    (he : starEach (e :: es) X.env = (false, eval e X.env) :: starEach es X.env) (hpl : (backTo pos (starEach es X.env)).any (·.1) = false) : PEx X G W (.Call (.Name x p) (e :: es) [] pos) (.mkx c (G.cF c) ce) := by
  obtain ⟨fI, fd, ps, iC, tI, F1, hb⟩ := T.ini
  obtain ⟨nm, q, N, bs, bm, sn, sub, ab, col, dd, k0, k1, k2, k3, k5, hC, hbm⟩ := T.ox.cls
  refine ⟨fun pins s σ H Q I h => ?_⟩
  obtain ⟨bx, Z, env, Re, h⟩ := h
  simp only [ev] at h
  have h := Rd.bind0 (P := fun Z' _ as vs => ArOk G Z' σ as vs ∧ ShapeOk [.v] as) h
  refine wpAny_Call_Name_kw (ld_glob I hg T.mg ?_ T.db)
  refine PySem.W.callWith_K (h₀ := X.base) I.ok.mod.kin T.ox.kC (thn (ha.run pos pins s σ H _ I ⟨bx, Z, env, Re, h⟩) fun us s1 ⟨vs, H1, I1, r1, Z1, env1, as, e1, R1, ⟨p1, p2⟩, h1⟩ => ⟨I1.kIn, ?_⟩) he hpl
  split at h1
  · rename_i d
    obtain ⟨v, rfl⟩ : ∃ v, vs = [v] := by
      cases vs with
      | nil => exact p1.elim
      | cons v vs =>
        cases vs with
        | nil => exact ⟨v, rfl⟩
        | cons w vs => exact p1.2.elim
    have rep : Rep G Z1 v d := p1.1
    show wpAny _ _ (call (.ref (G.cA c)) us) _ _ _
    obtain ⟨hp, g, dr, tk, os⟩ := s1
    let a := hp.objs.size + 1
    have hsz : hp.objs.size ≤ hp.objs.size + 1 := Nat.le_succ _
    have na : H1 a = none := I1.hok.fresh hsz
    let Qi : VK := fun v' H2 => v' = .non ∧ ∃ dx, dx ≠ a ∧ H1 dx = none ∧ H2 = upd (upd (upd H1 a (exo a (G.cA c) none)) dx (exd dx [(G.cF c, v)])) a (exo a (G.cA c) (some dx))
    have hq : spInit (G.cA c) (G.cF c) (V.ref a :: [v]) (upd H1 a (exo a (G.cA c) none)) Qi (fun _ _ _ => False) :=
      ⟨a, v, rfl, upd_same, fun dx hdx hne => ⟨rfl, dx, hne, by rw [upd_ne hne] at hdx; exact hdx, rfl⟩⟩
    have kk : ∀ b o, hp.get? b = some o → ((hp.push (PySem.W.kdv_tup us)).push (PySem.HandSPX.excO (G.cA c) hp.objs.size)).get? b = some o := fun b o z => Heap.get?_push_of_some _ (Heap.get?_push_of_some _ z)
    have hget : ((hp.push (PySem.W.kdv_tup us)).push (PySem.HandSPX.excO (G.cA c) hp.objs.size)).get? a = some (PySem.HandSPX.excO (G.cA c) hp.objs.size) := by show Heap.get? _ (hp.objs.size + 1) = _; heap_get
    have I2 : Inv X pins σ (upd H1 a (exo a (G.cA c) none)) ⟨(hp.push (PySem.W.kdv_tup us)).push (PySem.HandSPX.excO (G.cA c) hp.objs.size), g, dr, tk, os⟩ :=
      I1.laid (t' := tk) (a := a) (o := exo a (G.cA c) none) kk hsz (exo_ok hget)
    have r2 : Vals (V.ref a :: [v]) (Value.ref a :: us) := .cons rfl r1
    have hl : (Value.ref a :: us).length = ps.length := by
      have z := r2.length
      rw [F1.len _ _ _ _ hq] at z
      exact z.symm
    have hus : us.length ≤ sizeLine := by
      rw [← Paired.length r1, sizeLine_eq]
      show 1 ≤ _
      omega
    have hbd := hb ⟨(hp.push (PySem.W.kdv_tup us)).push (PySem.HandSPX.excO (G.cA c) hp.objs.size), g, dr, tk, os⟩ (Value.ref a :: us) I2.kIn (by rw [List.append_nil]; exact hl)
    rw [List.append_nil] at hbd
    refine wpAny_call (PySem.HandSPX.call_own F.excBase_ValueError (fun Y => PySem.HandSPX.refsVE_contains Y bm hbm) (I1.kIn _ _ hC) (PySem.W.looks_findIn I1.kIn iC) (fun self => PySem.W.bind_fn I1.kIn self tI) hus
      (codeAny_mono (F1.run _ X.stack _ _ ⟨Value.ref a :: us, []⟩ (Value.ref a :: us) _ _ (fun _ _ _ => False) (hr.make (G.cA c) us []) (I2.env0.make (G.cA c) us []) hbd r2 hq) fun r s' hq' => ?_))
    cases r with
    | error er =>
      obtain ⟨_, _, _, _, _, _, _, _, _, _, _, _, z⟩ := hq'
      exact z.elim
    | ok fl =>
      cases fl with
      | ret u =>
        obtain ⟨v', H2, I3, rv, ev', dx, hne, hdx, hH⟩ := I2.after hq'
        subst ev'
        refine ⟨rv, .ref a, H2, I3, rfl, ?_⟩
        have hH2 : H2 = upd (upd H1 dx (exd dx [(G.cF c, v)])) a (exo a (G.cA c) (some dx)) := by
          rw [hH]
          funext b
          by_cases hb : b = a
          · subst hb; rw [upd_same, upd_same]
          · rw [upd_ne hb, upd_ne hb]
            by_cases hb2 : b = dx
            · subst hb2; rw [upd_same, upd_same]
            · rw [upd_ne hb2, upd_ne hb2, upd_ne hb]
        subst hH2
        have na2 : upd H1 dx (exd dx [(G.cF c, v)]) a = none := by rw [upd_ne (fun z => hne z.symm)]; exact na
        have x1 : Ext bx Z1 H1 (upd Z1 dx (exd dx [(G.cF c, v)])) (upd H1 dx (exd dx [(G.cF c, v)])) := .laidZ hdx R1.le
        have R2 := R1.laidZ (o := exd dx [(G.cF c, v)]) hdx
        have x2 := Ext.laidZ (bx := bx) (o := exo a (G.cA c) (some dx)) na2 R2.le
        have R3 := R2.laidZ (o := exo a (G.cA c) (some dx)) na2
        refine h1 (.ref a) _ _ (e1.trans (x1.trans x2)) R3 ?_
        have z1 : Same Z1 (upd (upd Z1 dx (exd dx [(G.cF c, v)])) a (exo a (G.cA c) (some dx))) := (x1.trans x2).z
        exact Rep.exv upd_same (by rw [upd_ne hne]; exact upd_same) (by simp) (.cons (rep.mono z1) .nil)
      | next => exact False.elim hq'
      | brk => exact False.elim hq'
      | cont => exact False.elim hq'
  · exact False.elim h1
/-- where an error stands -/
theorem VOk.exv {bx : Bd} {H0 Z H : Hp} {x : Vl} {v : V} {c : Nat} {fs : List (Str × D)} (h : VOk G bx H0 Z H x v) (hd : x.d = .exv c fs) (le : Same Z H) : ∃ a dx vs, v = .ref a ∧ H a = some (exo a (G.cA c) (some dx)) ∧ H dx = some (exd dx vs) ∧ RepF G Z vs fs := by
  obtain ⟨d, k⟩ := x
  cases hd
  cases k with
  | fz => cases (show Rep G Z v (.exv c fs) from h) with | exv h1 h2 _ r => exact ⟨_, _, _, rfl, le _ _ h1, le _ _ h2, r⟩
  | tmp => obtain ⟨a, e, _, _, _, o⟩ := h; exact o.elim
  | ln => obtain ⟨a, e, _, o⟩ := h; exact o.elim
/-- .. in the model -/
theorem exv_inst {pins : List (Addr × PySem.Obj)} {σ : L2.St} {H : Hp} {s : Shared} {a dx C : Addr} {vs : List (Str × V)} (I : Inv X pins σ H s) (h1 : H a = some (exo a C (some dx))) (h2 : H dx = some (exd dx vs)) :
    ∃ (ox od : PySem.Obj) (mA : Str → Option Value), PySem.W.InstAt s.heap a ox C (some od) ∧ (∀ n, PySem.W.lookIn n od = some (mA n)) ∧ ∀ f, RelO (vs.lookup f) (mA f) := by
  obtain ⟨t1, ho⟩ := exo_at I.hok h1
  obtain ⟨mA, hns, rel⟩ := exd_at I.hok h2
  obtain ⟨od, hod, hl⟩ := lookIn_ns hns
  exact ⟨_, od, mA, ⟨ho, rfl, rfl, hod⟩, hl, rel⟩
theorem snd_xfld {cs : List Nat} {a : Expr} {ca : E} {f : Str} (hcl : ∀ c ∈ cs, XvAt X.K (G.cA c)) (hno : ∀ c ∈ cs, PySem.W.findIn X.K (.ref (G.cA c)) f = some none) (ha : PEx X G W a ca) (hb : attributeBase a f X.env (eval a X.env) = eval a X.env) : PEx X G W (.Attribute a f pos) (.xfld cs ca f) := by
  refine ⟨fun pins s σ H Q I h => ?_⟩
  obtain ⟨bx, Z, env, Re, h⟩ := h
  simp only [ev] at h
  obtain ⟨b', Z', e', R', q⟩ := sub1o Re h
  refine attr_of hb (thn (ha.run pins s σ H _ I ⟨b', Z', e', R', q⟩) fun u s1 ⟨xv, H1, I1, rx, Z1, env1, y, e1, R1, p1, h1⟩ => ?_)
  split at h1
  · rename_i c fs hd
    split at h1
    · rename_i hc
      have hc : c ∈ cs := by simpa using hc
      obtain ⟨b, dx, vs, rfl, hb1, hb2, rf⟩ := p1.exv hd R1.le
      obtain rfl : u = Value.ref b := rx
      cases q2 : fs.lookup f with
      | none => rw [q2] at h1; exact False.elim h1
      | some d =>
        rw [q2] at h1
        obtain ⟨v, hv, rv⟩ := rf.get q2
        obtain ⟨ox, od, mA, J, hl, rel⟩ := exv_inst I1 hb1 hb2
        obtain ⟨w, hw, rw'⟩ := RelO.some_of (v := v) (o := mA f) (by rw [← hv]; exact rel f)
        have T := (hcl c hc).xf
        exact PySem.HandSPX.exc_get I1.kIn J T.ga T.gg T.exC (PySem.W.findObj_own T.hdC (hno c hc) rfl (by rw [hl, hw])) (handed_of rw') ⟨v, H1, I1.tok _, rw', h1 v Z1 H1 e1 R1 rv⟩
    · exact False.elim h1
  · exact False.elim h1
/-- isinstance(e, c), e an error that was made -/
def rIsV (X : Cx) : List V → Hp → VK → Prop := fun xs H Q => ∃ (a dx C : Addr) (vs : List (Str × V)) (c : V) (cv : Value) (b : Bool), xs = [.ref a, c] ∧ H a = some (exo a C (some dx)) ∧ H dx = some (exd dx vs) ∧ XvAt X.K C ∧ (∀ u, RelV c u → u = cv) ∧ PySem.W.kitOne X.K (.ref C) cv = some b ∧ Q (.bl b) H
theorem call_isV : CallR X (.builtin "isinstance") (rIsV X) := by
  intro pins s σ H xs us Q I r h
  obtain ⟨a, dx, C, vs, c, cv, b, rfl, h1, h2, T, hcv, e, q⟩ := h
  cases r with
  | cons rx rr =>
    cases rr with
    | cons rt rr =>
      cases rr
      cases rx
      obtain rfl := hcv _ rt
      obtain ⟨ox, od, mA, J, _, _⟩ := exv_inst I h1 h2
      exact PySem.W.kia_one (PySem.W.kitx_exc T.ic T.xf.ga T.xf.gg T.xf.exC T.ha T.hn T.htk T.hm) I.kIn J e (fun z => nomatch z) fun tk => ⟨.bl b, H, I.kept (t' := tk) fun _ _ z => z, rfl, q⟩
/-- the class that is asked for -/
def xisV (G : Gc) : Option Nat → Value
  | some c => .ref (G.cA c)
  | none => .type "ValueError"
def XisM (mg : Str → Option Value) (G : Gc) (t : Str) : Option Nat → Prop
  | some c => mg t = some (.ref (G.cA c))
  | none => mg t = none ∧ t = "ValueError"
theorem snd_xis {cs : List Nat} {y : Option Nat} {l : List (Nat × Bool)} {t : Str} {a : Expr} {ca : E} {p p2 : Pos} (hcl : ∀ c ∈ cs, XvAt X.K (G.cA c)) (hl : ∀ c b, l.lookup c = some b → PySem.W.kitOne X.K (.ref (G.cA c)) (xisV G y) = some b)
    (hi : Gl X "isinstance") (hmi : X.mg "isinstance" = none) (hg : Gl X t) (hm : XisM X.mg G t y) (hdb : (t == ("__debug__" : Str)) = false) (ha : PEx X G W a ca)
    (he : starEach [a, .Name t p2] X.env = (false, eval a X.env) :: starEach [.Name t p2] X.env) : PEx X G W (.Call (.Name "isinstance" p) [a, .Name t p2] [] pos) (.xis cs y l ca) := by
  obtain ⟨cv, hcv, hx⟩ : ∃ cv : V, (∀ u, RelV cv u → u = xisV G y) ∧ PE X (.Name t p2) (tC cv) := by
    cases y with
    | some c => exact ⟨.ref (G.cA c), fun u z => z, pe_glob hg hm rfl hdb⟩
    | none =>
      obtain ⟨hm, rfl⟩ := hm
      exact ⟨.ty "ValueError", fun u z => z, pe_bltn (v := .ty "ValueError") hg hm PyProof.Rows.Boot.«ValueError» rfl (by decide) hdb⟩
  refine PE.imp (pe_callB call_isV hi hmi (by decide +kernel) (pa_cons ha (pa_cons hx pa_nil) he) (he := he)) fun σ H Q ⟨bx, Z, env, Re, h⟩ => ?_
  simp only [ev] at h
  obtain ⟨b', Z', e', R', q⟩ := sub1o Re h
  refine ⟨b', Z', e', R', q.imp (fun _ _ _ _ _ p => p) fun v H1 ⟨Z1, env1, x, e1, R1, p1, h1⟩ => ?_⟩
  show rIsV X [v, cv] H1 Q
  split at h1
  · rename_i c fs hd
    split at h1
    · rename_i hc
      have hc : c ∈ cs := by simpa using hc
      split at h1
      · rename_i b hb
        obtain ⟨w, dx, vs, rfl, hb1, hb2, _⟩ := p1.exv hd R1.le
        exact ⟨w, dx, _, vs, cv, _, b, rfl, hb1, hb2, hcl c hc, hcv, hl c b hb, h1 (.bl b) Z1 H1 e1 R1 (Rep.bl b)⟩
      · exact False.elim h1
    · exact False.elim h1
  · exact False.elim h1
end
end DL
set_option Elab.async false
set_option linter.all false
set_option autoImplicit false
set_option maxRecDepth 100000
set_option maxHeartbeats 2000000
namespace DL
open PySem PySem.Spec PyProof.Rows L2
/-! tests: and, or, a chain -/
section
variable {X : Cx} {G : Gc} {W : WX} {pos : Pos}
abbrev PWx (X : Cx) (G : Gc) (W : WX) (e : Expr) (c : E) : Prop := PW X e (tTr G W c)
theorem sndW_one {op : BoolOp} {a : Expr} {ca : E} (ha : PTx X G W a ca) : PWx X G W (.BoolOp op [a] pos) ca := by
  cases op with
  | And => exact pw_and1 ha
  | Or => exact pw_or1 ha
theorem PW.imp {e : Expr} {t t' : TT} (h : PW X e t) (i : ∀ σ H Q, t' σ H Q → t σ H Q) : PW X e t' := ⟨fun wh pins s σ H Q I q => h.run wh pins s σ H Q I (i _ _ _ q)⟩
/-- the second of two -/
theorem rd_snd {bx : Bd} {Z H Z1 H1 : Hp} {σ : L2.St} {cb : E} {env1 : DL.Env} {Q : Bool → Hp → Prop} (e : Ext bx Z H Z1 H1) (R1 : Rel G bx Z1 env1 σ H1)
    (h : Rd G W bx Z H σ (fun _ _ b b' => b = b') (((ev cb env1).bind fun y env => (match y.d with
      | .bl v => .ok ⟨.bl v, .fz⟩ env
      | _ => .bad : R Vl)).bind fun z env => match truD z.d with
      | some b => .ok b env
      | none => .bad) Q) : tTr G W cb σ H1 Q := by
  refine ⟨bx, Z1, env1, R1, ?_⟩
  cases q2 : ev cb env1 with
  | ok y env2 =>
    rw [q2] at h
    obtain ⟨d, k⟩ := y
    cases d <;> first
      | exact Rd.ext (r := .ok _ env2) (α := Bool) (P := fun _ _ b b' => b = b') h e
      | exact False.elim h
  | exn c d env2 => rw [q2] at h; exact Rd.ext (r := .exn c d env2) (α := Bool) (P := fun _ _ b b' => b = b') h e
  | bad => rw [q2] at h; exact False.elim h
theorem sndW_and {a b : Expr} {rest : List Expr} {ca cb : E} (ha : PTx X G W a ca) (hb : PWx X G W (.BoolOp .And (b :: rest) pos) cb) : PWx X G W (.BoolOp .And (a :: b :: rest) pos) (.and ca cb) := by
  refine PW.imp (pw_and ha hb) fun σ H Q ⟨bx, Z, env, Re, h⟩ => ?_
  refine ⟨bx, Z, env, Re, ?_⟩
  simp only [ev] at h
  cases q : ev ca env with
  | ok x env1 =>
    rw [q] at h
    obtain ⟨d, k⟩ := x
    cases d with
    | bl v =>
      cases v with
      | true =>
        intro k Z' H' e R' hk
        cases hk
        rw [if_pos rfl]
        exact rd_snd e R' h
      | false =>
        intro k Z' H' e R' hk
        cases hk
        rw [if_neg Bool.false_ne_true]
        exact h false Z' H' e R' rfl
    | _ => exact False.elim h
  | exn c d env1 => rw [q] at h; exact h
  | bad => rw [q] at h; exact False.elim h
theorem sndW_or {a b : Expr} {rest : List Expr} {ca cb : E} (ha : PTx X G W a ca) (hb : PWx X G W (.BoolOp .Or (b :: rest) pos) cb) : PWx X G W (.BoolOp .Or (a :: b :: rest) pos) (.or ca cb) := by
  refine PW.imp (pw_or ha hb) fun σ H Q ⟨bx, Z, env, Re, h⟩ => ?_
  refine ⟨bx, Z, env, Re, ?_⟩
  simp only [ev] at h
  cases q : ev ca env with
  | ok x env1 =>
    rw [q] at h
    obtain ⟨d, k⟩ := x
    cases d with
    | bl v =>
      cases v with
      | false =>
        intro k Z' H' e R' hk
        cases hk
        rw [if_neg Bool.false_ne_true]
        exact rd_snd e R' h
      | true =>
        intro k Z' H' e R' hk
        cases hk
        rw [if_pos rfl]
        exact h true Z' H' e R' rfl
    | _ => exact False.elim h
  | exn c d env1 => rw [q] at h; exact h
  | bad => rw [q] at h; exact False.elim h
/-- a chain as a test, by its value -/
theorem sndT_cmp2 {op op' : CmpOp} {a b c : Expr} {ca cb cc : E} (C : Ctx X G) (hm : lastMarks [op, op'] [b, c] = false) (ha : PEx X G W a ca) (hb : PEx X G W b cb) (hc : PEx X G W c cc) : PTx X G W (.Compare a [op, op'] [b, c] pos) (.cmp2 op op' ca cb cc) := by
  refine ⟨fun pins s σ H Q I h => ?_⟩
  obtain ⟨bx, Z, env, Re, h⟩ := h
  simp only [ev] at h
  have h' : Rd G W bx Z H σ (fun _ _ b b' => b = b') ((ev ca env).bind fun x env => (ev cb env).bind fun y env => (match cmpD op x.d y.d with
    | some ⟨.bl true, _⟩ => (ev cc env).bind fun z env => lift (cmpD op' y.d z.d) env
    | some ⟨.bl false, _⟩ => .ok ⟨.bl false, .fz⟩ env
    | _ => .bad : R Vl).bind fun z env => match truD z.d with
      | some b => .ok b env
      | none => .bad) Q := by
    cases q : ev ca env with
    | ok x env1 =>
      rw [q] at h
      simp only [DL.R.bind] at h ⊢
      cases q' : ev cb env1 <;> (rw [q'] at h; exact h)
    | exn c d env1 => rw [q] at h; exact h
    | bad => rw [q] at h; exact h
  refine isTrue_chain (thn (ha.run pins s σ H _ I (sub1 (H0 := H) Re h')) fun v s1 ⟨x, H1, I1, r1, Z1, env1, xd, e1, R1, p1, h1⟩ => test_link ?_) hm
  refine thn (hb.run pins s1 σ H1 _ I1 (sub1 (H0 := H) R1 h1)) fun u s2 ⟨y, H2, I2, r2, Z2, env2, yd, e2, R2, p2, h2⟩ => ?_
  have p1' := p1.ext e2
  have p2' := VOk.older (H0 := H) p2 fun a q => e1.gone q
  cases q : cmpD op xd.d yd.d with
  | none => rw [q] at h2; exact False.elim h2
  | some z =>
    obtain ⟨k, rfl⟩ := cmpD_bl q
    rw [q] at h2
    have go := cmp_ok (op := op) (W := W) (Q := fun z' H' => z' = .bl k ∧ ∃ Z', Ext bx Z2 H2 Z' H' ∧ Rel G bx Z' env2 σ H') C I2 R2 r1 r2 p1' p2' (by
      rw [q]
      intro v' Z' H' e R' p
      have p : Rep G Z' v' (.bl k) := p
      cases p
      exact ⟨rfl, Z', e, R'⟩)
    refine thn go fun d s3 ⟨z, H3, I3, r3, e3, Z3, x3, R3⟩ => ?_
    subst e3
    cases r3
    refine wpAny_truthy_bool ?_
    cases k with
    | false => exact ite_ff ⟨H3, I3, h2 false Z3 H3 x3 R3 rfl⟩
    | true =>
      have h3 : Rd G W bx Z2 H2 σ (fun _ _ b b' => b = b') ((ev cc env2).bind fun z env => (lift (cmpD op' yd.d z.d) env).bind fun z env => match truD z.d with
        | some b => .ok b env
        | none => .bad) Q := by
        have h2 : Rd G W bx Z2 H2 σ (fun _ _ b b' => b = b') (((ev cc env2).bind fun z env => lift (cmpD op' yd.d z.d) env).bind fun z env => match truD z.d with
          | some b => .ok b env
          | none => .bad) Q := h2
        cases q : ev cc env2 <;> (rw [q] at h2; exact h2)
      have h3 := Rd.ext h3 x3
      refine ite_tt (test_last (thn (hc.run pins s3 σ H3 _ I3 (sub1 (H0 := H) R3 h3)) fun w' s4 ⟨z', H4, I4, r4, Z4, env4, zd, e4, R4, p4, h4⟩ => ?_))
      cases q3 : cmpD op' yd.d zd.d with
      | none => rw [q3] at h4; exact False.elim h4
      | some z =>
        obtain ⟨k, rfl⟩ := cmpD_bl q3
        rw [q3] at h4
        have go := cmp_ok (op := op') (W := W) (H0 := H) (Q := fun z' H' => z' = .bl k ∧ ∃ Z', Ext bx Z4 H4 Z' H' ∧ Rel G bx Z' env4 σ H') C I4 R4 r2 r4 ((p2'.ext x3).ext e4) (p4.older fun a q => e1.gone (e2.gone (x3.gone q))) (by
          rw [q3]
          intro v' Z' H' e R' p
          have p : Rep G Z' v' (.bl k) := p
          cases p
          exact ⟨rfl, Z', e, R'⟩)
        refine thn go fun d s5 ⟨z, H5, I5, r5, e5, Z5, x5, R5⟩ => ?_
        subst e5
        cases r5
        exact wpAny_truthy_bool ⟨H5, I5, h4 k Z5 H5 x5 R5 rfl⟩
end
/-! from the text -/
structure Tab where
  fns : List FnI
  cst : List (Str × D)
  /-- own classes: their numbers, the fields that are read; makers, names, own == -/
  cls : List Nat := []
  fl : List Str := []
  mks : List (Str × (Nat × FnI)) := []
  own : List (Str × Nat) := []
  eqs : List (Nat × FnI) := []
  /-- errors as values: makers, classes, fields that are read, names that isinstance asks for -/
  xmk : List (Str × (Nat × Str)) := []
  xcs : List Nat := []
  xfl : List Str := []
  xis : List (Str × (Option Nat × List (Nat × Bool))) := []
  xbs : List (Str × Nat) := []
def cName (T : Tab) (N : List Str) (sc : Scope) (x : Str) : Option E :=
  if x == ("__debug__" : Str) || x == ("__classdict__" : Str) then none else
  match sc.names.lookup x with
  | some .local => (N.idxOf? x).map .var
  | some .cell => (N.idxOf? x).map .var
  | some .free => (N.idxOf? x).map .var
  | some .globalImplicit => (T.cst.lookup x).map .cst
  | _ => none
def isGl (sc : Scope) (x : Str) : Bool := sc.names.lookup x == some .globalImplicit
def isSl : Expr → Bool
  | .Slice .. => true
  | _ => false
def isSt : Expr → Bool
  | .Starred .. => true
  | _ => false
def isSet : Expr → Bool
  | .Set .. => true
  | _ => false
/-- a test's form is one that we know -/
def tOk : Expr → Bool
  | .IfExp .. => false
  | .Compare _ [_] [_] _ => true
  | .Compare _ [_, _] [_, _] _ => true
  | .Compare .. => false
  | _ => true
def cL (f : Expr → Option E) : List Expr → Option (List E)
  | [] => some []
  | e :: es => if isSt e then none else (f e).bind fun c => (cL f es).map (c :: ·)
def cA (f : Expr → Option E) (nm : Str → Option E) : List Md → List Expr → Option (List E)
  | [], [] => some []
  | .v :: ms, e :: es => if isSt e then none else (f e).bind fun c => (cA f nm ms es).map (c :: ·)
  | .io :: ms, .Name x _ :: es => match nm x with
    | some (.var i) => (cA f nm ms es).map (.var i :: ·)
    | _ => none
  | _, _ => none
def cB (f : Expr → Option E) (op : BoolOp) : List Expr → Option E
  | [] => none
  | [e] => if tOk e then f e else none
  | e :: es => if tOk e then (f e).bind fun c => (cB f op es).map fun d => match op with
    | .And => .and c d
    | .Or => .or c d
    else none
def cO (f : Expr → Option E) : Option Expr → Option (Option E)
  | none => some none
  | some e => (f e).map some
def cIt (f : Expr → Option E) (sc : Scope) (iter : Expr) : Option (E ⊕ (E × E)) :=
  match iter with
  | .Call (.Name r _) [hi] [] _ => if r = "range" ∧ isGl sc r = true then (if isSt hi then none else (f hi).map fun h => .inr (.cst (.int 0), h)) else (f iter).map .inl
  | .Call (.Name r _) [lo, hi] [] _ => if r = "range" ∧ isGl sc r = true then (if isSt hi || isSt lo then none else (f lo).bind fun l => (f hi).map fun h => .inr (l, h)) else (f iter).map .inl
  | _ => if isSet iter then none else (f iter).map .inl
def asGen : List Comprehension → Option (Str × Expr × List Expr)
  | [⟨.Name v _, iter, ifs, .ofNat 0⟩] => some (v, iter, ifs)
  | _ => none
def cIf (f : Expr → Option E) : List Expr → Option (Option E)
  | [] => some none
  | [c] => if tOk c then (f c).map some else none
  | _ => none
def mkSub : Expr → E → E → E
  | .Name _ _, .var i, .cst (.int (.ofNat k)) => .subc i k
  | _, x, y => .sub x y
def isCl : Expr → Bool
  | .Call .. => true
  | _ => false
def mkCmp (T : Tab) (calm : Bool) (op : CmpOp) (x y : E) : E := match op with
  | .Eq => if T.eqs.isEmpty || !calm then .cmp .Eq x y else .eqo T.cls T.eqs x y
  | op => .cmp op x y
/-- tuple(range(n)), list(range(n)) -/
def asRg (sc : Scope) (x : Str) : List Expr → Option Expr
  | [.Call (.Name r _) [hi] [] _] => if r = "range" ∧ isGl sc r = true ∧ (x = "tuple" ∨ x = "list") ∧ isSt hi = false then some hi else none
  | _ => none
/-- what is not served is code that must not be come to -/
def cEs (T : Tab) (N : List Str) (calm : Bool) (f : Scope → Expr → Option E) (sc : Scope) (e : Expr) : Option E := match e with
    | .Name x _ => cName T N sc x
    | .Constant (.int i) _ _ => some (.cst (.int i))
    | .Constant (.bool b) _ _ => some (.cst (.bl b))
    | .Constant (.str x) _ _ => some (.cst (.str x))
    | .Constant .none _ _ => some (.cst .non)
    | .Tuple es _ _ => (cL (f sc) es).bind fun cs => if cs.length ≤ 1000 then some (.tup cs) else none
    | .List es _ => (cL (f sc) es).bind fun cs => if cs.length ≤ 1000 then some (.lst cs) else none
    | .BinOp a op b _ => (f sc a).bind fun x => (f sc b).map fun y => .bin op x y
    | .UnaryOp .USub a _ => (f sc a).map .neg
    | .UnaryOp .Not a _ => if tOk a then (f sc a).map .not else none
    | .Compare a [op] [b] _ => if behindInMarks op b then none else (f sc a).bind fun x => (f sc b).map fun y => mkCmp T calm op x y
    | .Attribute a fd _ => if T.fl.contains fd && !isCl a then (f sc a).map fun y => .fld T.cls y fd else if T.xfl.contains fd && !isCl a then (f sc a).map fun y => .xfld T.xcs y fd else none
    | .Compare a [op, op'] [b, c] _ => if lastMarks [op, op'] [b, c] then none else (f sc a).bind fun x => (f sc b).bind fun y => (f sc c).map fun z => .cmp2 op op' x y z
    | .BoolOp op vs _ => cB (f sc) op vs
    | .IfExp c a b _ => if tOk c then (f sc c).bind fun x => (f sc a).bind fun y => (f sc b).map fun z => .ite x y z else none
    | .Subscript a s _ => match s with
      | .Slice none none (some (.UnaryOp .USub (.Constant (.int 1) _ _) _)) _ => (f sc a).map .rev
      | .Slice lo hi none _ => (f sc a).bind fun x => (cO (f sc) lo).bind fun l => (cO (f sc) hi).map fun h => .slc x l h
      | _ => if isSl s then none else (f sc a).bind fun x => (f sc s).map fun y => mkSub a x y
    | .Call (.Name x _) args [] _ => if isGl sc x then
        (if x = "isinstance" then (match args with
          | [a, .Name t _] => if isSt a then none else if isGl sc t then (match tyN t with
            | some ty => (f sc a).map fun y => .isi y ty
            | none => match T.own.lookup t with
              | some c => (f sc a).map fun y => .isc T.cls y c
              | none => match T.xis.lookup t with
                | some q => (f sc a).map fun y => .xis T.xcs q.1 q.2 y
                | none => none) else none
          | _ => none)
        else match bfN x with
          | some b => if args.isEmpty || !calm then none else (match asRg sc x args with
            | some hi => (f sc hi).map fun h => .rgl (x == "tuple") (.cst (.int 0)) h
            | none => (cL (f sc) args).map (.bf b))
          | none => match T.fns.find? (fun i => i.name == x) with
            | some i => if args.isEmpty || !calm then none else (cA (f sc) (cName T N sc) i.ms args).map (.call i)
            | none => match T.mks.lookup x with
              | some (c, i) => if args.isEmpty || !calm then none else (cA (f sc) (cName T N sc) i.ms.tail args).map (.mk i c)
              | none => match T.xmk.lookup x with
                | some (c, fd) => if args.isEmpty || !calm then none else (cA (f sc) (cName T N sc) [.v] args).map (.mkx c fd)
                | none => none) else none
    | .ListComp elt gens scope _ => if !calm then none else (asGen gens).bind fun g =>
      match N.idxOf? g.1 with
      | none => none
      | some i => if blkC N sc scope [(g.1, i)] && ((scope.names.lookup g.1 == some .local) || (scope.names.lookup g.1 == some .cell)) then
        (cIf (f (relS scope sc)) g.2.2).bind fun co => (f (relS scope sc) elt).bind fun ce => (cIt (f sc) sc g.2.1).map fun (it : E ⊕ (E × E)) => match it with
            | .inl ci => .lc ce i ci co
            | .inr (l, h) => .lcr ce i l h co
        else none
    | _ => none
def cE (T : Tab) (N : List Str) (calm : Bool) : Nat → Scope → Expr → Option E
  | 0, _, _ => some .bad
  | n + 1, sc, e => some ((cEs T N calm (cE T N calm n) sc e).getD .bad)
end DL
set_option Elab.async false
set_option linter.all false
set_option autoImplicit false
set_option maxRecDepth 100000
set_option maxHeartbeats 4000000
namespace DL
open PySem PySem.Spec PyProof.Rows L2
structure CtxF (X : Cx) (G : Gc) (T : Tab) (k : Nat) (calm : Bool) : Prop where
  c : Ctx X G
  room : calm = true → Room k X.A
  hc : calm = true → X.calm = true
  fns : calm = true → ∀ i ∈ T.fns, FnAt X G k i
  cst : ∀ x d, T.cst.lookup x = some d → ∃ v u, X.mg x = some u ∧ RelV v u ∧ ∀ Z, Rep G Z v d
  blt : ∀ x, (bfN x).isSome = true ∨ (tyN x).isSome = true ∨ x = "isinstance" ∨ x = "range" ∨ x = "enumerate" → X.mg x = none
  cls : ∀ c ∈ T.cls, ClsAt X.K G T.cls T.fl c
  own : ∀ x c, T.own.lookup x = some c → c ∈ T.cls ∧ X.mg x = some (.ref (G.cA c)) ∧ (x == ("__debug__" : Str)) = false
  mks : calm = true → ∀ x c i, T.mks.lookup x = some (c, i) → ∃ k', Room (k' + 1) X.A ∧ MkAt X G k' x c i
  eqs : calm = true → ∀ c i, T.eqs.lookup c = some i → EqAt X G k T.cls c i
  xmk : calm = true → ∀ x c f, T.xmk.lookup x = some (c, f) → G.cF c = f ∧ ∃ k', Room (k' + 1) X.A ∧ ErrAt X G k' c x
  xcs : ∀ c ∈ T.xcs, XvAt X.K (G.cA c)
  xfl : ∀ c ∈ T.xcs, ∀ f ∈ T.xfl, PySem.W.findIn X.K (.ref (G.cA c)) f = some none
  xis : ∀ x y l, T.xis.lookup x = some (y, l) → (∀ c b, l.lookup c = some b → PySem.W.kitOne X.K (.ref (G.cA c)) (xisV G y) = some b) ∧ XisM X.mg G x y ∧ (x == ("__debug__" : Str)) = false
section
variable {X : Cx} {G : Gc} {T : Tab} {k : Nat} {calm : Bool} {W : WX}
theorem CtxF.blk (F : CtxF X G T k calm) (s : Shared) (H : Hp) (scope : Scope) (cenv : PySem.Env) (fp : List Addr) : CtxF (X.blk s H scope cenv fp) G T k calm :=
  ⟨⟨F.c.K, F.c.nd, F.c.un⟩, F.room, F.hc, fun hc i hi => ⟨(F.fns hc i hi).ex, (F.fns hc i hi).db⟩, F.cst, F.blt, F.cls, F.own, fun hc x c i h => let ⟨k', r, t⟩ := F.mks hc x c i h; ⟨k', r, ⟨t.ex, t.mg, t.db, t.ms⟩⟩, fun hc c i h => let t := F.eqs hc c i h; ⟨t.ex, t.ms, t.nb, t.no⟩, fun hc x c f h => let ⟨e, k', r, t⟩ := F.xmk hc x c f h; ⟨e, k', r, ⟨t.ox, t.xf, t.no, t.ini, t.mg, t.db⟩⟩, F.xcs, F.xfl, F.xis⟩
theorem idx_get {N : List Str} {x : Str} {i : Nat} (h : N.idxOf? x = some i) : N[i]? = some x := by
  rw [List.idxOf?_eq_some_iff] at h
  obtain ⟨hi, e, _⟩ := h
  rw [List.getElem?_eq_getElem hi]
  simpa using e
theorem star_cons {e : Expr} {es : List Expr} {env : PySem.Env} (h : isSt e = false) : starEach (e :: es) env = (false, eval e env) :: starEach es env := by
  cases e <;> first | rfl | cases h
theorem star_any : ∀ {es : List Expr} {env : PySem.Env} {p : Pos}, (∀ e ∈ es, isSt e = false) → (backTo p (starEach es env)).any (·.1) = false
  | [], _, _, _ => rfl
  | e :: es, env, p, h => by
    rw [star_cons (h e (by simp))]
    show (false || (backTo p (starEach es env)).any (·.1)) = false
    rw [star_any fun e he => h e (by simp [he])]; rfl
theorem plain_ix {b : Expr} (h : isSl b = false) : PlainIx b := by
  intro o i
  cases b <;> first | rfl | cases h
theorem plain_true {a : Expr} {env : PySem.Env} (h : ∀ op xs p, a ≠ .BoolOp op xs p) (h2 : ∀ x p, a ≠ .UnaryOp .Not x p) (h3 : ∀ c x y p, a ≠ .IfExp c x y p) (h4 : ∀ x o y p, a ≠ .Compare x o y p) : ∀ whole, isTrue a env whole = (do let v ← whole; standAt a.pos; holding [v] (truthy v)) := by
  intro whole
  cases a with
  | BoolOp op xs p => exact absurd rfl (h op xs p)
  | IfExp c x y p => exact absurd rfl (h3 c x y p)
  | Compare x o y p => exact absurd rfl (h4 x o y p)
  | UnaryOp op x p =>
    cases op with
    | Not => exact absurd rfl (h2 x p)
    | _ => rfl
  | _ => rfl
theorem snd_cN {sc : Scope} {N : List Str} {x : Str} {c : E} {pos : Pos} (F : CtxF X G T k calm) (hN : X.N = N) (hs : X.env.scope = sc) (h : cName T N sc x = some c) : PEx X G W (.Name x pos) c := by
  unfold cName at h
  split at h
  · cases h
  · rename_i hx
    rw [Bool.or_eq_true, not_or] at hx
    have hd : (x == ("__debug__" : Str)) = false := by simpa using hx.1
    have hcd : (x == ("__classdict__" : Str)) = false := by simpa using hx.2
    have go : Vis X.env.scope x → (N.idxOf? x).map E.var = some c → PEx X G W (.Name x pos) c := fun hv h => by
      cases q : N.idxOf? x with
      | none => rw [q] at h; cases h
      | some i =>
        rw [q] at h
        cases h
        exact snd_var (by rw [hN]; exact idx_get q) hv hd hcd
    split at h
    · rename_i e; exact go (.inl (by rw [hs]; exact e)) h
    · rename_i e; exact go (.inr (.inl (by rw [hs]; exact e))) h
    · rename_i e; exact go (.inr (.inr (by rw [hs]; exact e))) h
    · rename_i e
      cases q : T.cst.lookup x with
      | none => rw [q] at h; cases h
      | some d =>
        rw [q] at h
        cases h
        obtain ⟨v, u, hm, rv, r⟩ := F.cst x d q
        exact snd_cst (pe_glob (show X.env.scope.names.lookup x = _ by rw [hs]; exact e) hm rv hd) r
    · cases h
/-- what is shown of an expression -/
def isCp : Expr → Bool
  | .ListComp .. => true
  | .SetComp .. => true
  | .DictComp .. => true
  | _ => false
structure Snd (X : Cx) (G : Gc) (W : WX) (a : Expr) (c : E) : Prop where
  e : PEx X G W a c
  t : tOk a = true → PTx X G W a c
  /-- kept under a name -/
  a : ∀ (i : Nat) (y : Str) (py spos : Pos), X.N[i]? = some y → Loc X.env.scope y → (X.fn y = true ∨ X.env.scope.names.lookup y = some .local) → PS X (.Assign [.Name y py] a spos) (tAsg (tE G W c) (gName i))
theorem swaps_plain {e : Expr} (h : isCp e = false) (t : Option Expr) (l : Nat) (env : PySem.Env) : swapsWith e t l env = pure false := by
  cases e <;> first | rfl | cases h
theorem Snd.mk2 {e : Expr} {c : E} (C : Ctx X G) (h1 : PEx X G W e c) (h2 : tOk e = true → PTx X G W e c) (hc : isCp e = false := by rfl) : Snd X G W e c :=
  ⟨h1, h2, fun i y py spos hi hx hf => ps_set C.nd hi hx h1 (swaps_plain hc _ _ _) hf⟩
theorem Snd.plain {e : Expr} {c : E} (C : Ctx X G) (h : PEx X G W e c) (h1 : ∀ op xs p, e ≠ .BoolOp op xs p) (h2 : ∀ x p, e ≠ .UnaryOp .Not x p) (h3 : ∀ c x y p, e ≠ .IfExp c x y p) (h4 : ∀ x o y p, e ≠ .Compare x o y p) (hc : isCp e = false := by rfl) : Snd X G W e c :=
  .mk2 C h (fun _ => snd_tv C h (plain_true h1 h2 h3 h4)) hc
section
variable {f : Expr → Option E}
theorem snd_cL (hf : ∀ e c, f e = some c → Snd X G W e c) : ∀ {es : List Expr} {cs : List E}, cL f es = some cs → PA X es (tEs G W cs) ∧ PA X es (tEp G W cs) ∧ (∀ e ∈ es, isSt e = false) ∧ cs.length = es.length
  | [], cs, h => by
    simp only [cL] at h
    cases h
    exact ⟨spa_nil, spp_nil, (fun _ z => by cases z), rfl⟩
  | e :: es, cs, h => by
    simp only [cL] at h
    split at h
    · cases h
    · rename_i hst
      have hst : isSt e = false := by simpa using hst
      cases q : f e with
      | none => rw [q] at h; cases h
      | some c =>
        rw [q] at h
        cases q2 : cL f es with
        | none => simp only [Option.bind, q2, Option.map] at h; cases h
        | some ds =>
          simp only [Option.bind, q2, Option.map] at h
          cases h
          obtain ⟨h1, h2, h3, h4⟩ := snd_cL hf q2
          exact ⟨spa_cons (hf _ _ q).e h1 (star_cons hst), spp_cons (hf _ _ q).e h2 (star_cons hst), fun e' he => by
            rcases List.mem_cons.mp he with rfl | he
            · exact hst
            · exact h3 e' he, by simp [h4]⟩
theorem snd_cA {N : List Str} {sc : Scope} (F : CtxF X G T k calm) (hN : X.N = N) (hs : X.env.scope = sc) (hf : ∀ e c, f e = some c → Snd X G W e c) : ∀ {ms : List Md} {es : List Expr} {cs : List E}, cA f (cName T N sc) ms es = some cs → PA X es (tEa G W ms cs) ∧ (∀ e ∈ es, isSt e = false)
  | [], [], cs, h => by
    simp only [cA] at h
    cases h
    exact ⟨saa_nil, fun _ z => by cases z⟩
  | .v :: ms, e :: es, cs, h => by
    simp only [cA] at h
    split at h
    · cases h
    · rename_i hst
      have hst : isSt e = false := by simpa using hst
      cases q : f e with
      | none => rw [q] at h; cases h
      | some c =>
        rw [q] at h
        cases q2 : cA f (cName T N sc) ms es with
        | none => simp only [Option.bind, q2, Option.map] at h; cases h
        | some ds =>
          simp only [Option.bind, q2, Option.map] at h
          cases h
          obtain ⟨h1, h3⟩ := snd_cA F hN hs hf q2
          exact ⟨saa_v (hf _ _ q).e h1 (star_cons hst), fun e' he => by
            rcases List.mem_cons.mp he with rfl | he
            · exact hst
            · exact h3 e' he⟩
  | .io :: ms, e :: es, cs, h => by
    cases e with
    | Name x p =>
      simp only [cA] at h
      split at h
      · rename_i i hi
        cases q2 : cA f (cName T N sc) ms es with
        | none => simp only [q2, Option.map] at h; cases h
        | some ds =>
          simp only [q2, Option.map] at h
          cases h
          obtain ⟨h1, h3⟩ := snd_cA F hN hs hf q2
          -- the name is one of the def's
          unfold cName at hi
          split at hi
          · cases hi
          · rename_i hx
            rw [Bool.or_eq_true, not_or] at hx
            have hd : (x == ("__debug__" : Str)) = false := by simpa using hx.1
            have hcd : (x == ("__classdict__" : Str)) = false := by simpa using hx.2
            have go : Vis X.env.scope x → (N.idxOf? x).map E.var = some (.var i) → PA X (.Name x p :: es) (tEa G W (.io :: ms) (.var i :: ds)) := fun hv h => by
              cases q : N.idxOf? x with
              | none => rw [q] at h; cases h
              | some j =>
                rw [q] at h
                cases h
                exact saa_io (by rw [hN]; exact idx_get q) hv hd hcd h1
            refine ⟨?_, fun e' he => ?_⟩
            · split at hi
              · rename_i e; exact go (.inl (by rw [hs]; exact e)) hi
              · rename_i e; exact go (.inr (.inl (by rw [hs]; exact e))) hi
              · rename_i e; exact go (.inr (.inr (by rw [hs]; exact e))) hi
              · rename_i e
                cases q : T.cst.lookup x with
                | none => rw [q] at hi; cases hi
                | some d => rw [q] at hi; cases hi
              · cases hi
            · rcases List.mem_cons.mp he with rfl | he
              · rfl
              · exact h3 e' he
      · cases h
    | _ => simp only [cA] at h; cases h
  | [], _ :: _, _, h => by simp only [cA] at h; cases h
  | .v :: _, [], _, h => by simp only [cA] at h; cases h
  | .io :: _, [], _, h => by simp only [cA] at h; cases h
theorem snd_cB {op : BoolOp} {pos : Pos} (C : Ctx X G) (hf : ∀ e c, f e = some c → Snd X G W e c) : ∀ {es : List Expr} {c : E}, cB f op es = some c → PEx X G W (.BoolOp op es pos) c ∧ PWx X G W (.BoolOp op es pos) c
  | [], c, h => by simp only [cB] at h; cases h
  | [e], c, h => by
    simp only [cB] at h
    split at h
    · rename_i ht
      exact ⟨pe_one (hf _ _ h).e, sndW_one ((hf _ _ h).t ht)⟩
    · cases h
  | e :: e2 :: es, c, h => by
    simp only [cB] at h
    split at h
    · rename_i ht
      cases q : f e with
      | none => rw [q] at h; cases h
      | some c1 =>
        rw [q] at h
        cases q2 : cB f op (e2 :: es) with
        | none => simp only [Option.bind, q2, Option.map] at h; cases h
        | some c2 =>
          simp only [Option.bind, q2, Option.map] at h
          obtain ⟨h1, h2⟩ := snd_cB (op := op) C hf q2
          cases op with
          | And => cases h; exact ⟨snd_and (hf _ _ q).e h1, sndW_and ((hf _ _ q).t ht) h2⟩
          | Or => cases h; exact ⟨snd_or (hf _ _ q).e h1, sndW_or ((hf _ _ q).t ht) h2⟩
    · cases h
theorem snd_cO (hf : ∀ e c, f e = some c → Snd X G W e c) : ∀ {o : Option Expr} {c : Option E}, cO f o = some c → PO X o (tEo G W c)
  | none, c, h => by simp only [cO] at h; cases h; exact spo_none
  | some e, c, h => by
    simp only [cO] at h
    cases q : f e with
    | none => rw [q] at h; cases h
    | some c1 => rw [q] at h; cases h; exact spo_some (hf _ _ q).e
end
theorem sub_slot {bx : Bd} {Z H H0 : Hp} {env : DL.Env} {σ : L2.St} {Q : VK} {i k : Nat} {v : V} (C : Ctx X G) (Re : Rel G bx Z env σ H) (hv : σ[i]? = some (some v)) (h : Rd G W bx Z H σ (VOk G bx H0) (ev (.subc i k) env) Q) : rIx X.K v (.int (k : Int)) H Q := by
  simp only [ev] at h
  cases q : env[i]? with
  | none => rw [q] at h; exact False.elim h
  | some s =>
    rw [q] at h
    cases s with
    | val d =>
      obtain ⟨v', e, r⟩ := Re.get_val q
      rw [hv] at e; cases e
      exact sub_r (x := ⟨d, .fz⟩) (y := ⟨.int k, .fz⟩) (H0 := H) C Re r (Rep.int _) (fun _ _ r => r) h
    | own d =>
      obtain ⟨a, e, zn, o⟩ := Re.slot i _ q
      have e' := Re.get_ref q e
      rw [hv] at e'; cases e'
      exact sub_r (x := ⟨d, .ln⟩) (y := ⟨.int k, .fz⟩) (H0 := H) C Re ⟨a, rfl, Re.own i d a q e, o⟩ (Rep.int _) (fun _ _ r => r) h
    | box d =>
      obtain ⟨a, e, zn, o⟩ := Re.slot i _ q
      have e' := Re.get_ref q e
      rw [hv] at e'; cases e'
      cases d with
      | lst ds =>
        obtain ⟨vs, ha, r⟩ := o
        simp only [subD] at h
        cases q1 : DL.ixN ds.length k with
        | none => rw [q1] at h; exact False.elim h
        | some j =>
          rw [q1] at h
          cases q2 : ds[j]? with
          | none => simp only [Option.bind, q2, Option.map] at h; exact False.elim h
          | some d =>
            simp only [Option.bind, q2, Option.map] at h
            obtain ⟨v, e, r'⟩ := atI_of r q1 q2
            exact .inl ⟨a, vs, k, v, rfl, rfl, .of ha, e, h v Z H .refl Re r'⟩
      | ins c fs => simp only [subD] at h; exact False.elim h
      | _ => exact False.elim o
    | un => exact False.elim h
    | exc c d => exact False.elim h
theorem slot_there {bx : Bd} {Z H H0 : Hp} {env : DL.Env} {σ : L2.St} {Q : VK} {i k : Nat} (Re : Rel G bx Z env σ H) (h : Rd G W bx Z H σ (VOk G bx H0) (ev (.subc i k) env) Q) : ∃ v, σ[i]? = some (some v) := by
  simp only [ev] at h
  cases q : env[i]? with
  | none => rw [q] at h; exact False.elim h
  | some s =>
    rw [q] at h
    cases s with
    | val d => obtain ⟨v', e, r⟩ := Re.get_val q; exact ⟨v', e⟩
    | own d => obtain ⟨a, e, zn, o⟩ := Re.slot i _ q; exact ⟨_, Re.get_ref q e⟩
    | box d => obtain ⟨a, e, zn, o⟩ := Re.slot i _ q; exact ⟨_, Re.get_ref q e⟩
    | un => exact False.elim h
    | exc c d => exact False.elim h
theorem snd_subc' {i : Nat} {x : Str} {k : Nat} {b : Expr} {p1 pos : Pos} (C : Ctx X G) (hN : X.N[i]? = some x) (hv : Vis X.env.scope x) (hd : (x == ("__debug__" : Str)) = false) (hcd : (x == ("__classdict__" : Str)) = false) (hp : PlainIx b) (hb : PEx X G W b (.cst (.int (k : Int)))) :
    PEx X G W (.Subscript (.Name x p1) b pos) (.subc i k) := by
  refine PE.imp (pe_ix ix_seq (pe_var hN hv hd hcd) hb hp) fun σ H Q ⟨bx, Z, env, Re, h⟩ => ?_
  obtain ⟨v, hv⟩ := slot_there Re h
  refine ⟨v, hv, bx, Z, env, Re, ?_⟩
  simp only [ev]
  intro y Z' H' e R' p
  have p : Rep G Z' y (.int (k : Int)) := p
  cases p
  exact sub_slot C R' hv (h.ext e)
theorem asGen_eq {gens : List Comprehension} {v : Str} {iter : Expr} {ifs : List Expr} (h : asGen gens = some (v, iter, ifs)) : ∃ tp, gens = [⟨.Name v tp, iter, ifs, 0⟩] := by
  unfold asGen at h
  split at h
  · cases h; exact ⟨_, rfl⟩
  · cases h
theorem snd_Bad {e : Expr} : Snd X G W e .bad := ⟨snd_bad, fun _ => sndT_bad, fun i y py spos _ _ _ => ⟨fun pins s σ H D I ⟨bx, Z, env, Re, h⟩ => by simp only [ev] at h; exact False.elim h⟩⟩
/-- THE RULE for expressions -/
theorem snd_all {N : List Str} : ∀ (n : Nat) {X : Cx} {W : WX} {sc : Scope} {e : Expr} {c : E}, CtxF X G T k calm → X.N = N → X.env.scope = sc → sc.kind = .function → Takes X W → cE T N calm n sc e = some c → Snd X G W e c
  | 0, X, W, sc, e, c, _, _, _, _, _, h => by simp only [cE] at h; cases h; exact snd_Bad
  | n + 1, X, W, sc, e, c, F, hN, hs, hk, tk, h => by
    have ih : ∀ e c, cE T N calm n sc e = some c → Snd X G W e c := fun e c h => snd_all n F hN hs hk tk h
    replace h : cEs T N calm (cE T N calm n) sc e = some c ∨ c = .bad := by
      simp only [cE] at h
      cases hq : cEs T N calm (cE T N calm n) sc e with
      | none => rw [hq] at h; cases h; exact .inr rfl
      | some c' => rw [hq] at h; cases h; exact .inl rfl
    rcases h with h | rfl
    case inr => exact snd_Bad
    have gl : ∀ {x : Str}, isGl sc x = true → Gl X x := fun {x} h => by
      show X.env.scope.names.lookup x = _
      rw [hs]
      unfold isGl at h
      simpa using h
    cases e with
    | Name x p =>
      simp only [cEs] at h
      exact .plain F.c (snd_cN F hN hs h) (by simp) (by simp) (by simp) (by simp)
    | Constant cv j p =>
      cases cv with
      | none => simp only [cEs] at h; cases h; exact .plain F.c (snd_cst pe_non fun _ => .non) (by simp) (by simp) (by simp) (by simp)
      | bool b => simp only [cEs] at h; cases h; exact .plain F.c (snd_cst pe_bl fun _ => .bl b) (by simp) (by simp) (by simp) (by simp)
      | int i => simp only [cEs] at h; cases h; exact .plain F.c (snd_cst pe_int fun _ => .int i) (by simp) (by simp) (by simp) (by simp)
      | str x => simp only [cEs] at h; cases h; exact .plain F.c (snd_cst pe_str fun _ => .str x) (by simp) (by simp) (by simp) (by simp)
      | _ => simp only [cEs] at h; cases h
    | Tuple es j p =>
      simp only [cEs] at h
      cases q : cL (cE T N calm n sc) es with
      | none => rw [q] at h; cases h
      | some cs =>
        rw [q] at h
        simp only [Option.bind] at h
        split at h
        · rename_i hl
          cases h
          exact .plain F.c (snd_tup (snd_cL ih q).1 hl) (by simp) (by simp) (by simp) (by simp)
        · cases h
    | List es p =>
      simp only [cEs] at h
      cases q : cL (cE T N calm n sc) es with
      | none => rw [q] at h; cases h
      | some cs =>
        rw [q] at h
        simp only [Option.bind] at h
        split at h
        · rename_i hl
          cases h
          exact .plain F.c (snd_lst (snd_cL ih q).1 hl) (by simp) (by simp) (by simp) (by simp)
        · cases h
    | BinOp a op b p =>
      simp only [cEs] at h
      cases q : cE T N calm n sc a with
      | none => rw [q] at h; cases h
      | some x =>
        cases q2 : cE T N calm n sc b with
        | none => simp only [q, q2, Option.bind, Option.map] at h; cases h
        | some y =>
          simp only [q, q2, Option.bind, Option.map] at h
          cases h
          exact .plain F.c (snd_bin F.c (ih _ _ q).e (ih _ _ q2).e) (by simp) (by simp) (by simp) (by simp)
    | UnaryOp op a p =>
      cases op with
      | USub =>
        simp only [cEs] at h
        cases q : cE T N calm n sc a with
        | none => rw [q] at h; cases h
        | some x =>
          rw [q] at h
          cases h
          exact .plain F.c (snd_neg (ih _ _ q).e) (by simp) (by simp) (by simp) (by simp)
      | Not =>
        simp only [cEs] at h
        split at h
        · rename_i ht
          cases q : cE T N calm n sc a with
          | none => rw [q] at h; cases h
          | some x =>
            rw [q] at h
            cases h
            exact .mk2 F.c (snd_not F.c (ih _ _ q).e) (fun _ => sndT_not ((ih _ _ q).t ht))
        · cases h
      | _ => simp only [cEs] at h; cases h
    | BoolOp op vs p =>
      simp only [cEs] at h
      obtain ⟨h1, h2⟩ := snd_cB (pos := p) F.c ih h
      exact .mk2 F.c h1 (fun _ => h2.pt)
    | IfExp ct a b p =>
      simp only [cEs] at h
      split at h
      · rename_i ht
        cases q : cE T N calm n sc ct with
        | none => simp only [q, Option.bind] at h; cases h
        | some x =>
          cases q2 : cE T N calm n sc a with
          | none => simp only [q, q2, Option.bind] at h; cases h
          | some y =>
            cases q3 : cE T N calm n sc b with
            | none => simp only [q, q2, q3, Option.bind, Option.map] at h; cases h
            | some z =>
              simp only [q, q2, q3, Option.bind, Option.map] at h
              cases h
              exact .mk2 F.c (snd_ite ((ih _ _ q).t ht) (ih _ _ q2).e (ih _ _ q3).e) (fun z => by cases z)
      · cases h
    | Compare a ops bs p =>
      match ops, bs, h with
      | [op], [b], h =>
        simp only [cEs] at h
        split at h
        · cases h
        · rename_i hm
          have hm : behindInMarks op b = false := by simpa using hm
          cases q : cE T N calm n sc a with
          | none => simp only [q, Option.bind] at h; cases h
          | some x =>
            cases q2 : cE T N calm n sc b with
            | none => simp only [q, q2, Option.bind, Option.map] at h; cases h
            | some y =>
              simp only [q, q2, Option.bind, Option.map] at h
              cases h
              have plain : Snd X G W (.Compare a [op] [b] p) (.cmp op x y) := by
                have h1 := snd_cmp (pos := p) (op := op) F.c hm (ih _ _ q).e (ih _ _ q2).e
                exact .mk2 F.c h1 (fun _ => sndT_cmp hm h1 F.c (ih _ _ q).e (ih _ _ q2).e)
              unfold mkCmp
              split
              · split
                · exact plain
                · rename_i hq
                  rw [Bool.or_eq_true, not_or] at hq
                  have hcalm : calm = true := by simpa using hq.2
                  exact .mk2 F.c (snd_eqo F.c F.cls (F.eqs hcalm) (F.room hcalm) hm (ih _ _ q).e (ih _ _ q2).e) (fun _ => sndT_eqo F.c F.cls (F.eqs hcalm) (F.room hcalm) hm (ih _ _ q).e (ih _ _ q2).e)
              · exact plain
      | [op, op'], [b, d], h =>
        simp only [cEs] at h
        split at h
        · cases h
        · rename_i hm
          have hm : lastMarks [op, op'] [b, d] = false := by simpa using hm
          cases q : cE T N calm n sc a with
          | none => simp only [q, Option.bind] at h; cases h
          | some x =>
            cases q2 : cE T N calm n sc b with
            | none => simp only [q, q2, Option.bind] at h; cases h
            | some y =>
              cases q3 : cE T N calm n sc d with
              | none => simp only [q, q2, q3, Option.bind, Option.map] at h; cases h
              | some z =>
                simp only [q, q2, q3, Option.bind, Option.map] at h
                cases h
                exact .mk2 F.c (snd_cmp2 F.c hm (ih _ _ q).e (ih _ _ q2).e (ih _ _ q3).e) (fun _ => sndT_cmp2 F.c hm (ih _ _ q).e (ih _ _ q2).e (ih _ _ q3).e)
      | [], _, h => simp only [cEs] at h; cases h
      | [_], [], h => simp only [cEs] at h; cases h
      | [_], _ :: _ :: _, h => simp only [cEs] at h; cases h
      | [_, _], [], h => simp only [cEs] at h; cases h
      | [_, _], [_], h => simp only [cEs] at h; cases h
      | [_, _], _ :: _ :: _ :: _, h => simp only [cEs] at h; cases h
      | _ :: _ :: _ :: _, _, h => simp only [cEs] at h; cases h
    | Subscript a s p =>
      have plain : ∀ {c}, PEx X G W (.Subscript a s p) c → Snd X G W (.Subscript a s p) c := fun h => .plain F.c h (by simp) (by simp) (by simp) (by simp)
      have rest : isSl s = false → ((cE T N calm n sc a).bind fun x => (cE T N calm n sc s).map fun y => mkSub a x y) = some c → Snd X G W (.Subscript a s p) c := fun hsl h => by
        cases q : cE T N calm n sc a with
        | none => simp only [q, Option.bind] at h; cases h
        | some x =>
          cases q2 : cE T N calm n sc s with
          | none => simp only [q, q2, Option.bind, Option.map] at h; cases h
          | some y =>
            simp only [q, q2, Option.bind, Option.map] at h
            have hb := (ih _ _ q2).e
            unfold mkSub at h
            split at h
            · rename_i x' pa i k _
              cases h
              cases n with
              | zero => simp only [cE] at q; cases q
              | succ m =>
                have q' : cName T N sc x' = some (.var i) := by
                  simp only [cE, cEs] at q
                  cases qq : cName T N sc x' with
                  | none => rw [qq] at q; cases q
                  | some z => rw [qq] at q; exact q
                unfold cName at q'
                split at q'
                · cases q'
                · rename_i hx
                  rw [Bool.or_eq_true, not_or] at hx
                  have hd : (x' == ("__debug__" : Str)) = false := by simpa using hx.1
                  have hcd : (x' == ("__classdict__" : Str)) = false := by simpa using hx.2
                  have go : Vis X.env.scope x' → (N.idxOf? x').map E.var = some (.var i) → Snd X G W (.Subscript (.Name x' pa) s p) (.subc i k) := fun hv h => by
                    cases q : N.idxOf? x' with
                    | none => rw [q] at h; cases h
                    | some j =>
                      rw [q] at h
                      cases h
                      exact plain (snd_subc' F.c (by rw [hN]; exact idx_get q) hv hd hcd (plain_ix hsl) hb)
                  split at q'
                  · rename_i e; exact go (.inl (by rw [hs]; exact e)) q'
                  · rename_i e; exact go (.inr (.inl (by rw [hs]; exact e))) q'
                  · rename_i e; exact go (.inr (.inr (by rw [hs]; exact e))) q'
                  · rename_i e
                    cases q3 : T.cst.lookup x' with
                    | none => rw [q3] at q'; cases q'
                    | some d => rw [q3] at q'; cases q'
                  · cases q'
            · cases h
              exact plain (snd_sub F.c (plain_ix hsl) (ih _ _ q).e (ih _ _ q2).e)
      cases s with
      | Slice lo hi st p2 =>
        cases st with
        | none =>
          simp only [cEs] at h
          cases q : cE T N calm n sc a with
          | none => simp only [q, Option.bind] at h; cases h
          | some x =>
            cases q2 : cO (cE T N calm n sc) lo with
            | none => simp only [q, q2, Option.bind] at h; cases h
            | some l =>
              cases q3 : cO (cE T N calm n sc) hi with
              | none => simp only [q, q2, q3, Option.bind, Option.map] at h; cases h
              | some u =>
                simp only [q, q2, q3, Option.bind, Option.map] at h
                cases h
                exact plain (snd_slc F.c (ih _ _ q).e (snd_cO ih q2) (snd_cO ih q3))
        | some st =>
          have back : ∀ {kk : Nat} {p1 p2' : Pos}, lo = none → hi = none → st = .UnaryOp .USub (.Constant (.int 1) kk p1) p2' → Snd X G W (.Subscript a (.Slice lo hi (some st) p2) p) c := fun {kk p1 p2'} e1 e2 e3 => by
            subst e1 e2 e3
            simp only [cEs] at h
            cases q : cE T N calm n sc a with
            | none => rw [q] at h; cases h
            | some x => rw [q] at h; cases h; exact plain (snd_rev F.c (ih _ _ q).e)
          simp only [cEs] at h
          split at h
          · rename_i heq
            cases heq
            exact back rfl rfl rfl
          · rename_i heq
            cases heq
          · simp only [isSl] at h; cases h
      | _ => exact rest rfl (by simpa only [cEs, isSl, Bool.false_eq_true, if_false] using h)
    | Call f args kws p =>
      have plain : ∀ {c}, PEx X G W (.Call f args kws p) c → Snd X G W (.Call f args kws p) c := fun h => .plain F.c h (by simp) (by simp) (by simp) (by simp)
      cases f with
      | Name x px =>
        cases kws with
        | nil =>
          simp only [cEs] at h
          split at h
          · rename_i hg
            split at h
            · rename_i hx
              subst hx
              split at h
              · rename_i a t p2
                split at h
                · cases h
                · rename_i hst
                  have hst : isSt a = false := by simpa using hst
                  split at h
                  · rename_i hgt
                    cases q : tyN t with
                    | none =>
                      cases q3 : T.own.lookup t with
                      | none =>
                        cases q4 : T.xis.lookup t with
                        | none => simp only [q, q3, q4] at h; cases h
                        | some xq =>
                          cases q2 : cE T N calm n sc a with
                          | none => simp only [q, q2, q3, q4, Option.map] at h; cases h
                          | some y =>
                            simp only [q, q2, q3, q4, Option.map] at h
                            cases h
                            obtain ⟨xy, xl⟩ := xq
                            obtain ⟨o1, o2, o3⟩ := F.xis t xy xl q4
                            exact plain (snd_xis F.xcs o1 (gl hg) (F.blt _ (.inr (.inr (.inl rfl)))) (gl hgt) o2 o3 (ih _ _ q2).e (star_cons hst))
                      | some co =>
                        cases q2 : cE T N calm n sc a with
                        | none => simp only [q, q2, q3, Option.bind, Option.map] at h; cases h
                        | some y =>
                          simp only [q, q2, q3, Option.bind, Option.map] at h
                          cases h
                          obtain ⟨o1, o2, o3⟩ := F.own t co q3
                          exact plain (snd_isc F.c F.cls o1 (gl hg) (F.blt _ (.inr (.inr (.inl rfl)))) (gl hgt) o2 o3 (ih _ _ q2).e (star_cons hst))
                    | some ty =>
                      cases q2 : cE T N calm n sc a with
                      | none => simp only [q, q2, Option.bind, Option.map] at h; cases h
                      | some y =>
                        simp only [q, q2, Option.bind, Option.map] at h
                        cases h
                        exact plain (snd_isi F.c (gl hg) (F.blt _ (.inr (.inr (.inl rfl)))) q (gl hgt) (F.blt t (.inr (.inl (by rw [q]; rfl)))) (ih _ _ q2).e (star_cons hst))
                  · cases h
              · cases h
            · split at h
              · rename_i bf hbf
                split at h
                · cases h
                · rename_i hne
                  rw [Bool.or_eq_true, not_or] at hne
                  cases hrg : asRg sc x args with
                  | some hi =>
                    rw [hrg] at h
                    unfold asRg at hrg
                    split at hrg
                    · rename_i r px' hi' pr
                      split at hrg
                      · rename_i hc
                        obtain ⟨rfl, hgr, hx, hst⟩ := hc
                        cases hrg
                        have hcalm : calm = true := by simpa using hne.2
                        cases q : cE T N calm n sc hi with
                        | none => simp only [q, Option.map] at h; cases h
                        | some ch =>
                          simp only [q, Option.map] at h
                          cases h
                          exact plain (snd_rgl1 (F.hc hcalm) hx (gl hg) (F.blt x (.inl (by rw [hbf]; rfl))) (gl hgr) (F.blt _ (.inr (.inr (.inr (.inl rfl))))) (ih _ _ q).e (star_cons hst))
                      · cases hrg
                    · cases hrg
                  | none =>
                  rw [hrg] at h
                  simp only at h
                  cases q : cL (cE T N calm n sc) args with
                  | none => simp only [q, Option.map] at h; cases h
                  | some cs =>
                    simp only [q, Option.map] at h
                    cases h
                    obtain ⟨_, h2, h3, _⟩ := snd_cL ih q
                    cases args with
                    | nil => simp at hne
                    | cons e es =>
                      have hcalm : calm = true := by simpa using hne.2
                      exact plain (snd_bf F.c (F.hc hcalm) hbf (gl hg) (F.blt x (.inl (by rw [hbf]; rfl))) h2 (star_cons (h3 e (by simp))) (star_any fun e' he => h3 e' (by simp [he])))
              · split at h
                · rename_i i hi
                  split at h
                  · cases h
                  · rename_i hne
                    rw [Bool.or_eq_true, not_or] at hne
                    have hmem := List.mem_of_find?_eq_some hi
                    have hnm : i.name = x := by
                      have := List.find?_some hi
                      simpa using this
                    subst hnm
                    cases q : cA (cE T N calm n sc) (cName T N sc) i.ms args with
                    | none => simp only [q, Option.map] at h; cases h
                    | some cs =>
                      simp only [q, Option.map] at h
                      cases h
                      obtain ⟨h1, h3⟩ := snd_cA F hN hs ih q
                      cases args with
                      | nil => simp at hne
                      | cons e es =>
                        have hcalm : calm = true := by simpa using hne.2
                        exact plain (snd_call (F.fns hcalm i hmem) (F.room hcalm) tk (gl hg) h1 (star_cons (h3 e (by simp))) (star_any fun e' he => h3 e' (by simp [he])))
                · split at h
                  · rename_i co i hmk
                    split at h
                    · cases h
                    · rename_i hne
                      rw [Bool.or_eq_true, not_or] at hne
                      cases q : cA (cE T N calm n sc) (cName T N sc) i.ms.tail args with
                      | none => simp only [q, Option.map] at h; cases h
                      | some cs =>
                        simp only [q, Option.map] at h
                        cases h
                        obtain ⟨h1, h3⟩ := snd_cA F hN hs ih q
                        cases args with
                        | nil => simp at hne
                        | cons e es =>
                          have hcalm : calm = true := by simpa using hne.2
                          obtain ⟨k', r', mk⟩ := F.mks hcalm _ _ _ hmk
                          exact plain (snd_mk mk r' tk (gl hg) h1 (star_cons (h3 e (by simp))) (star_any fun e' he => h3 e' (by simp [he])))
                  · split at h
                    · rename_i co fd hmk
                      split at h
                      · cases h
                      · rename_i hne
                        rw [Bool.or_eq_true, not_or] at hne
                        cases q : cA (cE T N calm n sc) (cName T N sc) [.v] args with
                        | none => simp only [q, Option.map] at h; cases h
                        | some cs =>
                          simp only [q, Option.map] at h
                          cases h
                          obtain ⟨h1, h3⟩ := snd_cA F hN hs ih q
                          cases args with
                          | nil => simp at hne
                          | cons e es =>
                            have hcalm : calm = true := by simpa using hne.2
                            obtain ⟨ef, k', r', mk⟩ := F.xmk hcalm _ _ _ hmk
                            subst ef
                            exact plain (snd_mkx mk r' (gl hg) h1 (star_cons (h3 e (by simp))) (star_any fun e' he => h3 e' (by simp [he])))
                    · cases h
          · cases h
        | cons _ _ => simp only [cEs] at h; cases h
      | _ => simp only [cEs] at h; cases h
    | Attribute a fd p =>
      simp only [cEs] at h
      split at h
      · rename_i hc
        rw [Bool.and_eq_true] at hc
        have hf : fd ∈ T.fl := by simpa using hc.1
        have hcl : isCl a = false := by simpa using hc.2
        cases q : cE T N calm n sc a with
        | none => rw [q] at h; cases h
        | some y =>
          rw [q] at h
          cases h
          exact .plain F.c (snd_fld F.cls hf (ih _ _ q).e (by cases a <;> first | rfl | cases hcl)) (by simp) (by simp) (by simp) (by simp)
      · split at h
        · rename_i hc
          rw [Bool.and_eq_true] at hc
          have hf : fd ∈ T.xfl := by simpa using hc.1
          have hcl : isCl a = false := by simpa using hc.2
          cases q : cE T N calm n sc a with
          | none => rw [q] at h; cases h
          | some y =>
            rw [q] at h
            cases h
            exact .plain F.c (snd_xfld F.xcs (fun c hc => F.xfl c hc fd hf) (ih _ _ q).e (by cases a <;> first | rfl | cases hcl)) (by simp) (by simp) (by simp) (by simp)
        · cases h
    | ListComp elt gens scope p =>
      simp only [cEs] at h
      split at h
      · cases h
      · rename_i hcalm
        have hcalm : calm = true := by simpa using hcalm
        cases q : asGen gens with
        | none => simp only [q, Option.bind] at h; cases h
        | some g =>
          simp only [q, Option.bind] at h
          obtain ⟨v, iter, ifs⟩ := g
          obtain ⟨tp, rfl⟩ := asGen_eq q
          simp only at h
          split at h
          · cases h
          · rename_i i hi
            split at h
            · rename_i hb
              rw [Bool.and_eq_true, Bool.or_eq_true] at hb
              obtain ⟨hblk, hloc⟩ := hb
              have ok : BlkOk X.N X.env.scope scope [(v, i)] := by rw [hN, hs]; exact blkOk_by hblk
              have hkf : (relS scope sc).kind = .function := ok.kind
              have hsc : ∀ (s : Shared) (H : Hp) (C : Addr) (cl : List (Str × Addr)) (fp : List Addr), (X.blk s H scope (compEnvC scope cl C X.env) fp).env.scope = relS scope sc := fun s H C cl fp => by rw [← hs]; rfl
              have hNi : N[i]? = some v := idx_get hi
              have hg : ∀ (s : Shared) (H : Hp) (C : Addr) (cl : List (Str × Addr)) (fp : List Addr), PG (X.blk s H scope (compEnvC scope cl C X.env) fp) (.Name v tp) (gName i) := fun s H C cl fp => by
                rcases hloc with hl | hl
                · have hl : scope.names.lookup v = some .local := by simpa using hl
                  have hl : (X.blk s H scope (compEnvC scope cl C X.env) fp).env.scope.names.lookup v = some .local := by rw [hsc]; exact lookup_relS_keep (by decide) hl
                  exact pg_name F.c.nd (by show X.N[i]? = _; rw [hN]; exact hNi) (.inl hl) (.inr hl)
                · have hl : scope.names.lookup v = some .cell := by simpa using hl
                  have hl' : (X.blk s H scope (compEnvC scope cl C X.env) fp).env.scope.names.lookup v = some .cell := by rw [hsc]; exact lookup_relS_keep (by decide) hl
                  exact pg_name F.c.nd (by show X.N[i]? = _; rw [hN]; exact hNi) (.inr hl') (.inl (by show (scope.names.lookup v == some .cell) = true; rw [hl]; rfl))
              have inner : ∀ {e c}, cE T N calm n (relS scope sc) e = some c → ∀ (s : Shared) (H : Hp) (C : Addr) (cl : List (Str × Addr)) (fp : List Addr), Snd (X.blk s H scope (compEnvC scope cl C X.env) fp) G W0 e c := fun {e c} h s H C cl fp =>
                snd_all n (F.blk s H scope _ fp) hN (hsc s H C cl fp) hkf takes_none5 h
              cases qc : cIf (cE T N calm n (relS scope sc)) ifs with
              | none => simp only [qc] at h; cases h
              | some co =>
                -- the test
                have ht : ∀ (s : Shared) (H : Hp) (C : Addr) (cl : List (Str × Addr)) (fp : List Addr), PTs (X.blk s H scope (compEnvC scope cl C X.env) fp) ifs (tCc G W0 (condF co)) := fun s H C cl fp => by
                  match ifs, qc with
                  | [], qc =>
                    simp only [cIf] at qc
                    cases qc
                    refine ⟨fun pins s σ H Q I ⟨bx, Z, env, Re, h⟩ => pts_nil.run pins s σ H Q I ?_⟩
                    exact h true Z H .refl Re rfl
                  | [c], qc =>
                    simp only [cIf] at qc
                    split at qc
                    · rename_i ht
                      cases q : cE T N calm n (relS scope sc) c with
                      | none => rw [q] at qc; cases qc
                      | some cc =>
                        rw [q] at qc
                        cases qc
                        have := pts_one ((inner q s H C cl fp).t ht)
                        exact ⟨fun pins s σ H Q I ⟨bx, Z, env, Re, h⟩ => this.run pins s σ H Q I ⟨bx, Z, env, Re, h⟩⟩
                    · cases qc
                  | _ :: _ :: _, qc => simp only [cIf] at qc; cases qc
                cases q2 : cE T N calm n (relS scope sc) elt with
                | none => simp only [qc, q2] at h; cases h
                | some ce =>
                  cases q3 : cIt (cE T N calm n sc) sc iter with
                  | none => simp only [qc, q2, q3, Option.map] at h; cases h
                  | some it =>
                    simp only [qc, q2, q3, Option.map] at h
                    have hel := fun s H C cl fp => (inner q2 s H C cl fp).e
                    have hcX := F.hc hcalm
                    have lc : ∀ {c wi}, PEx X G W (.ListComp elt [⟨.Name v tp, iter, ifs, 0⟩] scope p) c → PI X (.Name v tp) iter wi → (∀ x, foldedSetIterable iter X.env x = pure x) → (∀ σ H Q, tE G W c σ H Q → tLc wi (gName i) (tCc G W0 (condF co)) (tE G W0 ce) [i] σ H Q) → Snd X G W (.ListComp elt [⟨.Name v tp, iter, ifs, 0⟩] scope p) c := fun {c wi} h hpi hfs imp =>
                      ⟨h, fun _ => snd_tv F.c h (plain_true (by simp) (by simp) (by simp) (by simp)), fun j y py spos hj hx hf => by
                        have hsw : ∃ b, swapsWith (.ListComp elt [⟨.Name v tp, iter, ifs, 0⟩] scope p) (some (.Name y py)) spos.line X.env = pure b ∧ (b = true → X.env.scope.names.lookup y = some .local) := ⟨_, rfl, fun hb => by
                          simp only [Bool.and_eq_true] at hb
                          have h2 := hb.1.1.2
                          have h3 : X.env.kindOf y = some .local := by simpa using h2
                          exact h3⟩
                        obtain ⟨b, hb, hbl⟩ := hsw
                        cases b with
                        | false => exact ps_set F.c.nd hj hx h hb hf
                        | true =>
                          have := ps_setLc (own := [(v, i)]) hcX F.c.nd hj (hbl rfl) hb hpi ok hg ht hel hfs
                          exact ⟨fun pins s σ H D I q => this.run pins s σ H D I (imp _ _ _ q)⟩⟩
                    have seq : ∀ {ci}, isSet iter = false → cE T N calm n sc iter = some ci → Snd X G W (.ListComp elt [⟨.Name v tp, iter, ifs, 0⟩] scope p) (.lc ce i ci co) := fun {ci} hns q =>
                      (have hfs : ∀ x, foldedSetIterable iter X.env x = pure x := fun x => by cases iter <;> first | rfl | cases hns
                       lc (snd_lc F.c hcX (ih _ _ q).e ok hg ht hel hfs) (pi_seq (ih _ _ q).e) hfs (fun _ _ _ h => lc_imp F.c h))
                    unfold cIt at q3
                    split at q3
                    · rename_i r px hi' pr
                      split at q3
                      · rename_i hr
                        obtain ⟨rfl, hgr⟩ := hr
                        split at q3
                        · cases q3
                        · rename_i hst
                          have hst : isSt hi' = false := by simpa using hst
                          cases q4 : cE T N calm n sc hi' with
                          | none => rw [q4] at q3; cases q3
                          | some ch =>
                            rw [q4] at q3
                            cases q3
                            cases h
                            exact lc (snd_lcr1 F.c hcX (gl hgr) (F.blt _ (.inr (.inr (.inr (.inl rfl))))) (ih _ _ q4).e (by rw [star_cons hst]; rfl) ok hg ht hel)
                              (pi_range1 (gl hgr) (F.blt _ (.inr (.inr (.inr (.inl rfl))))) (pa_cons (ih _ _ q4).e pa_nil (star_cons hst)) (by rw [star_cons hst]; rfl)) (fun _ => rfl) (fun _ _ _ h => lcr1_imp h)
                      · cases q4 : cE T N calm n sc (.Call (.Name r px) [hi'] [] pr) with
                        | none => rw [q4] at q3; cases q3
                        | some ci => rw [q4] at q3; cases q3; cases h; exact seq rfl q4
                    · rename_i r px lo' hi' pr
                      split at q3
                      · rename_i hr
                        obtain ⟨rfl, hgr⟩ := hr
                        split at q3
                        · cases q3
                        · rename_i hst
                          rw [Bool.or_eq_true, not_or] at hst
                          have hst1 : isSt hi' = false := by simpa using hst.1
                          have hst2 : isSt lo' = false := by simpa using hst.2
                          cases q5 : cE T N calm n sc lo' with
                          | none => simp only [q5, Option.bind] at q3; cases q3
                          | some cl' =>
                            cases q4 : cE T N calm n sc hi' with
                            | none => simp only [q4, q5, Option.bind, Option.map] at q3; cases q3
                            | some ch =>
                              simp only [q4, q5, Option.bind, Option.map] at q3
                              cases q3
                              cases h
                              exact lc (snd_lcr2 F.c hcX (gl hgr) (F.blt _ (.inr (.inr (.inr (.inl rfl))))) (ih _ _ q5).e (ih _ _ q4).e (by rw [star_cons hst2, star_cons hst1]; rfl) (by rw [star_cons hst1]; rfl) ok hg ht hel)
                                (pi_range2 (gl hgr) (F.blt _ (.inr (.inr (.inr (.inl rfl))))) (pa_cons (ih _ _ q5).e (pa_cons (ih _ _ q4).e pa_nil (star_cons hst1)) (star_cons hst2)) (by rw [star_cons hst2, star_cons hst1]; rfl) (by rw [star_cons hst1]; rfl)) (fun _ => rfl) (fun _ _ _ h => lcr2_imp h)
                      · cases q4 : cE T N calm n sc (.Call (.Name r px) [lo', hi'] [] pr) with
                        | none => rw [q4] at q3; cases q3
                        | some ci => rw [q4] at q3; cases q3; cases h; exact seq rfl q4
                    · split at q3
                      · cases q3
                      · rename_i hns
                        cases q4 : cE T N calm n sc iter with
                        | none => rw [q4] at q3; cases q3
                        | some ci => rw [q4] at q3; cases q3; cases h; exact seq (by simpa using hns) q4
            · cases h
    | _ => simp only [cEs] at h; cases h
end
end DL
set_option Elab.async false
set_option linter.all false
set_option autoImplicit false
set_option maxRecDepth 100000
set_option maxHeartbeats 2000000
namespace DL
open PySem PySem.Spec PyProof.Rows L2
/-- a body's entry: the lent boxes, their slots, what was frozen, the heap, the slots; what is frozen for good -/
structure Pm where
  G : Gc
  S : List Addr
  io : List Nat
  Z0 : Hp
  H0 : Hp
  σ0 : L2.St
  Zb : Hp
structure SRel (p : Pm) (Z : Hp) (env : DL.Env) (σ : L2.St) (H : Hp) : Prop where
  le : Same Z H
  len : env.length = σ.length
  slot : ∀ i s, env[i]? = some s → SlotOk p.G Z H (σ.getD i none) s
  inj : ∀ i j a, IsOB env[i]? → IsOB env[j]? → σ.getD i none = some (.ref a) → σ.getD j none = some (.ref a) → i = j
  ext : Ext (bxOf p.S) p.Z0 p.H0 Z H
  sb : ∀ i d a, env[i]? = some (.box d) → σ.getD i none = some (.ref a) → a ∈ p.S ∨ p.H0 a = none
  so : ∀ i d a, env[i]? = some (.own d) → σ.getD i none = some (.ref a) → p.H0 a = none
  io : ∀ i ∈ p.io, σ.getD i none = p.σ0.getD i none
  zb : Same p.Zb Z
  ln : σ.length = p.σ0.length
def canon (env : DL.Env) (σ : L2.St) : Bd :=
  ⟨fun a => ∃ i d, env[i]? = some (.box d) ∧ σ.getD i none = some (.ref a), fun a => ∃ i d, env[i]? = some (.own d) ∧ σ.getD i none = some (.ref a)⟩
section
variable {p : Pm} {Z H Z' H' : Hp} {env env' : DL.Env} {σ : L2.St}
theorem SRel.rel (R : SRel p Z env σ H) : Rel p.G (canon env σ) Z env σ H := by
  refine ⟨R.le, R.len, R.slot, R.inj, fun i d a h e => ⟨i, d, h, e⟩, fun i d a h e => ?_, fun i d a h e => ⟨i, d, h, e⟩, fun a ha => ?_⟩
  · rintro ⟨j, d', h', e'⟩
    have := R.inj i j a (by rw [h]; trivial) (by rw [h']; trivial) e e'
    subst this
    rw [h] at h'; cases h'
  · rcases ha with ⟨i, d, h, e⟩ | ⟨i, d, h, e⟩
    · obtain ⟨b, e1, _, o⟩ := R.slot i _ h
      rw [e] at e1; cases e1
      exact o.there
    · obtain ⟨b, e1, _, o⟩ := R.slot i _ h
      rw [e] at e1; cases e1
      exact o.there
theorem SRel.after (R : SRel p Z env σ H) (e : Ext (canon env σ) Z H Z' H') (R' : Rel p.G (canon env σ) Z' env' σ H') : SRel p Z' env' σ H' := by
  have hb : ∀ a, (canon env σ).bx a → a ∈ p.S ∨ p.H0 a = none := fun a ⟨i, d, h, e⟩ => R.sb i d a h e
  refine ⟨R'.le, R'.len, R'.slot, R'.inj, ⟨R.ext.z.trans e.z, fun a o q nb => ?_, fun a o q => ?_, fun a o q => ?_⟩, fun i d a h q => hb a (R'.bin i d a h q), fun i d a h q => ?_, R.io, R.zb.trans e.z, R.ln⟩
  · refine e.h a o (R.ext.h a o q nb) fun z => ?_
    rcases hb a z with z | z
    · exact nb z
    · rw [q] at z; cases z
  · obtain ⟨o', q'⟩ := R.ext.d a o q
    exact e.d a o' q'
  · rcases e.n a o q with q | q
    · exact R.ext.n a o q
    · exact .inr (R.ext.gone q)
  · obtain ⟨j, d', h', e'⟩ := R'.owi i d a h q
    exact R.so j d' a h' e'
theorem SRel.un (R : SRel p Z env σ H) (i : Nat) : SRel p Z (env.set i .un) σ H := by
  have nob : ¬ IsOB (some .un) := fun z => z
  refine ⟨R.le, by rw [List.length_set]; exact R.len, fun j s h => ?_, fun j k a hj hk => R.inj j k a (isOB_set nob hj).1 (isOB_set nob hk).1, R.ext, fun j d a h => ?_, fun j d a h => ?_, R.io, R.zb, R.ln⟩
  · rcases set_get h with ⟨_, rfl⟩ | ⟨_, h⟩
    · trivial
    · exact R.slot j s h
  · rcases set_get h with ⟨_, z⟩ | ⟨_, h⟩
    · cases z
    · exact R.sb j d a h
  · rcases set_get h with ⟨_, z⟩ | ⟨_, h⟩
    · cases z
    · exact R.so j d a h
theorem SRel.fgt : ∀ (is : List Nat) {env : DL.Env}, SRel p Z env σ H → SRel p Z (DL.fgt is env) σ H
  | [], _, R => R
  | i :: is, _, R => SRel.fgt is (R.un i)
/-- a held list is frozen -/
theorem SRel.frz1 (R : SRel p Z env σ H) (i : Nat) : ∃ Z', SRel p Z' (DL.frz1 i env) σ H := by
  unfold DL.frz1
  split
  · rename_i d h
    obtain ⟨a, e, zn, o⟩ := R.slot i _ h
    obtain ⟨u, hu⟩ := o.there
    have hs : Same Z (upd Z a u) := fun b w q => by rw [upd_ne (ne_of_none q zn)]; exact q
    have nob : ¬ IsOB (some (.val d)) := fun z => z
    have alone : ∀ j b, IsOB env[j]? → j ≠ i → σ.getD j none = some (.ref b) → b ≠ a := fun j b hj hne ej z => by
      subst z
      exact hne (R.inj j i b hj (by rw [h]; trivial) ej e)
    refine ⟨upd Z a u, fun b w q => ?_, by rw [List.length_set]; exact R.len, fun j s hj => ?_, fun j k b hj hk => R.inj j k b (isOB_set nob hj).1 (isOB_set nob hk).1, ⟨R.ext.z.trans hs, R.ext.h, R.ext.d, fun b w q => ?_⟩, fun j d' b hj => ?_, fun j d' b hj => ?_, R.io, R.zb.trans hs, R.ln⟩
    · by_cases hb : b = a
      · subst hb; rw [upd_same] at q; cases q; exact hu
      · rw [upd_ne hb] at q; exact R.le b w q
    · rcases set_get hj with ⟨rfl, rfl⟩ | ⟨hne, hj⟩
      · exact ⟨_, e, o.freeze hu zn⟩
      · have q := R.slot j s hj
        cases s with
        | un => trivial
        | exc _ _ => trivial
        | val d' => obtain ⟨v, e1, r⟩ := q; exact ⟨v, e1, r.mono hs⟩
        | own d' =>
          obtain ⟨b, e1, zb, o'⟩ := q
          exact ⟨b, e1, by rw [upd_ne (alone j b (by rw [hj]; trivial) hne e1)]; exact zb, o'.move hs fun _ q => q⟩
        | box d' =>
          obtain ⟨b, e1, zb, o'⟩ := q
          exact ⟨b, e1, by rw [upd_ne (alone j b (by rw [hj]; trivial) hne e1)]; exact zb, o'.move hs fun _ q => q⟩
    · by_cases hb : b = a
      · subst hb; exact .inr (R.so i d b h e)
      · rw [upd_ne hb] at q; exact R.ext.n b w q
    · rcases set_get hj with ⟨_, z⟩ | ⟨_, hj⟩
      · cases z
      · exact R.sb j d' b hj
    · rcases set_get hj with ⟨_, z⟩ | ⟨_, hj⟩
      · cases z
      · exact R.so j d' b hj
  · exact ⟨Z, R⟩
theorem SRel.frz : ∀ (is : List Nat) {Z : Hp} {env : DL.Env}, SRel p Z env σ H → ∃ Z', SRel p Z' (DL.frz is env) σ H
  | [], Z, _, R => ⟨Z, R⟩
  | i :: is, _, _, R => let ⟨_, R1⟩ := R.frz1 i; SRel.frz is R1
theorem io_set {i : Nat} {v : V} (hi : i ∉ p.io) (R : SRel p Z env σ H) : ∀ j ∈ p.io, (σ.set i (some v)).getD j none = p.σ0.getD j none := fun j hj => by
  rw [set_getD, if_neg (fun (z : j = i ∧ i < σ.length) => hi (z.1 ▸ hj))]
  exact R.io j hj
theorem SRel.setVal (R : SRel p Z env σ H) {i : Nat} {v : V} {d : D} (hi : i ∉ p.io) (r : Rep p.G Z v d) : SRel p Z (env.set i (.val d)) (σ.set i (some v)) H := by
  have q := R.rel.setVal (i := i) r
  have nob : ¬ IsOB (some (.val d)) := fun z => z
  refine ⟨R.le, q.len, q.slot, q.inj, R.ext, fun j d' b hj e => ?_, fun j d' b hj e => ?_, io_set hi R, R.zb, by rw [List.length_set]; exact R.ln⟩
  · rcases set_get hj with ⟨_, z⟩ | ⟨hne, hj⟩
    · cases z
    · rw [set_getD, if_neg (fun z => hne z.1)] at e
      exact R.sb j d' b hj e
  · rcases set_get hj with ⟨_, z⟩ | ⟨hne, hj⟩
    · cases z
    · rw [set_getD, if_neg (fun z => hne z.1)] at e
      exact R.so j d' b hj e
/-- a new thing under a name -/
theorem SRel.setObj (R : SRel p Z env σ H) {i : Nat} {a : Addr} {d : D} {s : Slot} (hs : s = .own d ∨ s = .box d) (hi : i ∉ p.io) (zn : Z a = none) (o : ObjAt p.G Z H a d) (h0 : p.H0 a = none) (alone : ∀ j, IsOB env[j]? → σ.getD j none ≠ some (.ref a)) : SRel p Z (env.set i s) (σ.set i (some (.ref a))) H := by
  have hg : ∀ {j : Nat}, j = i → i < σ.length → (σ.set i (some (.ref a))).getD j none = some (.ref a) := fun e hi => by rw [set_getD, if_pos ⟨e, hi⟩]
  have hlt : ∀ {j : Nat} {t : Slot}, (env.set i s)[j]? = some t → j = i → i < σ.length := fun {j t} h e => by
    rw [← R.len]
    have := (List.getElem?_eq_some_iff.mp h).1
    rw [List.length_set] at this
    omega
  refine ⟨R.le, by rw [List.length_set, List.length_set]; exact R.len, fun j t h => ?_, fun j k b hj hk ej ek => ?_, R.ext, fun j d' b hj e => ?_, fun j d' b hj e => ?_, io_set hi R, R.zb, by rw [List.length_set]; exact R.ln⟩
  · rcases set_get h with ⟨rfl, rfl⟩ | ⟨hne, h'⟩
    · have := hg (j := j) rfl (hlt h rfl)
      rcases hs with rfl | rfl
      · exact ⟨a, this, zn, o⟩
      · exact ⟨a, this, zn, o⟩
    · have := R.slot j t h'
      rwa [set_getD, if_neg (fun z => hne z.1)]
  · have key : ∀ j, IsOB (env.set i s)[j]? → (σ.set i (some (.ref a))).getD j none = some (.ref b) → (j = i ∧ b = a) ∨ (j ≠ i ∧ IsOB env[j]? ∧ σ.getD j none = some (.ref b) ∧ b ≠ a) := fun j hj ej => by
      by_cases e : j = i
      · subst e
        left
        refine ⟨rfl, ?_⟩
        by_cases hl : j < σ.length
        · rw [hg rfl hl] at ej; cases ej; rfl
        · rw [List.getElem?_eq_none (by rw [List.length_set, R.len]; omega)] at hj; exact hj.elim
      · right
        rw [List.getElem?_set_ne (fun z => e z.symm)] at hj
        rw [set_getD, if_neg (fun z => e z.1)] at ej
        exact ⟨e, hj, ej, fun z => alone j hj (by rw [ej, z])⟩
    rcases key j hj ej with ⟨rfl, e1⟩ | ⟨n1, j1, e1, b1⟩
    · rcases key k hk ek with ⟨rfl, e2⟩ | ⟨n2, j2, e2, b2⟩
      · rfl
      · exact absurd e1 b2
    · rcases key k hk ek with ⟨rfl, e2⟩ | ⟨n2, j2, e2, b2⟩
      · exact absurd e2 b1
      · exact R.inj j k b j1 j2 e1 e2
  · rcases set_get hj with ⟨rfl, z⟩ | ⟨hne, hj'⟩
    · have := hg (j := j) rfl (hlt hj rfl)
      rw [this] at e; cases e
      exact .inr h0
    · rw [set_getD, if_neg (fun z => hne z.1)] at e
      exact R.sb j d' b hj' e
  · rcases set_get hj with ⟨rfl, z⟩ | ⟨hne, hj'⟩
    · have := hg (j := j) rfl (hlt hj rfl)
      rw [this] at e; cases e
      exact h0
    · rw [set_getD, if_neg (fun z => hne z.1)] at e
      exact R.so j d' b hj' e
/-- what a slot holds is changed in place -/
theorem SRel.change (R : SRel p Z env σ H) {i : Nat} {a : Addr} {d d' : D} {s s' : Slot} {o' : HO} (hs : (s = .own d ∧ s' = .own d') ∨ (s = .box d ∧ s' = .box d')) (h : env[i]? = some s) (e : σ.getD i none = some (.ref a)) (o : ObjAt p.G Z (upd H a o') a d') : SRel p Z (env.set i s') σ (upd H a o') := by
  have hob : IsOB env[i]? := by rw [h]; rcases hs with ⟨rfl, _⟩ | ⟨rfl, _⟩ <;> trivial
  have sl : ∃ b, σ.getD i none = some (.ref b) ∧ Z b = none ∧ ObjAt p.G Z H b d := by
    have := R.slot i s h
    rcases hs with ⟨rfl, _⟩ | ⟨rfl, _⟩ <;> exact this
  obtain ⟨b, eb, zn, ob⟩ := sl
  rw [e] at eb; cases eb
  obtain ⟨u, hu⟩ := ob.there
  have hi : i < env.length := (List.getElem?_eq_some_iff.mp h).1
  have alone : ∀ j b, IsOB env[j]? → j ≠ i → σ.getD j none = some (.ref b) → b ≠ a := fun j b hj hne ej z => by
    subst z
    exact hne (R.inj j i b hj hob ej e)
  have obs : ∀ j, IsOB (env.set i s')[j]? → IsOB env[j]? := fun j hj => by
    by_cases ej : i = j
    · subst ej; exact hob
    · rw [List.getElem?_set_ne ej] at hj; exact hj
  refine ⟨fun b w q => by rw [upd_ne (ne_of_none q zn)]; exact R.le b w q, by rw [List.length_set]; exact R.len, fun j t hj => ?_, fun j k b hj hk => R.inj j k b (obs j hj) (obs k hk), ⟨R.ext.z, fun b w q nb => ?_, fun b w q => ?_, R.ext.n⟩, fun j d'' b hj ej => ?_, fun j d'' b hj ej => ?_, R.io, R.zb, R.ln⟩
  · rcases set_get hj with ⟨rfl, rfl⟩ | ⟨hne, hj⟩
    · rcases hs with ⟨_, rfl⟩ | ⟨_, rfl⟩
      · exact ⟨a, e, zn, o⟩
      · exact ⟨a, e, zn, o⟩
    · have q := R.slot j t hj
      cases t with
      | un => trivial
      | exc _ _ => trivial
      | val d' => exact q
      | own d' =>
        obtain ⟨b, e1, zb, o1⟩ := q
        exact ⟨b, e1, zb, o1.move (fun _ _ z => z) fun w hw => by rw [upd_ne (alone j b (by rw [hj]; trivial) hne e1)]; exact hw⟩
      | box d' =>
        obtain ⟨b, e1, zb, o1⟩ := q
        exact ⟨b, e1, zb, o1.move (fun _ _ z => z) fun w hw => by rw [upd_ne (alone j b (by rw [hj]; trivial) hne e1)]; exact hw⟩
  · have : b ≠ a := fun z => by
      subst z
      rcases hs with ⟨rfl, _⟩ | ⟨rfl, _⟩
      · have := R.so i d b h e; rw [q] at this; cases this
      · rcases R.sb i d b h e with z | z
        · exact nb z
        · rw [q] at z; cases z
    rw [upd_ne this]
    exact R.ext.h b w q nb
  · obtain ⟨w', q'⟩ := R.ext.d b w q
    by_cases hb : b = a
    · subst hb; exact ⟨o', upd_same⟩
    · exact ⟨w', by rw [upd_ne hb]; exact q'⟩
  · rcases set_get hj with ⟨rfl, z⟩ | ⟨hne, hj⟩
    · rcases hs with ⟨rfl, rfl⟩ | ⟨rfl, rfl⟩
      · cases z
      · rw [e] at ej; cases ej; exact R.sb j d a h e
    · exact R.sb j d'' b hj ej
  · rcases set_get hj with ⟨rfl, z⟩ | ⟨hne, hj⟩
    · rcases hs with ⟨rfl, rfl⟩ | ⟨rfl, rfl⟩
      · rw [e] at ej; cases ej; exact R.so j d a h e
      · cases z
    · exact R.so j d'' b hj ej
theorem SRel.base (R : SRel p Z env σ H) {Zb : Hp} (h : Same Zb Z) : SRel { p with Zb := Zb } Z env σ H := ⟨R.le, R.len, R.slot, R.inj, R.ext, R.sb, R.so, R.io, h, R.ln⟩
theorem SRel.unbase {Zb : Hp} (R : SRel { p with Zb := Zb } Z env σ H) (h : Same p.Zb Zb) : SRel p Z env σ H := ⟨R.le, R.len, R.slot, R.inj, R.ext, R.sb, R.so, R.io, h.trans R.zb, R.ln⟩
end
/-- what is wanted of a statement's end -/
def Po (p : Pm) (W : WX) (D : Ends) : SR → Prop
  | .next env => ∀ Z σ H, SRel p Z env σ H → D.nx σ H
  | .brk env => ∀ Z σ H, SRel p Z env σ H → D.bk σ H
  | .cnt env => ∀ Z σ H, SRel p Z env σ H → D.ct σ H
  | .ret x env => ∀ v Z σ H, SRel p Z env σ H → x.k ≠ .ln → VOk p.G (bxOf p.S) p.H0 Z H x v → D.rt v H
  | .exn c d env => ∀ (dd : Addr) (v : V) Z σ H, SRel p Z env σ H → H dd = some (.xd [(p.G.cF c, v)]) → Rep p.G Z v d → W (.ref (p.G.cA c)) (some dd) σ H
  | .bad => False
def tS (p : Pm) (W : WX) (c : S) : TS := fun D σ H => ∃ Z env, SRel p Z env σ H ∧ Po p W D (exec c env)
def tSs (p : Pm) (W : WX) (cs : List S) : TS := fun D σ H => ∃ Z env, SRel p Z env σ H ∧ Po p W D (execs cs env)
theorem Po.base {p : Pm} {W : WX} {D : Ends} {r : SR} {Zb : Hp} (h : Po p W D r) (z : Same p.Zb Zb) : Po { p with Zb := Zb } W D r := by
  cases r with
  | next env => exact fun Z σ H R => h Z σ H (R.unbase z)
  | brk env => exact fun Z σ H R => h Z σ H (R.unbase z)
  | cnt env => exact fun Z σ H R => h Z σ H (R.unbase z)
  | ret x env => exact fun v Z σ H R => h v Z σ H (R.unbase z)
  | exn c d env => exact fun dd v Z σ H R => h dd v Z σ H (R.unbase z)
  | bad => exact h
end DL
set_option Elab.async false
set_option linter.all false
set_option autoImplicit false
set_option maxRecDepth 100000
set_option maxHeartbeats 2000000
namespace DL
open PySem PySem.Spec PyProof.Rows L2
section
variable {X : Cx} {p : Pm} {W : WX} {pos : Pos}
theorem PS.imp {st : Stmt} {t t' : TS} (h : PS X st t) (i : ∀ D σ H, t' D σ H → t D σ H) : PS X st t' := ⟨fun pins s σ H D I q => h.run pins s σ H D I (i _ _ _ q)⟩
theorem PSs.imp {st : List Stmt} {t t' : TS} (h : PSs X st t) (i : ∀ D σ H, t' D σ H → t D σ H) : PSs X st t' := ⟨fun pins s σ H D I q => h.run pins s σ H D I (i _ _ _ q)⟩
/-- behind an expression of a statement -/
structure Aft (p : Pm) (env1 : DL.Env) (σ : L2.St) (Z1 H : Hp) (x : Vl) (v : V) (Z' : Hp) (env2 : DL.Env) (H' : Hp) : Prop where
  R : SRel p Z' env2 σ H'
  Rc : Rel p.G (canon env1 σ) Z' env2 σ H'
  bd : ∀ a, (canon env1 σ).bx a ∨ (canon env1 σ).ow a → ∃ o, H a = some o
  old : ∀ a, H a = none → p.H0 a = none
  e : Ext (canon env1 σ) Z1 H Z' H'
  v : VOk p.G (canon env1 σ) H Z' H' x v
/-- an expression in a statement -/
theorem st_e {Z H : Hp} {env : DL.Env} {σ : L2.St} {c : E} {f : Vl → DL.Env → SR} {D : Ends} (R : SRel p Z env σ H) (h : Po p W D (SR.of (ev c env) f)) :
    tE p.G W c σ H (fun v H' => ∃ Z' env2 x, Aft p env σ Z H x v Z' env2 H' ∧ Po p W D (f x env2)) := by
  refine ⟨canon env σ, Z, env, R.rel, ?_⟩
  cases q : ev c env with
  | ok x env2 =>
    rw [q] at h
    intro v Z' H' e R' pv
    exact ⟨Z', env2, x, ⟨R.after e R', R', R.rel.bd, fun a z => R.ext.gone z, e, pv⟩, h⟩
  | exn c d env2 =>
    rw [q] at h
    intro dd v Z' H' e R' hx r
    exact h dd v Z' σ H' (R.after e R') hx r
  | bad => rw [q] at h; exact h
/-- .. a test -/
theorem st_t {Z H : Hp} {env : DL.Env} {σ : L2.St} {c : E} {f : Bool → DL.Env → SR} {D : Ends} (R : SRel p Z env σ H) (h : Po p W D (SR.of ((ev c env).bind fun x env => match truD x.d with
    | some b => .ok b env
    | none => .bad) f)) :
    tTr p.G W c σ H (fun b H' => ∃ Z' env2, SRel p Z' env2 σ H' ∧ Po p W D (f b env2)) := by
  refine ⟨canon env σ, Z, env, R.rel, ?_⟩
  cases q : ev c env with
  | ok x env2 =>
    rw [q] at h
    simp only [DL.R.bind] at h ⊢
    cases q2 : truD x.d with
    | none => rw [q2] at h; exact h
    | some b =>
      rw [q2] at h
      intro v Z' H' e R' pv
      cases pv
      exact ⟨Z', env2, R.after e R', h⟩
  | exn c d env2 =>
    rw [q] at h
    intro dd v Z' H' e R' hx r
    exact h dd v Z' σ H' (R.after e R') hx r
  | bad => rw [q] at h; exact h
theorem Aft.slots {env1 env2 : DL.Env} {σ : L2.St} {Z1 H Z' H' : Hp} {x : Vl} {v : V} (A : Aft p env1 σ Z1 H x v Z' env2 H') {a : Addr} (ha : H a = none) : ∀ j, IsOB env2[j]? → σ.getD j none ≠ some (.ref a) := fun j hj e => by
  have : (canon env1 σ).bx a ∨ (canon env1 σ).ow a := by
    cases q : env2[j]? with
    | none => rw [q] at hj; exact hj.elim
    | some s =>
      rw [q] at hj
      cases s with
      | own d => exact .inr (A.Rc.owi j d a q e)
      | box d => exact .inl (A.Rc.bin j d a q e)
      | un => exact hj.elim
      | val d => exact hj.elim
      | exc c d => exact hj.elim
  obtain ⟨o, ho⟩ := A.bd a this
  rw [ha] at ho; cases ho
/-- frozen -/
theorem Aft.freeze {env1 env2 : DL.Env} {σ : L2.St} {Z1 H Z' H' : Hp} {x : Vl} {v : V} (R1 : SRel p Z1 env1 σ H) (A : Aft p env1 σ Z1 H x v Z' env2 H') (hk : x.k ≠ .ln) : ∃ Z2, SRel p Z2 env2 σ H' ∧ Rep p.G Z2 v x.d ∧ Same Z' Z2 := by
  obtain ⟨Z2, e2, R2, s2, r2⟩ := A.v.freeze A.bd A.e A.Rc hk
  exact ⟨Z2, R1.after e2 R2, r2, s2⟩
/-! names -/
theorem sndS_asg {i : Nat} {st : Stmt} {c : E} (hi : i ∉ p.io) (h : PS X st (tAsg (tE p.G W c) (gName i))) : PS X st (tS p W (.asg i c)) := by
  refine PS.imp h fun D σ H ⟨Z, env, R, h⟩ => ?_
  simp only [exec] at h
  obtain ⟨Z1, R1⟩ := R.frz (escd c)
  obtain ⟨b', Z', e', R', q⟩ := st_e R1 h
  refine ⟨b', Z', e', R', q.imp (fun _ _ _ _ _ p => p) fun v H' ⟨Z2, env2, x, A, h2⟩ => ?_⟩
  unfold hold at h2
  obtain ⟨d, k⟩ := x
  cases k with
  | fz => exact h2 Z2 _ H' (A.R.setVal hi A.v)
  | tmp =>
    obtain ⟨a, rfl, zn, hn, nb, o⟩ := A.v
    exact h2 Z2 _ H' (A.R.setObj (.inl rfl) hi zn o (A.old a hn) (A.slots hn))
  | ln => exact False.elim h2
theorem sndS_asgb {i : Nat} {st : Stmt} {c : E} (hi : i ∉ p.io) (h : PS X st (tAsg (tE p.G W c) (gName i))) : PS X st (tS p W (.asgb i c)) := by
  refine PS.imp h fun D σ H ⟨Z, env, R, h⟩ => ?_
  simp only [exec] at h
  obtain ⟨Z1, R1⟩ := R.frz (escd c)
  obtain ⟨b', Z', e', R', q⟩ := st_e R1 h
  refine ⟨b', Z', e', R', q.imp (fun _ _ _ _ _ p => p) fun v H' ⟨Z2, env2, x, A, h2⟩ => ?_⟩
  obtain ⟨d, k⟩ := x
  cases k with
  | fz => exact False.elim h2
  | tmp =>
    obtain ⟨a, rfl, zn, hn, nb, o⟩ := A.v
    exact h2 Z2 _ H' (A.R.setObj (.inr rfl) hi zn o (A.old a hn) (A.slots hn))
  | ln => exact False.elim h2
def gNames : List Nat → TGs
  | [] => gNil
  | i :: is => gCons (gName i) (gNames is)
theorem names_set : ∀ {is : List Nat} {vs : List V} {ds : List D} {Z H : Hp} {env env' : DL.Env} {σ : L2.St} {Q : L2.St → Hp → Prop}, (∀ i ∈ is, i ∉ p.io) → SRel p Z env σ H → RepL p.G Z vs ds → setMany is ds env = some env' → (∀ σ', SRel p Z env' σ' H → Q σ' H) → gNames is vs σ H Q
  | [], [], [], _, _, _, _, _, _, _, R, _, h, q => by
    simp only [setMany] at h
    cases h
    exact ⟨rfl, q _ R⟩
  | i :: is, v :: vs, d :: ds, _, _, _, _, _, _, hi, R, .cons r rs, h, q => by
    simp only [setMany] at h
    exact ⟨v, vs, rfl, names_set (fun j hj => hi j (by simp [hj])) (R.setVal (hi i (by simp)) r) rs h q⟩
  | [], _ :: _, _ :: _, _, _, _, _, _, _, _, _, _, h, _ => by simp only [setMany] at h; cases h
  | _ :: _, [], [], _, _, _, _, _, _, _, _, _, h, _ => by simp only [setMany] at h; cases h
theorem setMany_len : ∀ {is : List Nat} {ds : List D} {env env' : DL.Env}, setMany is ds env = some env' → ds.length = is.length
  | [], [], _, _, _ => rfl
  | i :: is, d :: ds, _, _, h => by simp only [setMany] at h; simp [setMany_len h]
  | [], _ :: _, _, _, h => by simp only [setMany] at h; cases h
  | _ :: _, [], _, _, h => by simp only [setMany] at h; cases h
theorem sndS_unp {is : List Nat} {tg e : Expr} {c : E} (hK : p.G.K = X.K) (hi : ∀ i ∈ is, i ∉ p.io) (he : PEx X p.G W e c) (hg : PG X tg (gTup X.K is.length (gNames is))) (hs : swapsWithSole [tg] e pos.line X.env = pure false) (hw : swappedStores [tg] e X.env = pure none)
    (h1 : (assignEach [tg] X.env).map (·.2) = [assign tg X.env]) : PS X (.Assign [tg] e pos) (tS p W (.unp is c)) := by
  refine PS.imp (ps_asg he hg hs hw h1) fun D σ H ⟨Z, env, R, h⟩ => ?_
  simp only [exec] at h
  obtain ⟨Z1, R1⟩ := R.frz (escd c)
  obtain ⟨b', Z', e', R', q⟩ := st_e R1 h
  refine ⟨b', Z', e', R', q.imp (fun _ _ _ _ _ p => p) fun v H' ⟨Z2, env2, x, A, h2⟩ => ?_⟩
  split at h2
  · rename_i ds hx
    obtain ⟨a, vs, rfl, ha, haZ, r⟩ := A.v.tup hx A.R.le
    rw [hK] at ha
    split at h2
    · rename_i env3 h3
      exact ⟨a, vs, rfl, ha, by rw [r.length]; exact setMany_len h3, names_set hi A.R r h3 fun σ' R' => h2 Z2 σ' H' R'⟩
    · exact False.elim h2
  · exact False.elim h2
/-! an expression alone, return -/
theorem sndS_ex {e : Expr} {c : E} (he : PEx X p.G W e c) (hs : swapsWith e none pos.line X.env = pure false) : PS X (.Expr e pos) (tS p W (.ex c)) := by
  refine PS.imp (ps_expr he hs) fun D σ H ⟨Z, env, R, h⟩ => ?_
  simp only [exec] at h
  obtain ⟨Z1, R1⟩ := R.frz (esc c)
  obtain ⟨b', Z', e', R', q⟩ := st_e R1 h
  refine ⟨b', Z', e', R', q.imp (fun _ _ _ _ _ p => p) fun v H' ⟨Z2, env2, x, A, h2⟩ => ?_⟩
  exact h2 Z2 σ H' A.R
theorem sndS_ret {e : Expr} {c : E} (hS : ∀ a ∈ p.S, ∃ o, p.H0 a = some o) (he : PEx X p.G W e c) : PS X (.Return (some e) pos) (tS p W (.ret c)) := by
  refine PS.imp (ps_ret he) fun D σ H ⟨Z, env, R, h⟩ => ?_
  simp only [exec] at h
  obtain ⟨Z1, R1⟩ := R.frz (esc c)
  obtain ⟨b', Z', e', R', q⟩ := st_e R1 h
  refine ⟨b', Z', e', R', q.imp (fun _ _ _ _ _ p => p) fun v H' ⟨Z2, env2, x, A, h2⟩ => ?_⟩
  have nS : ∀ a, p.H0 a = none → ¬ (bxOf p.S).bx a := fun a ha z => by
    obtain ⟨o, ho⟩ := hS a z
    rw [ha] at ho; cases ho
  obtain ⟨d, k⟩ := x
  cases k with
  | fz => exact h2 v Z2 σ H' A.R (by simp) A.v
  | tmp =>
    obtain ⟨a, rfl, zn, hn, nb, o⟩ := A.v
    exact h2 _ Z2 σ H' A.R (by simp) ⟨a, rfl, zn, A.old a hn, nS a (A.old a hn), o⟩
  | ln => exact False.elim h2
theorem sndS_retv {i : Nat} {x : Str} {pos2 : Pos} (hS : ∀ a ∈ p.S, ∃ o, p.H0 a = some o) (hN : X.N[i]? = some x) (hv : Vis X.env.scope x) (hd : (x == ("__debug__" : Str)) = false) (hcd : (x == ("__classdict__" : Str)) = false) : PS X (.Return (some (.Name x pos2)) pos) (tS p W (.retv i)) := by
  refine PS.imp (ps_ret (pe_var hN hv hd hcd)) fun D σ H ⟨Z, env, R, h⟩ => ?_
  simp only [exec] at h
  have nS : ∀ a, p.H0 a = none → ¬ (bxOf p.S).bx a := fun a ha z => by
    obtain ⟨o, ho⟩ := hS a z
    rw [ha] at ho; cases ho
  split at h
  · rename_i d q
    obtain ⟨v, e, r⟩ := R.rel.get_val q
    exact ⟨v, e, h v Z σ H R (by simp) r⟩
  · rename_i d q
    obtain ⟨a, e, zn, o⟩ := R.slot i _ q
    exact ⟨.ref a, R.rel.get_ref q e, h _ Z σ H R (by simp) ⟨a, rfl, zn, R.so i d a q e, nS a (R.so i d a q e), o⟩⟩
  · exact False.elim h
theorem sndS_retN : PS X (.Return none pos) (tS p W .retN) := by
  refine PS.imp ps_retN fun D σ H ⟨Z, env, R, h⟩ => ?_
  simp only [exec] at h
  exact h .non Z σ H R (by simp) Rep.non
theorem sndS_pass : PS X (.Pass pos) (tS p W .pass) := by
  refine PS.imp ps_pass fun D σ H ⟨Z, env, R, h⟩ => ?_
  simp only [exec] at h
  exact h Z σ H R
theorem sndS_brk : PS X (.Break pos) (tS p W .brk) := by
  refine PS.imp ps_break fun D σ H ⟨Z, env, R, h⟩ => ?_
  simp only [exec] at h
  exact h Z σ H R
theorem sndS_cnt : PS X (.Continue pos) (tS p W .cnt) := by
  refine PS.imp ps_continue fun D σ H ⟨Z, env, R, h⟩ => ?_
  simp only [exec] at h
  exact h Z σ H R
theorem sndS_if {e : Expr} {c : E} {a b : List Stmt} {ca cb : List S} (he : PTx X p.G W e c) (ha : PSs X a (tSs p W ca)) (hb : PSs X b (tSs p W cb)) : PS X (.If e a b pos) (tS p W (.ifs c ca cb)) := by
  refine PS.imp (ps_if he ha hb) fun D σ H ⟨Z, env, R, h⟩ => ?_
  simp only [exec, tst] at h
  obtain ⟨Z1, R1⟩ := R.frz (esc c)
  obtain ⟨b', Z', e', R', q⟩ := st_t R1 h
  refine ⟨b', Z', e', R', q.imp (fun _ _ _ _ _ p => p) fun k H' ⟨Z2, env2, R2, h2⟩ => ?_⟩
  cases k with
  | true => rw [if_pos rfl]; exact ⟨Z2, env2, R2, h2⟩
  | false => rw [if_neg Bool.false_ne_true]; exact ⟨Z2, env2, R2, h2⟩
theorem sndSs_nil : PSs X [] (tSs p W []) := by
  refine PSs.imp pss_nil fun D σ H ⟨Z, env, R, h⟩ => ?_
  simp only [execs] at h
  exact h Z σ H R
theorem sndSs_cons {st : Stmt} {rest : List Stmt} {c : S} {cs : List S} (h1 : PS X st (tS p W c)) (h2 : PSs X rest (tSs p W cs)) : PSs X (st :: rest) (tSs p W (c :: cs)) := by
  refine PSs.imp (pss_cons h1 h2) fun D σ H ⟨Z, env, R, h⟩ => ?_
  simp only [execs] at h
  refine ⟨Z, env, R, ?_⟩
  cases q : exec c env with
  | next env' => rw [q] at h; exact fun Z' σ' H' R' => ⟨Z', env', R', h⟩
  | ret v env' => rw [q] at h; exact h
  | brk env' => rw [q] at h; exact h
  | cnt env' => rw [q] at h; exact h
  | exn c d env' => rw [q] at h; exact h
  | bad => rw [q] at h; exact h
/-- a docstring -/
theorem sndS_doc {x j pos'} : PS X (.Expr (.Constant (.str x) j pos') pos) (tS p W .pass) := by
  refine PS.imp ps_doc fun D σ H ⟨Z, env, R, h⟩ => ?_
  simp only [exec] at h
  exact h Z σ H R
end
end DL
set_option Elab.async false
set_option linter.all false
set_option autoImplicit false
set_option maxRecDepth 100000
set_option maxHeartbeats 2000000
namespace DL
open PySem PySem.Spec PyProof.Rows L2
section
variable {X : Cx} {p : Pm} {W : WX} {pos : Pos}
theorem sndS_app {i : Nat} {x : Str} {e : Expr} {c : E} {p1 p2 p3 : Pos} (hN : X.N[i]? = some x) (hv : Vis X.env.scope x) (hd : (x == ("__debug__" : Str)) = false) (hcd : (x == ("__classdict__" : Str)) = false) (he : PEx X p.G W e c) (hst : isSt e = false) (hline : (p2.endLine == p3.line) = true) :
    PS X (.Expr (.Call (.Attribute (.Name x p1) "append" p2) [e] [] p3) pos) (tS p W (.app i c)) := by
  refine PS.imp (ps_expr (pe_bm PySem.F.plainAttrs_list PySem.F.slot_list_append PySem.F.type_list_append mt_append (pe_var hN hv hd hcd) (pa_cons he pa_nil (star_cons hst)) rfl (by rw [star_cons hst]; rfl) hline (star_cons hst) rfl) rfl) fun D σ H ⟨Z, env, R, h⟩ => ?_
  simp only [exec] at h
  obtain ⟨Z1, R1⟩ := R.frz (escd c)
  split at h
  · rename_i ds0 q0
    obtain ⟨a, ea, zn, vs0, o0, r0⟩ := R1.slot i _ q0
    refine ⟨.ref a, R1.rel.get_ref q0 ea, .inl ⟨rfl, _, .of o0⟩, ?_⟩
    obtain ⟨b', Z', e', R', q⟩ := st_e R1 h
    refine ⟨b', Z', e', R', q.imp (fun _ _ _ _ _ p => p) fun v H' ⟨Z2, env2, y, A, h2⟩ => ?_⟩
    show rAppend (.ref a) [v] H' (fun _ H1 => D.nx σ H1)
    split at h2
    · exact False.elim h2
    · rename_i hk
      obtain ⟨Z3, R3, r3, s3⟩ := A.freeze R1 hk
      split at h2
      · rename_i ds q2
        obtain ⟨b, eb, zb, vs, o, r⟩ := R3.slot i _ q2
        rw [ea] at eb; cases eb
        split at h2
        · rename_i hl
          exact ⟨a, vs, v, rfl, rfl, o, by rw [r.length, ← LIM_eq]; exact hl, h2 Z3 σ _ (R3.change (.inl ⟨rfl, rfl⟩) q2 ea ⟨_, upd_same, r.append (.cons r3 .nil)⟩)⟩
        · exact False.elim h2
      · exact False.elim h2
  · exact False.elim h
theorem RepL.ins {G : Gc} {Z : Hp} {vs : List V} {ds : List D} {v : V} {d : D} (r : RepL G Z vs ds) (n : Nat) (q : Rep G Z v d) : RepL G Z (vs.take n ++ v :: vs.drop n) (ds.take n ++ d :: ds.drop n) := (r.take n).append (.cons q (r.drop n))
theorem sndS_insr {i : Nat} {x : Str} {k e : Expr} {ck c : E} {p1 p2 p3 : Pos} (hN : X.N[i]? = some x) (hv : Vis X.env.scope x) (hd : (x == ("__debug__" : Str)) = false) (hcd : (x == ("__classdict__" : Str)) = false) (hk : PEx X p.G W k ck) (he : PEx X p.G W e c) (hsk : isSt k = false) (hst : isSt e = false) (hline : (p2.endLine == p3.line) = true) :
    PS X (.Expr (.Call (.Attribute (.Name x p1) "insert" p2) [k, e] [] p3) pos) (tS p W (.insr i ck c)) := by
  refine PS.imp (ps_expr (pe_bm PySem.F.plainAttrs_list PySem.F.slot_list_insert PySem.F.type_list_insert mt_insert (pe_var hN hv hd hcd) (pa_cons hk (pa_cons he pa_nil (star_cons hst)) (star_cons hsk)) rfl (by rw [star_cons hsk, star_cons hst]; rfl) hline (star_cons hsk) (by rw [star_cons hst]; rfl)) rfl) fun D σ H ⟨Z, env, R, h⟩ => ?_
  simp only [exec] at h
  obtain ⟨Z1, R1⟩ := R.frz (esc ck ++ escd c)
  split at h
  · rename_i ds0 q0
    obtain ⟨a, ea, zn, vs0, o0, r0⟩ := R1.slot i _ q0
    refine ⟨.ref a, R1.rel.get_ref q0 ea, .inl ⟨rfl, _, .of o0⟩, ?_⟩
    obtain ⟨b', Z', e', R', q⟩ := st_e R1 h
    refine ⟨b', Z', e', R', q.imp (fun _ _ _ _ _ p => p) fun kv H1 ⟨Z2, env2, y, A, h2⟩ => ?_⟩
    obtain ⟨b', Z', e', R', q⟩ := st_e A.R h2
    refine ⟨b', Z', e', R', q.imp (fun _ _ _ _ _ p => p) fun v H' ⟨Z3, env3, z, A3, h3⟩ => ?_⟩
    split at h3
    · exact False.elim h3
    · rename_i hk
      obtain ⟨Z4, R4, r4, s4⟩ := A3.freeze A.R hk
      split at h3
      · rename_i ds n q2 hy
        obtain ⟨b, eb, zb, vs, o, r⟩ := R4.slot i _ q2
        rw [ea] at eb; cases eb
        cases A.v.int hy
        split at h3
        · rename_i hl
          obtain ⟨l1, l2, l3⟩ := hl
          have hlim : LIM < 2 ^ 63 := by decide
          refine ⟨a, vs, n, v, rfl, rfl, o, by rw [r.length, ← LIM_eq]; exact l3, l1, by omega, ?_⟩
          rw [List.append_assoc]
          exact h3 Z4 σ _ (R4.change (.inl ⟨rfl, rfl⟩) q2 ea ⟨_, upd_same, r.ins n.toNat r4⟩)
        · exact False.elim h3
      · exact False.elim h3
  · exact False.elim h
theorem atN {n k : Nat} (h : k < n) : L2.ixN n (k : Int) = some k := by
  unfold L2.ixN
  rw [if_pos (by omega), if_pos (by omega)]; rfl
theorem sndS_setc {i k : Nat} {x : Str} {e ke : Expr} {c : E} {p1 p2 : Pos} (hN : X.N[i]? = some x) (hv : Vis X.env.scope x) (hd : (x == ("__debug__" : Str)) = false) (hcd : (x == ("__classdict__" : Str)) = false) (he : PEx X p.G W e c) (hk : ke = .Constant (.int (k : Int)) 0 p2 ∨ PE X ke (tC (.int (k : Int)))) (hs : isCp e = false)
    (ha : ∀ v, assign (.Subscript (.Name x p1) ke p2) X.env v = (do
      let ov ← holding [v] (eval (.Name x p1) X.env)
      let iv ← holding [v, ov] (eval ke X.env)
      standAt p2
      holding [v, ov, iv] (setItem ov iv v)
      release [v, ov, iv] []) := by intro _; rfl) :
    PS X (.Assign [.Subscript (.Name x p1) ke p2] e pos) (tS p W (.setc i k c)) := by
  have hki : PE X ke (tC (.int (k : Int))) := by
    rcases hk with rfl | hk
    · exact pe_int
    · exact hk
  refine PS.imp (ps_asg he (pg_sub (pe_var hN hv hd hcd) hki set_list ha) (by cases e <;> first | rfl | cases hs) (by cases e <;> rfl)) fun D σ H ⟨Z, env, R, h⟩ => ?_
  simp only [exec] at h
  obtain ⟨Z1, R1⟩ := R.frz (escd c)
  obtain ⟨b', Z', e', R', q⟩ := st_e R1 h
  refine ⟨b', Z', e', R', q.imp (fun _ _ _ _ _ p => p) fun v H' ⟨Z2, env2, y, A, h2⟩ => ?_⟩
  split at h2
  · exact False.elim h2
  · rename_i hk
    obtain ⟨Z3, R3, r3, s3⟩ := A.freeze R1 hk
    split at h2
    · rename_i ds q2
      obtain ⟨a, ea, zb, vs, o, r⟩ := R3.slot i _ q2
      split at h2
      · rename_i hl
        exact ⟨.ref a, R3.rel.get_ref q2 ea, a, vs, k, k, rfl, rfl, o, atN (by rw [r.length]; exact hl), h2 Z3 σ _ (R3.change (.inl ⟨rfl, rfl⟩) q2 ea ⟨_, upd_same, r.set r3 k⟩)⟩
      · exact False.elim h2
    · rename_i ds q2
      obtain ⟨a, ea, zb, vs, o, r⟩ := R3.slot i _ q2
      split at h2
      · rename_i hl
        exact ⟨.ref a, R3.rel.get_ref q2 ea, a, vs, k, k, rfl, rfl, o, atN (by rw [r.length]; exact hl), h2 Z3 σ _ (R3.change (.inr ⟨rfl, rfl⟩) q2 ea ⟨_, upd_same, r.set r3 k⟩)⟩
      · exact False.elim h2
    · exact False.elim h2
/-- a, b = x, y -/
theorem sndS_par {i j : Nat} {x y : Str} {a b : Expr} {ca cb : E} {px py pt : Pos} {kt k2 pt2} (hc : X.calm = true) (nd : X.N.Nodup) (hNi : X.N[i]? = some x) (hNj : X.N[j]? = some y) (hij : i ≠ j) (hi : i ∉ p.io) (hj : j ∉ p.io)
    (hx : X.env.scope.names.lookup x = some .local) (hy : X.env.scope.names.lookup y = some .local) (ha : PEx X p.G W a ca) (hb : PEx X p.G W b cb) (hsa : isSt a = false) (hsb : isSt b = false)
    (hw : swappedStores [.Tuple [.Name x px, .Name y py] kt pt] (.Tuple [a, b] k2 pt2) X.env = pure (some [x, y])) :
    PS X (.Assign [.Tuple [.Name x px, .Name y py] kt pt] (.Tuple [a, b] k2 pt2) pos) (tS p W (.par i j ca cb)) := by
  refine PS.imp (ps_par hc nd hNi hNj hij hx hy (pa_cons ha (pa_cons hb pa_nil (star_cons hsb)) (star_cons hsa)) hw rfl) fun D σ H ⟨Z, env, R, h⟩ => ?_
  simp only [exec] at h
  obtain ⟨Z1, R1⟩ := R.frz (escd ca ++ escd cb)
  obtain ⟨b', Z', e', R', q⟩ := st_e R1 h
  refine ⟨b', Z', e', R', q.imp (fun _ _ _ _ _ p => p) fun v H1 ⟨Z2, env2, x1, A, h2⟩ => ?_⟩
  obtain ⟨b', Z', e', R', q⟩ := st_e A.R h2
  refine ⟨b', Z', e', R', q.imp (fun _ _ _ _ _ p => p) fun w H' ⟨Z3, env3, x2, A3, h3⟩ => ?_⟩
  refine ⟨v, w, rfl, ?_⟩
  have nb1 : ∀ a, H a = none → ¬ (canon env2 σ).bx a ∧ ¬ (canon env2 σ).ow a := fun a ha => ⟨fun ⟨i, d, h, e⟩ => A.slots ha i (by rw [h]; trivial) e, fun ⟨i, d, h, e⟩ => A.slots ha i (by rw [h]; trivial) e⟩
  obtain ⟨d1, k1⟩ := x1
  obtain ⟨d2, k2⟩ := x2
  have sl2 : ∀ {a}, H a = none → ∀ j, IsOB env3[j]? → σ.getD j none ≠ some (.ref a) := fun {a} ha j hj e => by
    have : (canon env2 σ).bx a ∨ (canon env2 σ).ow a := by
      cases q : env3[j]? with
      | none => rw [q] at hj; exact hj.elim
      | some s =>
        rw [q] at hj
        cases s with
        | own d => exact .inr (A3.Rc.owi j d a q e)
        | box d => exact .inl (A3.Rc.bin j d a q e)
        | un => exact hj.elim
        | val d => exact hj.elim
        | exc c d => exact hj.elim
    rcases this with z | z
    · exact (nb1 a ha).1 z
    · exact (nb1 a ha).2 z
  have keep : ∀ {a o}, H a = none → H1 a = some o → H' a = some o := fun {a o} hn ho => A3.e.h a o ho (nb1 a hn).1
  have zkeep : ∀ {a o}, H1 a = some o → Z2 a = none → Z3 a = none := fun {a o} ho hz => by
    cases q : Z3 a with
    | none => rfl
    | some w =>
      rcases A3.e.n a w q with z | z
      · rw [hz] at z; cases z
      · rw [ho] at z; cases z
  -- the first
  have first : ∃ s1, hold ⟨d1, k1⟩ = some s1 ∧ SRel p Z3 (env3.set i s1) (σ.set i (some v)) H' ∧ ∀ b, H1 b = none → v ≠ .ref b ∨ ¬ IsOB (some s1) := by
    cases k1 with
    | fz => exact ⟨_, rfl, A3.R.setVal hi (Rep.mono A3.e.z A.v), fun b hb => .inr fun z => z⟩
    | tmp =>
      obtain ⟨a, rfl, zn, hn, nb, o⟩ := A.v
      obtain ⟨u, hu⟩ := o.there
      exact ⟨_, rfl, A3.R.setObj (.inl rfl) hi (zkeep hu zn) (o.move A3.e.z fun w hw => keep hn hw) (A.old a hn) (sl2 hn), fun b hb => .inl fun z => by cases z; rw [hu] at hb; cases hb⟩
    | ln => exact False.elim h3
  obtain ⟨s1, hs1, R1', hne⟩ := first
  have second : ∃ s2, hold ⟨d2, k2⟩ = some s2 ∧ SRel p Z3 ((env3.set i s1).set j s2) ((σ.set i (some v)).set j (some w)) H' := by
    cases k2 with
    | fz => exact ⟨_, rfl, R1'.setVal hj A3.v⟩
    | tmp =>
      obtain ⟨b, rfl, zn, hn, nb, o⟩ := A3.v
      refine ⟨_, rfl, R1'.setObj (.inl rfl) hj zn o (A3.old b hn) fun l hl e => ?_⟩
      by_cases eli : l = i
      · subst eli
        rw [set_getD] at e
        split at e
        · cases e
          rcases hne b hn with z | z
          · exact z rfl
          · rw [List.getElem?_set_self (by have := A3.R.len; omega)] at hl
            exact z hl
        · rename_i hlt
          rw [List.getElem?_eq_none (by rw [List.length_set, A3.R.len]; omega)] at hl
          exact hl
      · rw [List.getElem?_set_ne (fun z => eli z.symm)] at hl
        rw [set_getD, if_neg (fun z => eli z.1)] at e
        exact A3.slots hn l hl e
    | ln => rw [hs1] at h3; exact False.elim h3
  obtain ⟨s2, hs2, R2'⟩ := second
  rw [hs1, hs2] at h3
  exact h3 Z3 _ H' R2'
/-- x.f = e -/
theorem RepF.len {G : Gc} {Z : Hp} : ∀ {vs : List (Str × V)} {fs : List (Str × D)}, RepF G Z vs fs → vs.length = fs.length
  | _, _, .nil => rfl
  | _, _, .cons _ t => by rw [List.length_cons, List.length_cons, RepF.len t]
theorem RepF.put {G : Gc} {Z : Hp} {f : Str} {v : V} {d : DL.D} (r : Rep G Z v d) : ∀ {vs : List (Str × V)} {fs : List (Str × DL.D)}, RepF G Z vs fs → RepF G Z (putF f v vs) (putD f d fs)
  | _, _, .nil => .cons r .nil
  | _, _, @RepF.cons _ _ x w vs' d' ds' h t => by
    simp only [putF, putD]
    split
    · exact .cons r t
    · exact .cons h (RepF.put r t)
theorem sndS_setf {cs : List Nat} {fl : List Str} {i : Nat} {x f : Str} {e : Expr} {c : E} {p1 p2 : Pos} (hK : p.G.K = X.K) (hcl : ∀ c ∈ cs, ClsAt X.K p.G cs fl c) (hf : f ∈ fl) (hN : X.N[i]? = some x) (hv : Vis X.env.scope x) (hd : (x == ("__debug__" : Str)) = false) (hcd : (x == ("__classdict__" : Str)) = false) (he : PEx X p.G W e c) (hs : isCp e = false) :
    PS X (.Assign [.Attribute (.Name x p1) f p2] e pos) (tS p W (.setf cs i f c)) := by
  refine PS.imp (ps_fld (pe_var hN hv hd hcd) he (by cases e <;> first | rfl | cases hs)) fun De σ H ⟨Z, env, R, h⟩ => ?_
  simp only [exec] at h
  obtain ⟨Z1, R1⟩ := R.frz (escd c)
  obtain ⟨b', Z', e', R', q⟩ := st_e R1 h
  refine ⟨b', Z', e', R', q.imp (fun _ _ _ _ _ p => p) fun v H' ⟨Z2, env2, y, A, h2⟩ => ?_⟩
  split at h2
  · exact False.elim h2
  · rename_i hk
    obtain ⟨Z3, R3, r3, s3⟩ := A.freeze R1 hk
    split at h2
    · rename_i k fs q2
      obtain ⟨a, ea, zb, dx, vs, o, r⟩ := R3.slot i _ q2
      split at h2
      · rename_i hc
        rw [Bool.and_eq_true] at hc
        have hk : k ∈ cs := by simpa using hc.1
        have hl : fs.length < 1000 := of_decide_eq_true hc.2
        exact ⟨.ref a, R3.rel.get_ref q2 ea, a, _, dx, vs, rfl, o, (hcl k hk).cl, (hcl k hk).no f hf, by rw [r.len]; exact hl, h2 Z3 σ _ (R3.change (.inl ⟨rfl, rfl⟩) q2 ea ⟨dx, _, upd_same, r.put r3⟩)⟩
      · exact False.elim h2
    · rename_i k fs q2
      obtain ⟨a, ea, zb, dx, vs, o, r⟩ := R3.slot i _ q2
      split at h2
      · rename_i hc
        rw [Bool.and_eq_true] at hc
        have hk : k ∈ cs := by simpa using hc.1
        have hl : fs.length < 1000 := of_decide_eq_true hc.2
        exact ⟨.ref a, R3.rel.get_ref q2 ea, a, _, dx, vs, rfl, o, (hcl k hk).cl, (hcl k hk).no f hf, by rw [r.len]; exact hl, h2 Z3 σ _ (R3.change (.inr ⟨rfl, rfl⟩) q2 ea ⟨dx, _, upd_same, r.put r3⟩)⟩
      · exact False.elim h2
    · exact False.elim h2
end
end DL
set_option Elab.async false
set_option linter.all false
set_option autoImplicit false
set_option maxRecDepth 100000
set_option maxHeartbeats 2000000
namespace DL
open PySem PySem.Spec PyProof.Rows L2
def gT (K : PySem.W.Frag) : Tg → TG
  | .one i => gName i
  | .many is => gTup K is.length (gNames is)
def tgOk (io : List Nat) : Tg → Prop
  | .one i => i ∉ io
  | .many is => ∀ i ∈ is, i ∉ io
section
variable {X : Cx} {p : Pm} {W : WX} {pos : Pos}
theorem bind_g {tg : Tg} {d : D} {v : V} {env env' : DL.Env} {σ : L2.St} {Z H : Hp} {Q : L2.St → Hp → Prop} {K : PySem.W.Frag} (hK : p.G.K = K) (ok : tgOk p.io tg) (h : bind1 tg d env = some env') (R : SRel p Z env σ H) (r : Rep p.G Z v d) (q : ∀ σ', SRel p Z env' σ' H → Q σ' H) : gT K tg v σ H Q := by
  cases tg with
  | one i =>
    simp only [bind1] at h
    cases h
    exact q _ (R.setVal ok r)
  | many is =>
    simp only [bind1] at h
    split at h
    · rename_i ds
      cases r with
      | @tup a vs _ ht rs =>
        rw [hK] at ht
        exact ⟨a, vs, rfl, seqT_mono R.le ht, by rw [rs.length]; exact setMany_len h, names_set ok R rs h q⟩
    · cases h
def turnR (K : DL.Env → SR) : SR → SR
  | .next env => K env
  | .cnt env => K env
  | .brk env => .next env
  | .ret v env => .ret v env
  | .exn c d env => .exn c d env
  | .bad => .bad
theorem forL_cons {f : D → DL.Env → SR} {d : D} {ds : List D} {env : DL.Env} : forL f (d :: ds) env = turnR (forL f ds) (f d env) := by
  simp only [forL, turnR] <;> (cases f d env <;> rfl)
def forF (tg : Tg) (cb : List S) (fg : List Nat) (d : D) (env : DL.Env) : SR := match bind1 tg d env with
  | some env => fgtR fg (execs cb env)
  | none => .bad
/-- between two turns -/
def FoP (p : Pm) (W : WX) (De : Ends) (Z2 : Hp) (f : D → DL.Env → SR) (ds : List D) (n : Nat) (σ : L2.St) (H : Hp) : Prop := ∃ Zn envn, SRel { p with Zb := Z2 } Zn envn σ H ∧ Po p W De (forL f (ds.drop n) envn)
def tBody (p : Pm) (W : WX) (cb : List S) : TS := fun D σ H => ∃ Zb, tSs { p with Zb := Zb } W cb D σ H
theorem for_turn {K : PySem.W.Frag} (hK : p.G.K = K) {tg : Tg} {cb : List S} {fg : List Nat} {D : Ends} {Z2 : Hp} {ds : List DL.D} {n : Nat} {σ : L2.St} {H : Hp} {d : DL.D} {v : V} (ok : tgOk p.io tg) (z : Same p.Zb Z2) (hn : ds[n]? = some d) (hv : ∀ Zn, Same Z2 Zn → Rep p.G Zn v d) (h : FoP p W D Z2 (forF tg cb fg) ds n σ H) :
    gT K tg v σ H fun σ2 H2 => tBody p W cb { D with nx := FoP p W D Z2 (forF tg cb fg) ds (n + 1), ct := FoP p W D Z2 (forF tg cb fg) ds (n + 1), bk := D.nx } σ2 H2 := by
  obtain ⟨Zn, envn, R, h⟩ := h
  have hlt : n < ds.length := (List.getElem?_eq_some_iff.mp hn).1
  have hdrop : ds.drop n = d :: ds.drop (n + 1) := by
    rw [List.drop_eq_getElem_cons hlt]
    congr 1
    exact (List.getElem?_eq_some_iff.mp hn).2
  rw [hdrop, forL_cons] at h
  unfold forF at h
  cases q : bind1 tg d envn with
  | none => rw [q] at h; exact False.elim h
  | some env' =>
    rw [q] at h
    refine bind_g (p := { p with Zb := Z2 }) hK ok q R (hv Zn R.zb) fun σ' R' => ⟨Z2, Zn, env', R', ?_⟩
    simp only at h
    cases q2 : execs cb env' with
    | next e => rw [q2] at h; exact fun Z σ H R => ⟨Z, _, R.fgt fg, h⟩
    | cnt e => rw [q2] at h; exact fun Z σ H R => ⟨Z, _, R.fgt fg, h⟩
    | brk e => rw [q2] at h; exact fun Z σ H R => h Z σ H ((R.fgt fg).unbase z)
    | ret x e => rw [q2] at h; exact fun v Z σ H R => h v Z σ H (R.unbase z)
    | exn c d e => rw [q2] at h; exact fun dd v Z σ H R => h dd v Z σ H (R.unbase z)
    | bad => rw [q2] at h; exact h
theorem for_end {f : DL.D → DL.Env → SR} {D : Ends} {Z2 : Hp} {ds : List DL.D} {σ : L2.St} {H : Hp} (z : Same p.Zb Z2) (h : FoP p W D Z2 f ds ds.length σ H) : D.nx σ H := by
  obtain ⟨Zn, envn, R, h⟩ := h
  rw [List.drop_length] at h
  simp only [forL] at h
  exact h Zn σ H (R.unbase z)
theorem ps_body {body : List Stmt} {cb : List S} (hb : ∀ Zb, PSs X body (tSs { p with Zb := Zb } W cb)) : PSs X body (tBody p W cb) := ⟨fun pins s σ H D I ⟨Zb, q⟩ => (hb Zb).run pins s σ H D I q⟩
theorem sndS_for {tg : Expr} {iter : Expr} {body : List Stmt} {ct : Tg} {ci : E} {cb : List S} {fg : List Nat} (hK : p.G.K = X.K) (ok : tgOk p.io ct) (hp : PassesOwn (model X.prog X.w) X.A X.env X.xe) (hc : X.calm = true) (hi : PEx X p.G W iter ci) (hg : PG X tg (gT X.K ct)) (hb : ∀ Zb, PSs X body (tSs { p with Zb := Zb } W cb))
    (hs : ∀ x, foldedSetIterable iter X.env x = pure x) : PS X (.For tg iter body [] pos) (tS p W (.for_ ct (.seq ci) cb fg)) := by
  refine PS.imp (ps_for hp hc (pi_seq hi) hg (ps_body hb) hs) fun D σ H ⟨Z, env, R, h⟩ => ?_
  simp only [exec, itemsIt] at h
  obtain ⟨Z1, R1⟩ := R.frz (escd ci)
  have h : Po p W D (SR.of (ev ci (frz (escd ci) env)) fun x env => match items x.d with
    | some ds => if x.k = .ln then .bad else forL (forF ct cb fg) ds (DL.fgt fg env)
    | none => .bad) := by
    cases q : ev ci (frz (escd ci) env) with
    | ok x env2 =>
      rw [q] at h
      simp only [DL.R.bind] at h
      show Po p W D (match items x.d with
        | some ds => if x.k = .ln then .bad else forL (forF ct cb fg) ds (DL.fgt fg env2)
        | none => .bad)
      cases q2 : items x.d with
      | none => rw [q2] at h; exact h
      | some ds =>
        rw [q2] at h
        simp only at h ⊢
        by_cases hk : x.k = .ln
        · rw [if_pos hk] at h ⊢; exact h
        · rw [if_neg hk] at h ⊢; exact h
    | exn c d e => rw [q] at h; exact h
    | bad => rw [q] at h; exact h
  obtain ⟨b', Z', e', R', q⟩ := st_e R1 h
  refine ⟨b', Z', e', R', q.imp (fun _ _ _ _ _ p => p) fun v H' ⟨Z2, env2, x, A, h2⟩ => ?_⟩
  cases q2 : items x.d with
  | none => rw [q2] at h2; exact False.elim h2
  | some ds =>
    rw [q2] at h2
    simp only at h2
    split at h2
    · exact False.elim h2
    · rename_i hk
      obtain ⟨Z3, R3, r3, s3⟩ := A.freeze R1 hk
      have start : FoP p W D Z3 (forF ct cb fg) ds 0 σ H' := ⟨Z3, _, (R3.fgt fg).base (fun _ _ z => z), by rw [List.drop_zero]; exact h2⟩
      have z3 : Same p.Zb Z3 := R3.zb
      have stay : ∀ {n σ H}, FoP p W D Z3 (forF ct cb fg) ds n σ H → Same Z3 H := fun ⟨Zn, envn, R, _⟩ => R.zb.trans R.le
      have rep_of : ∀ {vs : List V}, RepL p.G Z3 vs ds → ∀ {n : Nat} {w : V} {d : DL.D}, vs[n]? = some w → ds[n]? = some d → ∀ Zn, Same Z3 Zn → Rep p.G Zn w d := fun {vs} r {n w d} hw hd Zn z => by
        obtain ⟨w', e, q⟩ := r.get hd
        rw [hw] at e; cases e; exact q.mono z
      have dOf : ∀ {vs : List V}, RepL p.G Z3 vs ds → ∀ {n : Nat} {w : V}, vs[n]? = some w → ∃ d, ds[n]? = some d := fun {vs} r {n w} hw => by
        obtain ⟨d, e, _⟩ := r.getV hw
        exact ⟨d, e⟩
      cases hxd : x.d with
      | tup es =>
        rw [hxd] at q2 r3
        cases q2
        cases r3 with
        | @tup a vs _ ht rs =>
          rw [hK] at ht
          refine ⟨a, rfl, .inr ⟨vs, seqT_mono R3.le ht, fun hz => for_tup (xs := vs) (FoP p W D Z3 (forF ct cb fg) ds) start (fun n σ H _ q => seqT_mono (stay q) ht) (fun n w σ H hw q => ?_) fun σ H q => ?_⟩⟩
          · obtain ⟨d, hd⟩ := dOf rs hw
            exact for_turn hK ok z3 hd (rep_of rs hw hd) q
          · rw [rs.length] at q; exact for_end z3 q
      | lst es =>
        rw [hxd] at q2 r3
        cases q2
        cases r3 with
        | @lst a vs _ ht rs =>
          refine ⟨a, rfl, .inl ⟨vs, .of (R3.le _ _ ht), fun hz => for_list (xs := vs) (FoP p W D Z3 (forF ct cb fg) ds) start (fun n σ H _ q => .of (stay q _ _ ht)) (fun n w σ H hw q => ?_) fun σ H q => ?_⟩⟩
          · obtain ⟨d, hd⟩ := dOf rs hw
            exact for_turn hK ok z3 hd (rep_of rs hw hd) q
          · rw [rs.length] at q; exact for_end z3 q
      | src ns =>
        rw [hxd] at q2 r3
        cases q2
        cases r3 with
        | @src a _ ht =>
          rw [hK] at ht
          have rs : RepL p.G Z3 (ns.map V.int) (ns.map DL.D.int) := RepL.ints ns
          refine ⟨a, rfl, .inl ⟨_, R3.le.seq ht, fun hz => for_list (xs := ns.map V.int) (FoP p W D Z3 (forF ct cb fg) (ns.map .int)) start (fun n σ H _ q => (stay q).seq ht) (fun n w σ H hw q => ?_) fun σ H q => ?_⟩⟩
          · obtain ⟨d, hd⟩ := dOf rs hw
            exact for_turn hK ok z3 hd (rep_of rs hw hd) q
          · rw [List.length_map] at q; exact for_end z3 (by rw [List.length_map]; exact q)
      | non => rw [hxd] at q2; cases q2
      | bl _ => rw [hxd] at q2; cases q2
      | int _ => rw [hxd] at q2; cases q2
      | str _ => rw [hxd] at q2; cases q2
      | ins _ _ => rw [hxd] at q2; cases q2
      | exv _ _ => rw [hxd] at q2; cases q2
/-- over a range -/
theorem forr_core {D : Ends} {K : PySem.W.Frag} (hK : p.G.K = K) {ct : Tg} {cb : List S} {fg : List Nat} {a : Int} {n : Nat} {env2 : DL.Env} {σ : L2.St} {Z2 H' : Hp} (ok : tgOk p.io ct) (R2 : SRel p Z2 env2 σ H') (h2 : Po p W D (forL (forF ct cb fg) (rangeL a n) (DL.fgt fg env2))) :
    ∃ W' : Nat → Nat → L2.St → Hp → Prop, (∃ m, W' 0 m σ H') ∧ ∀ i m σ H, W' i m σ H →
      ((Itr a n).stop i H ∧ D.nx σ H) ∨ ((Itr a n).go i H ∧ ∃ N : L2.St → Hp → Prop, (∀ σ' H', N σ' H' → ∃ m', m' < m ∧ W' (i + 1) m' σ' H') ∧ ∀ x H', (Itr a n).yld i H x H' → gT K ct x σ H' fun σ2 H2 => tBody p W cb { D with nx := N, ct := N, bk := D.nx } σ2 H2) := by
  refine for_range (lo := a) (n := n) (FoP p W D Z2 (forF ct cb fg) (rangeL a n)) ⟨Z2, _, (R2.fgt fg).base (fun _ _ z => z), by rw [List.drop_zero]; exact h2⟩ (fun k σ H hk q => ?_) fun σ H q => ?_
  · exact for_turn hK ok R2.zb (rangeL_get n a k hk) (fun Zn _ => Rep.int _) q
  · exact for_end (ds := rangeL a n) R2.zb (by rw [rangeL_len]; exact q)
theorem sndS_forr1 {tg : Expr} {hi : Expr} {body : List Stmt} {ct : Tg} {ch : E} {cb : List S} {fg : List Nat} {p1 p2 : Pos} (hK : p.G.K = X.K) (ok : tgOk p.io ct) (hp : PassesOwn (model X.prog X.w) X.A X.env X.xe) (hc : X.calm = true) (hgr : Gl X "range") (hmr : X.mg "range" = none) (hh : PEx X p.G W hi ch) (hst : isSt hi = false) (hg : PG X tg (gT X.K ct)) (hb : ∀ Zb, PSs X body (tSs { p with Zb := Zb } W cb)) :
    PS X (.For tg (.Call (.Name "range" p1) [hi] [] p2) body [] pos) (tS p W (.for_ ct (.rng (.cst (.int 0)) ch) cb fg)) := by
  refine PS.imp (ps_for hp hc (pi_range1 hgr hmr (pa_cons hh pa_nil (star_cons hst)) (by rw [star_cons hst]; rfl)) hg (ps_body hb)) fun D σ H ⟨Z, env, R, h⟩ => ?_
  simp only [exec, itemsIt, ev, DL.R.bind] at h
  obtain ⟨Z1, R1⟩ := R.frz (esc (.cst (.int 0)) ++ esc ch)
  have h : Po p W D (SR.of (ev ch (frz (esc (.cst (.int 0)) ++ esc ch) env)) fun y env => match y.d with
    | .int b => if -1000000000 ≤ b ∧ b ≤ 1000000000 then forL (forF ct cb fg) (rangeL 0 b.toNat) (DL.fgt fg env) else .bad
    | _ => .bad) := by
    cases q : ev ch (frz (esc (.cst (.int 0)) ++ esc ch) env) with
    | ok y env2 =>
      rw [q] at h
      obtain ⟨d, k⟩ := y
      cases d with
      | int b =>
        simp only at h
        show Po p W D (if -1000000000 ≤ b ∧ b ≤ 1000000000 then _ else _)
        by_cases hb : -1000000000 ≤ b ∧ b ≤ 1000000000
        · rw [if_pos ⟨by omega, by omega, hb.1, hb.2⟩] at h
          rw [if_pos hb]
          have e0 : (b - 0).toNat = b.toNat := by simp
          rw [e0] at h
          exact h
        · rw [if_neg (fun z => hb ⟨z.2.2.1, z.2.2.2⟩)] at h
          exact False.elim h
      | _ => exact False.elim h
    | exn c d e => rw [q] at h; exact h
    | bad => rw [q] at h; exact h
  obtain ⟨b', Z', e', R', q⟩ := st_e R1 h
  refine ⟨b', Z', e', R', q.imp (fun _ _ _ _ _ p => p) fun v H' ⟨Z2, env2, x, A, h2⟩ => ?_⟩
  split at h2
  · rename_i b hx
    cases A.v.int hx
    split at h2
    · rename_i hr
      exact ⟨b, rfl, by omega, by omega, forr_core hK ok A.R h2⟩
    · exact False.elim h2
  · exact False.elim h2
theorem sndS_forr2 {tg : Expr} {lo hi : Expr} {body : List Stmt} {ct : Tg} {cl ch : E} {cb : List S} {fg : List Nat} {p1 p2 : Pos} (hK : p.G.K = X.K) (ok : tgOk p.io ct) (hp : PassesOwn (model X.prog X.w) X.A X.env X.xe) (hc : X.calm = true) (hgr : Gl X "range") (hmr : X.mg "range" = none) (hl : PEx X p.G W lo cl) (hh : PEx X p.G W hi ch) (hsl : isSt lo = false) (hst : isSt hi = false) (hg : PG X tg (gT X.K ct)) (hb : ∀ Zb, PSs X body (tSs { p with Zb := Zb } W cb)) :
    PS X (.For tg (.Call (.Name "range" p1) [lo, hi] [] p2) body [] pos) (tS p W (.for_ ct (.rng cl ch) cb fg)) := by
  refine PS.imp (ps_for hp hc (pi_range2 hgr hmr (pa_cons hl (pa_cons hh pa_nil (star_cons hst)) (star_cons hsl)) (by rw [star_cons hsl, star_cons hst]; rfl) (by rw [star_cons hst]; rfl)) hg (ps_body hb)) fun D σ H ⟨Z, env, R, h⟩ => ?_
  simp only [exec, itemsIt] at h
  obtain ⟨Z1, R1⟩ := R.frz (esc cl ++ esc ch)
  have h : Po p W D (SR.of (ev cl (frz (esc cl ++ esc ch) env)) fun x env => SR.of (ev ch env) fun y env => match x.d, y.d with
    | .int a, .int b => if -1000000000 ≤ a ∧ a ≤ 1000000000 ∧ -1000000000 ≤ b ∧ b ≤ 1000000000 then forL (forF ct cb fg) (rangeL a (b - a).toNat) (DL.fgt fg env) else .bad
    | _, _ => .bad) := by
    cases q : ev cl (frz (esc cl ++ esc ch) env) with
    | ok x env1 =>
      rw [q] at h
      simp only [DL.R.bind] at h
      show Po p W D (SR.of (ev ch env1) _)
      cases q2 : ev ch env1 with
      | ok y env2 =>
        rw [q2] at h
        obtain ⟨d, k⟩ := x
        obtain ⟨d', k'⟩ := y
        cases d <;> first | exact False.elim h | skip
        cases d' <;> first | exact False.elim h | skip
        rename_i a b
        simp only at h
        show Po p W D (if -1000000000 ≤ a ∧ a ≤ 1000000000 ∧ -1000000000 ≤ b ∧ b ≤ 1000000000 then _ else _)
        by_cases hb : -1000000000 ≤ a ∧ a ≤ 1000000000 ∧ -1000000000 ≤ b ∧ b ≤ 1000000000
        · rw [if_pos hb] at h ⊢; exact h
        · rw [if_neg hb] at h; exact False.elim h
      | exn c d e => rw [q2] at h; exact h
      | bad => rw [q2] at h; exact h
    | exn c d e => rw [q] at h; exact h
    | bad => rw [q] at h; exact h
  obtain ⟨b', Z', e', R', q⟩ := st_e R1 h
  refine ⟨b', Z', e', R', q.imp (fun _ _ _ _ _ p => p) fun v H1 ⟨Z2, env2, x, A, h2⟩ => ?_⟩
  obtain ⟨b', Z', e', R', q⟩ := st_e A.R h2
  refine ⟨b', Z', e', R', q.imp (fun _ _ _ _ _ p => p) fun w H' ⟨Z3, env3, y, A3, h3⟩ => ?_⟩
  split at h3
  · rename_i a b hx hy
    cases A.v.int hx
    cases A3.v.int hy
    split at h3
    · rename_i hr
      exact ⟨a, b, rfl, ⟨by omega, by omega, by omega, by omega⟩, forr_core hK ok A3.R h3⟩
    · exact False.elim h3
  · exact False.elim h3
/-! over an enumerate -/
theorem SRel.laid {Z H : Hp} {env : DL.Env} {σ : L2.St} {q : Addr} {o : HO} (R : SRel p Z env σ H) (hn : H q = none) : SRel p Z env σ (upd H q o) := R.after (.laid hn) (R.rel.laid hn)
theorem SRel.laidZ {Z H : Hp} {env : DL.Env} {σ : L2.St} {q : Addr} {o : HO} (R : SRel p Z env σ H) (hn : H q = none) : SRel p (upd Z q o) env σ (upd H q o) := R.after (.laidZ hn R.le) (R.rel.laidZ hn)
theorem enumL_get : ∀ (ds : List DL.D) (i n : Nat), (enumL i ds)[n]? = (ds[n]?).map fun d => .tup [.int ((i + n : Nat) : Int), d]
  | [], _, _ => by simp [enumL]
  | d :: ds, i, 0 => by simp [enumL]
  | d :: ds, i, n + 1 => by
    simp only [enumL, List.getElem?_cons_succ]
    rw [enumL_get ds (i + 1) n]
    have : i + 1 + n = i + (n + 1) := by omega
    rw [this]
theorem enumL_len : ∀ (ds : List DL.D) (i : Nat), (enumL i ds).length = ds.length
  | [], _ => rfl
  | d :: ds, i => by simp [enumL, enumL_len ds]
theorem for_turnN {K : PySem.W.Frag} (hK : p.G.K = K) {tg : Tg} {cb : List S} {fg : List Nat} {D : Ends} {Z2 : Hp} {ds : List DL.D} {n : Nat} {σ : L2.St} {H : Hp} {d : DL.D} {v : V} {T : Addr} (ok : tgOk p.io tg) (z : Same p.Zb Z2) (hn : ds[n]? = some d) (hv : Rep p.G Z2 v d) (hT : H T = none) (h : FoP p W D Z2 (forF tg cb fg) (enumL 0 ds) n σ H) :
    gT K tg (.ref T) σ (upd H T (.tup [.int (n : Nat), v])) fun σ2 H2 => tBody p W cb { D with nx := FoP p W D Z2 (forF tg cb fg) (enumL 0 ds) (n + 1), ct := FoP p W D Z2 (forF tg cb fg) (enumL 0 ds) (n + 1), bk := D.nx } σ2 H2 := by
  obtain ⟨Zn, envn, R, h⟩ := h
  have he : (enumL 0 ds)[n]? = some (.tup [.int (n : Nat), d]) := by rw [enumL_get, hn, Nat.zero_add]; rfl
  have hlt : n < (enumL 0 ds).length := (List.getElem?_eq_some_iff.mp he).1
  have hdrop : (enumL 0 ds).drop n = .tup [.int (n : Nat), d] :: (enumL 0 ds).drop (n + 1) := by
    rw [List.drop_eq_getElem_cons hlt]
    congr 1
    exact (List.getElem?_eq_some_iff.mp he).2
  rw [hdrop, forL_cons] at h
  unfold forF at h
  have RT := R.laidZ (o := .tup [.int (n : Nat), v]) hT
  have grown : Same Z2 (upd Zn T (.tup [.int (n : Nat), v])) := fun a o q => by
    have q := R.zb a o q
    rw [upd_ne (ne_of_none q (R.le.free hT))]; exact q
  have rep : Rep p.G (upd Zn T (.tup [.int (n : Nat), v])) (.ref T) (.tup [.int (n : Nat), d]) := .tup (.inl (.inl upd_same)) (.cons (.int _) (.cons (hv.mono grown) .nil))
  cases q : bind1 tg (.tup [.int (n : Nat), d]) envn with
  | none => rw [q] at h; exact False.elim h
  | some env' =>
    rw [q] at h
    refine bind_g (p := { p with Zb := Z2 }) hK ok q RT rep fun σ' R' => ⟨Z2, _, env', R', ?_⟩
    simp only at h
    cases q2 : execs cb env' with
    | next e => rw [q2] at h; exact fun Z σ H R => ⟨Z, _, R.fgt fg, h⟩
    | cnt e => rw [q2] at h; exact fun Z σ H R => ⟨Z, _, R.fgt fg, h⟩
    | brk e => rw [q2] at h; exact fun Z σ H R => h Z σ H ((R.fgt fg).unbase z)
    | ret x e => rw [q2] at h; exact fun v Z σ H R => h v Z σ H (R.unbase z)
    | exn c d e => rw [q2] at h; exact fun dd v Z σ H R => h dd v Z σ H (R.unbase z)
    | bad => rw [q2] at h; exact h
/-- numbered items, one after another -/
theorem for_num {J : L2.It} {xs : List V} {g : TG} {tb : TS} {D : Ends} {σ : L2.St} {H : Hp} (Pv : Nat → L2.St → Hp → Prop) (h0 : Pv 0 σ H) (hgo : ∀ i x σ H, Pv i σ H → xs[i]? = some x → J.go i H) (hst : ∀ σ H, Pv xs.length σ H → J.stop xs.length H)
    (hy : ∀ i x σ H v H', Pv i σ H → xs[i]? = some x → J.yld i H v H' → ∃ T, v = .ref T ∧ H T = none ∧ H' = upd H T (.tup [.int (i : Nat), x]))
    (hs : ∀ (i : Nat) (x : V) (T : Addr) (σ : L2.St) (H : Hp), xs[i]? = some x → Pv i σ H → H T = none → g (.ref T) σ (upd H T (.tup [.int (i : Nat), x])) fun σ2 H2 => tb { D with nx := Pv (i + 1), ct := Pv (i + 1), bk := D.nx } σ2 H2) (hd : ∀ σ H, Pv xs.length σ H → D.nx σ H) :
    ∃ W' : Nat → Nat → L2.St → Hp → Prop, (∃ m, W' 0 m σ H) ∧ ∀ i m σ H, W' i m σ H →
      (J.stop i H ∧ D.nx σ H) ∨ (J.go i H ∧ ∃ N : L2.St → Hp → Prop, (∀ σ' H', N σ' H' → ∃ m', m' < m ∧ W' (i + 1) m' σ' H') ∧ ∀ v H', J.yld i H v H' → g v σ H' fun σ2 H2 => tb { D with nx := N, ct := N, bk := D.nx } σ2 H2) := by
  refine ⟨fun i m σ H => m = xs.length - i ∧ i ≤ xs.length ∧ Pv i σ H, ⟨xs.length, rfl, Nat.zero_le _, h0⟩, fun i m σ H ⟨hm, hi, q⟩ => ?_⟩
  subst hm
  by_cases hlt : i < xs.length
  · have hx : xs[i]? = some xs[i] := List.getElem?_eq_getElem hlt
    refine .inr ⟨hgo i _ σ H q hx, Pv (i + 1), fun σ' H' q' => ⟨xs.length - (i + 1), by omega, rfl, hlt, q'⟩, fun v H' y => ?_⟩
    obtain ⟨T, rfl, hT, rfl⟩ := hy i _ σ H v H' q hx y
    exact hs i _ T σ H hx q hT
  · have e : i = xs.length := by omega
    subst e
    exact .inl ⟨hst σ H q, hd σ H q⟩
theorem sndS_fore {elts : List Expr} {kk : Nat} {tpos : Pos} {iter : Expr} {body : List Stmt} {ct : Tg} {ci : E} {cb : List S} {fg : List Nat} {p1 p2 : Pos} (hK : p.G.K = X.K) (ok : tgOk p.io ct) (hp : PassesOwn (model X.prog X.w) X.A X.env X.xe) (hc : X.calm = true) (hge : Gl X "enumerate") (hme : X.mg "enumerate" = none) (hi : PEx X p.G W iter ci) (hst : isSt iter = false) (hg : PG X (.Tuple elts kk tpos) (gT X.K ct)) (hb : ∀ Zb, PSs X body (tSs { p with Zb := Zb } W cb)) :
    PS X (.For (.Tuple elts kk tpos) (.Call (.Name "enumerate" p1) [iter] [] p2) body [] pos) (tS p W (.for_ ct (.enm ci) cb fg)) := by
  refine PS.imp (ps_for hp hc (pi_num hge hme hi (star_cons hst)) hg (ps_body hb)) fun D σ H ⟨Z, env, R, h⟩ => ?_
  simp only [exec, itemsIt] at h
  obtain ⟨Z1, R1⟩ := R.frz (escd ci)
  have h : Po p W D (SR.of (ev ci (frz (escd ci) env)) fun x env => match items x.d with
    | some ds => if x.k = .ln then .bad else forL (forF ct cb fg) (enumL 0 ds) (DL.fgt fg env)
    | none => .bad) := by
    cases q : ev ci (frz (escd ci) env) with
    | ok x env2 =>
      rw [q] at h
      simp only [DL.R.bind] at h
      show Po p W D (match items x.d with
        | some ds => if x.k = .ln then .bad else forL (forF ct cb fg) (enumL 0 ds) (DL.fgt fg env2)
        | none => .bad)
      cases q2 : items x.d with
      | none => rw [q2] at h; exact h
      | some ds =>
        rw [q2] at h
        simp only at h ⊢
        by_cases hk : x.k = .ln
        · rw [if_pos hk] at h ⊢; exact h
        · rw [if_neg hk] at h ⊢; exact h
    | exn c d e => rw [q] at h; exact h
    | bad => rw [q] at h; exact h
  obtain ⟨b', Z', e', R', q⟩ := st_e R1 h
  refine ⟨b', Z', e', R', q.imp (fun _ _ _ _ _ p => p) fun v H' ⟨Z2, env2, x, A, h2⟩ => ?_⟩
  cases q2 : items x.d with
  | none => rw [q2] at h2; exact False.elim h2
  | some ds =>
    rw [q2] at h2
    simp only at h2
    split at h2
    · exact False.elim h2
    · rename_i hk
      obtain ⟨Z3, R3, r3, s3⟩ := A.freeze R1 hk
      have start : FoP p W D Z3 (forF ct cb fg) (enumL 0 ds) 0 σ H' := ⟨Z3, _, (R3.fgt fg).base (fun _ _ z => z), by rw [List.drop_zero]; exact h2⟩
      have z3 : Same p.Zb Z3 := R3.zb
      have stay : ∀ {n σ H}, FoP p W D Z3 (forF ct cb fg) (enumL 0 ds) n σ H → Same Z3 H := fun ⟨Zn, envn, R, _⟩ => R.zb.trans R.le
      have fin : ∀ {vs : List V}, RepL p.G Z3 vs ds → ∀ σ H, FoP p W D Z3 (forF ct cb fg) (enumL 0 ds) vs.length σ H → D.nx σ H := fun {vs} rs σ H q => by
        rw [rs.length, ← enumL_len ds 0] at q; exact for_end z3 q
      have turn : ∀ {vs : List V}, RepL p.G Z3 vs ds → ∀ (i : Nat) (w : V) (T : Addr) (σ : L2.St) (H : Hp), vs[i]? = some w → FoP p W D Z3 (forF ct cb fg) (enumL 0 ds) i σ H → H T = none → gT X.K ct (.ref T) σ (upd H T (.tup [.int (i : Nat), w])) fun σ2 H2 => tBody p W cb { D with nx := FoP p W D Z3 (forF ct cb fg) (enumL 0 ds) (i + 1), ct := FoP p W D Z3 (forF ct cb fg) (enumL 0 ds) (i + 1), bk := D.nx } σ2 H2 := fun {vs} rs i w T σ H hw q hT => by
        obtain ⟨d, hd, r⟩ := rs.getV hw
        exact for_turnN hK ok z3 hd r hT q
      have listy := fun (a : Addr) (vs : List V) (rs : RepL p.G Z3 vs ds) (hs : ∀ H, Same Z3 H → SqL X.K H a vs) => for_num (J := Ite X.K a) (xs := vs) (g := gT X.K ct) (tb := tBody p W cb) (D := D) (FoP p W D Z3 (forF ct cb fg) (enumL 0 ds)) start (fun i x σ H q hx => ⟨vs, x, hs H (stay q), hx⟩) (fun σ H q => ⟨vs, hs H (stay q), Nat.le_refl _⟩) (fun i x σ H w H1 q hx y => by
          obtain ⟨T, x', e1, hT, e2, f⟩ := y
          have := f vs (hs H (stay q))
          rw [hx] at this; cases this
          exact ⟨T, e1, hT, e2⟩) (turn rs) (fin rs)
      cases hxd : x.d with
      | tup es =>
        rw [hxd] at q2 r3
        cases q2
        cases r3 with
        | @tup a vs _ ht rs =>
          rw [hK] at ht
          exact ⟨a, vs, rfl, .inr ⟨seqT_mono R3.le ht, for_num (J := IteT X.K a) (xs := vs) (FoP p W D Z3 (forF ct cb fg) (enumL 0 ds)) start (fun i x σ H q hx => ⟨vs, x, seqT_mono (stay q) ht, hx⟩) (fun σ H q => ⟨vs, seqT_mono (stay q) ht, Nat.le_refl _⟩) (fun i x σ H w H1 q hx y => by
            obtain ⟨T, x', e1, hT, e2, f⟩ := y
            have := f vs (seqT_mono (stay q) ht)
            rw [hx] at this; cases this
            exact ⟨T, e1, hT, e2⟩) (turn rs) (fin rs)⟩⟩
      | lst es =>
        rw [hxd] at q2 r3
        cases q2
        cases r3 with
        | @lst a vs _ ht rs => exact ⟨a, vs, rfl, .inl ⟨.of (R3.le _ _ ht), listy a vs rs fun H z => .of (z _ _ ht)⟩⟩
      | src ns =>
        rw [hxd] at q2 r3
        cases q2
        cases r3 with
        | @src a _ ht =>
          rw [hK] at ht
          exact ⟨a, _, rfl, .inl ⟨R3.le.seq ht, listy a (ns.map V.int) (RepL.ints ns) fun H z => z.seq ht⟩⟩
      | non => rw [hxd] at q2; cases q2
      | bl _ => rw [hxd] at q2; cases q2
      | int _ => rw [hxd] at q2; cases q2
      | str _ => rw [hxd] at q2; cases q2
      | ins _ _ => rw [hxd] at q2; cases q2
      | exv _ _ => rw [hxd] at q2; cases q2
end
end DL
set_option Elab.async false
set_option linter.all false
set_option autoImplicit false
set_option maxRecDepth 100000
set_option maxHeartbeats 2000000
namespace DL
open PySem PySem.Spec PyProof.Rows L2
section
variable {X : Cx} {p : Pm} {W : WX} {pos : Pos}
theorem sndS_raise {k c : Nat} {x : Str} {e : Expr} {ce : E} {px p2 : Pos} (T : ErrAt X p.G k c x) (hr : Room (k + 1) X.A) (hc : X.calm = true) (tk : Takes X W) (hg : Gl X x) (he : PEx X p.G W e ce) (hst : isSt e = false) :
    PS X (.Raise (some (.Call (.Name x px) [e] [] p2)) none pos) (tS p W (.raise c ce)) := by
  obtain ⟨fI, fd, ps, h1, h2, h3, h4⟩ := T.ini
  refine PS.imp (ps_raise hc tk (pmk_oex T.ox h1 h2 h3 hr h4 .nil passL hg T.mg (pa_cons he pa_nil (star_cons hst)) T.db (star_cons hst))) fun De σ H ⟨Z, env, R, h⟩ => ?_
  simp only [exec] at h
  obtain ⟨Z1, R1⟩ := R.frz (escd ce)
  obtain ⟨b', Z', e', R', q⟩ := st_e R1 h
  refine ⟨b', Z', e', R', q.imp (fun _ _ _ _ _ p => p) fun v H' ⟨Z2, env2, y, A, h2⟩ => ?_⟩
  split at h2
  · exact False.elim h2
  · rename_i hk
    obtain ⟨Z3, R3, r3, s3⟩ := A.freeze R1 hk
    refine ⟨by simp, fun a ha => ⟨a, v, rfl, upd_same, fun dx hdx hne => ⟨rfl, dx, [(p.G.cF c, v)], upd_same, ?_, ?_, ?_⟩⟩⟩
    · rw [upd_ne hne]; exact upd_same
    · rw [upd_ne hne] at hdx; exact hdx
    · have hdx' : H' dx = none := by rw [upd_ne hne] at hdx; exact hdx
      have e : upd (del (upd (upd (upd H' a (exo a (p.G.cA c) none)) dx (exd dx [(p.G.cF c, v)])) a (exo a (p.G.cA c) (some dx))) a) dx (.xd [(p.G.cF c, v)]) = upd H' dx (.xd [(p.G.cF c, v)]) := by
        funext b
        by_cases hb : b = dx
        · subst hb; rw [upd_same, upd_same]
        · rw [upd_ne hb, upd_ne hb]
          by_cases hb2 : b = a
          · subst hb2; rw [del_same, ha]
          · rw [del_ne hb2, upd_ne hb2, upd_ne hb, upd_ne hb2]
      rw [e]
      exact h2 dx v Z3 σ _ (R3.laid hdx') upd_same r3
end
/-! several clauses, each with a name -/
/-- what the clauses make of an error: each a class, the name's slot, a suite -/
def wNamed (K : PySem.W.Frag) (Wout : WX) (De : Ends) : List (Value × Nat × (Addr → Value → Option Addr → TS)) → WX
  | [] => Wout
  | (c, i, ts) :: r => fun cls d σ H => ∃ b, PySem.W.exmOne K cls c = some b ∧
      (b = true → ∀ a, H a = none → ts a cls d { nx := fun σ' H' => De.nx (σ'.set i none) H', rt := De.rt, bk := fun σ' H' => De.bk (σ'.set i none) H', ct := fun σ' H' => De.ct (σ'.set i none) H' } (σ.set i (some (.ref a))) H) ∧
      (b = false → wNamed K Wout De r cls d σ H)
inductive NamedOk (X : Cx) : List ExceptHandler → List (Value × Nat × (Addr → Value → Option Addr → TS)) → Prop
  | nil : NamedOk X [] []
  | cons {x n : Str} {c : Value} {i : Nat} {ts : Addr → Value → Option Addr → TS} {b₀ : Stmt} {suite : List Stmt} {np pos' : Pos} {hds : List ExceptHandler} {l : List (Value × Nat × (Addr → Value → Option Addr → TS))} (hc : Names X x c) (hi : X.N[i]? = some n) (hl : X.env.kindOf n = some .local)
      (hsu : ∀ (ea : Addr) (eo : PySem.Obj) (ec : Value) (ed : Option Addr) (pn : List (Addr × PySem.Obj)), Zc ec ed eo → (∃ vs, eo.data = .fields vs) → PSs (X.suite ea ((ea, eo) :: pn)) (b₀ :: suite) (ts ea ec ed)) (r : NamedOk X hds l) :
      NamedOk X (.ExceptHandler (some (.Name x np)) (some n) (b₀ :: suite) pos' :: hds) ((c, i, ts) :: l)
section
variable {X : Cx} {body : List Stmt} {h₀ : ExceptHandler} {hds : List ExceptHandler} {l : List (Value × Nat × (Addr → Value → Option Addr → TS))} {pos : Pos} {tb : WX → TS} {Wout : WX}
theorem ps_try_named (hst : X.stack = X.env :: X.outer) (hfr : X.env.frame = some X.env.locals) (nd : X.N.Nodup) (tk : Takes X Wout)
    (hbody : ∀ (W : WX) (pn : List (Addr × PySem.Obj)) (xe : Value → Shared → Prop), Takes (X.tr pn xe) W → PassesOwn (model X.prog X.w) X.A X.env xe → PSs (X.tr pn xe) body (tb W))
    (hnm : NamedOk X (h₀ :: hds) l) : PS X (.Try body (h₀ :: hds) [] [] pos) (fun De σ H => tb (wNamed X.K Wout De l) De σ H) := by
  refine ⟨fun pins s σ H De I want => ?_⟩
  have iok := I.ok
  have frA : X.A.frames = some (X.env :: X.outer) := iok.frames.trans (congrArg some hst)
  let xe1 : Value → Shared → Prop := fun er t₁ => wpAny (model X.prog X.w) X.A (noteFrame er X.env) (fun _ t₂ => wpAny (model X.prog X.w) X.A (setFlight er none) (fun _ t₃ => wpAny (model X.prog X.w) X.A (handleBy er X.env (h₀ :: hds)) (SP X pins De) X.xe t₃) X.xe t₂) X.xe t₁
  have caught : Takes (X.tr (X.pn ++ pins) xe1) (wNamed X.K Wout De l) := by
    intro u t xx
    obtain ⟨ea, gr, tI, pn1, σ1, H1, ec, ed, rfl, J', hgr, hup, hsky, hna, hos, hag, hw⟩ := xx
    have J : Inv X pins σ1 H1 tI := J'.ofTry iok
    have hsky' : Sky gr (X.env :: X.outer) ea (Zc ec ed) X.env.locals t.heap := hst ▸ hsky
    show wpAny (model X.prog X.w) X.A (noteFrame (.ref ea) X.env) _ _ t
    refine Sky.land Zc.steady frA hfr hsky' fun g3 fly3 up3 => ?_
    have J3 : Inv X pins σ1 H1 { t with heap := g3 } := J.landed hgr fly3.1 (hup.trans up3) hos hag
    obtain ⟨eo3, ws3, q3, z3, f3⟩ := fly3.there
    have apart : ea ∉ frs (X.env :: X.outer) := by
      intro hm
      obtain ⟨_, o', q', nf⟩ := fly3.2.2.1.mem hm
      rw [q3] at q'; cases q'
      exact nf _ f3
    have neL : ea ≠ X.env.locals := fun z => apart (List.mem_filterMap.mpr ⟨X.env, List.mem_cons_self, hfr.trans (congrArg some z.symm)⟩)
    have neF : ea ∉ X.fs := by
      intro hm
      obtain ⟨e, he, q⟩ := List.mem_filterMap.mp hm
      exact apart (List.mem_filterMap.mpr ⟨e, List.mem_cons_of_mem _ he, q⟩)
    have S3 := J3.suite q3 f3 hna neL neF
    have run : ∀ {hs' : List ExceptHandler} {l' : List (Value × Nat × (Addr → Value → Option Addr → TS))}, NamedOk X hs' l' → wNamed X.K Wout De l' ec ed σ1 H1 → wpAny (model X.prog X.w) X.A (handleBy (.ref ea) X.env hs') (SP X pins De) X.xe { t with heap := g3 } := by
      intro hs' l' hk
      induction hk with
      | nil =>
        intro hw
        refine wpAny_handleBy_nil ?_
        obtain ⟨_, _, _, eo, ws, tb0, _, _, q, z, f, f1, _⟩ := id fly3
        unfold PySem.passOn
        refine wpAny_bind (wpAny_field q f f1 ?_)
        rw [if_neg (show ¬ ((Value.ref tb0 == Value.none) = true) from by simp)]
        have up_ : wpAny (model X.prog X.w) X.A (setFlight (.ref ea) X.env.frame) (fun _ t4 => wpAny (model X.prog X.w) X.A (throw (.ref ea) : Sem Flow) (SP X pins De) X.xe t4) X.xe { t with heap := g3 } := by
          rw [hfr]
          refine HandSPX.setFlight_upZ fly3 fun g4 held4 up4 => wpAny_throw (tk _ _ ?_)
          exact ⟨ea, gr, tI, pins, σ1, H1, ec, ed, rfl, J, hgr, (hup.trans up3).trans up4, .inr (.inr (hst.symm ▸ held4)), hna, hos, hag, hw⟩
        first
          | exact wpAny_bind (wpAny_pure (wpAny_bind up_))
          | exact wpAny_bind up_
      | @cons x n c i ts b₀ suite np pos' hds2 l2 hcl hi hloc hsu r ih =>
        intro hw
        obtain ⟨b, hb1, hyes, hno⟩ := hw
        refine wpAny_handleBy_cons (codeAny_handlers_test ?_) (by intro q; cases q)
        have looks : PySem.W.Looks (model X.prog X.w) g3 (typeOf (.ref ea)) ec := fun A Q E t k q => wpAny_typeOf_ref (k _ _ q3) (by rw [z3.1]; exact q)
        have lm := PySem.W.exm_one (M := model X.prog X.w) (J3.kIn) looks hb1
        have named : ∀ {Q : Value → Shared → Prop} {E : Value → Shared → Prop}, Q c { t with heap := g3 } → wpAny (model X.prog X.w) (X.A.mark (some (.ref ea))) (eval (.Name x np) X.env) Q E { t with heap := g3 } := by
          intro Q E q
          obtain ⟨hgl, hdb, hm | ⟨hm, hv, hne⟩⟩ := hcl
          · exact ld_glob (X := X.suite ea ((ea, eo3) :: (X.pn ++ pins))) S3 hgl hm q hdb
          · exact ld_blt (X := X.suite ea ((ea, eo3) :: (X.pn ++ pins))) S3 hgl hm hv q hne hdb
        refine named (lm.here ?_)
        cases b with
        | false =>
          show wpAny _ X.A (handleBy (.ref ea) X.env hds2) _ _ _
          exact ih (hno rfl)
        | true =>
          refine codeAny_handlers_suite_as ?_
          refine HandSPX.lands_againZ fly3 fun g4 fly4 up4 => ?_
          have J4 : Inv X pins σ1 H1 { t with heap := g4 } := J.landed hgr fly4.1 ((hup.trans up3).trans up4) hos hag
          obtain ⟨eo4, ws4, q4, z4, f4⟩ := fly4.there
          have S4 := J4.suite q4 f4 hna neL neF
          refine store_ok (X := X.suite ea ((ea, eo4) :: (X.pn ++ pins))) (v := .ref ea) S4 nd hi (.inl hloc) rfl (fun t5 S5 => ?_) (.inr hloc)
          refine wpAny_mono ((hsu ea eo4 ec ed (X.pn ++ pins) z4 ⟨_, f4⟩).run [] t5 _ H1 _ S5 (hyes rfl ea hna)) (fun fl t6 got => ?_) (fun _ _ z => False.elim z)
          have gone : ∀ {σ6 : L2.St} {H6 : Hp} {Q : Shared → Prop}, Inv (X.suite ea ((ea, eo4) :: (X.pn ++ pins))) [] σ6 H6 t6 → (∀ t7, Inv X pins (σ6.set i none) H6 t7 → Q t7) →
              wpAny (model X.prog X.w) X.A (do bindName X.env n .none; unbindBehindTheSuite X.env n pos') (fun _ t7 => Q t7) X.xe t6 := fun {σ6 H6 Q} S6 hq => gone_ok (S6.unsuite iok) nd hi hloc hq
          cases fl with
          | ret u =>
            obtain ⟨v6, σ6, H6, S6, r6, q6⟩ := got
            exact gone S6 fun t7 J7 => ⟨_, _, _, J7, r6, q6⟩
          | next =>
            obtain ⟨σ6, H6, S6, q6⟩ := got
            exact gone S6 fun t7 J7 => ⟨_, _, J7, q6⟩
          | brk =>
            obtain ⟨σ6, H6, S6, q6⟩ := got
            exact gone S6 fun t7 J7 => ⟨_, _, J7, q6⟩
          | cont =>
            obtain ⟨σ6, H6, S6, q6⟩ := got
            exact gone S6 fun t7 J7 => ⟨_, _, J7, q6⟩
    exact run hnm hw
  refine wpAny_Try_except ?_
  refine wpAny_mono ((hbody (wNamed X.K Wout De l) (X.pn ++ pins) xe1 caught PassesOwn.looking).run [] s σ H De (I.toTry _) want) (fun fl t1 got => ?_) (fun _ _ q => q)
  cases fl with
  | ret u =>
    obtain ⟨v1, σ1, H1, J, rv, q⟩ := got
    exact ⟨v1, σ1, H1, J.ofTry iok, rv, q⟩
  | next =>
    obtain ⟨σ1, H1, J, q⟩ := got
    exact wpAny_execs_nil ⟨σ1, H1, J.ofTry iok, q⟩
  | brk =>
    obtain ⟨σ1, H1, J, q⟩ := got
    exact ⟨σ1, H1, J.ofTry iok, q⟩
  | cont =>
    obtain ⟨σ1, H1, J, q⟩ := got
    exact ⟨σ1, H1, J.ofTry iok, q⟩
end
/-! try: .. except C as e: return ("word", e.value) */ -/
structure HdAt (X : Cx) (G : Gc) (c : Nat) (x : Str) : Prop where
  xf : XfC X.K (G.cA c)
  no : PySem.W.findIn X.K (.ref (G.cA c)) (G.cF c) = some none
  nm : Names X x (.ref (G.cA c))
def tWord (w : Str) (i : Nat) (C : Addr) (f : Str) : Addr → Value → Option Addr → TS := fun a cls d => tRet (tTup (tCons (tC (.str w)) (tCons (tXf a cls d C f (tVar i)) tNil)))
/-- the clauses: class, its slot, the word -/
def clauses (G : Gc) : List (Nat × Nat × Str) → List (Value × Nat × (Addr → Value → Option Addr → TS))
  | [] => []
  | (c, i, w) :: r => (.ref (G.cA c), i, tWord w i (G.cA c) (G.cF c)) :: clauses G r
def hdWords : List (Nat × Nat × Str) → List (Nat × Str)
  | [] => []
  | (c, _, w) :: r => (c, w) :: hdWords r
section
variable {X : Cx} {p : Pm} {W : WX} {pos : Pos}
/-- what a clause makes of an error that is known -/
theorem named_reads {De : Ends} {hs : List (Nat × Nat × Str)} (hS : ∀ a ∈ p.S, ∃ o, p.H0 a = some o) {ecs : List Nat} (exm : ∀ c h, c ∈ ecs → (∃ i w, (h, i, w) ∈ hs) → PySem.W.exmOne X.K (.ref (p.G.cA c)) (.ref (p.G.cA h)) = some (c == h)) (hlt : ∀ h i w, (h, i, w) ∈ hs → i < p.σ0.length)
    {c : Nat} (hce : c ∈ ecs) {d : DL.D} {env : DL.Env} (h : Po p W De (match (hdWords hs).lookup c with
      | some w => .ret ⟨.tup [.str w, d], .fz⟩ env
      | none => .exn c d env)) {dd : Addr} {v : V} {Z H : Hp} {σ : L2.St} (R : SRel p Z env σ H) (hd : H dd = some (.xd [(p.G.cF c, v)])) (r : Rep p.G Z v d) :
    wNamed X.K W De (clauses p.G hs) (.ref (p.G.cA c)) (some dd) σ H := by
  induction hs with
  | nil => exact h dd v Z σ H R hd r
  | cons x hs ih =>
    obtain ⟨c', i, w⟩ := x
    refine ⟨c == c', exm c c' hce ⟨i, w, by simp⟩, fun hb a ha => ?_, fun hb => ?_⟩
    · have e : c = c' := by simpa using hb
      subst e
      simp only [hdWords, List.lookup_cons, beq_self_eq_true] at h
      have hi : i < σ.length := by rw [R.ln]; exact hlt c i w (by simp)
      -- the pair
      refine ⟨.ref a, List.getElem?_set_self hi, rfl, rfl, dd, _, v, rfl, hd, by simp [List.lookup], ?_⟩
      refine ⟨(by show 2 ≤ sizeLine; decide), fun q hq => ?_⟩
      refine h (.ref q) (upd Z q (.tup [.str w, v])) σ _ (R.laidZ hq) (by simp) ?_
      exact Rep.tup (.inl (.inl upd_same)) ((RepL.cons (Rep.str w) (.cons r .nil)).mono fun b u e => by rw [upd_ne (ne_of_none e (R.le.free hq))]; exact e)
    · refine ih (fun c h hc ⟨i, w, hm⟩ => exm c h hc ⟨i, w, by simp [hm]⟩) (fun h i w hm => hlt h i w (by simp [hm])) ?_
      simpa only [hdWords, List.lookup_cons, hb] using h
theorem sndS_tryw {body : List Stmt} {h₀ : ExceptHandler} {hds : List ExceptHandler} {cb : List S} {hs : List (Nat × Nat × Str)} (hst : X.stack = X.env :: X.outer) (hfr : X.env.frame = some X.env.locals) (nd : X.N.Nodup) (tk : Takes X W)
    (hS : ∀ a ∈ p.S, ∃ o, p.H0 a = some o) {ecs : List Nat} (exm : ∀ c h, c ∈ ecs → (∃ i w, (h, i, w) ∈ hs) → PySem.W.exmOne X.K (.ref (p.G.cA c)) (.ref (p.G.cA h)) = some (c == h)) (hlt : ∀ h i w, (h, i, w) ∈ hs → i < p.σ0.length)
    (hb : ∀ (W : WX) (pn : List (Addr × PySem.Obj)) (xe : Value → Shared → Prop), Takes (X.tr pn xe) W → PassesOwn (model X.prog X.w) X.A X.env xe → PSs (X.tr pn xe) body (tSs p W cb))
    (hnm : NamedOk X (h₀ :: hds) (clauses p.G hs)) : PS X (.Try body (h₀ :: hds) [] [] pos) (tS p W (.tryw cb ecs (hdWords hs))) := by
  refine PS.imp (ps_try_named (tb := fun W => tSs p W cb) hst hfr nd tk hb hnm) fun De σ H ⟨Z, env, R, h⟩ => ⟨Z, env, R, ?_⟩
  simp only [exec] at h
  cases q : execs cb env with
  | next env' => rw [q] at h; exact h
  | ret v env' => rw [q] at h; exact h
  | brk env' => rw [q] at h; exact h
  | cnt env' => rw [q] at h; exact h
  | bad => rw [q] at h; exact h
  | exn c d env' =>
    rw [q] at h
    simp only at h
    split at h
    · rename_i hce
      exact fun dd v Z σ H R hd r => named_reads hS exm hlt (by simpa using hce) h R hd r
    · exact False.elim h
end
end DL
set_option Elab.async false
set_option linter.all false
set_option autoImplicit false
set_option maxRecDepth 100000
set_option maxHeartbeats 2000000
namespace DL
open PySem PySem.Spec PyProof.Rows L2
/-! a, b = x, y: the stores' order -/
theorem swapped_ok {x y : Str} {a b : Expr} {px py pt p2 : Pos} {kt k2} {env : PySem.Env} (hk : env.blockKind = .function) (hx : env.kindOf x = some .local) (hy : env.kindOf y = some .local) (hl : (py.line == px.line) = true) (hne : (x == y) = false) (h1 : isSt a = false) (h2 : isSt b = false)
    (hf : [a, b].all (foldedForSure 8) = false) (hc : [a, b].all (constantsAlone 8) = false) : swappedStores [.Tuple [.Name x px, .Name y py] kt pt] (.Tuple [a, b] k2 p2) env = pure (some [x, y]) := by
  have hpos : (Expr.Name x px).pos = px := rfl
  have hd : ([x, y] : List Str).eraseDups.length = 2 := by
    have hyx : (y == x) = false := by rw [Bool.eq_false_iff] at hne ⊢; intro z; exact hne (by rw [eq_of_beq z]; exact beq_self_eq_true _)
    simp [List.eraseDups_cons, hyx]
  unfold swappedStores
  simp only [List.length_cons, List.length_nil, hk, hf, hc, List.head?_cons, Option.map_some, Option.getD_some, hpos, List.filterMap_cons, List.filterMap_nil, hx, hy, hl]
  simp [hd]
  intro z
  rcases z with z | z
  · cases a <;> first | (cases h1; done) | cases z
  · cases b <;> first | (cases h2; done) | cases z
/-! try: .. except B as e: return isinstance(e, C) and e.f == i -/
/-- isinstance of a caught error that has fields -/
def rIsW (K : PySem.W.Frag) (a : Addr) (cls : Value) (d : Option Addr) (cv : Value) : List V → Hp → VK → Prop := fun xs H Q => ∃ (C dd : Addr) (fs : List (Str × V)) (c : V) (b : Bool), xs = [.ref a, c] ∧ cls = .ref C ∧ d = some dd ∧ H dd = some (.xd fs) ∧ XvAt K C ∧ (∀ u, RelV c u → u = cv) ∧ PySem.W.kitOne K (.ref C) cv = some b ∧ Q (.bl b) H
theorem call_isW {X : Cx} {a : Addr} {oe : PySem.Obj} {cls cv : Value} {d : Option Addr} {pn : List (Addr × PySem.Obj)} (hz : Zc cls d oe) (hf : ∃ vs, oe.data = .fields vs) : CallR (X.suite a ((a, oe) :: pn)) (.builtin "isinstance") (rIsW X.K a cls d cv) := by
  intro pins s σ H xs us Q I r h
  obtain ⟨C, dd, fs, c, b, rfl, ec, ed, hdd, T, hcv, e, q⟩ := h
  subst ec ed
  cases r with
  | cons rx rr =>
    cases rr with
    | cons rt rr =>
      cases rr
      cases rx
      obtain rfl := hcv _ rt
      obtain ⟨ha, _⟩ := I.pin (a, oe) (List.mem_append_left _ List.mem_cons_self)
      obtain ⟨vs, hd⟩ := hf
      have hx : ObjOk X.prog X.w H s.heap dd (.xd fs) := I.hok dd _ hdd
      obtain ⟨mA, hns, _⟩ := hx
      obtain ⟨od, ho, _⟩ := lookIn_ns hns
      have J : PySem.W.InstAt s.heap a oe C (some od) := ⟨ha, hz.1, by unfold PySem.W.notCls; rw [hd] <;> rfl, by rw [hz.2]; exact ho⟩
      exact PySem.W.kia_one (PySem.W.kitx_exc T.ic T.xf.ga T.xf.gg T.xf.exC T.ha T.hn T.htk T.hm) I.kIn J e (fun z => nomatch z) fun tk => ⟨.bl b, H, I.kept (t' := tk) fun _ _ z => z, rfl, q⟩
def tIsi (K : PySem.W.Frag) (i : Nat) (C : Addr) (f : Str) (n : Int) : Addr → Value → Option Addr → TS := fun a cls d => tRet (tAndV (tCB (rIsW K a cls d (.ref C)) (tCons (tVar i) (tCons (tC (.ref C)) tNil))) (tOp rEq (tXf a cls d C f (tVar i)) (tC (.int n))))
section
variable {X : Cx} {p : Pm} {W : WX} {pos : Pos}
theorem suite_isi {C : Addr} {t x f : Str} {i : Nat} {n : Int} {jn : _} {p1 p2 p3 p4 p5 p6 p7 p8 p9 : Pos} (T : XvAt X.K C) (no : PySem.W.findIn X.K (.ref C) f = some none) (hi : Gl X "isinstance") (hmi : X.mg "isinstance" = none) (hg : Gl X t) (hm : X.mg t = some (.ref C)) (hdb : (t == ("__debug__" : Str)) = false)
    (v1 : X.N[i]? = some x) (v2 : Vis X.env.scope x) (v3 : (x == ("__debug__" : Str)) = false) (v4 : (x == ("__classdict__" : Str)) = false) (ea : Addr) (eo : PySem.Obj) (ec : Value) (ed : Option Addr) (pn : List (Addr × PySem.Obj)) (hz : Zc ec ed eo) (hf : ∃ vs, eo.data = .fields vs) :
    PSs (X.suite ea ((ea, eo) :: pn)) [.Return (some (.BoolOp .And [.Call (.Name "isinstance" p1) [.Name x p2, .Name t p3] [] p4, .Compare (.Attribute (.Name x p5) f p6) [.Eq] [.Constant (.int n) jn p7] p8] p9)) pos] (tIsi X.K i C f n ea ec ed) := by
  have ev : PE (X.suite ea ((ea, eo) :: pn)) (.Name x p2) (tVar i) := pe_var v1 v2 v3 v4
  have ev5 : PE (X.suite ea ((ea, eo) :: pn)) (.Name x p5) (tVar i) := pe_var v1 v2 v3 v4
  have ht : PE (X.suite ea ((ea, eo) :: pn)) (.Name t p3) (tC (.ref C)) := pe_glob (X := X.suite ea ((ea, eo) :: pn)) hg hm rfl hdb
  have hc := pe_callB (p := p1) (pos := p4) (call_isW (X := X) (cv := .ref C) (pn := pn) hz hf) hi hmi (by decide +kernel) (pa_cons ev (pa_cons ht pa_nil))
  have hv := pe_xf (X := X) (pn := pn) (pos := p6) T.xf no hz hf ev5
  have hq : PE (X.suite ea ((ea, eo) :: pn)) (.Compare (.Attribute (.Name x p5) f p6) [.Eq] [.Constant (.int n) jn p7] p8) (tOp rEq (tXf ea ec ed C f (tVar i)) (tC (.int n))) := pe_cmpR op_eq hv pe_int (by rfl)
  exact pss_one (ps_ret (pe_and hc (pe_one hq)))
/-- what the clause makes of an error that is known -/
theorem isi_reads {De : Ends} {ecs : List Nat} {B y : Nat} {l : List (Nat × Bool)} {i : Nat} {n : Int} {c : Nat} (hce : c ∈ ecs) (exm : PySem.W.exmOne X.K (.ref (p.G.cA c)) (.ref (p.G.cA B)) = some true) (T : XvAt X.K (p.G.cA c)) (hl : ∀ b, l.lookup c = some b → PySem.W.kitOne X.K (.ref (p.G.cA c)) (.ref (p.G.cA y)) = some b) {f : Str} (hF : p.G.cF c = f) (hlt : i < p.σ0.length)
    {d : DL.D} {env : DL.Env} (h : Po p W De (match l.lookup c with
      | some true => if c = y then (match d with
        | .int j => .ret ⟨.bl (j == n), .fz⟩ env
        | _ => .bad) else .bad
      | some false => .ret ⟨.bl false, .fz⟩ env
      | none => .bad)) {dd : Addr} {v : V} {Z H : Hp} {σ : L2.St} (R : SRel p Z env σ H) (hd : H dd = some (.xd [(p.G.cF c, v)])) (r : Rep p.G Z v d) :
    wNamed X.K W De [(.ref (p.G.cA B), i, tIsi X.K i (p.G.cA y) f n)] (.ref (p.G.cA c)) (some dd) σ H := by
  refine ⟨true, exm, fun _ a ha => ?_, fun z => by cases z⟩
  have hi : i < σ.length := by rw [R.ln]; exact hlt
  cases q : l.lookup c with
  | none => rw [q] at h; exact h.elim
  | some b =>
    rw [q] at h
    refine ⟨.ref a, List.getElem?_set_self hi, p.G.cA c, dd, _, .ref (p.G.cA y), b, rfl, rfl, rfl, hd, T, fun u z => z, hl b q, b, rfl, ?_⟩
    cases b with
    | false => rw [if_neg Bool.false_ne_true]; exact h (.bl false) Z σ H R (by simp) (Rep.bl _)
    | true =>
      rw [if_pos rfl]
      simp only at h
      split at h
      · rename_i hy
        subst hy
        split at h
        · rename_i j
          cases r
          refine ⟨.ref a, List.getElem?_set_self hi, rfl, rfl, dd, _, .int j, rfl, hd, by rw [hF]; simp [List.lookup], ?_⟩
          refine ⟨rfl, ?_⟩
          have e : decide ((V.int j : V) = V.int n) = (j == n) := by
            by_cases z : j = n
            · subst z; simp
            · have z2 : (V.int j : V) ≠ V.int n := fun w => z (by injection w)
              simp [z, z2]
          rw [e]
          exact h (.bl (j == n)) Z σ H R (by simp) (Rep.bl _)
        · exact h.elim
      · exact h.elim
theorem sndS_tryi {body : List Stmt} {hd : ExceptHandler} {cb : List S} {B y i : Nat} {l : List (Nat × Bool)} {n : Int} {f : Str} {ecs : List Nat} (hst : X.stack = X.env :: X.outer) (hfr : X.env.frame = some X.env.locals) (nd : X.N.Nodup) (tk : Takes X W)
    (exm : ∀ c ∈ ecs, PySem.W.exmOne X.K (.ref (p.G.cA c)) (.ref (p.G.cA B)) = some true) (T : ∀ c ∈ ecs, XvAt X.K (p.G.cA c)) (hl : ∀ c b, l.lookup c = some b → PySem.W.kitOne X.K (.ref (p.G.cA c)) (.ref (p.G.cA y)) = some b) (hF : ∀ c ∈ ecs, p.G.cF c = f) (hlt : i < p.σ0.length)
    (hb : ∀ (W : WX) (pn : List (Addr × PySem.Obj)) (xe : Value → Shared → Prop), Takes (X.tr pn xe) W → PassesOwn (model X.prog X.w) X.A X.env xe → PSs (X.tr pn xe) body (tSs p W cb))
    (hnm : NamedOk X [hd] [(.ref (p.G.cA B), i, tIsi X.K i (p.G.cA y) f n)]) : PS X (.Try body [hd] [] [] pos) (tS p W (.tryi cb ecs y l n)) := by
  refine PS.imp (ps_try_named (tb := fun W => tSs p W cb) hst hfr nd tk hb hnm) fun De σ H ⟨Z, env, R, h⟩ => ⟨Z, env, R, ?_⟩
  simp only [exec] at h
  cases q : execs cb env with
  | next env' => rw [q] at h; exact h
  | ret v env' => rw [q] at h; exact h
  | brk env' => rw [q] at h; exact h
  | cnt env' => rw [q] at h; exact h
  | bad => rw [q] at h; exact h
  | exn c d env' =>
    rw [q] at h
    simp only at h
    split at h
    · rename_i hce
      have hce : c ∈ ecs := by simpa using hce
      exact fun dd v Z σ H R hd r => isi_reads hce (exm c hce) (T c hce) (hl c) (hF c hce) hlt h R hd r
    · exact False.elim h
end
end DL
set_option Elab.async false
set_option linter.all false
set_option autoImplicit false
set_option maxRecDepth 100000
set_option maxHeartbeats 4000000
namespace DL
open PySem PySem.Spec PyProof.Rows L2
/-! statements from the text -/
structure CS where
  T : Tab
  N : List Str
  n : Nat
  sc : Scope
  /-- parameters that are lent boxes: never stored to -/
  io : List Nat
  /-- names that hold a box of this def's own -/
  bx : List Nat
  er : List (Str × (Nat × Str))
mutual
def asgd : S → List Nat
  | .asg i _ | .asgb i _ => [i]
  | .unp is _ => is
  | .par i j _ _ => [i, j]
  | .ifs _ a b => asgds a ++ asgds b
  | .for_ (.one i) _ b _ => i :: asgds b
  | .for_ (.many is) _ b _ => is ++ asgds b
  | .tryw b _ _ => asgds b
  | .tryi b _ _ _ _ => asgds b
  | _ => []
def asgds : List S → List Nat
  | [] => []
  | s :: ss => asgd s ++ asgds ss
end
def cX (P : CS) (e : Expr) : Option E := cE P.T P.N true P.n P.sc e
def cVar (P : CS) (x : Str) : Option Nat := match cName P.T P.N P.sc x with
  | some (.var i) => some i
  | _ => none
def isLocS (sc : Scope) (x : Str) : Bool := sc.names.lookup x == some .local || sc.names.lookup x == some .cell
def cSlot (P : CS) (x : Str) : Option Nat := if isLocS P.sc x then (match P.N.idxOf? x with
  | some i => if P.io.contains i then none else some i
  | none => none) else none
def cNames (P : CS) : List Expr → Option (List Nat)
  | [] => some []
  | .Name x _ :: es => (cSlot P x).bind fun i => (cNames P es).map (i :: ·)
  | _ => none
def cTg (P : CS) : Expr → Option Tg
  | .Name x _ => (cSlot P x).map .one
  | .Tuple es _ _ => (cNames P es).map .many
  | _ => none
def isTu : Expr → Bool
  | .Tuple .. => true
  | _ => false
def cHd (P : CS) : List ExceptHandler → Option (List (Nat × Nat × Str))
  | [] => some []
  | .ExceptHandler (some (.Name x _)) (some n) [.Return (some (.Tuple [.Constant (.str w) _ _, .Attribute (.Name m _) f _] _ _)) _] _ :: hs =>
    if isGl P.sc x && P.sc.names.lookup n == some .local && n == m then
      (match P.er.lookup x, cVar P n with
        | some (c, g), some i => if g == f then (cHd P hs).map ((c, i, w) :: ·) else none
        | _, _ => none)
    else none
  | _ => none
/-- except B as e: return isinstance(e, C) and e.f == i -/
def cHi (P : CS) : List ExceptHandler → Option (Nat × Nat × Nat × List (Nat × Bool) × Int × Str)
  | [.ExceptHandler (some (.Name x _)) (some n) [.Return (some (.BoolOp .And [.Call (.Name is _) [.Name m _, .Name t _] [] _, .Compare (.Attribute (.Name m2 _) f _) [.Eq] [.Constant (.int i) _ _] _] _)) _] _] =>
    if is == "isinstance" && isGl P.sc is && isGl P.sc x && isGl P.sc t && P.sc.names.lookup n == some .local && n == m && n == m2 && P.T.xfl.contains f && (P.er.map (·.2.1)).all P.T.xcs.contains && P.er.all (fun q => q.2.2 == f) then
      match P.T.xbs.lookup x, P.T.xis.lookup t, cVar P n with
        | some B, some (some y, l), some k => if P.T.xcs.contains y then some (B, y, k, l, i, f) else none
        | _, _, _ => none
    else none
  | _ => none
def cSs (f : List Nat → Stmt → Option S) : List Nat → List Stmt → Option (List S)
  | _, [] => some []
  | df, s :: ss => (f df s).bind fun c => (cSs f (asgd c ++ df) ss).map (c :: ·)
def tgI : Tg → List Nat
  | .one i => [i]
  | .many is => is
def isBM : Expr → Bool
  | .Call (.Attribute _ _ _) _ _ _ => true
  | _ => false
/-- an expression alone -/
def cXs (P : CS) : Expr → Option S
  | .Constant (.str _) _ _ => some .pass
  | .Call (.Attribute (.Name x _) m p2) args [] p3 => if p2.endLine == p3.line then (match cVar P x with
      | none => none
      | some i => if m = "append" then (match args with
          | [e] => if isSt e then none else (cX P e).map fun c => .app i c
          | _ => none)
        else if m = "insert" then (match args with
          | [k, e] => if isSt e || isSt k then none else (cX P k).bind fun ck => (cX P e).map fun c => .insr i ck c
          | _ => none)
        else none) else none
  | e => if isCp e then none else (cX P e).map .ex
def cRet (P : CS) : Option Expr → Option S
  | none => some .retN
  | some (.Name x p) => match cVar P x with
    | some i => some (.retv i)
    | none => (cX P (.Name x p)).map .ret
  | some e => (cX P e).map .ret
def cRaise (P : CS) : Option Expr → Option Expr → Option S
  | some (.Call (.Name x _) [e] [] _), none => if isSt e || !isGl P.sc x then none else (match P.er.lookup x with
      | some (c, _) => (cX P e).map fun ce => .raise c ce
      | none => none)
  | _, _ => none
def parOk (sc : Scope) (x y : Str) (px py : Pos) (a b : Expr) : Bool :=
  sc.names.lookup x == some .local && sc.names.lookup y == some .local && py.line == px.line && !(x == y) && !isSt a && !isSt b && !([a, b].all (foldedForSure 8)) && !([a, b].all (constantsAlone 8))
def cAsg (P : CS) : List Expr → Expr → Option S
  | [.Tuple [.Name x px, .Name y py] _ _], .Tuple [a, b] _ _ => if parOk P.sc x y px py a b then (cSlot P x).bind fun i => (cSlot P y).bind fun j => (cX P a).bind fun ca => (cX P b).map fun cb => .par i j ca cb else none
  | [.Name x _], e => (cSlot P x).bind fun i => (cX P e).map fun c => if P.bx.contains i then .asgb i c else .asg i c
  | [.Tuple es _ _], e => if isTu e || isCp e then none else (cNames P es).bind fun is => (cX P e).map fun c => .unp is c
  | [.Attribute (.Name x _) f _], e => if isCp e || !P.T.fl.contains f then none else (cVar P x).bind fun i => (cX P e).map fun c => .setf P.T.cls i f c
  | [.Subscript (.Name x _) (.Constant (.int (.ofNat k)) _ _) _], e => if isCp e then none else (cVar P x).bind fun i => (cX P e).map fun c => .setc i k c
  | _, _ => none
/-- enumerate(e), into a pair of names -/
def asEnum (P : CS) (tg : Expr) : Expr → Option Expr
  | .Call (.Name r _) [e] [] _ => if r = "enumerate" ∧ isGl P.sc r = true ∧ isTu tg = true ∧ isSt e = false then some e else none
  | _ => none
def cFor (P : CS) (tg iter : Expr) : Option It := match asEnum P tg iter with
  | some e => (cX P e).map .enm
  | none => match cIt (cX P) P.sc iter with
    | some (.inl c) => some (.seq c)
    | some (.inr (l, h)) => some (.rng l h)
    | none => none
def cS (P : CS) : Nat → List Nat → Stmt → Option S
  | 0, _, _ => none
  | n + 1, df, st => match st with
    | .Assign ts e _ => cAsg P ts e
    | .Expr e _ => cXs P e
    | .Return o _ => cRet P o
    | .Pass _ => some .pass
    | .Break _ => some .brk
    | .Continue _ => some .cnt
    | .Raise a b _ => cRaise P a b
    | .If c a b _ => if tOk c then (cX P c).bind fun x => (cSs (cS P n) df a).bind fun ca => (cSs (cS P n) df b).map fun cb => .ifs x ca cb else none
    | .For tg iter body [] _ => (cTg P tg).bind fun g => (cFor P tg iter).bind fun it => (cSs (cS P n) (tgI g ++ df) body).map fun cb => .for_ g it cb ((tgI g ++ asgds cb).filter fun i => !df.contains i)
    | .Try body (h :: hs) [] [] _ => (cSs (cS P n) df body).bind fun cb => match cHd P (h :: hs) with
      | some l => some (.tryw cb (P.er.map (·.2.1)) (hdWords l))
      | none => (cHi P (h :: hs)).map fun q => .tryi cb (P.er.map (·.2.1)) q.2.1 q.2.2.2.1 q.2.2.2.2.1
    | _ => none
/-! .. sound -/
structure CtxS (X : Cx) (p : Pm) (W : WX) (P : CS) (k : Nat) : Prop where
  F : CtxF X p.G P.T k true
  hN : X.N = P.N
  hs : X.env.scope = P.sc
  kind : P.sc.kind = .function
  tk : Takes X W
  po : PassesOwn (model X.prog X.w) X.A X.env X.xe
  fn : ∀ y, X.fn y = true
  stk : X.stack = X.env :: X.outer
  fr : X.env.frame = some X.env.locals
  S : ∀ a ∈ p.S, ∃ o, p.H0 a = some o
  len : P.N.length = p.σ0.length
  io : ∀ i, i ∈ p.io → i ∈ P.io
  er : ∀ x c f, P.er.lookup x = some (c, f) → p.G.cF c = f ∧ ∃ k', Room (k' + 1) X.A ∧ ErrAt X p.G k' c x
  exm : ∀ x c f h, P.er.lookup x = some (h, f) → c ∈ P.er.map (·.2.1) → PySem.W.exmOne X.K (.ref (p.G.cA c)) (.ref (p.G.cA h)) = some (c == h)
  cf : ∀ x c f, (x, (c, f)) ∈ P.er → p.G.cF c = f
  xbs : ∀ x B, P.T.xbs.lookup x = some B → X.mg x = some (.ref (p.G.cA B)) ∧ (x == ("__debug__" : Str)) = false ∧ ∀ c ∈ P.er.map (·.2.1), PySem.W.exmOne X.K (.ref (p.G.cA c)) (.ref (p.G.cA B)) = some true
section
variable {X : Cx} {p : Pm} {W : WX} {P : CS} {k : Nat}
theorem CtxS.base (C : CtxS X p W P k) (Zb : Hp) : CtxS X { p with Zb := Zb } W P k := ⟨C.F, C.hN, C.hs, C.kind, C.tk, C.po, C.fn, C.stk, C.fr, C.S, C.len, C.io, C.er, C.exm, C.cf, C.xbs⟩
theorem CtxF.tr {G : Gc} {T : Tab} {k : Nat} {calm : Bool} (F : CtxF X G T k calm) (pn : List (Addr × PySem.Obj)) (xe : Value → Shared → Prop) : CtxF (X.tr pn xe) G T k calm :=
  ⟨⟨F.c.K, F.c.nd, F.c.un⟩, F.room, F.hc, fun hc i hi => ⟨(F.fns hc i hi).ex, (F.fns hc i hi).db⟩, F.cst, F.blt, F.cls, F.own, fun hc x c i h => let ⟨k', r, t⟩ := F.mks hc x c i h; ⟨k', r, ⟨t.ex, t.mg, t.db, t.ms⟩⟩, fun hc c i h => let t := F.eqs hc c i h; ⟨t.ex, t.ms, t.nb, t.no⟩, fun hc x c f h => let ⟨e, k', r, t⟩ := F.xmk hc x c f h; ⟨e, k', r, ⟨t.ox, t.xf, t.no, t.ini, t.mg, t.db⟩⟩, F.xcs, F.xfl, F.xis⟩
theorem ErrAt.tr {G : Gc} {k c : Nat} {x : Str} (T : ErrAt X G k c x) (pn : List (Addr × PySem.Obj)) (xe : Value → Shared → Prop) : ErrAt (X.tr pn xe) G k c x := ⟨T.ox, T.xf, T.no, T.ini, T.mg, T.db⟩
theorem CtxS.tr (C : CtxS X p W P k) {W' : WX} {pn : List (Addr × PySem.Obj)} {xe : Value → Shared → Prop} (tk : Takes (X.tr pn xe) W') (po : PassesOwn (model X.prog X.w) X.A X.env xe) : CtxS (X.tr pn xe) p W' P k :=
  ⟨C.F.tr pn xe, C.hN, C.hs, C.kind, tk, po, C.fn, C.stk, C.fr, C.S, C.len, C.io, fun x c f h => let ⟨e, k', r, t⟩ := C.er x c f h; ⟨e, k', r, t.tr pn xe⟩, C.exm, C.cf, C.xbs⟩
theorem CtxS.x (C : CtxS X p W P k) {e : Expr} {c : E} (h : cX P e = some c) : Snd X p.G W e c := snd_all P.n C.F C.hN C.hs C.kind C.tk h
theorem CtxS.gl (C : CtxS X p W P k) {x : Str} (h : isGl P.sc x = true) : Gl X x := by
  show X.env.scope.names.lookup x = _
  rw [C.hs]
  unfold isGl at h
  simpa using h
theorem CtxS.var (C : CtxS X p W P k) {x : Str} {i : Nat} (h : cVar P x = some i) : X.N[i]? = some x ∧ Vis X.env.scope x ∧ (x == ("__debug__" : Str)) = false ∧ (x == ("__classdict__" : Str)) = false := by
  unfold cVar at h
  split at h
  · rename_i j hi
    cases h
    unfold cName at hi
    split at hi
    · cases hi
    · rename_i hx
      rw [Bool.or_eq_true, not_or] at hx
      have hd : (x == ("__debug__" : Str)) = false := by simpa using hx.1
      have hcd : (x == ("__classdict__" : Str)) = false := by simpa using hx.2
      have go : Vis X.env.scope x → (P.N.idxOf? x).map E.var = some (.var i) → X.N[i]? = some x ∧ Vis X.env.scope x ∧ (x == ("__debug__" : Str)) = false ∧ (x == ("__classdict__" : Str)) = false := fun hv h => by
        cases q : P.N.idxOf? x with
        | none => rw [q] at h; cases h
        | some j =>
          rw [q] at h
          cases h
          exact ⟨by rw [C.hN]; exact idx_get q, hv, hd, hcd⟩
      split at hi
      · rename_i e; exact go (.inl (by rw [C.hs]; exact e)) hi
      · rename_i e; exact go (.inr (.inl (by rw [C.hs]; exact e))) hi
      · rename_i e; exact go (.inr (.inr (by rw [C.hs]; exact e))) hi
      · cases q : P.T.cst.lookup x with
        | none => rw [q] at hi; cases hi
        | some d => rw [q] at hi; cases hi
      · cases hi
  · cases h
theorem CtxS.slot (C : CtxS X p W P k) {x : Str} {i : Nat} (h : cSlot P x = some i) : X.N[i]? = some x ∧ L2.Loc X.env.scope x ∧ i ∉ p.io := by
  unfold cSlot at h
  split at h
  · rename_i hl
    split at h
    · rename_i j hj
      split at h
      · cases h
      · rename_i hc
        cases h
        refine ⟨by rw [C.hN]; exact idx_get hj, ?_, fun z => hc (by simpa using C.io _ z)⟩
        unfold isLocS at hl
        unfold L2.Loc
        rw [C.hs]
        simpa using hl
    · cases h
  · cases h
theorem CtxS.pgName (C : CtxS X p W P k) {x : Str} {i : Nat} {pos : Pos} (h : cSlot P x = some i) : PG X (.Name x pos) (gName i) := let ⟨h1, h2, _⟩ := C.slot h; pg_name C.F.c.nd h1 h2 (.inl (C.fn x))
theorem CtxS.names (C : CtxS X p W P k) : ∀ {es : List Expr} {is : List Nat}, cNames P es = some is → PGs X es (gNames is) ∧ (assignEach es X.env).length = is.length ∧ (assignEach es X.env).findIdx? (·.1) = none ∧ ∀ i ∈ is, i ∉ p.io
  | [], is, h => by
    simp only [cNames] at h
    cases h
    exact ⟨pgs_nil, rfl, rfl, by simp⟩
  | e :: es, is, h => by
    cases e with
    | Name x pos =>
      simp only [cNames] at h
      cases q : cSlot P x with
      | none => rw [q] at h; cases h
      | some i =>
        cases q2 : cNames P es with
        | none => simp only [q, q2, Option.bind, Option.map] at h; cases h
        | some js =>
          simp only [q, q2, Option.bind, Option.map] at h
          cases h
          obtain ⟨h1, h2, h3, h4⟩ := C.names q2
          refine ⟨pgs_cons (C.pgName q) h1, ?_, ?_, fun j hj => ?_⟩
          · show (assignEach es X.env).length + 1 = _
            rw [h2]; rfl
          · show ((false, assign (.Name x pos) X.env) :: assignEach es X.env).findIdx? (·.1) = none
            rw [List.findIdx?_cons, h3]; rfl
          · rcases List.mem_cons.mp hj with rfl | hj
            · exact (C.slot q).2.2
            · exact h4 j hj
    | _ => simp only [cNames] at h; cases h
theorem CtxS.tg (C : CtxS X p W P k) {e : Expr} {g : Tg} (h : cTg P e = some g) : PG X e (gT X.K g) ∧ tgOk p.io g := by
  cases e with
  | Name x pos =>
    simp only [cTg] at h
    cases q : cSlot P x with
    | none => rw [q] at h; cases h
    | some i => rw [q] at h; cases h; exact ⟨C.pgName q, (C.slot q).2.2⟩
  | Tuple es j pos =>
    simp only [cTg] at h
    cases q : cNames P es with
    | none => rw [q] at h; cases h
    | some is =>
      rw [q] at h; cases h
      obtain ⟨h1, h2, h3, h4⟩ := C.names q
      exact ⟨pg_tup (C.F.hc rfl) h1 h2 h3, h4⟩
  | _ => simp only [cTg] at h; cases h
theorem cAsg_ok (C : CtxS X p W P k) {ts : List Expr} {e : Expr} {c : S} {pos : Pos} (h : cAsg P ts e = some c) : PS X (.Assign ts e pos) (tS p W c) := by
  unfold cAsg at h
  split at h
  · rename_i x px y py kt pt a b k2 p2
    split at h
    · rename_i hp
      unfold parOk at hp
      simp only [Bool.and_eq_true, Bool.not_eq_true', beq_iff_eq] at hp
      obtain ⟨⟨⟨⟨⟨⟨⟨hx, hy⟩, hl⟩, hne⟩, hsa⟩, hsb⟩, hfd⟩, hcs⟩ := hp
      cases q : cSlot P x with
      | none => rw [q] at h; cases h
      | some i =>
        cases q1 : cSlot P y with
        | none => simp only [q, q1, Option.bind] at h; cases h
        | some j =>
          cases q2 : cX P a with
          | none => simp only [q, q1, q2, Option.bind] at h; cases h
          | some ca =>
            cases q3 : cX P b with
            | none => simp only [q, q1, q2, q3, Option.bind, Option.map] at h; cases h
            | some cb =>
              simp only [q, q1, q2, q3, Option.bind, Option.map] at h
              cases h
              obtain ⟨h1, h2, h3⟩ := C.slot q
              obtain ⟨g1, g2, g3⟩ := C.slot q1
              have hx' : X.env.scope.names.lookup x = some .local := by rw [C.hs]; exact hx
              have hy' : X.env.scope.names.lookup y = some .local := by rw [C.hs]; exact hy
              have hk : X.env.blockKind = .function := by
                unfold PySem.Env.blockKind
                rw [C.hs, C.kind]; rfl
              refine sndS_par (C.F.hc rfl) C.F.c.nd h1 g1 (fun z => ?_) h3 g3 hx' hy' (C.x q2).e (C.x q3).e hsa hsb (swapped_ok hk hx' hy' (by rw [hl]; exact beq_self_eq_true _) hne hsa hsb hfd hcs)
              subst z
              rw [h1] at g1
              cases g1
              simp at hne
    · cases h
  · rename_i x px
    cases q : cSlot P x with
    | none => rw [q] at h; cases h
    | some i =>
      cases q2 : cX P e with
      | none => simp only [q, q2, Option.bind, Option.map] at h; cases h
      | some ce =>
        simp only [q, q2, Option.bind, Option.map] at h
        cases h
        obtain ⟨h1, h2, h3⟩ := C.slot q
        have := (C.x q2).a i x px pos h1 h2 (.inl (C.fn x))
        split
        · exact sndS_asgb h3 this
        · exact sndS_asg h3 this
  · rename_i es j pt hno
    split at h
    · cases h
    · rename_i hc
      rw [Bool.or_eq_true, not_or] at hc
      have hc1 : isTu e = false := by simpa using hc.1
      have hc2 : isCp e = false := by simpa using hc.2
      cases q : cNames P es with
      | none => rw [q] at h; cases h
      | some is =>
        cases q2 : cX P e with
        | none => simp only [q, q2, Option.bind, Option.map] at h; cases h
        | some ce =>
          simp only [q, q2, Option.bind, Option.map] at h
          cases h
          obtain ⟨h1, h2, h3, h4⟩ := C.names q
          exact sndS_unp C.F.c.K h4 (C.x q2).e (pg_tup (C.F.hc rfl) h1 h2 h3) (by simp only [swapsWithSole]; exact swaps_plain hc2 _ _ _) (by cases e <;> first | rfl | cases hc1) rfl
  · rename_i x px f ps
    split at h
    · cases h
    · rename_i hc
      rw [Bool.or_eq_true, not_or] at hc
      have hc2 : isCp e = false := by simpa using hc.1
      have hf : f ∈ P.T.fl := by simpa using hc.2
      cases q : cVar P x with
      | none => rw [q] at h; cases h
      | some i =>
        cases q2 : cX P e with
        | none => simp only [q, q2, Option.bind, Option.map] at h; cases h
        | some ce =>
          simp only [q, q2, Option.bind, Option.map] at h
          cases h
          obtain ⟨h1, h2, h3, h4⟩ := C.var q
          exact sndS_setf C.F.c.K C.F.cls hf h1 h2 h3 h4 (C.x q2).e hc2
  · rename_i x px k' j pk ps
    split at h
    · cases h
    · rename_i hc
      have hc2 : isCp e = false := by simpa using hc
      cases q : cVar P x with
      | none => rw [q] at h; cases h
      | some i =>
        cases q2 : cX P e with
        | none => simp only [q, q2, Option.bind, Option.map] at h; cases h
        | some ce =>
          simp only [q, q2, Option.bind, Option.map] at h
          cases h
          obtain ⟨h1, h2, h3, h4⟩ := C.var q
          exact sndS_setc h1 h2 h3 h4 (C.x q2).e (.inr pe_int) hc2
  · cases h
theorem cXs_ok (C : CtxS X p W P k) {e : Expr} {c : S} {pos : Pos} (h : cXs P e = some c) : PS X (.Expr e pos) (tS p W c) := by
  unfold cXs at h
  split at h
  · cases h; exact sndS_doc
  · rename_i x px m p2 args p3
    split at h
    · rename_i hl
      split at h
      · cases h
      · rename_i i hi
        obtain ⟨h1, h2, h3, h4⟩ := C.var hi
        split at h
        · rename_i hm
          subst hm
          split at h
          · rename_i e
            split at h
            · cases h
            · rename_i hst
              have hst : isSt e = false := by simpa using hst
              cases q : cX P e with
              | none => rw [q] at h; cases h
              | some ce => rw [q] at h; cases h; exact sndS_app h1 h2 h3 h4 (C.x q).e hst hl
          · cases h
        · split at h
          · rename_i hm
            subst hm
            split at h
            · rename_i k' e
              split at h
              · cases h
              · rename_i hst
                rw [Bool.or_eq_true, not_or] at hst
                have hs1 : isSt e = false := by simpa using hst.1
                have hs2 : isSt k' = false := by simpa using hst.2
                cases q : cX P k' with
                | none => rw [q] at h; cases h
                | some ck =>
                  cases q2 : cX P e with
                  | none => simp only [q, q2, Option.bind, Option.map] at h; cases h
                  | some ce =>
                    simp only [q, q2, Option.bind, Option.map] at h
                    cases h
                    exact sndS_insr h1 h2 h3 h4 (C.x q).e (C.x q2).e hs2 hs1 hl
            · cases h
          · cases h
    · cases h
  · split at h
    · cases h
    · rename_i hc
      have hc2 : isCp e = false := by simpa using hc
      cases q : cX P e with
      | none => rw [q] at h; cases h
      | some ce => rw [q] at h; cases h; exact sndS_ex (C.x q).e (swaps_plain hc2 _ _ _)
theorem cRet_ok (C : CtxS X p W P k) {o : Option Expr} {c : S} {pos : Pos} (h : cRet P o = some c) : PS X (.Return o pos) (tS p W c) := by
  unfold cRet at h
  split at h
  · cases h; exact sndS_retN
  · rename_i x px
    split at h
    · rename_i i hi
      cases h
      obtain ⟨h1, h2, h3, h4⟩ := C.var hi
      exact sndS_retv C.S h1 h2 h3 h4
    · cases q : cX P (.Name x px) with
      | none => rw [q] at h; cases h
      | some ce => rw [q] at h; cases h; exact sndS_ret C.S (C.x q).e
  · rename_i e _
    cases q : cX P e with
    | none => rw [q] at h; cases h
    | some ce => rw [q] at h; cases h; exact sndS_ret C.S (C.x q).e
theorem cRaise_ok (C : CtxS X p W P k) {a b : Option Expr} {c : S} {pos : Pos} (h : cRaise P a b = some c) : PS X (.Raise a b pos) (tS p W c) := by
  unfold cRaise at h
  split at h
  · rename_i x px e p2
    split at h
    · cases h
    · rename_i hc
      rw [Bool.or_eq_true, not_or] at hc
      have hst : isSt e = false := by simpa using hc.1
      have hg : isGl P.sc x = true := by simpa using hc.2
      split at h
      · rename_i c' f hl
        cases q : cX P e with
        | none => rw [q] at h; cases h
        | some ce =>
          rw [q] at h
          cases h
          obtain ⟨_, k', r, t⟩ := C.er _ _ _ hl
          exact sndS_raise t r (C.F.hc rfl) C.tk (C.gl hg) (C.x q).e hst
      · cases h
  · cases h
theorem cHd_ok (C : CtxS X p W P k) : ∀ {hs : List ExceptHandler} {l : List (Nat × Nat × Str)}, cHd P hs = some l → NamedOk X hs (clauses p.G l) ∧ (∀ c h, c ∈ P.er.map (·.2.1) → (∃ i w, (h, i, w) ∈ l) → PySem.W.exmOne X.K (.ref (p.G.cA c)) (.ref (p.G.cA h)) = some (c == h)) ∧ ∀ h i w, (h, i, w) ∈ l → i < p.σ0.length
  | [], l, h => by
    simp only [cHd] at h
    cases h
    exact ⟨.nil, (fun _ _ _ ⟨_, _, z⟩ => by cases z), fun _ _ _ z => by cases z⟩
  | hd :: hs, l, h => by
    unfold cHd at h
    split at h
    · rename_i z; cases z
    · rename_i x px n w jw pw m pm f pf jt pt pr ph hs' heq
      cases heq
      split at h
      · rename_i hc
        rw [Bool.and_eq_true, Bool.and_eq_true] at hc
        obtain ⟨⟨hg, hn⟩, hnm⟩ := hc
        have hnm : n = m := by simpa using hnm
        subst hnm
        split at h
        · rename_i c g i hl hv
          split at h
          · rename_i hgf
            have hgf : g = f := by simpa using hgf
            subst hgf
            cases q : cHd P hs with
            | none => rw [q] at h; cases h
            | some l' =>
              rw [q] at h
              cases h
              obtain ⟨h1, h2, h3⟩ := cHd_ok C q
              obtain ⟨v1, v2, v3, v4⟩ := C.var hv
              obtain ⟨ef, k', r, t⟩ := C.er _ _ _ hl
              refine ⟨.cons ⟨C.gl hg, t.db, .inl t.mg⟩ v1 (by show X.env.scope.names.lookup n = _; rw [C.hs]; simpa using hn) (fun ea eo ec ed pn hz hf => ?_) h1, fun c' h hc' ⟨i', w', hm⟩ => ?_, fun h i' w' hm => ?_⟩
              · refine pss_one (ps_ret (pe_tup (pa_cons pe_str (pa_cons ?_ pa_nil))))
                rw [ef]
                exact pe_xf t.xf (ef ▸ t.no) hz hf (pe_var v1 v2 v3 v4)
              · rcases List.mem_cons.mp hm with e | hm
                · cases e; exact C.exm x c' _ _ hl hc'
                · exact h2 c' h hc' ⟨i', w', hm⟩
              · rcases List.mem_cons.mp hm with e | hm
                · cases e
                  have := (List.getElem?_eq_some_iff.mp v1).1
                  rw [← C.len, ← C.hN]; exact this
                · exact h3 h i' w' hm
          · cases h
        · cases h
      · cases h
    · cases h
theorem cHi_ok (C : CtxS X p W P k) {h₀ : ExceptHandler} {hs : List ExceptHandler} {u : Nat × Nat × Nat × List (Nat × Bool) × Int × Str} {body : List Stmt} {cb : List S} {pos : Pos} (h : cHi P (h₀ :: hs) = some u)
    (hb : ∀ (W : WX) (pn : List (Addr × PySem.Obj)) (xe : Value → Shared → Prop), Takes (X.tr pn xe) W → PassesOwn (model X.prog X.w) X.A X.env xe → PSs (X.tr pn xe) body (tSs p W cb)) :
    PS X (.Try body (h₀ :: hs) [] [] pos) (tS p W (.tryi cb (P.er.map (·.2.1)) u.2.1 u.2.2.2.1 u.2.2.2.2.1)) := by
  unfold cHi at h
  split at h
  · rename_i x px n is pi m pm t pt p1 m2 pm2 f p2 i ji pc p3 p4 p5 p6 heq
    cases heq
    split at h
    · rename_i hc
      simp only [Bool.and_eq_true, beq_iff_eq, List.all_eq_true] at hc
      obtain ⟨⟨⟨⟨⟨⟨⟨⟨⟨his, gis⟩, gx⟩, gt⟩, hn⟩, hm⟩, hm2⟩, hfl⟩, hxc⟩, hfe⟩ := hc
      subst his hm hm2
      split at h
      · rename_i B y l kk q1 q2 q3
        split at h
        · rename_i hy
          cases h
          have hy : y ∈ P.T.xcs := by simpa using hy
          have hfl : f ∈ P.T.xfl := by simpa using hfl
          obtain ⟨v1, v2, v3, v4⟩ := C.var q3
          obtain ⟨b1, b2, b3⟩ := C.xbs x B q1
          obtain ⟨o1, o2, o3⟩ := C.F.xis t (some y) l q2
          have lt : kk < p.σ0.length := by
            have := (List.getElem?_eq_some_iff.mp v1).1
            rw [← C.len, ← C.hN]; exact this
          refine sndS_tryi (f := f) (B := B) (i := kk) C.stk C.fr C.F.c.nd C.tk b3 (fun c hc => C.F.xcs c (by simpa using hxc c hc)) o1 (fun c hc => ?_) lt hb ?_
          · obtain ⟨⟨x', c', f'⟩, hm', e⟩ := List.mem_map.mp hc
            subst e
            have e1 := hfe _ hm'
            rw [C.cf x' c' f' hm']
            exact e1
          · exact .cons ⟨C.gl gx, b2, .inl b1⟩ v1 (by show X.env.scope.names.lookup n = _; rw [C.hs]; exact hn) (fun ea eo ec ed pn hz hf => suite_isi (C.F.xcs y hy) (C.F.xfl y hy f hfl) (C.gl gis) (C.F.blt _ (.inr (.inr (.inl rfl)))) (C.gl gt) o2 o3 v1 v2 v3 v4 ea eo ec ed pn hz hf) .nil
        · cases h
      · cases h
    · cases h
  · cases h
theorem cSs_ok {f : List Nat → Stmt → Option S} (hf : ∀ df st c, f df st = some c → PS X st (tS p W c)) : ∀ {df : List Nat} {sts : List Stmt} {cs : List S}, cSs f df sts = some cs → PSs X sts (tSs p W cs)
  | _, [], cs, h => by
    simp only [cSs] at h
    cases h
    exact sndSs_nil
  | df, st :: sts, cs, h => by
    simp only [cSs] at h
    cases q : f df st with
    | none => rw [q] at h; cases h
    | some c =>
      rw [q] at h
      simp only [Option.bind] at h
      cases q2 : cSs f (asgd c ++ df) sts with
      | none => rw [q2] at h; cases h
      | some cs' =>
        rw [q2] at h
        cases h
        exact sndSs_cons (hf _ _ _ q) (cSs_ok hf q2)
end
theorem cFor_ok {X : Cx} {p : Pm} {W : WX} {P : CS} {k : Nat} (C : CtxS X p W P k) {tg iter : Expr} {body : List Stmt} {g : Tg} {it : It} {cb : List S} {fg : List Nat} {pos : Pos} (hg : cTg P tg = some g) (h : cFor P tg iter = some it) (hb : ∀ Zb, PSs X body (tSs { p with Zb := Zb } W cb)) : PS X (.For tg iter body [] pos) (tS p W (.for_ g it cb fg)) := by
  obtain ⟨g1, g2⟩ := C.tg hg
  have seq : ∀ {iter : Expr} {ci : E}, isSet iter = false → cX P iter = some ci → PS X (.For tg iter body [] pos) (tS p W (.for_ g (.seq ci) cb fg)) := fun {iter ci} hns q =>
    sndS_for C.F.c.K g2 C.po (C.F.hc rfl) (C.x q).e g1 hb (fun x => by cases iter <;> first | rfl | cases hns)
  have hmr : X.mg "range" = none := C.F.blt _ (.inr (.inr (.inr (.inl rfl))))
  unfold cFor at h
  split at h
  · rename_i e he
    unfold asEnum at he
    split at he
    · rename_i r px e' p2
      split at he
      · rename_i hc
        obtain ⟨rfl, hgr, htu, hst⟩ := hc
        cases he
        cases q : cX P e with
        | none => rw [q] at h; cases h
        | some c =>
          rw [q] at h
          cases h
          cases tg <;> first | (cases htu; done) | skip
          exact sndS_fore C.F.c.K g2 C.po (C.F.hc rfl) (C.gl hgr) (C.F.blt _ (.inr (.inr (.inr (.inr rfl))))) (C.x q).e hst g1 hb
      · cases he
    · cases he
  rename_i hne0
  clear hne0
  split at h
  · rename_i c q3
    cases h
    unfold cIt at q3
    split at q3
    · rename_i r px hi' pr
      split at q3
      · split at q3
        · cases q3
        · cases q4 : cX P hi' with
          | none => rw [q4] at q3; cases q3
          | some ch => rw [q4] at q3; cases q3
      · cases q4 : cX P (.Call (.Name r px) [hi'] [] pr) with
        | none => rw [q4] at q3; cases q3
        | some ci => rw [q4] at q3; cases q3; exact seq rfl q4
    · rename_i r px lo' hi' pr
      split at q3
      · split at q3
        · cases q3
        · cases q5 : cX P lo' with
          | none => simp only [q5, Option.bind] at q3; cases q3
          | some cl' =>
            cases q4 : cX P hi' with
            | none => simp only [q4, q5, Option.bind, Option.map] at q3; cases q3
            | some ch => simp only [q4, q5, Option.bind, Option.map] at q3; cases q3
      · cases q4 : cX P (.Call (.Name r px) [lo', hi'] [] pr) with
        | none => rw [q4] at q3; cases q3
        | some ci => rw [q4] at q3; cases q3; exact seq rfl q4
    · split at q3
      · cases q3
      · rename_i hns
        cases q4 : cX P iter with
        | none => rw [q4] at q3; cases q3
        | some ci => rw [q4] at q3; cases q3; exact seq (by simpa using hns) q4
  · rename_i l hh q3
    cases h
    unfold cIt at q3
    split at q3
    · rename_i r px hi' pr
      split at q3
      · rename_i hr
        obtain ⟨rfl, hgr⟩ := hr
        split at q3
        · cases q3
        · rename_i hst
          have hst : isSt hi' = false := by simpa using hst
          cases q4 : cX P hi' with
          | none => rw [q4] at q3; cases q3
          | some ch =>
            rw [q4] at q3
            cases q3
            exact sndS_forr1 C.F.c.K g2 C.po (C.F.hc rfl) (C.gl hgr) hmr (C.x q4).e hst g1 hb
      · cases q4 : cX P (.Call (.Name r px) [hi'] [] pr) with
        | none => rw [q4] at q3; cases q3
        | some ci => rw [q4] at q3; cases q3
    · rename_i r px lo' hi' pr
      split at q3
      · rename_i hr
        obtain ⟨rfl, hgr⟩ := hr
        split at q3
        · cases q3
        · rename_i hst
          rw [Bool.or_eq_true, not_or] at hst
          have hst1 : isSt hi' = false := by simpa using hst.1
          have hst2 : isSt lo' = false := by simpa using hst.2
          cases q5 : cX P lo' with
          | none => simp only [q5, Option.bind] at q3; cases q3
          | some cl' =>
            cases q4 : cX P hi' with
            | none => simp only [q4, q5, Option.bind, Option.map] at q3; cases q3
            | some ch =>
              simp only [q4, q5, Option.bind, Option.map] at q3
              cases q3
              exact sndS_forr2 C.F.c.K g2 C.po (C.F.hc rfl) (C.gl hgr) hmr (C.x q5).e (C.x q4).e hst2 hst1 g1 hb
      · cases q4 : cX P (.Call (.Name r px) [lo', hi'] [] pr) with
        | none => rw [q4] at q3; cases q3
        | some ci => rw [q4] at q3; cases q3
    · split at q3
      · cases q3
      · cases q4 : cX P iter with
        | none => rw [q4] at q3; cases q3
        | some ci => rw [q4] at q3; cases q3
  · cases h
/-- THE RULE for statements -/
theorem sndS_all {P : CS} : ∀ (n : Nat) {X : Cx} {p : Pm} {W : WX} {k : Nat} {df : List Nat} {st : Stmt} {c : S}, CtxS X p W P k → cS P n df st = some c → PS X st (tS p W c)
  | 0, _, _, _, _, _, _, _, _, h => by simp only [cS] at h; cases h
  | n + 1, X, p, W, k, df, st, c, C, h => by
    have ih : ∀ {X : Cx} {p : Pm} {W : WX}, CtxS X p W P k → ∀ df st c, cS P n df st = some c → PS X st (tS p W c) := fun C df st c h => sndS_all n C h
    simp only [cS] at h
    split at h
    · exact cAsg_ok C h
    · exact cXs_ok C h
    · exact cRet_ok C h
    · cases h; exact sndS_pass
    · cases h; exact sndS_brk
    · cases h; exact sndS_cnt
    · exact cRaise_ok C h
    · rename_i e a b pos
      split at h
      · rename_i ht
        cases q : cX P e with
        | none => rw [q] at h; cases h
        | some x =>
          cases q2 : cSs (cS P n) df a with
          | none => simp only [q, q2, Option.bind] at h; cases h
          | some ca =>
            cases q3 : cSs (cS P n) df b with
            | none => simp only [q, q2, q3, Option.bind, Option.map] at h; cases h
            | some cb =>
              simp only [q, q2, q3, Option.bind, Option.map] at h
              cases h
              exact sndS_if ((C.x q).t ht) (cSs_ok (ih C) q2) (cSs_ok (ih C) q3)
      · cases h
    · rename_i tg iter body pos
      cases q : cTg P tg with
      | none => rw [q] at h; cases h
      | some g =>
        cases q2 : cFor P tg iter with
        | none => simp only [q, q2, Option.bind] at h; cases h
        | some it =>
          cases q3 : cSs (cS P n) (tgI g ++ df) body with
          | none => simp only [q, q2, q3, Option.bind, Option.map] at h; cases h
          | some cb =>
            simp only [q, q2, q3, Option.bind, Option.map] at h
            cases h
            exact cFor_ok C q q2 fun Zb => cSs_ok (ih (C.base Zb)) q3
    · rename_i body h₀ hs pos
      cases q : cSs (cS P n) df body with
      | none => rw [q] at h; cases h
      | some cb =>
        simp only [q, Option.bind] at h
        cases q2 : cHd P (h₀ :: hs) with
        | none =>
          rw [q2] at h
          cases q3 : cHi P (h₀ :: hs) with
          | none => simp only [q3, Option.map] at h; cases h
          | some u =>
            simp only [q3, Option.map] at h
            cases h
            exact cHi_ok C q3 fun W pn xe tk po => cSs_ok (ih (C.tr tk po)) q
        | some l =>
          rw [q2] at h
          cases h
          obtain ⟨h1, h2, h3⟩ := cHd_ok C q2
          exact sndS_tryw C.stk C.fr C.F.c.nd C.tk C.S h2 h3 (fun W pn xe tk po => cSs_ok (ih (C.tr tk po)) q) h1
    · cases h
theorem sndSs_all {P : CS} {n : Nat} {X : Cx} {p : Pm} {W : WX} {k : Nat} {df : List Nat} {sts : List Stmt} {cs : List S} (C : CtxS X p W P k) (h : cSs (cS P n) df sts = some cs) : PSs X sts (tSs p W cs) := cSs_ok (fun df st c h => sndS_all n C h) h
end DL
set_option Elab.async false
set_option linter.all false
set_option autoImplicit false
set_option maxRecDepth 100000
set_option maxHeartbeats 2000000
namespace DL
open PySem PySem.Spec PyProof.Rows L2
/-! a def: what it makes of data -/
def envOf : List Md → List D → Nat → DL.Env
  | .v :: ms, d :: ds, n => .val d :: envOf ms ds n
  | .io :: ms, d :: ds, n => .box d :: envOf ms ds n
  | _, _, n => List.replicate n .un
def ioS : List Md → Nat → List Nat
  | [], _ => []
  | .v :: ms, i => ioS ms (i + 1)
  | .io :: ms, i => i :: ioS ms (i + 1)
def outsD : List Nat → DL.Env → Option (List D)
  | [], _ => some []
  | i :: is, env => match env[i]? with
    | some (.box d) => (outsD is env).map (d :: ·)
    | _ => none
def withO (o : Option (List D)) (f : List D → FR) : FR := match o with
  | some l => f l
  | none => .bad
def toFR (io : List Nat) : SR → FR
  | .next env => withO (outsD io env) fun o => .ok .non .fz o
  | .ret x env => withO (outsD io env) fun o => .ok x.d x.k o
  | .exn c d env => withO (outsD io env) fun o => .exn c d o
  | _ => .bad
def semOf (n : Nat) (ms : List Md) (cs : List S) (ds : List D) : FR := toFR (ioS ms 0) (execs cs (envOf ms ds n))
/-! its entry -/
section
variable {G : Gc} {Z H : Hp}
theorem envOf_len : ∀ {ms : List Md} {vs : List V} {ds : List D} {n : Nat}, ArgsOk G Z H ms vs ds → (envOf ms ds n).length = vs.length + n
  | [], [], [], n, _ => by simp [envOf]
  | .v :: ms, v :: vs, d :: ds, n, ⟨_, h⟩ => by simp only [envOf, List.length_cons, envOf_len h]; omega
  | .io :: ms, v :: vs, d :: ds, n, ⟨_, h⟩ => by simp only [envOf, List.length_cons, envOf_len h]; omega
  | [], _ :: _, _, _, h => h.elim
  | [], [], _ :: _, _, h => h.elim
  | .v :: _, [], _, _, h => h.elim
  | .v :: _, _ :: _, [], _, h => h.elim
  | .io :: _, [], _, _, h => h.elim
  | .io :: _, _ :: _, [], _, h => h.elim
theorem rep_un {n j : Nat} {s : Slot} (h : (List.replicate n Slot.un)[j]? = some s) : s = .un := by
  rw [List.getElem?_replicate] at h
  split at h
  · cases h; rfl
  · cases h
theorem envOf_get : ∀ {ms : List Md} {vs : List V} {ds : List D} {n j : Nat} {s : Slot}, ArgsOk G Z H ms vs ds → (envOf ms ds n)[j]? = some s →
    s = .un ∨ (∃ d v, s = .val d ∧ vs[j]? = some v ∧ Rep G Z v d) ∨ ∃ d a, s = .box d ∧ vs[j]? = some (.ref a) ∧ Z a = none ∧ ObjAt G Z H a d ∧ a ∈ ioA ms vs
  | [], [], [], n, j, s, _, h => .inl (rep_un h)
  | .v :: ms, v :: vs, d :: ds, n, 0, s, ⟨r, h⟩, e => by
    simp only [envOf, List.getElem?_cons_zero] at e
    cases e
    exact .inr (.inl ⟨d, v, rfl, rfl, r⟩)
  | .io :: ms, v :: vs, d :: ds, n, 0, s, ⟨⟨a, e1, zn, o⟩, h⟩, e => by
    simp only [envOf, List.getElem?_cons_zero] at e
    cases e
    subst e1
    exact .inr (.inr ⟨d, a, rfl, rfl, zn, o, by simp [ioA]⟩)
  | .v :: ms, v :: vs, d :: ds, n, j + 1, s, ⟨r, h⟩, e => by
    simp only [envOf, List.getElem?_cons_succ] at e
    rcases envOf_get h e with q | ⟨d', w, q⟩ | ⟨d', a, q1, q2, q3, q4, q5⟩
    · exact .inl q
    · exact .inr (.inl ⟨d', w, q⟩)
    · exact .inr (.inr ⟨d', a, q1, q2, q3, q4, by cases v <;> exact q5⟩)
  | .io :: ms, v :: vs, d :: ds, n, j + 1, s, ⟨⟨b, e1, _, _⟩, h⟩, e => by
    simp only [envOf, List.getElem?_cons_succ] at e
    rcases envOf_get h e with q | ⟨d', w, q⟩ | ⟨d', a, q1, q2, q3, q4, q5⟩
    · exact .inl q
    · exact .inr (.inl ⟨d', w, q⟩)
    · subst e1
      exact .inr (.inr ⟨d', a, q1, q2, q3, q4, List.mem_cons_of_mem _ q5⟩)
  | [], _ :: _, _, _, _, _, h, _ => h.elim
  | [], [], _ :: _, _, _, _, h, _ => h.elim
  | .v :: _, [], _, _, _, _, h, _ => h.elim
  | .v :: _, _ :: _, [], _, _, _, h, _ => h.elim
  | .io :: _, [], _, _, _, _, h, _ => h.elim
  | .io :: _, _ :: _, [], _, _, _, h, _ => h.elim
/-- two lent boxes are two -/
theorem envOf_inj : ∀ {ms : List Md} {vs : List V} {ds : List D} {n i j : Nat} {a : Addr}, ArgsOk G Z H ms vs ds → (ioA ms vs).Nodup → IsOB (envOf ms ds n)[i]? → IsOB (envOf ms ds n)[j]? → vs[i]? = some (.ref a) → vs[j]? = some (.ref a) → i = j
  | [], [], [], n, i, j, a, _, _, h, _, _, _ => by
    cases q : (envOf [] [] n)[i]? with
    | none => rw [q] at h; exact h.elim
    | some s => rw [q, rep_un q] at h; exact h.elim
  | .v :: ms, v :: vs, d :: ds, n, i, j, a, ⟨_, h⟩, nd, hi, hj, ei, ej => by
    cases i with
    | zero => exact hi.elim
    | succ i =>
      cases j with
      | zero => exact hj.elim
      | succ j => rw [envOf_inj h (by cases v <;> exact nd) hi hj ei ej]
  | .io :: ms, v :: vs, d :: ds, n, i, j, a, ⟨⟨b, e1, zn, o⟩, h⟩, nd, hi, hj, ei, ej => by
    subst e1
    have nd' := List.nodup_cons.mp nd
    have no : ∀ (j : Nat), IsOB (envOf ms ds n)[j]? → vs[j]? ≠ some (V.ref b) := fun j hj e => by
      cases q : (envOf ms ds n)[j]? with
      | none => rw [q] at hj; exact hj.elim
      | some s =>
        rw [q] at hj
        rcases envOf_get h q with rfl | ⟨d', w, rfl, _⟩ | ⟨d', a', rfl, q2, _, _, q5⟩
        · exact hj
        · exact hj
        · rw [e] at q2; cases q2; exact nd'.1 q5
    cases i with
    | zero =>
      cases ei
      cases j with
      | zero => rfl
      | succ j => exact absurd ej (no j hj)
    | succ i =>
      cases j with
      | zero =>
        cases ej
        exact absurd ei (no i hi)
      | succ j => rw [envOf_inj h nd'.2 hi hj ei ej]
  | [], _ :: _, _, _, _, _, _, h, _, _, _, _, _ => h.elim
  | [], [], _ :: _, _, _, _, _, h, _, _, _, _, _ => h.elim
  | .v :: _, [], _, _, _, _, _, h, _, _, _, _, _ => h.elim
  | .v :: _, _ :: _, [], _, _, _, _, h, _, _, _, _, _ => h.elim
  | .io :: _, [], _, _, _, _, _, h, _, _, _, _, _ => h.elim
  | .io :: _, _ :: _, [], _, _, _, _, h, _, _, _, _, _ => h.elim
theorem start_get {N : List Str} {vs : List V} {j : Nat} {v : V} (h : vs[j]? = some v) : (L2.start N vs).getD j none = some v := by
  unfold L2.start
  have hj : j < vs.length := (List.getElem?_eq_some_iff.mp h).1
  rw [List.getD_eq_getElem?_getD, List.getElem?_append_left (by simpa using hj), List.getElem?_map, h]; rfl
theorem start_len {N : List Str} {vs : List V} (h : vs.length ≤ N.length) : (L2.start N vs).length = N.length := by
  unfold L2.start
  rw [List.length_append, List.length_map, List.length_replicate]; omega
def pm0 (G : Gc) (ms : List Md) (vs : List V) (N : List Str) (Z H : Hp) : Pm := ⟨G, ioA ms vs, ioS ms 0, Z, H, L2.start N vs, Z⟩
theorem srel0 {ms : List Md} {vs : List V} {ds : List D} {N : List Str} (hl : vs.length ≤ N.length) (le : Same Z H) (h : ArgsOk G Z H ms vs ds) (nd : (ioA ms vs).Nodup) : SRel (pm0 G ms vs N Z H) Z (envOf ms ds (N.length - vs.length)) (L2.start N vs) H := by
  have at_ : ∀ {i : Nat} {a : Addr}, IsOB (envOf ms ds (N.length - vs.length))[i]? → (L2.start N vs).getD i none = some (.ref a) → vs[i]? = some (.ref a) := fun {i a} hi e => by
    cases q : (envOf ms ds (N.length - vs.length))[i]? with
    | none => rw [q] at hi; exact hi.elim
    | some s =>
      rw [q] at hi
      rcases envOf_get h q with rfl | ⟨d', w, rfl, _⟩ | ⟨d', a', rfl, q2, _, _, q5⟩
      · exact hi.elim
      · exact hi.elim
      · rw [start_get q2] at e; cases e; exact q2
  refine ⟨le, by rw [envOf_len h, start_len hl]; omega, fun i s hs => ?_, fun i j a hi hj ei ej => envOf_inj h nd hi hj (at_ hi ei) (at_ hj ej), .refl, fun i d a hs e => ?_, fun i d a hs e => ?_, fun _ _ => rfl, fun _ _ z => z, rfl⟩
  · rcases envOf_get h hs with rfl | ⟨d', w, rfl, q, r⟩ | ⟨d', a', rfl, q2, q3, q4, q5⟩
    · trivial
    · exact ⟨w, start_get q, r⟩
    · exact ⟨a', start_get q2, q3, q4⟩
  · rcases envOf_get h hs with z | ⟨d', w, z, q, r⟩ | ⟨d', a', z, q2, q3, q4, q5⟩
    · cases z
    · cases z
    · rw [start_get q2] at e; cases e; exact .inl q5
  · rcases envOf_get h hs with z | ⟨d', w, z, q, r⟩ | ⟨d', a', z, q2, q3, q4, q5⟩ <;> cases z
/-- what became of the boxes -/
theorem outs_ok {p : Pm} {Z' H' : Hp} {env : DL.Env} {σ : L2.St} (R : SRel p Z' env σ H') : ∀ {ms : List Md} {vs : List V} {ds : List D} {i : Nat} {o : List D}, ArgsOk G Z H ms vs ds → (∀ j ∈ ioS ms i, j ∈ p.io) → (∀ j v, vs[j]? = some v → p.σ0.getD (i + j) none = some v) → outsD (ioS ms i) env = some o → OutsOk p.G Z' H' (ioA ms vs) o
  | [], [], [], i, o, _, _, _, h => by cases h; trivial
  | .v :: ms, v :: vs, d :: ds, i, o, ⟨_, h⟩, hi, hv, e => by
    have := outs_ok R (i := i + 1) h hi (fun j w hw => by rw [Nat.add_right_comm]; exact hv (j + 1) w hw) e
    cases v <;> exact this
  | .io :: ms, v :: vs, d :: ds, i, o, ⟨⟨a, e1, zn, ob⟩, h⟩, hi, hv, e => by
    subst e1
    simp only [ioS, outsD] at e
    split at e
    · rename_i d' q
      cases q2 : outsD (ioS ms (i + 1)) env with
      | none => rw [q2] at e; cases e
      | some l =>
        rw [q2] at e
        cases e
        refine ⟨?_, outs_ok R (i := i + 1) h (fun j hj => hi j (List.mem_cons_of_mem _ hj)) (fun j w hw => by rw [Nat.add_right_comm]; exact hv (j + 1) w hw) q2⟩
        obtain ⟨b, eb, zb, o'⟩ := R.slot i _ q
        have := R.io i (hi i List.mem_cons_self)
        have h0 := hv 0 _ rfl
        rw [Nat.add_zero] at h0
        rw [this, h0] at eb
        cases eb
        exact ⟨zb, o'⟩
    · cases e
  | [], _ :: _, _, _, _, h, _, _, _ => h.elim
  | [], [], _ :: _, _, _, h, _, _, _ => h.elim
  | .v :: _, [], _, _, _, h, _, _, _ => h.elim
  | .v :: _, _ :: _, [], _, _, h, _, _, _ => h.elim
  | .io :: _, [], _, _, _, h, _, _, _ => h.elim
  | .io :: _, _ :: _, [], _, _, h, _, _, _ => h.elim
end
/-! the module's facts -/
structure FnAtM (P : Program) (w : World) (K : PySem.W.Frag) (mg : Str → Option Value) (base : Heap) (G : Gc) (k : Nat) (i : FnI) : Prop where
  ex : ∃ (f : Addr) (fd : FuncData) (ps : List Str), FnOk P w K mg base (L2.CX P w) k f fd ps (spF G i.ms i.sem) ∧ mg i.name = some (.ref f) ∧ PySem.W.keepIn K (.ref f) = true ∧ Binds K fd ps [] ∧ ps.length = i.ms.length
  db : (i.name == ("__debug__" : Str)) = false
structure ErrAtM (P : Program) (w : World) (K : PySem.W.Frag) (mg : Str → Option Value) (base : Heap) (G : Gc) (k : Nat) (c : Nat) (x : Str) : Prop where
  ox : OexC K (G.cA c)
  xf : XfC K (G.cA c)
  no : PySem.W.findIn K (.ref (G.cA c)) (G.cF c) = some none
  ini : ∃ (fI : Addr) (fd : FuncData) (ps : List Str), PySem.W.findIn K (.ref (G.cA c)) "__init__" = some (some (.ref fI)) ∧ PySem.W.typeIn K (.ref fI) = some (.type "function") ∧ FnOk P w K mg base (L2.CX P w) k fI fd ps (spInit (G.cA c) (G.cF c)) ∧ Binds K fd ps []
  mg : mg x = some (.ref (G.cA c))
  db : (x == ("__debug__" : Str)) = false
structure MkAtM (P : Program) (w : World) (K : PySem.W.Frag) (mg : Str → Option Value) (base : Heap) (G : Gc) (k : Nat) (x : Str) (c : Nat) (i : FnI) : Prop where
  ex : ∃ (f : Addr) (fd : FuncData) (ps : List Str), Mk K (G.cA c) f ∧ FnOk P w K mg base (L2.CX P w) k f fd ps (spF G i.ms i.sem) ∧ Binds K fd ps []
  mg : mg x = some (.ref (G.cA c))
  db : (x == ("__debug__" : Str)) = false
  ms : ∃ l, i.ms = .io :: l
structure EqAtM (P : Program) (w : World) (K : PySem.W.Frag) (mg : Str → Option Value) (base : Heap) (G : Gc) (k : Nat) (cs : List Nat) (c : Nat) (i : FnI) : Prop where
  ex : ∃ (f : Addr) (fd : FuncData) (ps : List Str), FnOk P w K mg base (L2.CX P w) k f fd ps (spF G i.ms i.sem) ∧ PySem.W.findIn K (.ref (G.cA c)) "__eq__" = some (some (.ref f)) ∧ PySem.W.isFn K (.ref f) = true ∧ Binds K fd ps []
  ms : i.ms = [.v, .v]
  nb : ∀ t ∈ ["NoneType", "bool", "int", "str", "tuple", "list"], PySem.W.notFirst K (G.cA c) (.type t) = true
  no : ∀ c' ∈ cs, PySem.W.notFirst K (G.cA c) (.ref (G.cA c')) = true
structure ModOk (P : Program) (w : World) (K : PySem.W.Frag) (mg : Str → Option Value) (base : Heap) (G : Gc) (T : Tab) (er : List (Str × (Nat × Str))) (k : Nat) : Prop where
  gK : G.K = K
  fns : ∀ i ∈ T.fns, FnAtM P w K mg base G k i
  cst : ∀ x d, T.cst.lookup x = some d → ∃ v u, mg x = some u ∧ RelV v u ∧ ∀ Z, Rep G Z v d
  blt : ∀ x, (bfN x).isSome = true ∨ (tyN x).isSome = true ∨ x = "isinstance" ∨ x = "range" ∨ x = "enumerate" → mg x = none
  ers : ∀ x c f, er.lookup x = some (c, f) → G.cF c = f ∧ ∃ k', k' + 1 ≤ k ∧ ErrAtM P w K mg base G k' c x
  exm : ∀ x c f h, er.lookup x = some (h, f) → c ∈ er.map (·.2.1) → PySem.W.exmOne K (.ref (G.cA c)) (.ref (G.cA h)) = some (c == h)
  cls : ∀ c ∈ T.cls, ClsAt K G T.cls T.fl c
  own : ∀ x c, T.own.lookup x = some c → c ∈ T.cls ∧ mg x = some (.ref (G.cA c)) ∧ (x == ("__debug__" : Str)) = false
  mks : ∀ x c i, T.mks.lookup x = some (c, i) → ∃ k', k' + 1 ≤ k ∧ MkAtM P w K mg base G k' x c i
  eqs : ∀ c i, T.eqs.lookup c = some i → EqAtM P w K mg base G k T.cls c i
  xmk : ∀ x c f, T.xmk.lookup x = some (c, f) → G.cF c = f ∧ ∃ k', k' + 1 ≤ k ∧ ErrAtM P w K mg base G k' c x
  xcs : ∀ c ∈ T.xcs, XvAt K (G.cA c)
  xfl : ∀ c ∈ T.xcs, ∀ f ∈ T.xfl, PySem.W.findIn K (.ref (G.cA c)) f = some none
  xis : ∀ x y l, T.xis.lookup x = some (y, l) → (∀ c b, l.lookup c = some b → PySem.W.kitOne K (.ref (G.cA c)) (xisV G y) = some b) ∧ XisM mg G x y ∧ (x == ("__debug__" : Str)) = false
  cf : ∀ x c f, (x, (c, f)) ∈ er → G.cF c = f
  xbs : ∀ x B, T.xbs.lookup x = some B → mg x = some (.ref (G.cA B)) ∧ (x == ("__debug__" : Str)) = false ∧ ∀ c ∈ er.map (·.2.1), PySem.W.exmOne K (.ref (G.cA c)) (.ref (G.cA B)) = some true
/-- THE RULE for a def -/
theorem fn_sem {P : Program} {w : World} {K : PySem.W.Frag} {mg : Str → Option Value} {base : Heap} {G : Gc} {T : Tab} {er : List (Str × (Nat × Str))} {k n m : Nat} {x qual : Str} {st : Stmt} {f : Addr} {fd : FuncData} {N ps : List Str} {ms : List Md} {bx df : List Nat} {cs : List S}
    (M : ModOk P w K mg base G T er k) (F : Fun K x qual st f fd) (S : FnScope N ps (defScope st)) (hps : ps.length = ms.length)
    (h : cSs (cS ⟨T, N, n, defScope st, ioS ms 0, bx, er⟩ m) df (defBody st) = some cs) :
    FnOk P w K mg base (L2.CX P w) (k + 1) f fd ps (spF G ms (semOf (N.length - ms.length) ms cs)) := by
  refine F.okX S (fun vs H Q E ⟨Z, ds, _, ha, _⟩ => by rw [ha.len, hps]) fun cdv A outer s H vs Q E hr ⟨Z, ds, le, ha, nd, hsp⟩ => ?_
  have hl : vs.length = ms.length := ha.len
  have hN : ps.length ≤ N.length := by have := congrArg List.length S.pre; rw [List.length_take] at this; omega
  have C : CtxS (cxOf (L2.CX P w) P w K mg base N qual (defScope st) f cdv A outer s H E) (pm0 G ms vs N Z H) (fun cls d _ H => E cls d H) ⟨T, N, n, defScope st, ioS ms 0, bx, er⟩ k := by
    refine ⟨⟨⟨M.gK, S.nd, ?_⟩, fun _ => hr, fun _ => rfl, fun _ i hi => ⟨(M.fns i hi).ex, (M.fns i hi).db⟩, M.cst, M.blt, M.cls, M.own, fun _ x c i h => let ⟨k', e, t⟩ := M.mks x c i h; ⟨k', hr.mono e, ⟨t.ex, t.mg, t.db, t.ms⟩⟩, fun _ c i h => let t := M.eqs c i h; ⟨t.ex, t.ms, t.nb, t.no⟩, fun _ x c f h => let ⟨e, k', hk, t⟩ := M.xmk x c f h; ⟨e, k', hr.mono hk, ⟨t.ox, t.xf, t.no, t.ini, t.mg, t.db⟩⟩, M.xcs, M.xfl, M.xis⟩, rfl, rfl, S.kind, takes_of rfl rfl rfl rfl, passes_of rfl, fun _ => rfl, rfl, rfl, fun a ha' => ?_, ?_, fun _ z => z, fun x c f hx => ?_, M.exm, M.cf, M.xbs⟩
    · have := hr.un
      show (A.deeper (envOfC qual (defScope st) s.heap.objs.size f cdv)).units + 70 < cLine
      omega
    · have ha' : a ∈ ioA ms vs := ha'
      clear hsp nd hl
      have go : ∀ {ms : List Md} {vs : List V} {ds : List D}, ArgsOk G Z H ms vs ds → a ∈ ioA ms vs → ∃ o, H a = some o := by
        intro ms
        induction ms with
        | nil => intro vs ds h z; cases vs <;> cases z
        | cons m ms ih =>
          intro vs ds h z
          cases vs with
          | nil => cases m <;> cases z
          | cons v vs =>
            cases ds with
            | nil => cases m <;> exact h.elim
            | cons d ds =>
              cases m with
              | v => exact ih h.2 (by cases v <;> exact z)
              | io =>
                obtain ⟨⟨b, e, zn, o⟩, h⟩ := h
                subst e
                rcases List.mem_cons.mp z with rfl | z
                · exact o.there
                · exact ih h z
      exact go ha ha'
    · show N.length = (L2.start N vs).length
      rw [start_len (by omega)]
    · obtain ⟨e, k', hk, t⟩ := M.ers x c f hx
      exact ⟨e, k', hr.mono hk, ⟨t.ox, t.xf, t.no, t.ini, t.mg, t.db⟩⟩
  refine ⟨_, sndSs_all C h, Z, _, srel0 (by omega) le ha nd, ?_⟩
  unfold semOf at hsp
  rw [← hl] at hsp
  have outs : ∀ {Z' H' env σ o}, SRel (pm0 G ms vs N Z H) Z' env σ H' → outsD (ioS ms 0) env = some o → OutsOk G Z' H' (ioA ms vs) o := fun {Z' H' env σ o} R e => outs_ok R (i := 0) ha (fun j hj => hj) (fun j v hv => by rw [Nat.zero_add]; exact start_get hv) e
  cases q : execs cs (envOf ms ds (N.length - vs.length)) with
  | next env =>
    rw [q] at hsp
    simp only [toFR] at hsp
    cases q2 : outsD (ioS ms 0) env with
    | none => rw [q2] at hsp; exact False.elim hsp
    | some o =>
      rw [q2] at hsp
      exact fun Z' σ H' R => hsp .non Z' H' R.ext R.le (outs R q2) (by simp) Rep.non
  | ret x env =>
    rw [q] at hsp
    simp only [toFR] at hsp
    cases q2 : outsD (ioS ms 0) env with
    | none => rw [q2] at hsp; exact False.elim hsp
    | some o =>
      rw [q2] at hsp
      exact fun v Z' σ H' R hk hv => hsp v Z' H' R.ext R.le (outs R q2) hk hv
  | exn c d env =>
    rw [q] at hsp
    simp only [toFR] at hsp
    cases q2 : outsD (ioS ms 0) env with
    | none => rw [q2] at hsp; exact False.elim hsp
    | some o =>
      rw [q2] at hsp
      exact fun dd v Z' σ H' R hx r => hsp dd v Z' H' R.ext R.le (outs R q2) hx r
  | brk env => rw [q] at hsp; exact False.elim hsp
  | cnt env => rw [q] at hsp; exact False.elim hsp
  | bad => rw [q] at hsp; exact False.elim hsp
end DL
set_option Elab.async false
set_option linter.all false
set_option autoImplicit false
set_option maxRecDepth 100000
set_option maxHeartbeats 1000000
namespace DL
/-! mathematics of comprehensions and loops -/
/-- each item by itself: kept where p, as g; nothing else changes -/
theorem lc_pure {f : DL.Env → R Vl} {c : DL.Env → R Bool} {i : Nat} {base : DL.Env} {p : D → Bool} {g : D → D} : ∀ (ds acc : List D) (s : Slot), (∀ d ∈ ds, c (base.set i (.val d)) = .ok (p d) (base.set i (.val d))) → (∀ d ∈ ds, p d = true → f (base.set i (.val d)) = .ok ⟨g d, .fz⟩ (base.set i (.val d))) →
    ∃ s', lcLoop f c i ds acc (base.set i s) = .ok (acc ++ (ds.filter p).map g) (base.set i s')
  | [], acc, s, _, _ => ⟨s, by simp [lcLoop]⟩
  | d :: ds, acc, s, hc, hf => by
    simp only [lcLoop, List.set_set]
    rw [hc d (by simp)]
    simp only [R.bind]
    cases hp : p d with
    | true =>
      rw [if_pos rfl, hf d (by simp) hp]
      simp only [R.bind]
      rw [if_neg (by simp)]
      obtain ⟨s', h⟩ := lc_pure ds (acc ++ [g d]) (.val d) (fun x hx => hc x (by simp [hx])) (fun x hx => hf x (by simp [hx]))
      refine ⟨s', ?_⟩
      rw [h, List.filter_cons_of_pos hp, List.map_cons, List.append_assoc]
      rfl
    | false =>
      rw [if_neg (by simp)]
      obtain ⟨s', h⟩ := lc_pure ds acc (.val d) (fun x hx => hc x (by simp [hx])) (fun x hx => hf x (by simp [hx]))
      refine ⟨s', ?_⟩
      rw [h, List.filter_cons_of_neg (by simp [hp])]
/-- what holds between two turns, what holds of each item -/
theorem lc_inv {f : DL.Env → R Vl} {c : DL.Env → R Bool} {i : Nat} (J : DL.Env → Prop) (P : D → Prop) : ∀ (ds acc : List D) (env : DL.Env),
    (∀ d ∈ ds, ∀ env, J env → ∃ b env1, c (env.set i (.val d)) = .ok b env1 ∧ J env1 ∧ (b = true → ∃ x env2, f env1 = .ok x env2 ∧ x.k ≠ .ln ∧ P x.d ∧ J env2)) → J env → (∀ a ∈ acc, P a) →
    ∃ l env', lcLoop f c i ds acc env = .ok l env' ∧ J env' ∧ ∀ a ∈ l, P a
  | [], acc, env, _, hj, ha => ⟨acc, env, by simp [lcLoop], hj, ha⟩
  | d :: ds, acc, env, h, hj, ha => by
    obtain ⟨b, env1, h1, j1, h2⟩ := h d (by simp) env hj
    simp only [lcLoop, h1, R.bind]
    cases b with
    | false =>
      rw [if_neg (by simp)]
      exact lc_inv J P ds acc env1 (fun x hx => h x (by simp [hx])) j1 ha
    | true =>
      obtain ⟨x, env2, h3, hk, hp, j2⟩ := h2 rfl
      rw [if_pos rfl, h3]
      simp only [R.bind]
      rw [if_neg hk]
      refine lc_inv J P ds (acc ++ [x.d]) env2 (fun y hy => h y (by simp [hy])) j2 fun a hm => ?_
      rcases List.mem_append.mp hm with hm | hm
      · exact ha a hm
      · rw [List.mem_singleton] at hm; subst hm; exact hp
/-- a loop by what holds between two turns -/
theorem forL_inv {f : D → DL.Env → SR} (J : DL.Env → Prop) : ∀ (ds : List D) (env : DL.Env), (∀ d ∈ ds, ∀ env, J env → ∃ env', f d env = .next env' ∧ J env') → J env → ∃ env', forL f ds env = .next env' ∧ J env'
  | [], env, _, hj => ⟨env, rfl, hj⟩
  | d :: ds, env, h, hj => by
    obtain ⟨e1, h1, j1⟩ := h d (by simp) env hj
    obtain ⟨e2, h2, j2⟩ := forL_inv J ds e1 (fun x hx => h x (by simp [hx])) j1
    exact ⟨e2, by simp only [forL, h1]; exact h2, j2⟩
end DL
set_option Elab.async false
set_option linter.all false
set_option autoImplicit false
set_option maxRecDepth 100000
set_option maxHeartbeats 1000000
namespace DL
/-! evaluation by its parts -/
section
variable {f : FnI} {a b : E} {env env1 env2 : DL.Env} {d d2 r : D} {k k2 kr : Kd}
theorem ev_call1 (hm : f.ms = [.v]) (ha : ev a env = .ok ⟨d, k⟩ env1) (hk : k ≠ .ln) (hs : f.sem [d] = .ok r kr []) : ev (.call f [a]) env = .ok ⟨r, kr⟩ env1 := by
  simp [ev, eva, hm, ha, hk, resolve, boxes, nodupB, putOuts, hs]
theorem ev_call2 (hm : f.ms = [.v, .v]) (ha : ev a env = .ok ⟨d, k⟩ env1) (hk : k ≠ .ln) (hb : ev b env1 = .ok ⟨d2, k2⟩ env2) (hk2 : k2 ≠ .ln) (hs : f.sem [d, d2] = .ok r kr []) : ev (.call f [a, b]) env = .ok ⟨r, kr⟩ env2 := by
  simp [ev, eva, hm, ha, hk, hb, hk2, resolve, boxes, nodupB, putOuts, hs]
theorem ev_call3 {c : E} {env3 : DL.Env} {d3 : D} {k3 : Kd} (hm : f.ms = [.v, .v, .v]) (ha : ev a env = .ok ⟨d, k⟩ env1) (hk : k ≠ .ln) (hb : ev b env1 = .ok ⟨d2, k2⟩ env2) (hk2 : k2 ≠ .ln) (hc : ev c env2 = .ok ⟨d3, k3⟩ env3) (hk3 : k3 ≠ .ln) (hs : f.sem [d, d2, d3] = .ok r kr []) : ev (.call f [a, b, c]) env = .ok ⟨r, kr⟩ env3 := by
  simp [ev, eva, hm, ha, hk, hb, hk2, hc, hk3, resolve, boxes, nodupB, putOuts, hs]
theorem ev_sub (ha : ev a env = .ok ⟨d, k⟩ env1) (hb : ev b env1 = .ok ⟨d2, k2⟩ env2) : ev (.sub a b) env = lift (subD d d2) env2 := by
  simp [ev, ha, hb]
theorem ev_bf1 {g : BF} (ha : ev a env = .ok ⟨d, k⟩ env1) : ev (.bf g [a]) env = lift (bfD g [d]) env1 := by
  simp [ev, evp, ha]
theorem ev_cmp {op : PySem.CmpOp} (ha : ev a env = .ok ⟨d, k⟩ env1) (hb : ev b env1 = .ok ⟨d2, k2⟩ env2) : ev (.cmp op a b) env = lift (cmpD op d d2) env2 := by
  simp [ev, ha, hb]
theorem ev_bin {op : PySem.Operator} (ha : ev a env = .ok ⟨d, k⟩ env1) (hb : ev b env1 = .ok ⟨d2, k2⟩ env2) : ev (.bin op a b) env = lift (binD op d d2) env2 := by
  simp [ev, ha, hb]
theorem ev_not {v : Bool} (ha : ev a env = .ok ⟨d, k⟩ env1) (hd : truD d = some v) : ev (.not a) env = .ok ⟨.bl (!v), .fz⟩ env1 := by
  simp [ev, ha, hd]
theorem ev_and_t {v : Bool} (ha : ev a env = .ok ⟨.bl true, k⟩ env1) (hb : ev b env1 = .ok ⟨.bl v, k2⟩ env2) : ev (.and a b) env = .ok ⟨.bl v, .fz⟩ env2 := by
  simp [ev, ha, hb]
theorem ev_and_f (ha : ev a env = .ok ⟨.bl false, k⟩ env1) : ev (.and a b) env = .ok ⟨.bl false, .fz⟩ env1 := by
  simp [ev, ha]
theorem ev_or_f {v : Bool} (ha : ev a env = .ok ⟨.bl false, k⟩ env1) (hb : ev b env1 = .ok ⟨.bl v, k2⟩ env2) : ev (.or a b) env = .ok ⟨.bl v, .fz⟩ env2 := by
  simp [ev, ha, hb]
theorem ev_or_t (ha : ev a env = .ok ⟨.bl true, k⟩ env1) : ev (.or a b) env = .ok ⟨.bl true, .fz⟩ env1 := by
  simp [ev, ha]
theorem tst_of {v : Bool} (hf : frz (esc a) env = env1) (ha : ev a env1 = .ok ⟨d, k⟩ env2) (hd : truD d = some v) : tst a env = .ok v env2 := by
  unfold tst
  rw [hf, ha]
  simp [hd]
theorem ex_ifs {v : Bool} {x y : List S} (h : tst a env = .ok v env1) : DL.exec (.ifs a x y) env = if v then DL.execs x env1 else DL.execs y env1 := by
  simp only [DL.exec, h, SR.of]
theorem execs_next {s : S} {ss : List S} (h : DL.exec s env = .next env1) : DL.execs (s :: ss) env = DL.execs ss env1 := by
  simp only [DL.execs, h]
theorem execs_ret {s : S} {ss : List S} {v : Vl} (h : DL.exec s env = .ret v env1) : DL.execs (s :: ss) env = .ret v env1 := by
  simp only [DL.execs, h]
theorem ex_asg {i : Nat} {s : Slot} (hf : frz (escd a) env = env1) (ha : ev a env1 = .ok ⟨d, k⟩ env2) (hs : hold ⟨d, k⟩ = some s) : DL.exec (.asg i a) env = .next (env2.set i s) := by
  simp only [DL.exec, hf, ha, SR.of, hs]
end
end DL
set_option Elab.async false
set_option linter.all false
set_option autoImplicit false
set_option maxRecDepth 100000
set_option maxHeartbeats 2000000
namespace DL
open PySem PySem.Spec PyProof.Rows L2
/-! a module's facts, def by def -/
section
variable {P : Program} {w : World} {K : PySem.W.Frag} {mg : Str → Option Value} {base : Heap} {G : Gc}
theorem FnAtM.mono {k k' : Nat} {i : FnI} (h : FnAtM P w K mg base G k i) (hk : k ≤ k') : FnAtM P w K mg base G k' i :=
  let ⟨f, fd, ps, h1, h2⟩ := h.ex
  ⟨⟨f, fd, ps, h1.mono hk, h2⟩, h.db⟩
theorem MkAtM.mono {k k' : Nat} {x : Str} {c : Nat} {i : FnI} (h : MkAtM P w K mg base G k x c i) (hk : k ≤ k') : MkAtM P w K mg base G k' x c i :=
  let ⟨f, fd, ps, h1, h2, h3⟩ := h.ex
  ⟨⟨f, fd, ps, h1, h2.mono hk, h3⟩, h.mg, h.db, h.ms⟩
theorem EqAtM.mono {k k' : Nat} {cs : List Nat} {c : Nat} {i : FnI} (h : EqAtM P w K mg base G k cs c i) (hk : k ≤ k') : EqAtM P w K mg base G k' cs c i :=
  let ⟨f, fd, ps, h1, h2⟩ := h.ex
  ⟨⟨f, fd, ps, h1.mono hk, h2⟩, h.ms, h.nb, h.no⟩
theorem ErrAtM.mono {k k' : Nat} {c : Nat} {x : Str} (h : ErrAtM P w K mg base G k c x) (hk : k ≤ k') : ErrAtM P w K mg base G k' c x :=
  let ⟨f, fd, ps, h1, h2, h3, h4⟩ := h.ini
  ⟨h.ox, h.xf, h.no, ⟨f, fd, ps, h1, h2, h3.mono hk, h4⟩, h.mg, h.db⟩
/-- a def that answers nothing yet -/
theorem fnBad {k : Nat} {x : Str} {ms : List Md} {f : Addr} {fd : FuncData} {ps : List Str} (b : Binds K fd ps []) (hps : ps.length = ms.length) (hm : mg x = some (.ref f)) (hk : PySem.W.keepIn K (.ref f) = true) (db : (x == ("__debug__" : Str)) = false) : FnAtM P w K mg base G k ⟨x, ms, fun _ => .bad⟩ :=
  ⟨⟨f, fd, ps, ⟨fun vs H Q E ⟨_, _, _, _, _, h⟩ => h.elim, fun A outer s H args us vs Q E _ _ _ _ ⟨_, _, _, _, _, h⟩ => h.elim⟩, hm, hk, b, hps⟩, db⟩
theorem fnAt {T : Tab} {er : List (Str × (Nat × Str))} {k n m : Nat} {x : Str} {st : Stmt} {f : Addr} {fd : FuncData} {N ps : List Str} {ms : List Md} {bx df : List Nat} {cs : List S}
    (M : ModOk P w K mg base G T er k) (F : Fun K x x st f fd) (S : FnScope N ps (defScope st)) (hps : ps.length = ms.length)
    (h : cSs (cS ⟨T, N, n, defScope st, ioS ms 0, bx, er⟩ m) df (defBody st) = some cs)
    (b : Binds K fd ps []) (hm : mg x = some (.ref f)) (hk : PySem.W.keepIn K (.ref f) = true) (db : (x == ("__debug__" : Str)) = false) : FnAtM P w K mg base G (k + 1) ⟨x, ms, semOf (N.length - ms.length) ms cs⟩ :=
  ⟨⟨f, fd, ps, fn_sem M F S hps h, hm, hk, b, hps⟩, db⟩
/-! names -/
theorem lookup_in {α : Type} {x : Str} {v : α} : ∀ {l : List (Str × α)}, l.lookup x = some v → (x, v) ∈ l
  | [], h => by cases h
  | (y, a) :: l, h => by
    rw [List.lookup_cons] at h
    cases q : x == y with
    | true => rw [q] at h; cases h; rw [eq_of_beq q]; exact List.mem_cons_self
    | false => rw [q] at h; exact List.mem_cons_of_mem _ (lookup_in h)
theorem lookup_inN {α : Type} {x : Nat} {v : α} : ∀ {l : List (Nat × α)}, l.lookup x = some v → (x, v) ∈ l
  | [], h => by cases h
  | (y, a) :: l, h => by
    rw [List.lookup_cons] at h
    cases q : x == y with
    | true => rw [q] at h; cases h; rw [eq_of_beq q]; exact List.mem_cons_self
    | false => rw [q] at h; exact List.mem_cons_of_mem _ (lookup_inN h)
theorem lookup_mem {α : Type} {x : Str} : ∀ {l : List (Str × α)}, (l.lookup x).isSome = true → x ∈ l.map (·.1)
  | [], h => by cases h
  | (y, a) :: l, h => by
    rw [List.lookup_cons] at h
    cases q : x == y with
    | true => exact List.mem_cons.mpr (.inl (eq_of_beq q))
    | false => rw [q] at h; exact List.mem_cons.mpr (.inr (lookup_mem h))
def bltNames : List Str := (["isinstance", "range", "enumerate"] : List Str) ++ bfTab.map (·.1) ++ (["int", "bool", "str", "tuple", "list"] : List Str)
theorem blt_of (h : ∀ x ∈ bltNames, mg x = none) (x : Str) (hx : (bfN x).isSome = true ∨ (tyN x).isSome = true ∨ x = "isinstance" ∨ x = "range" ∨ x = "enumerate") : mg x = none := by
  refine h x ?_
  unfold bltNames
  rcases hx with hx | hx | rfl | rfl | rfl
  · exact List.mem_append_left _ (List.mem_append_right _ (lookup_mem hx))
  · refine List.mem_append_right _ ?_
    unfold tyN at hx
    split at hx
    · rename_i e; subst e; simp
    · split at hx
      · rename_i e; subst e; simp
      · split at hx
        · rename_i e; subst e; simp
        · split at hx
          · rename_i e; subst e; simp
          · split at hx
            · rename_i e; subst e; simp
            · cases hx
  all_goals exact List.mem_append_left _ (List.mem_append_left _ (by simp))
/-! kinds -/
theorem kit_of {t : Value} {C : Addr} {b : Bool} (h1 : PySem.W.isClsIn K C = true) (h2 : PySem.W.typeIn K (.ref C) = some (.type "type")) (h3 : PySem.W.subIn K t (.ref C) = some b) : PySem.W.kitCls K t (.ref C) = some b := by
  have e : ((PySem.W.clsIn K C).isSome && PySem.W.typeIn K (.ref C) == some (.type "type")) = true := by
    have h1' : (PySem.W.clsIn K C).isSome = true := h1
    rw [h1', h2] <;> rfl
  show (if ((PySem.W.clsIn K C).isSome && PySem.W.typeIn K (.ref C) == some (.type "type")) = true then PySem.W.subIn K t (.ref C) else none) = some b
  rw [if_pos e]
  exact h3
theorem exm_of {t : Value} {C : Addr} {b : Bool} (h0 : PySem.W.subIn K (.ref C) (.type "BaseException") = some true) (h1 : PySem.W.isClsIn K C = true) (h2 : PySem.W.typeIn K (.ref C) = some (.type "type")) (h3 : PySem.W.subIn K t (.ref C) = some b) : PySem.W.exmOne K t (.ref C) = some b := by
  have e : (PySem.W.subIn K (.ref C) (.type "BaseException") == some true) = true := by rw [h0] <;> rfl
  show (if (PySem.W.subIn K (.ref C) (.type "BaseException") == some true) = true then PySem.W.kitCls K t (.ref C) else none) = some b
  rw [if_pos e]
  exact kit_of h1 h2 h3
theorem kitOne_self {C : Addr} : PySem.W.kitOne K (.ref C) (.ref C) = some true := if_pos (beq_self_eq_true _)
theorem kitOne_ff {C D : Addr} (h1 : PySem.W.isClsIn K D = true) (h2 : PySem.W.typeIn K (.ref D) = some (.type "type")) (h3 : PySem.W.subIn K (.ref C) (.ref D) = some false) (hs : PySem.W.subIn K (.ref C) (.ref C) = some true) : PySem.W.kitOne K (.ref C) (.ref D) = some false := by
  have hne : C ≠ D := fun z => by subst z; rw [h3] at hs; cases hs
  unfold PySem.W.kitOne
  rw [if_neg (by intro z; exact hne (Value.ref.inj (eq_of_beq z)))]
  exact kit_of h1 h2 h3
theorem kitOne_tt {C D : Addr} (h1 : PySem.W.isClsIn K D = true) (h2 : PySem.W.typeIn K (.ref D) = some (.type "type")) (h3 : PySem.W.subIn K (.ref C) (.ref D) = some true) : PySem.W.kitOne K (.ref C) (.ref D) = some true := by
  unfold PySem.W.kitOne
  split
  · rfl
  · exact kit_of h1 h2 h3
theorem kitOne_ty {C : Addr} {t : String} {b : Bool} (hm : PySem.W.kitMeta t = true) (h3 : PySem.W.subIn K (.ref C) (.type t) = some b) : PySem.W.kitOne K (.ref C) (.type t) = some b := by
  unfold PySem.W.kitOne
  rw [if_neg (by show ¬ ((Value.ref C == Value.type t) = true); intro z; exact nomatch (eq_of_beq z))]
  show (if PySem.W.kitMeta t = true then PySem.W.subIn K (.ref C) (.type t) else none) = some b
  rw [if_pos hm]
  exact h3
theorem kitOne_type {t : String} {C : Addr} {b : Bool} (h : PySem.W.kitCls K (.type t) (.ref C) = some b) : PySem.W.kitOne K (.type t) (.ref C) = some b := by
  unfold PySem.W.kitOne
  rw [if_neg (by show ¬ ((Value.type t == Value.ref C) = true); intro z; exact nomatch (eq_of_beq z))]
  exact h
/-! an error's initializer -/
theorem init_okF {C f : Addr} {fd : FuncData} {st : Stmt} {qual fn : Str} (d1 : (fn == ("__debug__" : Str)) = false) (d2 : (fn == ("__classdict__" : Str)) = false) (F : Fun K "__init__" qual st f fd) (S : FnScope ["self", fn] ["self", fn] (defScope st))
    (hb : ∃ p1 p2 p3 p4, defBody st = [.Assign [.Attribute (.Name "self" p1) fn p2] (.Name fn p3) p4]) (T : OexC K C) (no : PySem.W.findIn K (.ref C) fn = some none) : FnOk P w K mg base (L2.CX P w) 1 f fd ["self", fn] (spInit C fn) := by
  refine F.okX S (fun vs H Q E ⟨a, v, e, _⟩ => by rw [e]; rfl) fun cdv A outer s H vs Q E hr ⟨a, v, e, ha, hq⟩ => ?_
  obtain ⟨p1, p2, p3, p4, hb⟩ := hb
  rw [hb]
  subst e
  have h1 := S.par "self" (by simp)
  have h2 := S.par fn (by simp)
  have v1 : Vis (defScope st) "self" := by
    rcases h1 with h | h
    · exact .inl h
    · exact .inr (.inl h)
  have v2 : Vis (defScope st) fn := by
    rcases h2 with h | h
    · exact .inl h
    · exact .inr (.inl h)
  refine ⟨_, pss_one (ps_ost (pe_var (i := 0) rfl v1 (by decide) (by decide)) (pe_var (i := 1) rfl v2 d1 d2)), ?_⟩
  exact ⟨v, rfl, .ref a, rfl, a, C, rfl, T, no, .inl ⟨ha, fun dx hdx hne => hq dx hdx hne⟩⟩
theorem init_ok {C f : Addr} {fd : FuncData} {st : Stmt} {qual : Str} (F : Fun K "__init__" qual st f fd) (S : FnScope ["self", "value"] ["self", "value"] (defScope st))
    (hb : ∃ p1 p2 p3 p4, defBody st = [.Assign [.Attribute (.Name "self" p1) "value" p2] (.Name "value" p3) p4]) (T : OexC K C) (no : PySem.W.findIn K (.ref C) "value" = some none) : FnOk P w K mg base (L2.CX P w) 1 f fd ["self", "value"] (spInit C "value") :=
  init_okF (by decide) (by decide) F S hb T no
end
end DL
set_option Elab.async false
set_option linter.all false
set_option autoImplicit false
set_option maxRecDepth 100000
set_option maxHeartbeats 4000000
namespace K01
open PySem PySem.Spec PyProof.Rows L2 DL
/-! the defs of k01, as data; each text is the def's own (the theorems cmp_..) -/
def topS (i : Nat) : Stmt := PySem.Challenge.pw_chambercuts_k01_errors.main.body.getD i (.Pass ⟨0, 0, 0, 0⟩)
def er : List (Str × (Nat × Str)) := [("InvalidNumber", (1, "value")), ("InvalidLocks", (2, "value"))]
def xcs : List Nat := [1, 2, 3, 4, 5, 6, 7, 8, 9, 10, 11, 12]
def xl : Option Nat → List (Nat × Bool)
  | some y => xcs.map fun c => (c, c == y || y == 13)
  | none => xcs.map fun c => (c, true)
def xmkL : List (Str × (Nat × Str)) := [("InvalidNumber", (1, "value")), ("InvalidLocks", (2, "value")), ("InvalidKeys", (3, "value")), ("InvalidKind", (4, "value")), ("InvalidCut", (5, "value")), ("InvalidCuts", (6, "value")), ("InvalidTable", (7, "value")), ("InvalidPair", (8, "value")), ("InvalidQuestion", (9, "value")), ("InvalidClaim", (10, "value")), ("Undefined", (11, "what")), ("NothingToUndo", (12, "word"))]
def xisL : List (Str × (Option Nat × List (Nat × Bool))) := [("InvalidNumber", (some 1, xl (some 1))), ("InvalidLocks", (some 2, xl (some 2))), ("InvalidKeys", (some 3, xl (some 3))), ("InvalidKind", (some 4, xl (some 4))), ("InvalidCut", (some 5, xl (some 5))), ("InvalidCuts", (some 6, xl (some 6))), ("InvalidTable", (some 7, xl (some 7))), ("InvalidPair", (some 8, xl (some 8))), ("InvalidQuestion", (some 9, xl (some 9))), ("InvalidClaim", (some 10, xl (some 10))), ("Undefined", (some 11, xl (some 11))), ("NothingToUndo", (some 12, xl (some 12))), ("LockError", (some 13, xl (some 13))), ("ValueError", (none, xl none))]
def bis_integer : List S :=
  [.ret (.and (.isi (.var 0) "int") (.not (.isi (.var 0) "bool")))]
def semis_integer : List D → FR := semOf 0 [.v] bis_integer
def fis_integer : FnI := ⟨"is_integer", [.v], semis_integer⟩
def tis_integer : Tab := { fns := [], cst := [] }
theorem cmpis_integer : cSs (cS ⟨tis_integer, ["value"], 40, defScope (topS 15), ioS [.v] 0, [], er⟩ 40) [] (defBody (topS 15)) = some bis_integer := by rfl
def bis_within : List S :=
  [.ret (.and (.call fis_integer [(.var 0)]) (.cmp2 .LtE .LtE (.var 1) (.var 0) (.var 2)))]
def semis_within : List D → FR := semOf 0 [.v, .v, .v] bis_within
def fis_within : FnI := ⟨"is_within", [.v, .v, .v], semis_within⟩
def tis_within : Tab := { fns := [fis_integer], cst := [] }
theorem cmpis_within : cSs (cS ⟨tis_within, ["value", "low", "high"], 40, defScope (topS 16), ioS [.v, .v, .v] 0, [], er⟩ 40) [] (defBody (topS 16)) = some bis_within := by rfl
def bis_ascending : List S :=
  [.ifs (.not (.isi (.var 0) "tuple")) [.ret (.cst (.bl false))] [],
   .asg 2 (.neg (.cst (.int (1)))),
   .for_ (.one 3) (.seq (.var 0)) [.ifs (.not (.call fis_within [(.var 3), (.bin .Add (.var 2) (.cst (.int (1)))), (.bin .Sub (.var 1) (.cst (.int (1))))])) [.ret (.cst (.bl false))] [], .asg 2 (.var 3)] [3],
   .ret (.cst (.bl true))]
def semis_ascending : List D → FR := semOf 2 [.v, .v] bis_ascending
def fis_ascending : FnI := ⟨"is_ascending", [.v, .v], semis_ascending⟩
def tis_ascending : Tab := { fns := [fis_within], cst := [] }
theorem cmpis_ascending : cSs (cS ⟨tis_ascending, ["value", "bound", "last", "member"], 40, defScope (topS 17), ioS [.v, .v] 0, [], er⟩ 40) [] (defBody (topS 17)) = some bis_ascending := by rfl
def b_are_rows : List S :=
  [.ifs (.or (.not (.isi (.var 0) "tuple")) (.not (.cmp2 .LtE .LtE (.cst (.int (1))) (.bf .len [(.var 0)]) (.cst (.int (5)))))) [.ret (.cst (.bl false))] [],
   .ret (.bf .all [(.lc (.and (.call fis_ascending [(.var 2), (.var 1)]) (.cmp .Gt (.bf .len [(.var 2)]) (.cst (.int (0))))) 2 (.var 0) none)])]
def sem_are_rows : List D → FR := semOf 1 [.v, .v] b_are_rows
def f_are_rows : FnI := ⟨"_are_rows", [.v, .v], sem_are_rows⟩
def t_are_rows : Tab := { fns := [fis_ascending], cst := [("MOST_KEYS", .int 5), ("MOST_LOCKS", .int 5)] }
theorem cmp_are_rows : cSs (cS ⟨t_are_rows, ["value", "many", "row"], 40, defScope (topS 22), ioS [.v, .v] 0, [], er⟩ 40) [] (defBody (topS 22)) = some b_are_rows := by rfl
def bTable : List S :=
  [.ifs (.not (.call fis_within [(.var 1), (.cst (.int (1))), (.cst (.int (5)))])) [.raise 1 (.var 1)] [],
   .ifs (.not (.call f_are_rows [(.var 2), (.var 1)])) [.raise 2 (.var 2)] [],
   .setf [0] 0 "many" (.var 1),
   .setf [0] 0 "rows" (.bf .tuple [(.lc (.bf .tuple [(.var 3)]) 3 (.var 2) none)])]
def semTable : List D → FR := semOf 1 [.io, .v, .v] bTable
def fTable : FnI := ⟨"Table", [.io, .v, .v], semTable⟩
def tTable : Tab := { fns := [fis_within, f_are_rows], cst := [("MOST_KEYS", .int 5), ("MOST_LOCKS", .int 5)], cls := [0], fl := ["many", "rows"] }
theorem cmpTable : cSs (cS ⟨tTable, ["self", "many", "rows", "row"], 40, defScope (inClass (topS 21) 0), ioS [.io, .v, .v] 0, [], er⟩ 40) [] (defBody (inClass (topS 21) 0)) = some bTable := by rfl
def b_law_take : List S :=
  [.ifs (.cmp .Gt (.subc 0 0) (.cst (.int (0)))) [.asg 2 (.bin .Mod (.bf .int [(.subc 0 0)]) (.var 1)), .setc 0 0 (.bin .FloorDiv (.subc 0 0) (.var 1)), .retv 2] [],
   .setc 0 1 (.bin .Mod (.bf .int [(.bin .Add (.bin .Mult (.subc 0 1) (.cst (.int (39373)))) (.cst (.int (69621))))]) (.cst (.int (2147483647)))),
   .ret (.bin .Mod (.bf .int [(.bin .FloorDiv (.subc 0 1) (.cst (.int (8191))))]) (.var 1))]
def sem_law_take : List D → FR := semOf 1 [.io, .v] b_law_take
def f_law_take : FnI := ⟨"_law_take", [.io, .v], sem_law_take⟩
def t_law_take : Tab := { fns := [], cst := [] }
theorem cmp_law_take : cSs (cS ⟨t_law_take, ["box", "many", "got"], 40, defScope (topS 25), ioS [.io, .v] 0, [], er⟩ 40) [] (defBody (topS 25)) = some b_law_take := by rfl
def b_law_box : List S :=
  [.asg 2 (.bin .Add (.bin .Mult (.cst (.int (7919))) (.var 1)) (.cst (.int (101)))),
   .ifs (.cmp .Lt (.var 1) (.bf .len [(.var 0)])) [.asg 2 (.bf .abs [(.sub (.var 0) (.var 1))])] [.ifs (.cmp .Gt (.bf .len [(.var 0)]) (.cst (.int (0)))) [.asg 2 (.bin .Add (.bin .Mult (.bin .Mod (.bf .int [(.bf .abs [(.sub (.var 0) (.bin .Mod (.bf .int [(.var 1)]) (.bf .len [(.var 0)])))])]) (.cst (.int (1000000007)))) (.cst (.int (31)))) (.bin .Mult (.cst (.int (7919))) (.var 1)))] []],
   .asg 3 (.sub (.lst [(.cst (.int (0))), (.var 2)]) (.bf .int [(.cmp .GtE (.var 2) (.bin .Pow (.cst (.int (10))) (.cst (.int (18)))))])),
   .ret (.lst [(.var 3), (.bin .Add (.bin .Mod (.bf .int [(.bin .Add (.bin .Mult (.bin .Mod (.bf .int [(.var 2)]) (.cst (.int (1000000007)))) (.cst (.int (48271)))) (.bin .Mult (.cst (.int (613))) (.var 1)))]) (.cst (.int (2147483647)))) (.cst (.int (1))))])]
def sem_law_box : List D → FR := semOf 2 [.v, .v] b_law_box
def f_law_box : FnI := ⟨"_law_box", [.v, .v], sem_law_box⟩
def t_law_box : Tab := { fns := [], cst := [] }
theorem cmp_law_box : cSs (cS ⟨t_law_box, ["script", "k", "cell", "great"], 40, defScope (topS 24), ioS [.v, .v] 0, [], er⟩ 40) [] (defBody (topS 24)) = some b_law_box := by rfl
def b_law_pick : List S :=
  [.ret (.sub (.var 1) (.call f_law_take [(.var 0), (.bf .len [(.var 1)])]))]
def sem_law_pick : List D → FR := semOf 0 [.io, .v] b_law_pick
def f_law_pick : FnI := ⟨"_law_pick", [.io, .v], sem_law_pick⟩
def t_law_pick : Tab := { fns := [f_law_take], cst := [] }
theorem cmp_law_pick : cSs (cS ⟨t_law_pick, ["box", "some"], 40, defScope (topS 26), ioS [.io, .v] 0, [], er⟩ 40) [] (defBody (topS 26)) = some b_law_pick := by rfl
def b_law_ones : List S :=
  [.asg 1 (.lst [(.mkx 1 "value" [(.var 0)]), (.mkx 2 "value" [(.var 0)]), (.mkx 3 "value" [(.var 0)]), (.mkx 4 "value" [(.var 0)]), (.mkx 5 "value" [(.var 0)]), (.mkx 6 "value" [(.var 0)])]),
   .ret (.bin .Add (.var 1) (.lst [(.mkx 7 "value" [(.var 0)]), (.mkx 8 "value" [(.var 0)]), (.mkx 9 "value" [(.var 0)]), (.mkx 10 "value" [(.var 0)])]))]
def sem_law_ones : List D → FR := semOf 1 [.v] b_law_ones
def f_law_ones : FnI := ⟨"_law_ones", [.v], sem_law_ones⟩
def t_law_ones : Tab := { fns := [], cst := [], xmk := xmkL, xcs := xcs, xfl := ["value", "what", "word"], xis := xisL, xbs := [("LockError", 13)] }
theorem cmp_law_ones : cSs (cS ⟨t_law_ones, ["v", "found"], 40, defScope (topS 27), ioS [.v] 0, [], er⟩ 40) [] (defBody (topS 27)) = some b_law_ones := by rfl
def b_law_kinds : List S :=
  [.asg 1 (.lst [(.xis xcs (some 1) (xl (some 1)) (.var 0)), (.xis xcs (some 2) (xl (some 2)) (.var 0)), (.xis xcs (some 3) (xl (some 3)) (.var 0)), (.xis xcs (some 4) (xl (some 4)) (.var 0))]),
   .asg 1 (.bin .Add (.var 1) (.lst [(.xis xcs (some 5) (xl (some 5)) (.var 0)), (.xis xcs (some 6) (xl (some 6)) (.var 0)), (.xis xcs (some 7) (xl (some 7)) (.var 0))])),
   .asg 1 (.bin .Add (.var 1) (.lst [(.xis xcs (some 8) (xl (some 8)) (.var 0)), (.xis xcs (some 9) (xl (some 9)) (.var 0)), (.xis xcs (some 10) (xl (some 10)) (.var 0))])),
   .asg 1 (.bin .Add (.var 1) (.lst [(.xis xcs (some 11) (xl (some 11)) (.var 0)), (.xis xcs (some 12) (xl (some 12)) (.var 0))])),
   .ret (.bin .Add (.var 1) (.lst [(.xis xcs (some 13) (xl (some 13)) (.var 0)), (.xis xcs none (xl none) (.var 0))]))]
def sem_law_kinds : List D → FR := semOf 1 [.v] b_law_kinds
def f_law_kinds : FnI := ⟨"_law_kinds", [.v], sem_law_kinds⟩
def t_law_kinds : Tab := { fns := [], cst := [], xmk := xmkL, xcs := xcs, xfl := ["value", "what", "word"], xis := xisL, xbs := [("LockError", 13)] }
theorem cmp_law_kinds : cSs (cS ⟨t_law_kinds, ["e", "found"], 40, defScope (topS 28), ioS [.v] 0, [], er⟩ 40) [] (defBody (topS 28)) = some b_law_kinds := by rfl
def blaw : List S :=
  [.asgb 1 (.call f_law_box [(.var 0), (.cst (.int (0)))]),
   .asg 2 (.lst [(.bin .Sub (.call f_law_take [(.var 1), (.bin .Pow (.cst (.int (10))) (.cst (.int (6))))]) (.cst (.int (500000)))), (.bin .Add (.cst (.str "text ")) (.bf .str [(.call f_law_take [(.var 1), (.cst (.int (99)))])])), (.tup [(.cst (.int (1))), (.call f_law_take [(.var 1), (.cst (.int (9)))])])]),
   .asg 2 (.bin .Add (.var 2) (.lst [(.lst [(.call f_law_take [(.var 1), (.cst (.int (9)))])]), (.cst .non), (.cst (.bl true)), (.tup [])])),
   .asg 3 (.call f_law_pick [(.var 1), (.var 2)]),
   .asg 4 (.call f_law_ones [(.var 3)]),
   .for_ (.one 5) (.seq (.var 4)) [.ifs (.cmp .NotEq (.xfld xcs (.var 5) "value") (.var 3)) [.ret (.cst (.bl false))] []] [5],
   .par 6 7 (.mkx 11 "what" [(.var 3)]) (.mkx 12 "word" [(.var 3)]),
   .ifs (.or (.cmp .NotEq (.xfld xcs (.var 6) "what") (.var 3)) (.cmp .NotEq (.xfld xcs (.var 7) "word") (.var 3))) [.ret (.cst (.bl false))] [],
   .asg 4 (.bin .Add (.var 4) (.lst [(.var 6), (.var 7)])),
   .for_ (.one 8) (.rng (.cst (.int (0))) (.bf .len [(.var 4)])) [.ifs (.cmp .NotEq (.call f_law_kinds [(.sub (.var 4) (.var 8))]) (.lcr (.or (.cmp .Eq (.var 10) (.var 8)) (.cmp .GtE (.var 10) (.bf .len [(.var 4)]))) 10 (.cst (.int (0))) (.bin .Add (.bf .len [(.var 4)]) (.cst (.int (2)))) none)) [.ret (.cst (.bl false))] []] [8],
   .tryi [.ex (.mk fTable 0 [(.cst (.int (0))), (.tup [])]), .ret (.cst (.bl false))] [1, 2] 1 (xl (some 1)) 0]
def semlaw : List D → FR := semOf 10 [.v] blaw
def flaw : FnI := ⟨"law", [.v], semlaw⟩
def tlaw : Tab := { fns := [f_law_box, f_law_take, f_law_pick, f_law_ones, f_law_kinds], cst := [], cls := [0], fl := ["many", "rows"], mks := [("Table", (0, fTable))], xmk := xmkL, xcs := xcs, xfl := ["value", "what", "word"], xis := xisL, xbs := [("LockError", 13)] }
theorem cmplaw : cSs (cS ⟨tlaw, ["script", "box", "some", "v", "errors", "one", "what", "word", "k", "e", "j"], 40, defScope (topS 29), ioS [.v] 0, [1], er⟩ 40) [] (defBody (topS 29)) = some blaw := by rfl
end K01
set_option Elab.async false
set_option linter.all false
set_option autoImplicit false
set_option maxRecDepth 100000
set_option maxHeartbeats 4000000
namespace K01
open PySem PySem.Spec PyProof.Rows L2 DL
/-! the mathematics of k01 -/
def whole : D → Bool
  | .int _ => true
  | _ => false
def noIns : D → Bool
  | .ins _ _ => false
  | .exv _ _ => false
  | _ => true
theorem int_is {d : D} (h : noIns d = true) : semis_integer [d] = .ok (.bl (whole d)) .fz [] := by
  cases d <;> first
    | (cases h; done)
    | simp [semis_integer, semOf, bis_integer, DL.envOf, ioS, DL.execs, DL.exec, ev, frz, frz1, esc, escd, escs, isiD, tyD, truD, whole, toFR, withO, outsD, DL.R.bind, SR.of]
/-- a whole number from lo to hi -/
def within (d : D) (lo hi : Int) : Bool := match d with
  | .int i => decide (lo ≤ i) && decide (i ≤ hi)
  | _ => false
theorem within_is {d : D} {lo hi : Int} (h : noIns d = true) : semis_within [d, .int lo, .int hi] = .ok (.bl (within d lo hi)) .fz [] := by
  have hi' := int_is h
  cases d with
  | int i =>
    by_cases h1 : lo ≤ i <;> by_cases h2 : i ≤ hi <;>
      simp [semis_within, semOf, bis_within, fis_integer, DL.envOf, ioS, DL.execs, DL.exec, ev, eva, esca, resolve, boxes, nodupB, putOuts, frz, frz1, esc, escd, escs, hi', whole, within, cmpD, okB, lift, truD, toFR, withO, outsD, DL.R.bind, SR.of, h1, h2]
  | ins c fs => cases h
  | exv c fs => cases h
  | _ => simp [semis_within, semOf, bis_within, fis_integer, DL.envOf, ioS, DL.execs, DL.exec, ev, eva, esca, resolve, boxes, nodupB, putOuts, frz, frz1, esc, escd, escs, hi', whole, within, cmpD, okB, lift, truD, toFR, withO, outsD, DL.R.bind, SR.of]
/-- a draw -/
theorem take_is (g s many : Int) (h0 : 0 < many) (h1 : many < 1073741824) : ∃ r g' s', 0 ≤ r ∧ r < many ∧ sem_law_take [.lst [.int g, .int s], .int many] = .ok (.int r) .fz [.lst [.int g', .int s']] := by
  by_cases hg : 0 < g
  · refine ⟨g % many, g / many, s, Int.emod_nonneg _ (by omega), Int.emod_lt_of_pos _ h0, ?_⟩
    simp [sem_law_take, semOf, b_law_take, DL.envOf, ioS, DL.execs, DL.exec, ev, evp, frz, frz1, esc, escd, escs, escp, tst, subD, DL.ixN, cmpD, okB, okI, lift, truD, bfD, binD, hold, toFR, withO, outsD, DL.R.bind, SR.of, hg, h0, h1]
  · refine ⟨((s * 39373 + 69621) % 2147483647) / 8191 % many, g, (s * 39373 + 69621) % 2147483647, Int.emod_nonneg _ (by omega), Int.emod_lt_of_pos _ h0, ?_⟩
    simp [sem_law_take, semOf, b_law_take, DL.envOf, ioS, DL.execs, DL.exec, ev, evp, frz, frz1, esc, escd, escs, escp, tst, subD, DL.ixN, cmpD, okB, okI, lift, truD, bfD, binD, hold, toFR, withO, outsD, DL.R.bind, SR.of, hg, h0, h1]
/-- the box of a law -/
theorem box_tail (ns : List Int) (k cell : Int) : ∃ g s, toFR [] (DL.execs (b_law_box.drop 2) [.val (.src ns), .val (.int k), .val (.int cell), .un]) = .ok (.lst [.int g, .int s]) .tmp [] := by
  have p18 : ((10 : Int) ^ (18 : Int).toNat) = 1000000000000000000 := by decide
  by_cases hb : (1000000000000000000 : Int) ≤ cell
  · refine ⟨cell, (cell % 1000000007 * 48271 + 613 * k) % 2147483647 + 1, ?_⟩
    simp [semOf, DL.envOf, ioS, DL.execs, DL.exec, ev, evs, evp, eva, evo, esca, resolve, boxes, nodupB, putOuts, frz, frz1, esc, escd, escs, escp, esco, tst, subD, DL.ixN, cmpD, okB, okI, lift, truD, bfD, binD, hold, toFR, withO, outsD, DL.R.bind, SR.of, isiD, tyD, fgt, items, b_law_box, p18, hb]
  · refine ⟨0, (cell % 1000000007 * 48271 + 613 * k) % 2147483647 + 1, ?_⟩
    simp [semOf, DL.envOf, ioS, DL.execs, DL.exec, ev, evs, evp, eva, evo, esca, resolve, boxes, nodupB, putOuts, frz, frz1, esc, escd, escs, escp, esco, tst, subD, DL.ixN, cmpD, okB, okI, lift, truD, bfD, binD, hold, toFR, withO, outsD, DL.R.bind, SR.of, isiD, tyD, fgt, items, b_law_box, p18, hb]
theorem box_head (ns : List Int) (k : Nat) : ∃ cell : Int, DL.execs b_law_box [.val (.src ns), .val (.int k), .un, .un] = DL.execs (b_law_box.drop 2) [.val (.src ns), .val (.int k), .val (.int cell), .un] := by
  rcases Nat.lt_or_ge k ns.length with h | h
  · refine ⟨if ns[k] < 0 then -ns[k] else ns[k], ?_⟩
    simp [b_law_box, DL.execs, DL.exec, ev, evp, frz, frz1, esc, escd, escp, tst, subD, DL.ixN, cmpD, okB, okI, lift, truD, bfD, binD, hold, DL.R.bind, SR.of, h]
  · have h' : ¬ (k < ns.length) := by omega
    by_cases hn : ns = []
    · subst hn
      refine ⟨7919 * k + 101, ?_⟩
      have z0 : ¬ ((k : Int) < 0) := by omega
      simp [z0, b_law_box, DL.execs, DL.exec, ev, evp, frz, frz1, esc, escd, escp, tst, subD, DL.ixN, cmpD, okB, okI, lift, truD, bfD, binD, hold, DL.R.bind, SR.of]
    · have hl : 0 < ns.length := List.length_pos_iff.mpr hn
      have m1 : k % ns.length < ns.length := Nat.mod_lt _ hl
      refine ⟨(if ns[k % ns.length] < 0 then -ns[k % ns.length] else ns[k % ns.length]) % 1000000007 * 31 + 7919 * k, ?_⟩
      have i0 : (0 : Int) ≤ (k : Int) % ns.length := Int.emod_nonneg _ (by omega)
      have i1 : (k : Int) % ns.length < ns.length := Int.emod_lt_of_pos _ (by omega)
      have tn : ((k : Int) % ns.length).toNat = k % ns.length := by
        have : (k : Int) % (ns.length : Int) = ((k % ns.length : Nat) : Int) := by simp
        rw [this]; rfl
      have hz : ¬ ((k : Int) < ns.length) := by omega
      have hz2 : (0 : Int) < ns.length := by omega
      simp [b_law_box, DL.execs, DL.exec, ev, evp, frz, frz1, esc, escd, escp, tst, subD, DL.ixN, cmpD, okB, okI, lift, truD, bfD, binD, hold, DL.R.bind, SR.of, h', hl, hn, i0, i1, tn, m1]
theorem box_is (ns : List Int) (k : Nat) : ∃ g s, sem_law_box [.src ns, .int k] = .ok (.lst [.int g, .int s]) .tmp [] := by
  obtain ⟨c, hc⟩ := box_head ns k
  obtain ⟨g, s, h⟩ := box_tail ns k c
  refine ⟨g, s, ?_⟩
  rw [← h, ← hc]
  rfl
theorem pick_is (g s : Int) (ds : List D) (hn : ds ≠ []) (hl : ds.length < 1000) : ∃ d ∈ ds, ∃ g' s', sem_law_pick [.lst [.int g, .int s], .lst ds] = .ok d .fz [.lst [.int g', .int s']] := by
  have h0 : 0 < ds.length := List.length_pos_iff.mpr hn
  obtain ⟨r, g', s', r0, r1, ht⟩ := take_is g s (ds.length : Int) (by omega) (by omega)
  have hr : r.toNat < ds.length := by omega
  refine ⟨ds[r.toNat], List.getElem_mem hr, g', s', ?_⟩
  simp [semOf, DL.envOf, ioS, DL.execs, DL.exec, ev, evs, evp, eva, evo, esca, resolve, boxes, nodupB, putOuts, frz, frz1, esc, escd, escs, escp, esco, tst, subD, DL.ixN, cmpD, okB, okI, lift, truD, bfD, binD, hold, toFR, withO, outsD, DL.R.bind, SR.of, isiD, tyD, fgt, items, sem_law_pick, b_law_pick, f_law_take, ht, r0, r1, hr]
def boxD (g s : Int) : D := .lst [.int g, .int s]
end K01
set_option Elab.async false
set_option linter.all false
set_option autoImplicit false
set_option maxRecDepth 100000
set_option maxHeartbeats 8000000
namespace K01
open PySem PySem.Spec PyProof.Rows L2 DL
/-! the mathematics of k01 -/
/-! == back and forth -/
mutual
theorem eqv_refl : ∀ (d : D), flatD d = true → eqv d d = true
  | .non, _ => rfl
  | .bl b, _ => by simp [eqv]
  | .int i, _ => by simp [eqv]
  | .str x, _ => by simp [eqv]
  | .tup ds, h => by simp only [eqv]; exact eqvs_refl ds h
  | .lst ds, h => by simp only [eqv]; exact eqvs_refl ds h
theorem eqvs_refl : ∀ (ds : List D), flatDs ds = true → eqvs ds ds = true
  | [], _ => rfl
  | d :: ds, h => by
    simp only [flatDs, Bool.and_eq_true] at h
    simp only [eqvs, eqv_refl d h.1, eqvs_refl ds h.2, Bool.and_self]
end
theorem beqI (i j : Int) : (i == j) = (j == i) := by rw [Bool.eq_iff_iff, beq_iff_eq, beq_iff_eq]; exact eq_comm
def errV (v : D) (c : Nat) : D := .exv c [("value", v)]
def errs (v : D) : List D := [errV v 1, errV v 2, errV v 3, errV v 4, errV v 5, errV v 6, errV v 7, errV v 8, errV v 9, errV v 10]
theorem ones_is {v : D} : sem_law_ones [v] = .ok (.lst (errs v)) .tmp [] := by
  have b : (10 : Nat) ≤ LIM := by unfold LIM; omega
  have e0 : DL.envOf [Md.v] [v] 1 = [.val v, .un] := rfl
  unfold sem_law_ones semOf
  rw [e0]
  simp [b_law_ones, DL.execs, DL.exec, ev, evs, eva, frz, frz1, esc, escd, escs, esca, hold, DL.R.bind, SR.of, toFR, withO, outsD, ioS, binD, lift, b, errs, errV]
/-- of which classes -/
def kinds (c : Nat) : List D := [.bl (c == 1), .bl (c == 2), .bl (c == 3), .bl (c == 4), .bl (c == 5), .bl (c == 6), .bl (c == 7), .bl (c == 8), .bl (c == 9), .bl (c == 10), .bl (c == 11), .bl (c == 12), .bl true, .bl true]
theorem xl_at {c : Nat} (hc : c ∈ xcs) (y : Nat) : (xl (some y)).lookup c = some (c == y || y == 13) := by
  simp only [xcs, List.mem_cons, List.not_mem_nil, or_false] at hc
  rcases hc with rfl | rfl | rfl | rfl | rfl | rfl | rfl | rfl | rfl | rfl | rfl | rfl <;> simp [xl, xcs, List.lookup]
theorem xl_no {c : Nat} (hc : c ∈ xcs) : (xl none).lookup c = some true := by
  simp only [xcs, List.mem_cons, List.not_mem_nil, or_false] at hc
  rcases hc with rfl | rfl | rfl | rfl | rfl | rfl | rfl | rfl | rfl | rfl | rfl | rfl <;> rfl
theorem ev_xis {c : Nat} {fs : List (Str × D)} {env : DL.Env} {i y : Nat} (hc : c ∈ xcs) (he : env[i]? = some (.val (.exv c fs))) : ev (.xis xcs (some y) (xl (some y)) (.var i)) env = .ok ⟨.bl (c == y || y == 13), .fz⟩ env := by
  have hc' : xcs.contains c = true := by simpa using hc
  simp only [ev, he, DL.R.bind, hc', if_true, xl_at hc y]
theorem ev_xis0 {c : Nat} {fs : List (Str × D)} {env : DL.Env} {i : Nat} (hc : c ∈ xcs) (he : env[i]? = some (.val (.exv c fs))) : ev (.xis xcs none (xl none) (.var i)) env = .ok ⟨.bl true, .fz⟩ env := by
  have hc' : xcs.contains c = true := by simpa using hc
  simp only [ev, he, DL.R.bind, hc', if_true, xl_no hc]
theorem kinds_is {c : Nat} {fs : List (Str × D)} (hc : c ∈ xcs) : sem_law_kinds [.exv c fs] = .ok (.lst (kinds c)) .tmp [] := by
  have b : (14 : Nat) ≤ LIM := by unfold LIM; omega
  have b1 : (7 : Nat) ≤ LIM := by unfold LIM; omega
  have b2 : (10 : Nat) ≤ LIM := by unfold LIM; omega
  have b3 : (12 : Nat) ≤ LIM := by unfold LIM; omega
  have e0 : DL.envOf [Md.v] [.exv c fs] 1 = [.val (.exv c fs), .un] := rfl
  have h0 : ∀ (s : Slot) (y : Nat), ev (.xis xcs (some y) (xl (some y)) (.var 0)) [.val (.exv c fs), s] = .ok ⟨.bl (c == y || y == 13), .fz⟩ [.val (.exv c fs), s] := fun s y => ev_xis hc rfl
  have h1 : ∀ (s : Slot), ev (.xis xcs none (xl none) (.var 0)) [.val (.exv c fs), s] = .ok ⟨.bl true, .fz⟩ [.val (.exv c fs), s] := fun s => ev_xis0 hc rfl
  have hv : ∀ (l : List D), ev (.var 1) [.val (.exv c fs), .own (.lst l)] = .ok ⟨.lst l, .ln⟩ [.val (.exv c fs), .own (.lst l)] := fun l => rfl
  have g : ∀ {es : List E} {ds : List D} {env : DL.Env}, evs es env = .ok ds env → ev (.lst es) env = .ok ⟨.lst ds, .tmp⟩ env := fun h => by rw [ev, h]; rfl
  have gc : ∀ {e : E} {es : List E} {d : D} {ds : List D} {env : DL.Env}, ev e env = .ok ⟨d, .fz⟩ env → evs es env = .ok ds env → evs (e :: es) env = .ok (d :: ds) env := fun h1 h2 => by rw [evs, h1]; simp [h2]
  have gn : ∀ {env : DL.Env}, evs [] env = .ok [] env := by intro env; rw [evs]
  have x1 := g (gc (h0 .un 1) (gc (h0 .un 2) (gc (h0 .un 3) (gc (h0 .un 4) gn))))
  have add : ∀ {l m : List D} {es : List E}, evs es [.val (.exv c fs), .own (.lst l)] = .ok m [.val (.exv c fs), .own (.lst l)] → l.length + m.length ≤ 14 → ev (.bin .Add (.var 1) (.lst es)) [.val (.exv c fs), .own (.lst l)] = .ok ⟨.lst (l ++ m), .tmp⟩ [.val (.exv c fs), .own (.lst l)] := fun {l m es} h hl => by
    rw [ev_bin (hv l) (g h)]
    have : l.length + m.length ≤ LIM := by omega
    simp [binD, this, lift]
  have a1 : DL.exec (.asg 1 (.lst [(.xis xcs (some 1) (xl (some 1)) (.var 0)), (.xis xcs (some 2) (xl (some 2)) (.var 0)), (.xis xcs (some 3) (xl (some 3)) (.var 0)), (.xis xcs (some 4) (xl (some 4)) (.var 0))])) [.val (.exv c fs), .un] = .next [.val (.exv c fs), .own (.lst [.bl (c == 1 || 1 == 13), .bl (c == 2 || 2 == 13), .bl (c == 3 || 3 == 13), .bl (c == 4 || 4 == 13)])] := ex_asg rfl x1 rfl
  have asg : ∀ {l m : List D} {es : List E}, frz (escd (.bin .Add (.var 1) (.lst es))) [.val (.exv c fs), .own (.lst l)] = [.val (.exv c fs), .own (.lst l)] → evs es [.val (.exv c fs), .own (.lst l)] = .ok m [.val (.exv c fs), .own (.lst l)] → l.length + m.length ≤ 14 → DL.exec (.asg 1 (.bin .Add (.var 1) (.lst es))) [.val (.exv c fs), .own (.lst l)] = .next [.val (.exv c fs), .own (.lst (l ++ m))] := fun hf h hl => ex_asg hf (add h hl) rfl
  unfold sem_law_kinds semOf
  rw [e0, b_law_kinds, execs_next a1]
  rw [execs_next (asg rfl (gc (h0 _ 5) (gc (h0 _ 6) (gc (h0 _ 7) gn))) (by simp)), execs_next (asg rfl (gc (h0 _ 8) (gc (h0 _ 9) (gc (h0 _ 10) gn))) (by simp)), execs_next (asg rfl (gc (h0 _ 11) (gc (h0 _ 12) gn)) (by simp))]
  have r := add (gc (h0 _ 13) (gc (h1 _) gn)) (l := [.bl (c == 1 || 1 == 13), .bl (c == 2 || 2 == 13), .bl (c == 3 || 3 == 13), .bl (c == 4 || 4 == 13)] ++ [.bl (c == 5 || 5 == 13), .bl (c == 6 || 6 == 13), .bl (c == 7 || 7 == 13)] ++ [.bl (c == 8 || 8 == 13), .bl (c == 9 || 9 == 13), .bl (c == 10 || 10 == 13)] ++ [.bl (c == 11 || 11 == 13), .bl (c == 12 || 12 == 13)]) (by simp)
  have hf : ∀ l : List D, frz (esc (.bin .Add (.var 1) (.lst [(.xis xcs (some 13) (xl (some 13)) (.var 0)), (.xis xcs none (xl none) (.var 0))]))) [.val (.exv c fs), .own (.lst l)] = [.val (.exv c fs), .own (.lst l)] := fun l => rfl
  rw [DL.execs, DL.exec, hf, r]
  simp [SR.of, toFR, ioS, outsD, withO, kinds]
end K01
set_option Elab.async false
set_option linter.all false
set_option autoImplicit false
set_option maxRecDepth 100000
set_option maxHeartbeats 800000
namespace K01
open PySem PySem.Spec PyProof.Rows L2 DL
/-! the law of k01 -/
theorem txt_ok : ∀ n : Nat, n < 99 → (PyData.strOk (("text " : Str) ++ Str.ofString (Int.repr (n : Int))) && decide ((Str.ofString (Int.repr (n : Int))).length ≤ 9)) = true := by
  intro n hn
  have : ((List.range 99).all fun n => (PyData.strOk (("text " : Str) ++ Str.ofString (Int.repr (n : Int))) && decide ((Str.ofString (Int.repr (n : Int))).length ≤ 9))) = true := by decide +kernel
  exact List.all_eq_true.mp this n (List.mem_range.mpr hn)
theorem log_ok {n : Nat} (hn : n < 99) : n.log2 < 1920 := by
  have : n.log2 ≤ n := by
    have := Nat.log2_le_self n
    omega
  omega
def goodV (v : D) : Prop := shD v = true
/-- what is drawn -/
theorem some_is (ns : List Int) : ∃ v l g s, goodV v ∧ DL.execs blaw [.val (.src ns), .un, .un, .un, .un, .un, .un, .un, .un, .un, .un] = DL.execs (blaw.drop 4) [.val (.src ns), .box (boxD g s), .val (.lst l), .val v, .un, .un, .un, .un, .un, .un, .un] := by
  obtain ⟨g0, s0, hb⟩ := box_is ns 0
  have hb : sem_law_box [.src ns, .int 0] = .ok (boxD g0 s0) .tmp [] := hb
  obtain ⟨r1, g1, s1, _, _, t1⟩ := take_is g0 s0 1000000 (by omega) (by omega)
  obtain ⟨r2, g2, s2, r20, r21, t2⟩ := take_is g1 s1 99 (by omega) (by omega)
  obtain ⟨r3, g3, s3, _, _, t3⟩ := take_is g2 s2 9 (by omega) (by omega)
  obtain ⟨r4, g4, s4, _, _, t4⟩ := take_is g3 s3 9 (by omega) (by omega)
  obtain ⟨n2, rfl⟩ : ∃ n : Nat, r2 = n := ⟨r2.toNat, by omega⟩
  have n2lt : n2 < 99 := by omega
  have ht := txt_ok n2 n2lt
  rw [Bool.and_eq_true, decide_eq_true_eq] at ht
  obtain ⟨ht1, ht2⟩ := ht
  have hlog := log_ok n2lt
  have hlen : ("text " : Str).length + (Str.ofString (Int.repr (n2 : Int))).length ≤ LIM := by
    have : ("text " : Str).length = 5 := by decide +kernel
    unfold LIM; omega
  obtain ⟨v, hv, g5, s5, hp⟩ := pick_is g4 s4 [.int (r1 - 500000), .str (("text " : Str) ++ Str.ofString (Int.repr (n2 : Int))), .tup [.int 1, .int r3], .lst [.int r4], .non, .bl true, .tup []] (by simp) (by simp)
  refine ⟨v, [.int (r1 - 500000), .str (("text " : Str) ++ Str.ofString (Int.repr (n2 : Int))), .tup [.int 1, .int r3], .lst [.int r4], .non, .bl true, .tup []], g5, s5, ?_, ?_⟩
  · simp only [List.mem_cons, List.not_mem_nil, or_false] at hv
    unfold goodV
    rcases hv with rfl | rfl | rfl | rfl | rfl | rfl | rfl <;> first | rfl | skip
    simp [shD, flatD, depthD, ht1]
  · have x0 : DL.exec (.asgb 1 (.call f_law_box [(.var 0), (.cst (.int (0)))])) [.val (.src ns), .un, .un, .un, .un, .un, .un, .un, .un, .un, .un] = .next [.val (.src ns), .box (boxD g0 s0), .un, .un, .un, .un, .un, .un, .un, .un, .un] := by
      simp [DL.exec, ev, eva, escd, escs, esca, frz, frz1, f_law_box, resolve, boxes, nodupB, putOuts, hb, DL.R.bind, SR.of, boxD]
    have p6 : ((10 : Int) ^ (6 : Int).toNat) = 1000000 := by decide
    have x1 : DL.exec (.asg 2 (.lst [(.bin .Sub (.call f_law_take [(.var 1), (.bin .Pow (.cst (.int (10))) (.cst (.int (6))))]) (.cst (.int (500000)))), (.bin .Add (.cst (.str "text ")) (.bf .str [(.call f_law_take [(.var 1), (.cst (.int (99)))])])), (.tup [(.cst (.int (1))), (.call f_law_take [(.var 1), (.cst (.int (9)))])])])) [.val (.src ns), .box (boxD g0 s0), .un, .un, .un, .un, .un, .un, .un, .un, .un] = .next [.val (.src ns), .box (boxD g3 s3), .own (.lst [.int (r1 - 500000), .str (("text " : Str) ++ Str.ofString (Int.repr (n2 : Int))), .tup [.int 1, .int r3]]), .un, .un, .un, .un, .un, .un, .un, .un] := by
      simp [DL.exec, ev, evs, evp, eva, escd, escs, escp, esc, esca, frz, frz1, f_law_take, resolve, boxes, nodupB, putOuts, binD, okI, bfD, lift, p6, t1, t2, t3, hlog, hlen, DL.R.bind, SR.of, boxD, hold]
    have x2 : DL.exec (.asg 2 (.bin .Add (.var 2) (.lst [(.lst [(.call f_law_take [(.var 1), (.cst (.int (9)))])]), (.cst .non), (.cst (.bl true)), (.tup [])]))) [.val (.src ns), .box (boxD g3 s3), .own (.lst [.int (r1 - 500000), .str (("text " : Str) ++ Str.ofString (Int.repr (n2 : Int))), .tup [.int 1, .int r3]]), .un, .un, .un, .un, .un, .un, .un, .un] = .next [.val (.src ns), .box (boxD g4 s4), .own (.lst [.int (r1 - 500000), .str (("text " : Str) ++ Str.ofString (Int.repr (n2 : Int))), .tup [.int 1, .int r3], .lst [.int r4], .non, .bl true, .tup []]), .un, .un, .un, .un, .un, .un, .un, .un] := by
      have b : (7 : Nat) ≤ LIM := by unfold LIM; omega
      simp [DL.exec, ev, evs, evp, eva, escd, escs, escp, esc, esca, frz, frz1, f_law_take, resolve, boxes, nodupB, putOuts, binD, okI, bfD, lift, t4, b, DL.R.bind, SR.of, boxD, hold]
    have hp : sem_law_pick [boxD g4 s4, .lst [.int (r1 - 500000), .str (("text " : Str) ++ Str.ofString (Int.repr (n2 : Int))), .tup [.int 1, .int r3], .lst [.int r4], .non, .bl true, .tup []]] = .ok v .fz [boxD g5 s5] := hp
    have x3 : DL.exec (.asg 3 (.call f_law_pick [(.var 1), (.var 2)])) [.val (.src ns), .box (boxD g4 s4), .own (.lst [.int (r1 - 500000), .str (("text " : Str) ++ Str.ofString (Int.repr (n2 : Int))), .tup [.int 1, .int r3], .lst [.int r4], .non, .bl true, .tup []]), .un, .un, .un, .un, .un, .un, .un, .un] = .next [.val (.src ns), .box (boxD g5 s5), .val (.lst [.int (r1 - 500000), .str (("text " : Str) ++ Str.ofString (Int.repr (n2 : Int))), .tup [.int 1, .int r3], .lst [.int r4], .non, .bl true, .tup []]), .val v, .un, .un, .un, .un, .un, .un, .un] := by
      simp [DL.exec, ev, evs, evp, eva, escd, escs, escp, esc, esca, frz, frz1, f_law_pick, resolve, boxes, nodupB, putOuts, hp, DL.R.bind, SR.of, hold]
    have e : blaw = .asgb 1 (.call f_law_box [(.var 0), (.cst (.int (0)))]) :: .asg 2 (.lst [(.bin .Sub (.call f_law_take [(.var 1), (.bin .Pow (.cst (.int (10))) (.cst (.int (6))))]) (.cst (.int (500000)))), (.bin .Add (.cst (.str "text ")) (.bf .str [(.call f_law_take [(.var 1), (.cst (.int (99)))])])), (.tup [(.cst (.int (1))), (.call f_law_take [(.var 1), (.cst (.int (9)))])])]) :: .asg 2 (.bin .Add (.var 2) (.lst [(.lst [(.call f_law_take [(.var 1), (.cst (.int (9)))])]), (.cst .non), (.cst (.bl true)), (.tup [])])) :: .asg 3 (.call f_law_pick [(.var 1), (.var 2)]) :: blaw.drop 4 := rfl
    conv => lhs; rw [e]
    rw [execs_next x0, execs_next x1, execs_next x2, execs_next x3]
/-! errors -/
def envE (V B L v : Slot) (c : Slot) (one what word k : Slot) : DL.Env := [V, B, L, v, c, one, what, word, k, .un, .un]
def valB : List S := [.ifs (.cmp .NotEq (.xfld xcs (.var 5) "value") (.var 3)) [.ret (.cst (.bl false))] []]
def wordsE : E := .or (.cmp .NotEq (.xfld xcs (.var 6) "what") (.var 3)) (.cmp .NotEq (.xfld xcs (.var 7) "word") (.var 3))
def isE : E := .or (.cmp .Eq (.var 10) (.var 8)) (.cmp .GtE (.var 10) (.bf .len [(.var 4)]))
def kindC : E := .cmp .NotEq (.call f_law_kinds [(.sub (.var 4) (.var 8))]) (.lcr isE 10 (.cst (.int (0))) (.bin .Add (.bf .len [(.var 4)]) (.cst (.int (2)))) none)
def kindB : List S := [.ifs kindC [.ret (.cst (.bl false))] []]
def tryB : S := .tryi [.ex (.mk fTable 0 [(.cst (.int (0))), (.tup [])]), .ret (.cst (.bl false))] [1, 2] 1 (xl (some 1)) 0
theorem drop_text : blaw.drop 4 = [.asg 4 (.call f_law_ones [(.var 3)]), .for_ (.one 5) (.seq (.var 4)) valB [5], .par 6 7 (.mkx 11 "what" [(.var 3)]) (.mkx 12 "word" [(.var 3)]), .ifs wordsE [.ret (.cst (.bl false))] [],
  .asg 4 (.bin .Add (.var 4) (.lst [(.var 6), (.var 7)])), .for_ (.one 8) (.rng (.cst (.int (0))) (.bf .len [(.var 4)])) kindB [8], tryB] := rfl
section
variable {V B L : Slot} {v : D}
theorem val_turn (hv : goodV v) {c : Nat} (hc : c ∈ xcs) {l : D} : forF (.one 5) valB [5] (errV v c) (envE V B L (.val v) (.val l) .un .un .un .un) = .next (envE V B L (.val v) (.val l) .un .un .un .un) := by
  have hc' : xcs.contains c = true := by simpa using hc
  have hr := eqv_refl v (by unfold goodV at hv; simp only [shD, Bool.and_eq_true] at hv; exact hv.1)
  have e1 : ev (.xfld xcs (.var 5) "value") (envE V B L (.val v) (.val l) (.val (errV v c)) .un .un .un) = .ok ⟨v, .fz⟩ (envE V B L (.val v) (.val l) (.val (errV v c)) .un .un .un) := by
    simp [ev, envE, errV, hc', List.lookup, lift]
    exact hc
  have t : tst (.cmp .NotEq (.xfld xcs (.var 5) "value") (.var 3)) (envE V B L (.val v) (.val l) (.val (errV v c)) .un .un .un) = .ok false (envE V B L (.val v) (.val l) (.val (errV v c)) .un .un .un) := by
    refine tst_of (d := .bl false) (k := .fz) rfl ((ev_cmp e1 (d2 := v) (k2 := .fz) rfl).trans ?_) rfl
    unfold goodV at hv
    simp [cmpD, hv, hr, okB, lift]
  have hb : bind1 (.one 5) (errV v c) (envE V B L (.val v) (.val l) .un .un .un .un) = some (envE V B L (.val v) (.val l) (.val (errV v c)) .un .un .un) := rfl
  unfold forF
  rw [hb]
  simp only
  rw [valB, execs_next ((ex_ifs t).trans rfl)]
  rfl
theorem val_loop (hv : goodV v) {l : D} : ∀ ds : List D, (∀ d ∈ ds, ∃ c ∈ xcs, d = errV v c) → forL (forF (.one 5) valB [5]) ds (envE V B L (.val v) (.val l) .un .un .un .un) = .next (envE V B L (.val v) (.val l) .un .un .un .un)
  | [], _ => rfl
  | d :: ds, h => by
    obtain ⟨c, hc, rfl⟩ := h d (by simp)
    simp only [forL]
    rw [val_turn hv hc]
    exact val_loop hv ds fun x hx => h x (by simp [hx])
/-- all of them -/
def all12 (v : D) : List D := errs v ++ [.exv 11 [("what", v)], .exv 12 [("word", v)]]
def isP (k : Int) (d : D) : Bool := match d with
  | .int j => j == k || decide (12 ≤ j)
  | _ => false
theorem kind_turn {k : Nat} (hk : k < 12) {wh wo : Slot} : forF (.one 8) kindB [8] (.int k) (envE V B L (.val v) (.own (.lst (all12 v))) .un wh wo .un) = .next (envE V B L (.val v) (.own (.lst (all12 v))) .un wh wo .un) := by
  generalize hE : envE V B L (.val v) (.own (.lst (all12 v))) .un wh wo (.val (.int k)) = E0
  have hlen : (all12 v).length = 12 := rfl
  have v8 : ev (.var 8) E0 = .ok ⟨.int k, .fz⟩ E0 := by rw [← hE]; rfl
  have v4 : ev (.var 4) E0 = .ok ⟨.lst (all12 v), .ln⟩ E0 := by rw [← hE]; rfl
  have bl : ev (.bf .len [(.var 4)]) E0 = .ok ⟨.int 12, .fz⟩ E0 := (ev_bf1 v4).trans rfl
  obtain ⟨c, fs, hcx, hget, hc⟩ : ∃ c fs, (all12 v)[k]? = some (.exv c fs) ∧ c ∈ xcs ∧ c = k + 1 := by
    have : k = 0 ∨ k = 1 ∨ k = 2 ∨ k = 3 ∨ k = 4 ∨ k = 5 ∨ k = 6 ∨ k = 7 ∨ k = 8 ∨ k = 9 ∨ k = 10 ∨ k = 11 := by omega
    rcases this with rfl | rfl | rfl | rfl | rfl | rfl | rfl | rfl | rfl | rfl | rfl | rfl <;> exact ⟨_, _, rfl, by decide, rfl⟩
  have sb : ev (.sub (.var 4) (.var 8)) E0 = .ok ⟨.exv c fs, .fz⟩ E0 := by
    have h1 : ((k : Int) < 12) := by omega
    have z : ev (.sub (.var 4) (.var 8)) E0 = lift (subD (.lst (all12 v)) (.int k)) E0 := by
      rw [ev, v4]
      simp only [DL.R.bind]
      rw [v8]
    rw [z]
    simp [subD, DL.ixN, hlen, h1, hcx, lift]
  have e1 : ev (.call f_law_kinds [(.sub (.var 4) (.var 8))]) E0 = .ok ⟨.lst (kinds c), .tmp⟩ E0 := ev_call1 rfl sb (by simp) (kinds_is hget)
  obtain ⟨s', hp⟩ := lc_pure (f := ev isE) (c := fun env => .ok true env) (i := 10) (base := E0) (p := fun _ => true) (g := fun d => .bl (isP k d)) (rangeL 0 14) [] .un (fun _ _ => rfl) (fun d hd _ => by
    have hj : ∃ j : Int, d = .int j := by
      have : ∀ x ∈ rangeL 0 14, ∃ j : Int, x = D.int j := by
        intro x hx
        simp [rangeL] at hx
        rcases hx with rfl | rfl | rfl | rfl | rfl | rfl | rfl | rfl | rfl | rfl | rfl | rfl | rfl | rfl <;> exact ⟨_, rfl⟩
      exact this d hd
    obtain ⟨j, rfl⟩ := hj
    have w10 : ev (.var 10) (E0.set 10 (.val (.int j))) = .ok ⟨.int j, .fz⟩ (E0.set 10 (.val (.int j))) := by rw [← hE]; rfl
    have w8 : ev (.var 8) (E0.set 10 (.val (.int j))) = .ok ⟨.int k, .fz⟩ (E0.set 10 (.val (.int j))) := by rw [← hE]; rfl
    have wl : ev (.bf .len [(.var 4)]) (E0.set 10 (.val (.int j))) = .ok ⟨.int 12, .fz⟩ (E0.set 10 (.val (.int j))) := by
      have w4 : ev (.var 4) (E0.set 10 (.val (.int j))) = .ok ⟨.lst (all12 v), .ln⟩ (E0.set 10 (.val (.int j))) := by rw [← hE]; rfl
      exact (ev_bf1 w4).trans rfl
    have q1 : ev (.cmp .Eq (.var 10) (.var 8)) (E0.set 10 (.val (.int j))) = .ok ⟨.bl (j == k), .fz⟩ (E0.set 10 (.val (.int j))) := (ev_cmp w10 w8).trans (by
      have sI : ∀ i : Int, shD (.int i) = true := fun _ => rfl
      simp [cmpD, sI, eqv, okB, lift])
    have q2 : ev (.cmp .GtE (.var 10) (.bf .len [(.var 4)])) (E0.set 10 (.val (.int j))) = .ok ⟨.bl (decide (12 ≤ j)), .fz⟩ (E0.set 10 (.val (.int j))) := (ev_cmp w10 wl).trans (by simp [cmpD, okB, lift])
    show ev isE (E0.set 10 (.val (.int j))) = .ok ⟨.bl (j == k || decide (12 ≤ j)), .fz⟩ (E0.set 10 (.val (.int j)))
    cases hq : (j == (k : Int)) with
    | true => rw [hq] at q1; exact ev_or_t q1
    | false => rw [hq] at q1; rw [Bool.false_or]; exact ev_or_f q1 q2)
  rw [List.nil_append] at hp
  have e2 : ev (.lcr isE 10 (.cst (.int (0))) (.bin .Add (.bf .len [(.var 4)]) (.cst (.int (2)))) none) E0 = .ok ⟨.lst ((((rangeL 0 14).filter fun _ => true)).map fun d => .bl (isP k d)), .tmp⟩ E0 := by
    have bb : ev (.bin .Add (.bf .len [(.var 4)]) (.cst (.int (2)))) E0 = .ok ⟨.int 14, .fz⟩ E0 := (ev_bin bl (d2 := .int 2) (k2 := .fz) rfl).trans rfl
    have h10 : E0[10]? = some .un := by rw [← hE]; rfl
    have hset : E0.set 10 .un = E0 := by rw [← hE]; rfl
    have b : (14 : Nat) ≤ LIM := by unfold LIM; omega
    rw [ev]
    show DL.R.bind (DL.R.ok (⟨.int 0, .fz⟩ : Vl) E0) _ = _
    simp only [DL.R.bind]
    rw [bb]
    simp only [DL.R.bind]
    have hcond : -1000000000 ≤ (0 : Int) ∧ (0 : Int) ≤ 1000000000 ∧ -1000000000 ≤ (14 : Int) ∧ (14 : Int) ≤ 1000000000 ∧ ((14 : Int) - 0).toNat ≤ LIM := ⟨by omega, by omega, by omega, by omega, b⟩
    rw [if_pos hcond]
    have h14 : ((14 : Int) - 0).toNat = 14 := by decide
    rw [h14, hp]
    simp only [lcFin, rst, h10]
    rw [List.set_set, hset]
  have hq : shD (.lst (kinds c)) = true ∧ shD (.lst ((((rangeL 0 14).filter fun _ => true)).map fun d => .bl (isP k d))) = true ∧ eqv (.lst (kinds c)) (.lst ((((rangeL 0 14).filter fun _ => true)).map fun d => .bl (isP k d))) = true := by
    subst hc
    have : k = 0 ∨ k = 1 ∨ k = 2 ∨ k = 3 ∨ k = 4 ∨ k = 5 ∨ k = 6 ∨ k = 7 ∨ k = 8 ∨ k = 9 ∨ k = 10 ∨ k = 11 := by omega
    rcases this with rfl | rfl | rfl | rfl | rfl | rfl | rfl | rfl | rfl | rfl | rfl | rfl <;> exact ⟨rfl, rfl, rfl⟩
  have t : tst kindC E0 = .ok false E0 := by
    have hf : frz (esc kindC) E0 = E0 := by rw [← hE]; rfl
    refine tst_of (d := .bl false) (k := .fz) hf ((ev_cmp e1 e2).trans ?_) rfl
    simp only [cmpD, hq.1, hq.2.1, hq.2.2, Bool.and_self, if_true, Bool.not_true, okB, lift]
  have hb : bind1 (.one 8) (.int k) (envE V B L (.val v) (.own (.lst (all12 v))) .un wh wo .un) = some E0 := by rw [← hE]; rfl
  unfold forF
  rw [hb]
  simp only
  rw [kindB, execs_next ((ex_ifs t).trans rfl), ← hE]
  rfl
theorem kind_loop {wh wo : Slot} : ∀ (n k : Nat), k + n ≤ 12 → forL (forF (.one 8) kindB [8]) (rangeL k n) (envE V B L (.val v) (.own (.lst (all12 v))) .un wh wo .un) = .next (envE V B L (.val v) (.own (.lst (all12 v))) .un wh wo .un)
  | 0, _, _ => rfl
  | n + 1, k, h => by
    simp only [rangeL, forL]
    rw [kind_turn (by omega)]
    have := kind_loop (wh := wh) (wo := wo) n (k + 1) (by omega)
    exact this
theorem tab_num {m r : D} (hm : noIns m = true) (h : within m 1 5 = false) : semTable [.ins 0 [], m, r] = .exn 1 m [.ins 0 []] := by
  have hw := within_is (lo := 1) (hi := 5) hm
  rw [h] at hw
  have e0 : DL.envOf [Md.io, Md.v, Md.v] [.ins 0 [], m, r] 1 = [.box (.ins 0 []), .val m, .val r, .un] := rfl
  have c : ev (.call fis_within [(.var 1), (.cst (.int (1))), (.cst (.int (5)))]) [.box (.ins 0 []), .val m, .val r, .un] = .ok ⟨.bl false, .fz⟩ [.box (.ins 0 []), .val m, .val r, .un] := by
    exact ev_call3 (d := m) (k := .fz) (d2 := .int 1) (k2 := .fz) (d3 := .int 5) (k3 := .fz) rfl rfl (by simp) rfl (by simp) rfl (by simp) hw
  have t : tst (.not (.call fis_within [(.var 1), (.cst (.int (1))), (.cst (.int (5)))])) [.box (.ins 0 []), .val m, .val r, .un] = .ok true [.box (.ins 0 []), .val m, .val r, .un] := tst_of rfl (ev_not c rfl) rfl
  have x : DL.exec (.raise 1 (.var 1)) [.box (.ins 0 []), .val m, .val r, .un] = .exn 1 m [.box (.ins 0 []), .val m, .val r, .un] := rfl
  unfold semTable semOf
  rw [e0, bTable, DL.execs, ex_ifs t, if_pos rfl, DL.execs, x]
  rfl
/-- Table(0, ()) -/
theorem tab_is {V : D} : semTable [.ins 0 [], .int 0, V] = .exn 1 (.int 0) [.ins 0 []] := tab_num rfl (by simp [within])
end
end K01
set_option Elab.async false
set_option linter.all false
set_option autoImplicit false
set_option maxRecDepth 100000
set_option maxHeartbeats 800000
namespace K01
open PySem PySem.Spec PyProof.Rows L2 DL
theorem law_is (ns : List Int) : semlaw [.src ns] = .ok (.bl true) .fz [] := by
  obtain ⟨v, l, g, s, hv, hx⟩ := some_is ns
  have e0 : DL.envOf [Md.v] [.src ns] 10 = [.val (.src ns), .un, .un, .un, .un, .un, .un, .un, .un, .un, .un] := rfl
  unfold semlaw semOf
  rw [e0, hx, drop_text]
  have x4 : DL.exec (.asg 4 (.call f_law_ones [(.var 3)])) [.val (.src ns), .box (boxD g s), .val (.lst l), .val v, .un, .un, .un, .un, .un, .un, .un] = .next (envE (.val (.src ns)) (.box (boxD g s)) (.val (.lst l)) (.val v) (.own (.lst (errs v))) .un .un .un .un) := by
    have o4 : f_law_ones.sem [v] = .ok (.lst (errs v)) .tmp [] := by
      have z : f_law_ones.sem = sem_law_ones := by delta f_law_ones; rfl
      rw [z]
      exact ones_is
    have om : f_law_ones.ms = [.v] := by delta f_law_ones; rfl
    have c4 : ev (.call f_law_ones [(.var 3)]) [.val (.src ns), .box (boxD g s), .val (.lst l), .val v, .un, .un, .un, .un, .un, .un, .un] = .ok ⟨.lst (errs v), .tmp⟩ [.val (.src ns), .box (boxD g s), .val (.lst l), .val v, .un, .un, .un, .un, .un, .un, .un] := ev_call1 (f := f_law_ones) (a := .var 3) (d := v) (k := .fz) om rfl (by simp) o4
    have hf : frz (escd (.call f_law_ones [(.var 3)])) [.val (.src ns), .box (boxD g s), .val (.lst l), .val v, .un, .un, .un, .un, .un, .un, .un] = [.val (.src ns), .box (boxD g s), .val (.lst l), .val v, .un, .un, .un, .un, .un, .un, .un] := rfl
    rw [DL.exec, hf, c4]
    rfl
  have x5 : DL.exec (.for_ (.one 5) (.seq (.var 4)) valB [5]) (envE (.val (.src ns)) (.box (boxD g s)) (.val (.lst l)) (.val v) (.own (.lst (errs v))) .un .un .un .un) = .next (envE (.val (.src ns)) (.box (boxD g s)) (.val (.lst l)) (.val v) (.val (.lst (errs v))) .un .un .un .un) := by
    have hi : itemsIt (.seq (.var 4)) (envE (.val (.src ns)) (.box (boxD g s)) (.val (.lst l)) (.val v) (.own (.lst (errs v))) .un .un .un .un) = .ok (errs v) (envE (.val (.src ns)) (.box (boxD g s)) (.val (.lst l)) (.val v) (.val (.lst (errs v))) .un .un .un .un) := by
      simp [itemsIt, ev, escd, frz, frz1, envE, DL.R.bind, items]
    have hf : ∀ {tg : Tg} {it : DL.It} {b : List S} {fg : List Nat} {env : DL.Env}, DL.exec (.for_ tg it b fg) env = .of (itemsIt it env) fun ds env => forL (forF tg b fg) ds (DL.fgt fg env) := by
      intro tg it b fg env; simp only [DL.exec]; rfl
    rw [hf, hi]
    exact val_loop hv (errs v) (by
      intro d hd
      simp only [errs, List.mem_cons, List.not_mem_nil, or_false] at hd
      rcases hd with rfl | rfl | rfl | rfl | rfl | rfl | rfl | rfl | rfl | rfl <;> exact ⟨_, by decide, rfl⟩)
  have x6 : DL.exec (.par 6 7 (.mkx 11 "what" [(.var 3)]) (.mkx 12 "word" [(.var 3)])) (envE (.val (.src ns)) (.box (boxD g s)) (.val (.lst l)) (.val v) (.val (.lst (errs v))) .un .un .un .un) = .next (envE (.val (.src ns)) (.box (boxD g s)) (.val (.lst l)) (.val v) (.val (.lst (errs v))) .un (.val (.exv 11 [("what", v)])) (.val (.exv 12 [("word", v)])) .un) := by
    simp [DL.exec, ev, eva, escd, esca, frz, frz1, envE, DL.R.bind, SR.of, hold]
  have hr := eqv_refl v (by unfold goodV at hv; simp only [shD, Bool.and_eq_true] at hv; exact hv.1)
  have t7 : tst wordsE (envE (.val (.src ns)) (.box (boxD g s)) (.val (.lst l)) (.val v) (.val (.lst (errs v))) .un (.val (.exv 11 [("what", v)])) (.val (.exv 12 [("word", v)])) .un) = .ok false (envE (.val (.src ns)) (.box (boxD g s)) (.val (.lst l)) (.val v) (.val (.lst (errs v))) .un (.val (.exv 11 [("what", v)])) (.val (.exv 12 [("word", v)])) .un) := by
    unfold goodV at hv
    have c11 : xcs.contains 11 = true := by decide
    have c12 : xcs.contains 12 = true := by decide
    simp [wordsE, tst, ev, esc, frz, envE, List.lookup, lift, DL.R.bind, cmpD, hv, hr, okB, truD, xcs]
  have x8 : DL.exec (.asg 4 (.bin .Add (.var 4) (.lst [(.var 6), (.var 7)]))) (envE (.val (.src ns)) (.box (boxD g s)) (.val (.lst l)) (.val v) (.val (.lst (errs v))) .un (.val (.exv 11 [("what", v)])) (.val (.exv 12 [("word", v)])) .un) = .next (envE (.val (.src ns)) (.box (boxD g s)) (.val (.lst l)) (.val v) (.own (.lst (all12 v))) .un (.val (.exv 11 [("what", v)])) (.val (.exv 12 [("word", v)])) .un) := by
    have b : (12 : Nat) ≤ LIM := by unfold LIM; omega
    simp [DL.exec, ev, evs, escd, escs, esc, frz, frz1, envE, DL.R.bind, SR.of, hold, binD, errs, b, lift, all12]
  have x9 : DL.exec (.for_ (.one 8) (.rng (.cst (.int (0))) (.bf .len [(.var 4)])) kindB [8]) (envE (.val (.src ns)) (.box (boxD g s)) (.val (.lst l)) (.val v) (.own (.lst (all12 v))) .un (.val (.exv 11 [("what", v)])) (.val (.exv 12 [("word", v)])) .un) = .next (envE (.val (.src ns)) (.box (boxD g s)) (.val (.lst l)) (.val v) (.own (.lst (all12 v))) .un (.val (.exv 11 [("what", v)])) (.val (.exv 12 [("word", v)])) .un) := by
    have hi : itemsIt (.rng (.cst (.int (0))) (.bf .len [(.var 4)])) (envE (.val (.src ns)) (.box (boxD g s)) (.val (.lst l)) (.val v) (.own (.lst (all12 v))) .un (.val (.exv 11 [("what", v)])) (.val (.exv 12 [("word", v)])) .un) = .ok (rangeL 0 12) (envE (.val (.src ns)) (.box (boxD g s)) (.val (.lst l)) (.val v) (.own (.lst (all12 v))) .un (.val (.exv 11 [("what", v)])) (.val (.exv 12 [("word", v)])) .un) := by
      simp [itemsIt, ev, evp, esc, escp, frz, envE, DL.R.bind, bfD, okI, lift, all12, errs]
    have hf : ∀ {tg : Tg} {it : DL.It} {b : List S} {fg : List Nat} {env : DL.Env}, DL.exec (.for_ tg it b fg) env = .of (itemsIt it env) fun ds env => forL (forF tg b fg) ds (DL.fgt fg env) := by
      intro tg it b fg env; simp only [DL.exec]; rfl
    have kl := kind_loop (V := .val (.src ns)) (B := .box (boxD g s)) (L := .val (.lst l)) (v := v) (wh := .val (.exv 11 [("what", v)])) (wo := .val (.exv 12 [("word", v)])) 12 0 (by omega)
    have z : ((0 : Nat) : Int) = 0 := rfl
    rw [z] at kl
    have hg : DL.fgt [8] (envE (.val (.src ns)) (.box (boxD g s)) (.val (.lst l)) (.val v) (.own (.lst (all12 v))) .un (.val (.exv 11 [("what", v)])) (.val (.exv 12 [("word", v)])) .un) = envE (.val (.src ns)) (.box (boxD g s)) (.val (.lst l)) (.val v) (.own (.lst (all12 v))) .un (.val (.exv 11 [("what", v)])) (.val (.exv 12 [("word", v)])) .un := rfl
    rw [hf, hi]
    simp only [SR.of]
    rw [hg]
    exact kl
  rw [execs_next x4, execs_next x5, execs_next x6, execs_next ((ex_ifs t7).trans rfl), execs_next x8, execs_next x9]
  have tb := tab_is (V := .tup [])
  have l1 : (xl (some 1)).lookup 1 = some true := by decide
  simp [tryB, DL.execs, DL.exec, ev, evs, eva, escd, escs, esc, esca, frz, envE, fTable, resolve, boxes, mkR, tb, l1, DL.R.bind, SR.of, toFR, ioS, outsD, withO]
end K01
set_option Elab.async false
set_option linter.all false
set_option autoImplicit false
set_option maxRecDepth 100000
set_option maxHeartbeats 8000000
namespace K01
open PySem PySem.Spec PyProof.Rows L2 DL
def spLaw (K : PySem.W.Frag) : Sp := fun vs H Q _ => ∃ (a : Addr) (ns : List Int), vs = [.ref a] ∧ SqL K H a (ns.map V.int) ∧ ns.length ≤ 63 ∧ ∀ H', Q (.bl true) H'
def gc (K : PySem.W.Frag) (CT CL C1 C2 C3 C4 C5 C6 C7 C8 C9 C10 C11 C12 : Addr) : Gc := ⟨K, fun n => match n with | 0 => CT | 1 => C1 | 2 => C2 | 3 => C3 | 4 => C4 | 5 => C5 | 6 => C6 | 7 => C7 | 8 => C8 | 9 => C9 | 10 => C10 | 11 => C11 | 12 => C12 | _ => CL, fun n => match n with | 11 => "what" | 12 => "word" | _ => "value"⟩
def xlB : Option Nat → Nat → Bool
  | some y, c => c == y || y == 13
  | none, _ => true
theorem xl_inv {y : Option Nat} {c : Nat} {b : Bool} (h : (xl y).lookup c = some b) : c ∈ xcs ∧ b = xlB y c := by
  have := lookup_inN h
  cases y with
  | some y =>
    obtain ⟨x, hx, e⟩ := List.mem_map.mp this
    cases e
    exact ⟨hx, rfl⟩
  | none =>
    obtain ⟨x, hx, e⟩ := List.mem_map.mp this
    cases e
    exact ⟨hx, rfl⟩
theorem mod_mk {P : Program} {w : World} {K : PySem.W.Frag} {mg : Str → Option Value} {base : Heap} {G : Gc} (gK : G.K = K) (gF1 : G.cF 1 = "value") (gF2 : G.cF 2 = "value") {T : Tab} {k : Nat} (hk : 2 ≤ k) (hz : ∀ x ∈ bltNames, mg x = none) (eA : ErrAtM P w K mg base G 1 1 "InvalidNumber") (eB : ErrAtM P w K mg base G 1 2 "InvalidLocks")
    (xAA : PySem.W.exmOne K (.ref (G.cA 1)) (.ref (G.cA 1)) = some true) (xAB : PySem.W.exmOne K (.ref (G.cA 1)) (.ref (G.cA 2)) = some false) (xBA : PySem.W.exmOne K (.ref (G.cA 2)) (.ref (G.cA 1)) = some false) (xBB : PySem.W.exmOne K (.ref (G.cA 2)) (.ref (G.cA 2)) = some true)
    (fns : ∀ i ∈ T.fns, FnAtM P w K mg base G k i)
    (cst : ∀ x d, T.cst.lookup x = some d → ∃ v u, mg x = some u ∧ RelV v u ∧ ∀ Z, Rep G Z v d)
    (cls : ∀ c ∈ T.cls, ClsAt K G T.cls T.fl c)
    (own : ∀ x c, T.own.lookup x = some c → c ∈ T.cls ∧ mg x = some (.ref (G.cA c)) ∧ (x == ("__debug__" : Str)) = false)
    (mks : ∀ x c i, T.mks.lookup x = some (c, i) → ∃ k', k' + 1 ≤ k ∧ MkAtM P w K mg base G k' x c i)
    (eqs : ∀ c i, T.eqs.lookup c = some i → EqAtM P w K mg base G k T.cls c i)
    (xmk : ∀ x c f, T.xmk.lookup x = some (c, f) → G.cF c = f ∧ ErrAtM P w K mg base G 1 c x)
    (hxcs : ∀ c ∈ T.xcs, XvAt K (G.cA c))
    (xfl : ∀ c ∈ T.xcs, ∀ f ∈ T.xfl, PySem.W.findIn K (.ref (G.cA c)) f = some none)
    (xis : ∀ x y l, T.xis.lookup x = some (y, l) → (∀ c b, l.lookup c = some b → PySem.W.kitOne K (.ref (G.cA c)) (xisV G y) = some b) ∧ XisM mg G x y ∧ (x == ("__debug__" : Str)) = false)
    (xbs : ∀ x B, T.xbs.lookup x = some B → mg x = some (.ref (G.cA B)) ∧ (x == ("__debug__" : Str)) = false ∧ ∀ c ∈ er.map (·.2.1), PySem.W.exmOne K (.ref (G.cA c)) (.ref (G.cA B)) = some true) : ModOk P w K mg base G T er k := by
  refine ⟨gK, fns, cst, blt_of hz, fun x c f h => ?_, fun x c f h hx hc => ?_, cls, own, mks, eqs, fun x c f h => let ⟨a, b⟩ := xmk x c f h; ⟨a, 1, hk, b⟩, hxcs, xfl, xis, fun x c f h => ?_, xbs⟩
  · have := lookup_in h
    simp only [er, List.mem_cons, List.not_mem_nil, or_false, Prod.mk.injEq] at this
    rcases this with ⟨rfl, rfl, rfl⟩ | ⟨rfl, rfl, rfl⟩
    · exact ⟨gF1, 1, hk, eA⟩
    · exact ⟨gF2, 1, hk, eB⟩
  · have := lookup_in hx
    simp only [er, List.mem_cons, List.not_mem_nil, or_false, Prod.mk.injEq] at this
    simp only [er, List.map, List.mem_cons, List.not_mem_nil, or_false] at hc
    rcases this with ⟨rfl, rfl, rfl⟩ | ⟨rfl, rfl, rfl⟩ <;> rcases hc with rfl | rfl
    · exact xAA
    · exact xBA
    · exact xAB
    · exact xBB
  · simp only [er, List.mem_cons, List.not_mem_nil, or_false, Prod.mk.injEq] at h
    rcases h with ⟨rfl, rfl, rfl⟩ | ⟨rfl, rfl, rfl⟩
    · exact gF1
    · exact gF2
theorem scis_integer : FnScope ["value"] ["value"] (defScope (topS 15)) := ⟨rfl, rfl, rfl, by decide +kernel, rfl, by decide +kernel, by decide +kernel⟩
theorem scis_within : FnScope ["value", "low", "high"] ["value", "low", "high"] (defScope (topS 16)) := ⟨rfl, rfl, rfl, by decide +kernel, rfl, by decide +kernel, by decide +kernel⟩
theorem scis_ascending : FnScope ["value", "bound", "last", "member"] ["value", "bound"] (defScope (topS 17)) := ⟨rfl, rfl, rfl, by decide +kernel, rfl, by decide +kernel, by decide +kernel⟩
theorem sc_are_rows : FnScope ["value", "many", "row"] ["value", "many"] (defScope (topS 22)) := ⟨rfl, rfl, rfl, by decide +kernel, rfl, by decide +kernel, by decide +kernel⟩
theorem scTable : FnScope ["self", "many", "rows", "row"] ["self", "many", "rows"] (defScope (inClass (topS 21) 0)) := ⟨rfl, rfl, rfl, by decide +kernel, rfl, by decide +kernel, by decide +kernel⟩
theorem sc_law_take : FnScope ["box", "many", "got"] ["box", "many"] (defScope (topS 25)) := ⟨rfl, rfl, rfl, by decide +kernel, rfl, by decide +kernel, by decide +kernel⟩
theorem sc_law_box : FnScope ["script", "k", "cell", "great"] ["script", "k"] (defScope (topS 24)) := ⟨rfl, rfl, rfl, by decide +kernel, rfl, by decide +kernel, by decide +kernel⟩
theorem sc_law_pick : FnScope ["box", "some"] ["box", "some"] (defScope (topS 26)) := ⟨rfl, rfl, rfl, by decide +kernel, rfl, by decide +kernel, by decide +kernel⟩
theorem sc_law_ones : FnScope ["v", "found"] ["v"] (defScope (topS 27)) := ⟨rfl, rfl, rfl, by decide +kernel, rfl, by decide +kernel, by decide +kernel⟩
theorem sc_law_kinds : FnScope ["e", "found"] ["e"] (defScope (topS 28)) := ⟨rfl, rfl, rfl, by decide +kernel, rfl, by decide +kernel, by decide +kernel⟩
theorem sclaw : FnScope ["script", "box", "some", "v", "errors", "one", "what", "word", "k", "e", "j"] ["script"] (defScope (topS 29)) := ⟨rfl, rfl, rfl, by decide +kernel, rfl, by decide +kernel, by decide +kernel⟩
theorem scI1 : FnScope ["self", "value"] ["self", "value"] (defScope (inClass (topS 2) 0)) := ⟨rfl, rfl, rfl, by decide +kernel, rfl, by decide +kernel, by decide +kernel⟩
theorem ib1 : ∃ p1 p2 p3 p4, defBody (inClass (topS 2) 0) = [.Assign [.Attribute (.Name "self" p1) "value" p2] (.Name "value" p3) p4] := ⟨_, _, _, _, rfl⟩
theorem scI2 : FnScope ["self", "value"] ["self", "value"] (defScope (inClass (topS 3) 0)) := ⟨rfl, rfl, rfl, by decide +kernel, rfl, by decide +kernel, by decide +kernel⟩
theorem ib2 : ∃ p1 p2 p3 p4, defBody (inClass (topS 3) 0) = [.Assign [.Attribute (.Name "self" p1) "value" p2] (.Name "value" p3) p4] := ⟨_, _, _, _, rfl⟩
theorem scI3 : FnScope ["self", "value"] ["self", "value"] (defScope (inClass (topS 4) 0)) := ⟨rfl, rfl, rfl, by decide +kernel, rfl, by decide +kernel, by decide +kernel⟩
theorem ib3 : ∃ p1 p2 p3 p4, defBody (inClass (topS 4) 0) = [.Assign [.Attribute (.Name "self" p1) "value" p2] (.Name "value" p3) p4] := ⟨_, _, _, _, rfl⟩
theorem scI4 : FnScope ["self", "value"] ["self", "value"] (defScope (inClass (topS 5) 0)) := ⟨rfl, rfl, rfl, by decide +kernel, rfl, by decide +kernel, by decide +kernel⟩
theorem ib4 : ∃ p1 p2 p3 p4, defBody (inClass (topS 5) 0) = [.Assign [.Attribute (.Name "self" p1) "value" p2] (.Name "value" p3) p4] := ⟨_, _, _, _, rfl⟩
theorem scI5 : FnScope ["self", "value"] ["self", "value"] (defScope (inClass (topS 6) 0)) := ⟨rfl, rfl, rfl, by decide +kernel, rfl, by decide +kernel, by decide +kernel⟩
theorem ib5 : ∃ p1 p2 p3 p4, defBody (inClass (topS 6) 0) = [.Assign [.Attribute (.Name "self" p1) "value" p2] (.Name "value" p3) p4] := ⟨_, _, _, _, rfl⟩
theorem scI6 : FnScope ["self", "value"] ["self", "value"] (defScope (inClass (topS 7) 0)) := ⟨rfl, rfl, rfl, by decide +kernel, rfl, by decide +kernel, by decide +kernel⟩
theorem ib6 : ∃ p1 p2 p3 p4, defBody (inClass (topS 7) 0) = [.Assign [.Attribute (.Name "self" p1) "value" p2] (.Name "value" p3) p4] := ⟨_, _, _, _, rfl⟩
theorem scI7 : FnScope ["self", "value"] ["self", "value"] (defScope (inClass (topS 8) 0)) := ⟨rfl, rfl, rfl, by decide +kernel, rfl, by decide +kernel, by decide +kernel⟩
theorem ib7 : ∃ p1 p2 p3 p4, defBody (inClass (topS 8) 0) = [.Assign [.Attribute (.Name "self" p1) "value" p2] (.Name "value" p3) p4] := ⟨_, _, _, _, rfl⟩
theorem scI8 : FnScope ["self", "value"] ["self", "value"] (defScope (inClass (topS 9) 0)) := ⟨rfl, rfl, rfl, by decide +kernel, rfl, by decide +kernel, by decide +kernel⟩
theorem ib8 : ∃ p1 p2 p3 p4, defBody (inClass (topS 9) 0) = [.Assign [.Attribute (.Name "self" p1) "value" p2] (.Name "value" p3) p4] := ⟨_, _, _, _, rfl⟩
theorem scI9 : FnScope ["self", "value"] ["self", "value"] (defScope (inClass (topS 10) 0)) := ⟨rfl, rfl, rfl, by decide +kernel, rfl, by decide +kernel, by decide +kernel⟩
theorem ib9 : ∃ p1 p2 p3 p4, defBody (inClass (topS 10) 0) = [.Assign [.Attribute (.Name "self" p1) "value" p2] (.Name "value" p3) p4] := ⟨_, _, _, _, rfl⟩
theorem scI10 : FnScope ["self", "value"] ["self", "value"] (defScope (inClass (topS 11) 0)) := ⟨rfl, rfl, rfl, by decide +kernel, rfl, by decide +kernel, by decide +kernel⟩
theorem ib10 : ∃ p1 p2 p3 p4, defBody (inClass (topS 11) 0) = [.Assign [.Attribute (.Name "self" p1) "value" p2] (.Name "value" p3) p4] := ⟨_, _, _, _, rfl⟩
theorem scI11 : FnScope ["self", "what"] ["self", "what"] (defScope (inClass (topS 12) 0)) := ⟨rfl, rfl, rfl, by decide +kernel, rfl, by decide +kernel, by decide +kernel⟩
theorem ib11 : ∃ p1 p2 p3 p4, defBody (inClass (topS 12) 0) = [.Assign [.Attribute (.Name "self" p1) "what" p2] (.Name "what" p3) p4] := ⟨_, _, _, _, rfl⟩
theorem scI12 : FnScope ["self", "word"] ["self", "word"] (defScope (inClass (topS 13) 0)) := ⟨rfl, rfl, rfl, by decide +kernel, rfl, by decide +kernel, by decide +kernel⟩
theorem ib12 : ∃ p1 p2 p3 p4, defBody (inClass (topS 13) 0) = [.Assign [.Attribute (.Name "self" p1) "word" p2] (.Name "word" p3) p4] := ⟨_, _, _, _, rfl⟩
set_option maxHeartbeats 0 in
theorem all_mk {l : PySem.W.OpenLaw} {w : World} {K : PySem.W.Frag} {h : Heap} {mg : Str → Option Value} {fa f15 f16 f17 f22 f25 f24 f26 f27 f28 f29 CL CT fTI C1 N1 fI1 C2 N2 fI2 C3 N3 fI3 C4 N4 fI4 C5 N5 fI5 C6 N6 fI6 C7 N7 fI7 C8 N8 fI8 C9 N9 fI9 C10 N10 fI10 C11 N11 fI11 C12 N12 fI12 : Addr} (X : K.In h) (G : h.Ns mainGlobals mg) (hfa : mg "law" = some (.ref fa))
    {od15 an15 od16 an16 od17 an17 od22 an22 od25 an25 od24 an24 od26 an26 od27 an27 od28 an28 od29 an29 odTI anTI odI1 anI1 odI2 anI2 odI3 anI3 odI4 anI4 odI5 anI5 odI6 anI6 odI7 anI7 odI8 anI8 odI9 anI9 odI10 anI10 odI11 anI11 odI12 anI12 : Option Addr} {sl15 sl16 sl17 sl22 sl25 sl24 sl26 sl27 sl28 sl29 slTI slI1 slI2 slI3 slI4 slI5 slI6 slI7 slI8 slI9 slI10 slI11 slI12 : Array (Option Value)} {oc15 kV15 dc15 pm15 cd15 ct15 oc16 kV16 dc16 pm16 cd16 ct16 oc17 kV17 dc17 pm17 cd17 ct17 oc22 kV22 dc22 pm22 cd22 ct22 oc25 kV25 dc25 pm25 cd25 ct25 oc24 kV24 dc24 pm24 cd24 ct24 oc26 kV26 dc26 pm26 cd26 ct26 oc27 kV27 dc27 pm27 cd27 ct27 oc28 kV28 dc28 pm28 cd28 ct28 oc29 kV29 dc29 pm29 cd29 ct29 ocTI kVTI dcTI pmTI cdTI ctTI ocI1 kVI1 dcI1 pmI1 cdI1 ctI1 ocI2 kVI2 dcI2 pmI2 cdI2 ctI2 ocI3 kVI3 dcI3 pmI3 cdI3 ctI3 ocI4 kVI4 dcI4 pmI4 cdI4 ctI4 ocI5 kVI5 dcI5 pmI5 cdI5 ctI5 ocI6 kVI6 dcI6 pmI6 cdI6 ctI6 ocI7 kVI7 dcI7 pmI7 cdI7 ctI7 ocI8 kVI8 dcI8 pmI8 cdI8 ctI8 ocI9 kVI9 dcI9 pmI9 cdI9 ctI9 ocI10 kVI10 dcI10 pmI10 cdI10 ctI10 ocI11 kVI11 dcI11 pmI11 cdI11 ctI11 ocI12 kVI12 dcI12 pmI12 cdI12 ctI12 : Value} {nm1 q1 : Str} {bs1 : List Value} {sn1 : List Str} {sub1 : List Value} {ab1 : Bool} {col1 : Option Bool} {dd1 : Option Addr} {m01 m11 m21 m31 m51 : Option Value} {nm2 q2 : Str} {bs2 : List Value} {sn2 : List Str} {sub2 : List Value} {ab2 : Bool} {col2 : Option Bool} {dd2 : Option Addr} {m02 m12 m22 m32 m52 : Option Value} {nm3 q3 : Str} {bs3 : List Value} {sn3 : List Str} {sub3 : List Value} {ab3 : Bool} {col3 : Option Bool} {dd3 : Option Addr} {m03 m13 m23 m33 m53 : Option Value} {nm4 q4 : Str} {bs4 : List Value} {sn4 : List Str} {sub4 : List Value} {ab4 : Bool} {col4 : Option Bool} {dd4 : Option Addr} {m04 m14 m24 m34 m54 : Option Value} {nm5 q5 : Str} {bs5 : List Value} {sn5 : List Str} {sub5 : List Value} {ab5 : Bool} {col5 : Option Bool} {dd5 : Option Addr} {m05 m15 m25 m35 m55 : Option Value} {nm6 q6 : Str} {bs6 : List Value} {sn6 : List Str} {sub6 : List Value} {ab6 : Bool} {col6 : Option Bool} {dd6 : Option Addr} {m06 m16 m26 m36 m56 : Option Value} {nm7 q7 : Str} {bs7 : List Value} {sn7 : List Str} {sub7 : List Value} {ab7 : Bool} {col7 : Option Bool} {dd7 : Option Addr} {m07 m17 m27 m37 m57 : Option Value} {nm8 q8 : Str} {bs8 : List Value} {sn8 : List Str} {sub8 : List Value} {ab8 : Bool} {col8 : Option Bool} {dd8 : Option Addr} {m08 m18 m28 m38 m58 : Option Value} {nm9 q9 : Str} {bs9 : List Value} {sn9 : List Str} {sub9 : List Value} {ab9 : Bool} {col9 : Option Bool} {dd9 : Option Addr} {m09 m19 m29 m39 m59 : Option Value} {nm10 q10 : Str} {bs10 : List Value} {sn10 : List Str} {sub10 : List Value} {ab10 : Bool} {col10 : Option Bool} {dd10 : Option Addr} {m010 m110 m210 m310 m510 : Option Value} {nm11 q11 : Str} {bs11 : List Value} {sn11 : List Str} {sub11 : List Value} {ab11 : Bool} {col11 : Option Bool} {dd11 : Option Addr} {m011 m111 m211 m311 m511 : Option Value} {nm12 q12 : Str} {bs12 : List Value} {sn12 : List Str} {sub12 : List Value} {ab12 : Bool} {col12 : Option Bool} {dd12 : Option Addr} {m012 m112 m212 m312 m512 : Option Value} {tK tO : Tok}
    (a15 : PySem.W.nsIn K mainGlobals "is_integer" = some (some (.ref f15)))
    (l15 : K.lookup f15 = some ⟨oc15, od15, .func (PySem.W.fnOf "is_integer" "is_integer" (defArgs (topS 15)) (defBody (topS 15)) (defScope (topS 15)) .none kV15 dc15 pm15 an15 cd15 ct15), sl15⟩)
    (c15 : PySem.W.codeIn K cd15 "is_integer" = true)
    (k15 : PySem.W.keepIn K (.ref f15) = true)
    (a16 : PySem.W.nsIn K mainGlobals "is_within" = some (some (.ref f16)))
    (l16 : K.lookup f16 = some ⟨oc16, od16, .func (PySem.W.fnOf "is_within" "is_within" (defArgs (topS 16)) (defBody (topS 16)) (defScope (topS 16)) .none kV16 dc16 pm16 an16 cd16 ct16), sl16⟩)
    (c16 : PySem.W.codeIn K cd16 "is_within" = true)
    (k16 : PySem.W.keepIn K (.ref f16) = true)
    (a17 : PySem.W.nsIn K mainGlobals "is_ascending" = some (some (.ref f17)))
    (l17 : K.lookup f17 = some ⟨oc17, od17, .func (PySem.W.fnOf "is_ascending" "is_ascending" (defArgs (topS 17)) (defBody (topS 17)) (defScope (topS 17)) .none kV17 dc17 pm17 an17 cd17 ct17), sl17⟩)
    (c17 : PySem.W.codeIn K cd17 "is_ascending" = true)
    (k17 : PySem.W.keepIn K (.ref f17) = true)
    (a22 : PySem.W.nsIn K mainGlobals "_are_rows" = some (some (.ref f22)))
    (l22 : K.lookup f22 = some ⟨oc22, od22, .func (PySem.W.fnOf "_are_rows" "_are_rows" (defArgs (topS 22)) (defBody (topS 22)) (defScope (topS 22)) .none kV22 dc22 pm22 an22 cd22 ct22), sl22⟩)
    (c22 : PySem.W.codeIn K cd22 "_are_rows" = true)
    (k22 : PySem.W.keepIn K (.ref f22) = true)
    (a25 : PySem.W.nsIn K mainGlobals "_law_take" = some (some (.ref f25)))
    (l25 : K.lookup f25 = some ⟨oc25, od25, .func (PySem.W.fnOf "_law_take" "_law_take" (defArgs (topS 25)) (defBody (topS 25)) (defScope (topS 25)) .none kV25 dc25 pm25 an25 cd25 ct25), sl25⟩)
    (c25 : PySem.W.codeIn K cd25 "_law_take" = true)
    (k25 : PySem.W.keepIn K (.ref f25) = true)
    (a24 : PySem.W.nsIn K mainGlobals "_law_box" = some (some (.ref f24)))
    (l24 : K.lookup f24 = some ⟨oc24, od24, .func (PySem.W.fnOf "_law_box" "_law_box" (defArgs (topS 24)) (defBody (topS 24)) (defScope (topS 24)) .none kV24 dc24 pm24 an24 cd24 ct24), sl24⟩)
    (c24 : PySem.W.codeIn K cd24 "_law_box" = true)
    (k24 : PySem.W.keepIn K (.ref f24) = true)
    (a26 : PySem.W.nsIn K mainGlobals "_law_pick" = some (some (.ref f26)))
    (l26 : K.lookup f26 = some ⟨oc26, od26, .func (PySem.W.fnOf "_law_pick" "_law_pick" (defArgs (topS 26)) (defBody (topS 26)) (defScope (topS 26)) .none kV26 dc26 pm26 an26 cd26 ct26), sl26⟩)
    (c26 : PySem.W.codeIn K cd26 "_law_pick" = true)
    (k26 : PySem.W.keepIn K (.ref f26) = true)
    (a27 : PySem.W.nsIn K mainGlobals "_law_ones" = some (some (.ref f27)))
    (l27 : K.lookup f27 = some ⟨oc27, od27, .func (PySem.W.fnOf "_law_ones" "_law_ones" (defArgs (topS 27)) (defBody (topS 27)) (defScope (topS 27)) .none kV27 dc27 pm27 an27 cd27 ct27), sl27⟩)
    (c27 : PySem.W.codeIn K cd27 "_law_ones" = true)
    (k27 : PySem.W.keepIn K (.ref f27) = true)
    (a28 : PySem.W.nsIn K mainGlobals "_law_kinds" = some (some (.ref f28)))
    (l28 : K.lookup f28 = some ⟨oc28, od28, .func (PySem.W.fnOf "_law_kinds" "_law_kinds" (defArgs (topS 28)) (defBody (topS 28)) (defScope (topS 28)) .none kV28 dc28 pm28 an28 cd28 ct28), sl28⟩)
    (c28 : PySem.W.codeIn K cd28 "_law_kinds" = true)
    (k28 : PySem.W.keepIn K (.ref f28) = true)
    (a29 : PySem.W.nsIn K mainGlobals "law" = some (some (.ref f29)))
    (l29 : K.lookup f29 = some ⟨oc29, od29, .func (PySem.W.fnOf "law" "law" (defArgs (topS 29)) (defBody (topS 29)) (defScope (topS 29)) .none kV29 dc29 pm29 an29 cd29 ct29), sl29⟩)
    (c29 : PySem.W.codeIn K cd29 "law" = true)
    (k29 : PySem.W.keepIn K (.ref f29) = true)
    (aL : PySem.W.nsIn K mainGlobals "LockError" = some (some (.ref CL)))
    (exL : PySem.W.subIn K (.ref CL) (.type "BaseException") = some true)
    (icL : PySem.W.isClsIn K CL = true)
    (tyL : PySem.W.typeIn K (.ref CL) = some (.type "type"))
    (gT : PySem.W.nsIn K mainGlobals "Table" = some (some (.ref CT)))
    (iTI : PySem.W.findIn K (.ref CT) "__init__" = some (some (.ref fTI)))
    (nTI : PySem.W.isFn K (.ref fTI) = true)
    (lTI : K.lookup fTI = some ⟨ocTI, odTI, .func (PySem.W.fnOf "__init__" "Table.__init__" (defArgs (inClass (topS 21) 0)) (defBody (inClass (topS 21) 0)) (defScope (inClass (topS 21) 0)) .none kVTI dcTI pmTI anTI cdTI ctTI), slTI⟩)
    (cTI : PySem.W.codeIn K cdTI "Table.__init__" = true)
    (kTI : PySem.W.keepIn K (.ref fTI) = true)
    (pgT : PySem.W.plainGet K CT Str.empty = true)
    (hdT : PySem.W.hasDictIn K CT = true)
    (poT : PySem.W.plainOver K CT = true)
    (saT : PySem.W.findIn K (.ref CT) "__setattr__" = some (some (.builtin "object.__setattr__")))
    (mkT : PySem.W.makesIn K CT = true)
    (kcT : PySem.W.keepIn K (.ref CT) = true)
    (nomany : PySem.W.findIn K (.ref CT) "many" = some none)
    (norows : PySem.W.findIn K (.ref CT) "rows" = some none)
    (haT : PySem.W.findIn K (.ref CT) "__class__" = some (some (.builtin "object.__class__")))
    (hnT : PySem.W.specialIn K (.builtin "object.__class__") "__get__" = some (some (.builtin "getset_descriptor.__get__")))
    (htT : PySem.W.takesIn K (.builtin "object.__class__") = some true)
    (hmT : PySem.W.mroIn K CT (.type "object") = some true)
    (tyT : PySem.W.typeIn K (.ref CT) = some (.type "type"))
    (icT : PySem.W.isClsIn K CT = true)
    (kbNoneType : PySem.W.subIn K (.type "NoneType") (.ref CT) = some false)
    (kbbool : PySem.W.subIn K (.type "bool") (.ref CT) = some false)
    (kbint : PySem.W.subIn K (.type "int") (.ref CT) = some false)
    (kbstr : PySem.W.subIn K (.type "str") (.ref CT) = some false)
    (kbtuple : PySem.W.subIn K (.type "tuple") (.ref CT) = some false)
    (kblist : PySem.W.subIn K (.type "list") (.ref CT) = some false)
    (g1 : PySem.W.nsIn K mainGlobals "InvalidNumber" = some (some (.ref C1)))
    (iI1 : PySem.W.findIn K (.ref C1) "__init__" = some (some (.ref fI1)))
    (lI1 : K.lookup fI1 = some ⟨ocI1, odI1, .func (PySem.W.fnOf "__init__" "InvalidNumber.__init__" (defArgs (inClass (topS 2) 0)) (defBody (inClass (topS 2) 0)) (defScope (inClass (topS 2) 0)) .none kVI1 dcI1 pmI1 anI1 cdI1 ctI1), slI1⟩)
    (cI1 : PySem.W.codeIn K cdI1 "InvalidNumber.__init__" = true)
    (kI1 : PySem.W.keepIn K (.ref fI1) = true)
    (tI1 : PySem.W.typeIn K (.ref fI1) = some (.type "function"))
    (x1 : K.lookup C1 = some (excClassObj nm1 q1 C1 N1 bs1 [.ref CL, .type "ValueError", .type "Exception", .type "BaseException", .type "object"] true sn1 sub1 ab1 col1 dd1 m01 m11 m21 m31 m51 "ValueError.__new__"))
    (sa1 : PySem.W.findIn K (.ref C1) "__setattr__" = some (some (.builtin "object.__setattr__")))
    (ga1 : PySem.W.findIn K (.ref C1) "__getattribute__" = some (some (.builtin "BaseException.__getattribute__")))
    (gg1 : PySem.W.findIn K (.ref C1) "__getattr__" = some none)
    (no1value : PySem.W.findIn K (.ref C1) "value" = some none)
    (no1what : PySem.W.findIn K (.ref C1) "what" = some none)
    (no1word : PySem.W.findIn K (.ref C1) "word" = some none)
    (kc1 : PySem.W.keepIn K (.ref C1) = true)
    (ex1 : PySem.W.subIn K (.ref C1) (.type "BaseException") = some true)
    (ty1 : PySem.W.typeIn K (.ref C1) = some (.type "type"))
    (hd1 : PySem.W.hasDictIn K C1 = true)
    (ic1 : PySem.W.isClsIn K C1 = true)
    (ha1 : PySem.W.findIn K (.ref C1) "__class__" = some (some (.builtin "object.__class__")))
    (hm1 : PySem.W.mroIn K C1 (.type "object") = some true)
    (eL1 : PySem.W.subIn K (.ref C1) (.ref CL) = some true)
    (eV1 : PySem.W.subIn K (.ref C1) (.type "ValueError") = some true)
    (g2 : PySem.W.nsIn K mainGlobals "InvalidLocks" = some (some (.ref C2)))
    (iI2 : PySem.W.findIn K (.ref C2) "__init__" = some (some (.ref fI2)))
    (lI2 : K.lookup fI2 = some ⟨ocI2, odI2, .func (PySem.W.fnOf "__init__" "InvalidLocks.__init__" (defArgs (inClass (topS 3) 0)) (defBody (inClass (topS 3) 0)) (defScope (inClass (topS 3) 0)) .none kVI2 dcI2 pmI2 anI2 cdI2 ctI2), slI2⟩)
    (cI2 : PySem.W.codeIn K cdI2 "InvalidLocks.__init__" = true)
    (kI2 : PySem.W.keepIn K (.ref fI2) = true)
    (tI2 : PySem.W.typeIn K (.ref fI2) = some (.type "function"))
    (x2 : K.lookup C2 = some (excClassObj nm2 q2 C2 N2 bs2 [.ref CL, .type "ValueError", .type "Exception", .type "BaseException", .type "object"] true sn2 sub2 ab2 col2 dd2 m02 m12 m22 m32 m52 "ValueError.__new__"))
    (sa2 : PySem.W.findIn K (.ref C2) "__setattr__" = some (some (.builtin "object.__setattr__")))
    (ga2 : PySem.W.findIn K (.ref C2) "__getattribute__" = some (some (.builtin "BaseException.__getattribute__")))
    (gg2 : PySem.W.findIn K (.ref C2) "__getattr__" = some none)
    (no2value : PySem.W.findIn K (.ref C2) "value" = some none)
    (no2what : PySem.W.findIn K (.ref C2) "what" = some none)
    (no2word : PySem.W.findIn K (.ref C2) "word" = some none)
    (kc2 : PySem.W.keepIn K (.ref C2) = true)
    (ex2 : PySem.W.subIn K (.ref C2) (.type "BaseException") = some true)
    (ty2 : PySem.W.typeIn K (.ref C2) = some (.type "type"))
    (hd2 : PySem.W.hasDictIn K C2 = true)
    (ic2 : PySem.W.isClsIn K C2 = true)
    (ha2 : PySem.W.findIn K (.ref C2) "__class__" = some (some (.builtin "object.__class__")))
    (hm2 : PySem.W.mroIn K C2 (.type "object") = some true)
    (eL2 : PySem.W.subIn K (.ref C2) (.ref CL) = some true)
    (eV2 : PySem.W.subIn K (.ref C2) (.type "ValueError") = some true)
    (g3 : PySem.W.nsIn K mainGlobals "InvalidKeys" = some (some (.ref C3)))
    (iI3 : PySem.W.findIn K (.ref C3) "__init__" = some (some (.ref fI3)))
    (lI3 : K.lookup fI3 = some ⟨ocI3, odI3, .func (PySem.W.fnOf "__init__" "InvalidKeys.__init__" (defArgs (inClass (topS 4) 0)) (defBody (inClass (topS 4) 0)) (defScope (inClass (topS 4) 0)) .none kVI3 dcI3 pmI3 anI3 cdI3 ctI3), slI3⟩)
    (cI3 : PySem.W.codeIn K cdI3 "InvalidKeys.__init__" = true)
    (kI3 : PySem.W.keepIn K (.ref fI3) = true)
    (tI3 : PySem.W.typeIn K (.ref fI3) = some (.type "function"))
    (x3 : K.lookup C3 = some (excClassObj nm3 q3 C3 N3 bs3 [.ref CL, .type "ValueError", .type "Exception", .type "BaseException", .type "object"] true sn3 sub3 ab3 col3 dd3 m03 m13 m23 m33 m53 "ValueError.__new__"))
    (sa3 : PySem.W.findIn K (.ref C3) "__setattr__" = some (some (.builtin "object.__setattr__")))
    (ga3 : PySem.W.findIn K (.ref C3) "__getattribute__" = some (some (.builtin "BaseException.__getattribute__")))
    (gg3 : PySem.W.findIn K (.ref C3) "__getattr__" = some none)
    (no3value : PySem.W.findIn K (.ref C3) "value" = some none)
    (no3what : PySem.W.findIn K (.ref C3) "what" = some none)
    (no3word : PySem.W.findIn K (.ref C3) "word" = some none)
    (kc3 : PySem.W.keepIn K (.ref C3) = true)
    (ex3 : PySem.W.subIn K (.ref C3) (.type "BaseException") = some true)
    (ty3 : PySem.W.typeIn K (.ref C3) = some (.type "type"))
    (hd3 : PySem.W.hasDictIn K C3 = true)
    (ic3 : PySem.W.isClsIn K C3 = true)
    (ha3 : PySem.W.findIn K (.ref C3) "__class__" = some (some (.builtin "object.__class__")))
    (hm3 : PySem.W.mroIn K C3 (.type "object") = some true)
    (eL3 : PySem.W.subIn K (.ref C3) (.ref CL) = some true)
    (eV3 : PySem.W.subIn K (.ref C3) (.type "ValueError") = some true)
    (g4 : PySem.W.nsIn K mainGlobals "InvalidKind" = some (some (.ref C4)))
    (iI4 : PySem.W.findIn K (.ref C4) "__init__" = some (some (.ref fI4)))
    (lI4 : K.lookup fI4 = some ⟨ocI4, odI4, .func (PySem.W.fnOf "__init__" "InvalidKind.__init__" (defArgs (inClass (topS 5) 0)) (defBody (inClass (topS 5) 0)) (defScope (inClass (topS 5) 0)) .none kVI4 dcI4 pmI4 anI4 cdI4 ctI4), slI4⟩)
    (cI4 : PySem.W.codeIn K cdI4 "InvalidKind.__init__" = true)
    (kI4 : PySem.W.keepIn K (.ref fI4) = true)
    (tI4 : PySem.W.typeIn K (.ref fI4) = some (.type "function"))
    (x4 : K.lookup C4 = some (excClassObj nm4 q4 C4 N4 bs4 [.ref CL, .type "ValueError", .type "Exception", .type "BaseException", .type "object"] true sn4 sub4 ab4 col4 dd4 m04 m14 m24 m34 m54 "ValueError.__new__"))
    (sa4 : PySem.W.findIn K (.ref C4) "__setattr__" = some (some (.builtin "object.__setattr__")))
    (ga4 : PySem.W.findIn K (.ref C4) "__getattribute__" = some (some (.builtin "BaseException.__getattribute__")))
    (gg4 : PySem.W.findIn K (.ref C4) "__getattr__" = some none)
    (no4value : PySem.W.findIn K (.ref C4) "value" = some none)
    (no4what : PySem.W.findIn K (.ref C4) "what" = some none)
    (no4word : PySem.W.findIn K (.ref C4) "word" = some none)
    (kc4 : PySem.W.keepIn K (.ref C4) = true)
    (ex4 : PySem.W.subIn K (.ref C4) (.type "BaseException") = some true)
    (ty4 : PySem.W.typeIn K (.ref C4) = some (.type "type"))
    (hd4 : PySem.W.hasDictIn K C4 = true)
    (ic4 : PySem.W.isClsIn K C4 = true)
    (ha4 : PySem.W.findIn K (.ref C4) "__class__" = some (some (.builtin "object.__class__")))
    (hm4 : PySem.W.mroIn K C4 (.type "object") = some true)
    (eL4 : PySem.W.subIn K (.ref C4) (.ref CL) = some true)
    (eV4 : PySem.W.subIn K (.ref C4) (.type "ValueError") = some true)
    (g5 : PySem.W.nsIn K mainGlobals "InvalidCut" = some (some (.ref C5)))
    (iI5 : PySem.W.findIn K (.ref C5) "__init__" = some (some (.ref fI5)))
    (lI5 : K.lookup fI5 = some ⟨ocI5, odI5, .func (PySem.W.fnOf "__init__" "InvalidCut.__init__" (defArgs (inClass (topS 6) 0)) (defBody (inClass (topS 6) 0)) (defScope (inClass (topS 6) 0)) .none kVI5 dcI5 pmI5 anI5 cdI5 ctI5), slI5⟩)
    (cI5 : PySem.W.codeIn K cdI5 "InvalidCut.__init__" = true)
    (kI5 : PySem.W.keepIn K (.ref fI5) = true)
    (tI5 : PySem.W.typeIn K (.ref fI5) = some (.type "function"))
    (x5 : K.lookup C5 = some (excClassObj nm5 q5 C5 N5 bs5 [.ref CL, .type "ValueError", .type "Exception", .type "BaseException", .type "object"] true sn5 sub5 ab5 col5 dd5 m05 m15 m25 m35 m55 "ValueError.__new__"))
    (sa5 : PySem.W.findIn K (.ref C5) "__setattr__" = some (some (.builtin "object.__setattr__")))
    (ga5 : PySem.W.findIn K (.ref C5) "__getattribute__" = some (some (.builtin "BaseException.__getattribute__")))
    (gg5 : PySem.W.findIn K (.ref C5) "__getattr__" = some none)
    (no5value : PySem.W.findIn K (.ref C5) "value" = some none)
    (no5what : PySem.W.findIn K (.ref C5) "what" = some none)
    (no5word : PySem.W.findIn K (.ref C5) "word" = some none)
    (kc5 : PySem.W.keepIn K (.ref C5) = true)
    (ex5 : PySem.W.subIn K (.ref C5) (.type "BaseException") = some true)
    (ty5 : PySem.W.typeIn K (.ref C5) = some (.type "type"))
    (hd5 : PySem.W.hasDictIn K C5 = true)
    (ic5 : PySem.W.isClsIn K C5 = true)
    (ha5 : PySem.W.findIn K (.ref C5) "__class__" = some (some (.builtin "object.__class__")))
    (hm5 : PySem.W.mroIn K C5 (.type "object") = some true)
    (eL5 : PySem.W.subIn K (.ref C5) (.ref CL) = some true)
    (eV5 : PySem.W.subIn K (.ref C5) (.type "ValueError") = some true)
    (g6 : PySem.W.nsIn K mainGlobals "InvalidCuts" = some (some (.ref C6)))
    (iI6 : PySem.W.findIn K (.ref C6) "__init__" = some (some (.ref fI6)))
    (lI6 : K.lookup fI6 = some ⟨ocI6, odI6, .func (PySem.W.fnOf "__init__" "InvalidCuts.__init__" (defArgs (inClass (topS 7) 0)) (defBody (inClass (topS 7) 0)) (defScope (inClass (topS 7) 0)) .none kVI6 dcI6 pmI6 anI6 cdI6 ctI6), slI6⟩)
    (cI6 : PySem.W.codeIn K cdI6 "InvalidCuts.__init__" = true)
    (kI6 : PySem.W.keepIn K (.ref fI6) = true)
    (tI6 : PySem.W.typeIn K (.ref fI6) = some (.type "function"))
    (x6 : K.lookup C6 = some (excClassObj nm6 q6 C6 N6 bs6 [.ref CL, .type "ValueError", .type "Exception", .type "BaseException", .type "object"] true sn6 sub6 ab6 col6 dd6 m06 m16 m26 m36 m56 "ValueError.__new__"))
    (sa6 : PySem.W.findIn K (.ref C6) "__setattr__" = some (some (.builtin "object.__setattr__")))
    (ga6 : PySem.W.findIn K (.ref C6) "__getattribute__" = some (some (.builtin "BaseException.__getattribute__")))
    (gg6 : PySem.W.findIn K (.ref C6) "__getattr__" = some none)
    (no6value : PySem.W.findIn K (.ref C6) "value" = some none)
    (no6what : PySem.W.findIn K (.ref C6) "what" = some none)
    (no6word : PySem.W.findIn K (.ref C6) "word" = some none)
    (kc6 : PySem.W.keepIn K (.ref C6) = true)
    (ex6 : PySem.W.subIn K (.ref C6) (.type "BaseException") = some true)
    (ty6 : PySem.W.typeIn K (.ref C6) = some (.type "type"))
    (hd6 : PySem.W.hasDictIn K C6 = true)
    (ic6 : PySem.W.isClsIn K C6 = true)
    (ha6 : PySem.W.findIn K (.ref C6) "__class__" = some (some (.builtin "object.__class__")))
    (hm6 : PySem.W.mroIn K C6 (.type "object") = some true)
    (eL6 : PySem.W.subIn K (.ref C6) (.ref CL) = some true)
    (eV6 : PySem.W.subIn K (.ref C6) (.type "ValueError") = some true)
    (g7 : PySem.W.nsIn K mainGlobals "InvalidTable" = some (some (.ref C7)))
    (iI7 : PySem.W.findIn K (.ref C7) "__init__" = some (some (.ref fI7)))
    (lI7 : K.lookup fI7 = some ⟨ocI7, odI7, .func (PySem.W.fnOf "__init__" "InvalidTable.__init__" (defArgs (inClass (topS 8) 0)) (defBody (inClass (topS 8) 0)) (defScope (inClass (topS 8) 0)) .none kVI7 dcI7 pmI7 anI7 cdI7 ctI7), slI7⟩)
    (cI7 : PySem.W.codeIn K cdI7 "InvalidTable.__init__" = true)
    (kI7 : PySem.W.keepIn K (.ref fI7) = true)
    (tI7 : PySem.W.typeIn K (.ref fI7) = some (.type "function"))
    (x7 : K.lookup C7 = some (excClassObj nm7 q7 C7 N7 bs7 [.ref CL, .type "ValueError", .type "Exception", .type "BaseException", .type "object"] true sn7 sub7 ab7 col7 dd7 m07 m17 m27 m37 m57 "ValueError.__new__"))
    (sa7 : PySem.W.findIn K (.ref C7) "__setattr__" = some (some (.builtin "object.__setattr__")))
    (ga7 : PySem.W.findIn K (.ref C7) "__getattribute__" = some (some (.builtin "BaseException.__getattribute__")))
    (gg7 : PySem.W.findIn K (.ref C7) "__getattr__" = some none)
    (no7value : PySem.W.findIn K (.ref C7) "value" = some none)
    (no7what : PySem.W.findIn K (.ref C7) "what" = some none)
    (no7word : PySem.W.findIn K (.ref C7) "word" = some none)
    (kc7 : PySem.W.keepIn K (.ref C7) = true)
    (ex7 : PySem.W.subIn K (.ref C7) (.type "BaseException") = some true)
    (ty7 : PySem.W.typeIn K (.ref C7) = some (.type "type"))
    (hd7 : PySem.W.hasDictIn K C7 = true)
    (ic7 : PySem.W.isClsIn K C7 = true)
    (ha7 : PySem.W.findIn K (.ref C7) "__class__" = some (some (.builtin "object.__class__")))
    (hm7 : PySem.W.mroIn K C7 (.type "object") = some true)
    (eL7 : PySem.W.subIn K (.ref C7) (.ref CL) = some true)
    (eV7 : PySem.W.subIn K (.ref C7) (.type "ValueError") = some true)
    (g8 : PySem.W.nsIn K mainGlobals "InvalidPair" = some (some (.ref C8)))
    (iI8 : PySem.W.findIn K (.ref C8) "__init__" = some (some (.ref fI8)))
    (lI8 : K.lookup fI8 = some ⟨ocI8, odI8, .func (PySem.W.fnOf "__init__" "InvalidPair.__init__" (defArgs (inClass (topS 9) 0)) (defBody (inClass (topS 9) 0)) (defScope (inClass (topS 9) 0)) .none kVI8 dcI8 pmI8 anI8 cdI8 ctI8), slI8⟩)
    (cI8 : PySem.W.codeIn K cdI8 "InvalidPair.__init__" = true)
    (kI8 : PySem.W.keepIn K (.ref fI8) = true)
    (tI8 : PySem.W.typeIn K (.ref fI8) = some (.type "function"))
    (x8 : K.lookup C8 = some (excClassObj nm8 q8 C8 N8 bs8 [.ref CL, .type "ValueError", .type "Exception", .type "BaseException", .type "object"] true sn8 sub8 ab8 col8 dd8 m08 m18 m28 m38 m58 "ValueError.__new__"))
    (sa8 : PySem.W.findIn K (.ref C8) "__setattr__" = some (some (.builtin "object.__setattr__")))
    (ga8 : PySem.W.findIn K (.ref C8) "__getattribute__" = some (some (.builtin "BaseException.__getattribute__")))
    (gg8 : PySem.W.findIn K (.ref C8) "__getattr__" = some none)
    (no8value : PySem.W.findIn K (.ref C8) "value" = some none)
    (no8what : PySem.W.findIn K (.ref C8) "what" = some none)
    (no8word : PySem.W.findIn K (.ref C8) "word" = some none)
    (kc8 : PySem.W.keepIn K (.ref C8) = true)
    (ex8 : PySem.W.subIn K (.ref C8) (.type "BaseException") = some true)
    (ty8 : PySem.W.typeIn K (.ref C8) = some (.type "type"))
    (hd8 : PySem.W.hasDictIn K C8 = true)
    (ic8 : PySem.W.isClsIn K C8 = true)
    (ha8 : PySem.W.findIn K (.ref C8) "__class__" = some (some (.builtin "object.__class__")))
    (hm8 : PySem.W.mroIn K C8 (.type "object") = some true)
    (eL8 : PySem.W.subIn K (.ref C8) (.ref CL) = some true)
    (eV8 : PySem.W.subIn K (.ref C8) (.type "ValueError") = some true)
    (g9 : PySem.W.nsIn K mainGlobals "InvalidQuestion" = some (some (.ref C9)))
    (iI9 : PySem.W.findIn K (.ref C9) "__init__" = some (some (.ref fI9)))
    (lI9 : K.lookup fI9 = some ⟨ocI9, odI9, .func (PySem.W.fnOf "__init__" "InvalidQuestion.__init__" (defArgs (inClass (topS 10) 0)) (defBody (inClass (topS 10) 0)) (defScope (inClass (topS 10) 0)) .none kVI9 dcI9 pmI9 anI9 cdI9 ctI9), slI9⟩)
    (cI9 : PySem.W.codeIn K cdI9 "InvalidQuestion.__init__" = true)
    (kI9 : PySem.W.keepIn K (.ref fI9) = true)
    (tI9 : PySem.W.typeIn K (.ref fI9) = some (.type "function"))
    (x9 : K.lookup C9 = some (excClassObj nm9 q9 C9 N9 bs9 [.ref CL, .type "ValueError", .type "Exception", .type "BaseException", .type "object"] true sn9 sub9 ab9 col9 dd9 m09 m19 m29 m39 m59 "ValueError.__new__"))
    (sa9 : PySem.W.findIn K (.ref C9) "__setattr__" = some (some (.builtin "object.__setattr__")))
    (ga9 : PySem.W.findIn K (.ref C9) "__getattribute__" = some (some (.builtin "BaseException.__getattribute__")))
    (gg9 : PySem.W.findIn K (.ref C9) "__getattr__" = some none)
    (no9value : PySem.W.findIn K (.ref C9) "value" = some none)
    (no9what : PySem.W.findIn K (.ref C9) "what" = some none)
    (no9word : PySem.W.findIn K (.ref C9) "word" = some none)
    (kc9 : PySem.W.keepIn K (.ref C9) = true)
    (ex9 : PySem.W.subIn K (.ref C9) (.type "BaseException") = some true)
    (ty9 : PySem.W.typeIn K (.ref C9) = some (.type "type"))
    (hd9 : PySem.W.hasDictIn K C9 = true)
    (ic9 : PySem.W.isClsIn K C9 = true)
    (ha9 : PySem.W.findIn K (.ref C9) "__class__" = some (some (.builtin "object.__class__")))
    (hm9 : PySem.W.mroIn K C9 (.type "object") = some true)
    (eL9 : PySem.W.subIn K (.ref C9) (.ref CL) = some true)
    (eV9 : PySem.W.subIn K (.ref C9) (.type "ValueError") = some true)
    (g10 : PySem.W.nsIn K mainGlobals "InvalidClaim" = some (some (.ref C10)))
    (iI10 : PySem.W.findIn K (.ref C10) "__init__" = some (some (.ref fI10)))
    (lI10 : K.lookup fI10 = some ⟨ocI10, odI10, .func (PySem.W.fnOf "__init__" "InvalidClaim.__init__" (defArgs (inClass (topS 11) 0)) (defBody (inClass (topS 11) 0)) (defScope (inClass (topS 11) 0)) .none kVI10 dcI10 pmI10 anI10 cdI10 ctI10), slI10⟩)
    (cI10 : PySem.W.codeIn K cdI10 "InvalidClaim.__init__" = true)
    (kI10 : PySem.W.keepIn K (.ref fI10) = true)
    (tI10 : PySem.W.typeIn K (.ref fI10) = some (.type "function"))
    (x10 : K.lookup C10 = some (excClassObj nm10 q10 C10 N10 bs10 [.ref CL, .type "ValueError", .type "Exception", .type "BaseException", .type "object"] true sn10 sub10 ab10 col10 dd10 m010 m110 m210 m310 m510 "ValueError.__new__"))
    (sa10 : PySem.W.findIn K (.ref C10) "__setattr__" = some (some (.builtin "object.__setattr__")))
    (ga10 : PySem.W.findIn K (.ref C10) "__getattribute__" = some (some (.builtin "BaseException.__getattribute__")))
    (gg10 : PySem.W.findIn K (.ref C10) "__getattr__" = some none)
    (no10value : PySem.W.findIn K (.ref C10) "value" = some none)
    (no10what : PySem.W.findIn K (.ref C10) "what" = some none)
    (no10word : PySem.W.findIn K (.ref C10) "word" = some none)
    (kc10 : PySem.W.keepIn K (.ref C10) = true)
    (ex10 : PySem.W.subIn K (.ref C10) (.type "BaseException") = some true)
    (ty10 : PySem.W.typeIn K (.ref C10) = some (.type "type"))
    (hd10 : PySem.W.hasDictIn K C10 = true)
    (ic10 : PySem.W.isClsIn K C10 = true)
    (ha10 : PySem.W.findIn K (.ref C10) "__class__" = some (some (.builtin "object.__class__")))
    (hm10 : PySem.W.mroIn K C10 (.type "object") = some true)
    (eL10 : PySem.W.subIn K (.ref C10) (.ref CL) = some true)
    (eV10 : PySem.W.subIn K (.ref C10) (.type "ValueError") = some true)
    (g11 : PySem.W.nsIn K mainGlobals "Undefined" = some (some (.ref C11)))
    (iI11 : PySem.W.findIn K (.ref C11) "__init__" = some (some (.ref fI11)))
    (lI11 : K.lookup fI11 = some ⟨ocI11, odI11, .func (PySem.W.fnOf "__init__" "Undefined.__init__" (defArgs (inClass (topS 12) 0)) (defBody (inClass (topS 12) 0)) (defScope (inClass (topS 12) 0)) .none kVI11 dcI11 pmI11 anI11 cdI11 ctI11), slI11⟩)
    (cI11 : PySem.W.codeIn K cdI11 "Undefined.__init__" = true)
    (kI11 : PySem.W.keepIn K (.ref fI11) = true)
    (tI11 : PySem.W.typeIn K (.ref fI11) = some (.type "function"))
    (x11 : K.lookup C11 = some (excClassObj nm11 q11 C11 N11 bs11 [.ref CL, .type "ValueError", .type "Exception", .type "BaseException", .type "object"] true sn11 sub11 ab11 col11 dd11 m011 m111 m211 m311 m511 "ValueError.__new__"))
    (sa11 : PySem.W.findIn K (.ref C11) "__setattr__" = some (some (.builtin "object.__setattr__")))
    (ga11 : PySem.W.findIn K (.ref C11) "__getattribute__" = some (some (.builtin "BaseException.__getattribute__")))
    (gg11 : PySem.W.findIn K (.ref C11) "__getattr__" = some none)
    (no11value : PySem.W.findIn K (.ref C11) "value" = some none)
    (no11what : PySem.W.findIn K (.ref C11) "what" = some none)
    (no11word : PySem.W.findIn K (.ref C11) "word" = some none)
    (kc11 : PySem.W.keepIn K (.ref C11) = true)
    (ex11 : PySem.W.subIn K (.ref C11) (.type "BaseException") = some true)
    (ty11 : PySem.W.typeIn K (.ref C11) = some (.type "type"))
    (hd11 : PySem.W.hasDictIn K C11 = true)
    (ic11 : PySem.W.isClsIn K C11 = true)
    (ha11 : PySem.W.findIn K (.ref C11) "__class__" = some (some (.builtin "object.__class__")))
    (hm11 : PySem.W.mroIn K C11 (.type "object") = some true)
    (eL11 : PySem.W.subIn K (.ref C11) (.ref CL) = some true)
    (eV11 : PySem.W.subIn K (.ref C11) (.type "ValueError") = some true)
    (g12 : PySem.W.nsIn K mainGlobals "NothingToUndo" = some (some (.ref C12)))
    (iI12 : PySem.W.findIn K (.ref C12) "__init__" = some (some (.ref fI12)))
    (lI12 : K.lookup fI12 = some ⟨ocI12, odI12, .func (PySem.W.fnOf "__init__" "NothingToUndo.__init__" (defArgs (inClass (topS 13) 0)) (defBody (inClass (topS 13) 0)) (defScope (inClass (topS 13) 0)) .none kVI12 dcI12 pmI12 anI12 cdI12 ctI12), slI12⟩)
    (cI12 : PySem.W.codeIn K cdI12 "NothingToUndo.__init__" = true)
    (kI12 : PySem.W.keepIn K (.ref fI12) = true)
    (tI12 : PySem.W.typeIn K (.ref fI12) = some (.type "function"))
    (x12 : K.lookup C12 = some (excClassObj nm12 q12 C12 N12 bs12 [.ref CL, .type "ValueError", .type "Exception", .type "BaseException", .type "object"] true sn12 sub12 ab12 col12 dd12 m012 m112 m212 m312 m512 "ValueError.__new__"))
    (sa12 : PySem.W.findIn K (.ref C12) "__setattr__" = some (some (.builtin "object.__setattr__")))
    (ga12 : PySem.W.findIn K (.ref C12) "__getattribute__" = some (some (.builtin "BaseException.__getattribute__")))
    (gg12 : PySem.W.findIn K (.ref C12) "__getattr__" = some none)
    (no12value : PySem.W.findIn K (.ref C12) "value" = some none)
    (no12what : PySem.W.findIn K (.ref C12) "what" = some none)
    (no12word : PySem.W.findIn K (.ref C12) "word" = some none)
    (kc12 : PySem.W.keepIn K (.ref C12) = true)
    (ex12 : PySem.W.subIn K (.ref C12) (.type "BaseException") = some true)
    (ty12 : PySem.W.typeIn K (.ref C12) = some (.type "type"))
    (hd12 : PySem.W.hasDictIn K C12 = true)
    (ic12 : PySem.W.isClsIn K C12 = true)
    (ha12 : PySem.W.findIn K (.ref C12) "__class__" = some (some (.builtin "object.__class__")))
    (hm12 : PySem.W.mroIn K C12 (.type "object") = some true)
    (eL12 : PySem.W.subIn K (.ref C12) (.ref CL) = some true)
    (eV12 : PySem.W.subIn K (.ref C12) (.type "ValueError") = some true)
    (zlen : PySem.W.nsIn K mainGlobals "len" = some none)
    (zabs : PySem.W.nsIn K mainGlobals "abs" = some none)
    (zint : PySem.W.nsIn K mainGlobals "int" = some none)
    (zbool : PySem.W.nsIn K mainGlobals "bool" = some none)
    (ztuple : PySem.W.nsIn K mainGlobals "tuple" = some none)
    (zlist : PySem.W.nsIn K mainGlobals "list" = some none)
    (zmax : PySem.W.nsIn K mainGlobals "max" = some none)
    (zmin : PySem.W.nsIn K mainGlobals "min" = some none)
    (zstr : PySem.W.nsIn K mainGlobals "str" = some none)
    (zall : PySem.W.nsIn K mainGlobals "all" = some none)
    (zany : PySem.W.nsIn K mainGlobals "any" = some none)
    (zsum : PySem.W.nsIn K mainGlobals "sum" = some none)
    (zsorted : PySem.W.nsIn K mainGlobals "sorted" = some none)
    (zisinstance : PySem.W.nsIn K mainGlobals "isinstance" = some none)
    (zrange : PySem.W.nsIn K mainGlobals "range" = some none)
    (zenumerate : PySem.W.nsIn K mainGlobals "enumerate" = some none)
    (zValueError : PySem.W.nsIn K mainGlobals "ValueError" = some none)
    (qmostkeys : PySem.W.nsIn K mainGlobals "MOST_KEYS" = some (some (.int 5 tK)))
    (qmostlocks : PySem.W.nsIn K mainGlobals "MOST_LOCKS" = some (some (.int 5 tO)))
    (e1_1 : PySem.W.subIn K (.ref C1) (.ref C1) = some true)
    (e1_2 : PySem.W.subIn K (.ref C1) (.ref C2) = some false)
    (e1_3 : PySem.W.subIn K (.ref C1) (.ref C3) = some false)
    (e1_4 : PySem.W.subIn K (.ref C1) (.ref C4) = some false)
    (e1_5 : PySem.W.subIn K (.ref C1) (.ref C5) = some false)
    (e1_6 : PySem.W.subIn K (.ref C1) (.ref C6) = some false)
    (e1_7 : PySem.W.subIn K (.ref C1) (.ref C7) = some false)
    (e1_8 : PySem.W.subIn K (.ref C1) (.ref C8) = some false)
    (e1_9 : PySem.W.subIn K (.ref C1) (.ref C9) = some false)
    (e1_10 : PySem.W.subIn K (.ref C1) (.ref C10) = some false)
    (e1_11 : PySem.W.subIn K (.ref C1) (.ref C11) = some false)
    (e1_12 : PySem.W.subIn K (.ref C1) (.ref C12) = some false)
    (e2_1 : PySem.W.subIn K (.ref C2) (.ref C1) = some false)
    (e2_2 : PySem.W.subIn K (.ref C2) (.ref C2) = some true)
    (e2_3 : PySem.W.subIn K (.ref C2) (.ref C3) = some false)
    (e2_4 : PySem.W.subIn K (.ref C2) (.ref C4) = some false)
    (e2_5 : PySem.W.subIn K (.ref C2) (.ref C5) = some false)
    (e2_6 : PySem.W.subIn K (.ref C2) (.ref C6) = some false)
    (e2_7 : PySem.W.subIn K (.ref C2) (.ref C7) = some false)
    (e2_8 : PySem.W.subIn K (.ref C2) (.ref C8) = some false)
    (e2_9 : PySem.W.subIn K (.ref C2) (.ref C9) = some false)
    (e2_10 : PySem.W.subIn K (.ref C2) (.ref C10) = some false)
    (e2_11 : PySem.W.subIn K (.ref C2) (.ref C11) = some false)
    (e2_12 : PySem.W.subIn K (.ref C2) (.ref C12) = some false)
    (e3_1 : PySem.W.subIn K (.ref C3) (.ref C1) = some false)
    (e3_2 : PySem.W.subIn K (.ref C3) (.ref C2) = some false)
    (e3_3 : PySem.W.subIn K (.ref C3) (.ref C3) = some true)
    (e3_4 : PySem.W.subIn K (.ref C3) (.ref C4) = some false)
    (e3_5 : PySem.W.subIn K (.ref C3) (.ref C5) = some false)
    (e3_6 : PySem.W.subIn K (.ref C3) (.ref C6) = some false)
    (e3_7 : PySem.W.subIn K (.ref C3) (.ref C7) = some false)
    (e3_8 : PySem.W.subIn K (.ref C3) (.ref C8) = some false)
    (e3_9 : PySem.W.subIn K (.ref C3) (.ref C9) = some false)
    (e3_10 : PySem.W.subIn K (.ref C3) (.ref C10) = some false)
    (e3_11 : PySem.W.subIn K (.ref C3) (.ref C11) = some false)
    (e3_12 : PySem.W.subIn K (.ref C3) (.ref C12) = some false)
    (e4_1 : PySem.W.subIn K (.ref C4) (.ref C1) = some false)
    (e4_2 : PySem.W.subIn K (.ref C4) (.ref C2) = some false)
    (e4_3 : PySem.W.subIn K (.ref C4) (.ref C3) = some false)
    (e4_4 : PySem.W.subIn K (.ref C4) (.ref C4) = some true)
    (e4_5 : PySem.W.subIn K (.ref C4) (.ref C5) = some false)
    (e4_6 : PySem.W.subIn K (.ref C4) (.ref C6) = some false)
    (e4_7 : PySem.W.subIn K (.ref C4) (.ref C7) = some false)
    (e4_8 : PySem.W.subIn K (.ref C4) (.ref C8) = some false)
    (e4_9 : PySem.W.subIn K (.ref C4) (.ref C9) = some false)
    (e4_10 : PySem.W.subIn K (.ref C4) (.ref C10) = some false)
    (e4_11 : PySem.W.subIn K (.ref C4) (.ref C11) = some false)
    (e4_12 : PySem.W.subIn K (.ref C4) (.ref C12) = some false)
    (e5_1 : PySem.W.subIn K (.ref C5) (.ref C1) = some false)
    (e5_2 : PySem.W.subIn K (.ref C5) (.ref C2) = some false)
    (e5_3 : PySem.W.subIn K (.ref C5) (.ref C3) = some false)
    (e5_4 : PySem.W.subIn K (.ref C5) (.ref C4) = some false)
    (e5_5 : PySem.W.subIn K (.ref C5) (.ref C5) = some true)
    (e5_6 : PySem.W.subIn K (.ref C5) (.ref C6) = some false)
    (e5_7 : PySem.W.subIn K (.ref C5) (.ref C7) = some false)
    (e5_8 : PySem.W.subIn K (.ref C5) (.ref C8) = some false)
    (e5_9 : PySem.W.subIn K (.ref C5) (.ref C9) = some false)
    (e5_10 : PySem.W.subIn K (.ref C5) (.ref C10) = some false)
    (e5_11 : PySem.W.subIn K (.ref C5) (.ref C11) = some false)
    (e5_12 : PySem.W.subIn K (.ref C5) (.ref C12) = some false)
    (e6_1 : PySem.W.subIn K (.ref C6) (.ref C1) = some false)
    (e6_2 : PySem.W.subIn K (.ref C6) (.ref C2) = some false)
    (e6_3 : PySem.W.subIn K (.ref C6) (.ref C3) = some false)
    (e6_4 : PySem.W.subIn K (.ref C6) (.ref C4) = some false)
    (e6_5 : PySem.W.subIn K (.ref C6) (.ref C5) = some false)
    (e6_6 : PySem.W.subIn K (.ref C6) (.ref C6) = some true)
    (e6_7 : PySem.W.subIn K (.ref C6) (.ref C7) = some false)
    (e6_8 : PySem.W.subIn K (.ref C6) (.ref C8) = some false)
    (e6_9 : PySem.W.subIn K (.ref C6) (.ref C9) = some false)
    (e6_10 : PySem.W.subIn K (.ref C6) (.ref C10) = some false)
    (e6_11 : PySem.W.subIn K (.ref C6) (.ref C11) = some false)
    (e6_12 : PySem.W.subIn K (.ref C6) (.ref C12) = some false)
    (e7_1 : PySem.W.subIn K (.ref C7) (.ref C1) = some false)
    (e7_2 : PySem.W.subIn K (.ref C7) (.ref C2) = some false)
    (e7_3 : PySem.W.subIn K (.ref C7) (.ref C3) = some false)
    (e7_4 : PySem.W.subIn K (.ref C7) (.ref C4) = some false)
    (e7_5 : PySem.W.subIn K (.ref C7) (.ref C5) = some false)
    (e7_6 : PySem.W.subIn K (.ref C7) (.ref C6) = some false)
    (e7_7 : PySem.W.subIn K (.ref C7) (.ref C7) = some true)
    (e7_8 : PySem.W.subIn K (.ref C7) (.ref C8) = some false)
    (e7_9 : PySem.W.subIn K (.ref C7) (.ref C9) = some false)
    (e7_10 : PySem.W.subIn K (.ref C7) (.ref C10) = some false)
    (e7_11 : PySem.W.subIn K (.ref C7) (.ref C11) = some false)
    (e7_12 : PySem.W.subIn K (.ref C7) (.ref C12) = some false)
    (e8_1 : PySem.W.subIn K (.ref C8) (.ref C1) = some false)
    (e8_2 : PySem.W.subIn K (.ref C8) (.ref C2) = some false)
    (e8_3 : PySem.W.subIn K (.ref C8) (.ref C3) = some false)
    (e8_4 : PySem.W.subIn K (.ref C8) (.ref C4) = some false)
    (e8_5 : PySem.W.subIn K (.ref C8) (.ref C5) = some false)
    (e8_6 : PySem.W.subIn K (.ref C8) (.ref C6) = some false)
    (e8_7 : PySem.W.subIn K (.ref C8) (.ref C7) = some false)
    (e8_8 : PySem.W.subIn K (.ref C8) (.ref C8) = some true)
    (e8_9 : PySem.W.subIn K (.ref C8) (.ref C9) = some false)
    (e8_10 : PySem.W.subIn K (.ref C8) (.ref C10) = some false)
    (e8_11 : PySem.W.subIn K (.ref C8) (.ref C11) = some false)
    (e8_12 : PySem.W.subIn K (.ref C8) (.ref C12) = some false)
    (e9_1 : PySem.W.subIn K (.ref C9) (.ref C1) = some false)
    (e9_2 : PySem.W.subIn K (.ref C9) (.ref C2) = some false)
    (e9_3 : PySem.W.subIn K (.ref C9) (.ref C3) = some false)
    (e9_4 : PySem.W.subIn K (.ref C9) (.ref C4) = some false)
    (e9_5 : PySem.W.subIn K (.ref C9) (.ref C5) = some false)
    (e9_6 : PySem.W.subIn K (.ref C9) (.ref C6) = some false)
    (e9_7 : PySem.W.subIn K (.ref C9) (.ref C7) = some false)
    (e9_8 : PySem.W.subIn K (.ref C9) (.ref C8) = some false)
    (e9_9 : PySem.W.subIn K (.ref C9) (.ref C9) = some true)
    (e9_10 : PySem.W.subIn K (.ref C9) (.ref C10) = some false)
    (e9_11 : PySem.W.subIn K (.ref C9) (.ref C11) = some false)
    (e9_12 : PySem.W.subIn K (.ref C9) (.ref C12) = some false)
    (e10_1 : PySem.W.subIn K (.ref C10) (.ref C1) = some false)
    (e10_2 : PySem.W.subIn K (.ref C10) (.ref C2) = some false)
    (e10_3 : PySem.W.subIn K (.ref C10) (.ref C3) = some false)
    (e10_4 : PySem.W.subIn K (.ref C10) (.ref C4) = some false)
    (e10_5 : PySem.W.subIn K (.ref C10) (.ref C5) = some false)
    (e10_6 : PySem.W.subIn K (.ref C10) (.ref C6) = some false)
    (e10_7 : PySem.W.subIn K (.ref C10) (.ref C7) = some false)
    (e10_8 : PySem.W.subIn K (.ref C10) (.ref C8) = some false)
    (e10_9 : PySem.W.subIn K (.ref C10) (.ref C9) = some false)
    (e10_10 : PySem.W.subIn K (.ref C10) (.ref C10) = some true)
    (e10_11 : PySem.W.subIn K (.ref C10) (.ref C11) = some false)
    (e10_12 : PySem.W.subIn K (.ref C10) (.ref C12) = some false)
    (e11_1 : PySem.W.subIn K (.ref C11) (.ref C1) = some false)
    (e11_2 : PySem.W.subIn K (.ref C11) (.ref C2) = some false)
    (e11_3 : PySem.W.subIn K (.ref C11) (.ref C3) = some false)
    (e11_4 : PySem.W.subIn K (.ref C11) (.ref C4) = some false)
    (e11_5 : PySem.W.subIn K (.ref C11) (.ref C5) = some false)
    (e11_6 : PySem.W.subIn K (.ref C11) (.ref C6) = some false)
    (e11_7 : PySem.W.subIn K (.ref C11) (.ref C7) = some false)
    (e11_8 : PySem.W.subIn K (.ref C11) (.ref C8) = some false)
    (e11_9 : PySem.W.subIn K (.ref C11) (.ref C9) = some false)
    (e11_10 : PySem.W.subIn K (.ref C11) (.ref C10) = some false)
    (e11_11 : PySem.W.subIn K (.ref C11) (.ref C11) = some true)
    (e11_12 : PySem.W.subIn K (.ref C11) (.ref C12) = some false)
    (e12_1 : PySem.W.subIn K (.ref C12) (.ref C1) = some false)
    (e12_2 : PySem.W.subIn K (.ref C12) (.ref C2) = some false)
    (e12_3 : PySem.W.subIn K (.ref C12) (.ref C3) = some false)
    (e12_4 : PySem.W.subIn K (.ref C12) (.ref C4) = some false)
    (e12_5 : PySem.W.subIn K (.ref C12) (.ref C5) = some false)
    (e12_6 : PySem.W.subIn K (.ref C12) (.ref C6) = some false)
    (e12_7 : PySem.W.subIn K (.ref C12) (.ref C7) = some false)
    (e12_8 : PySem.W.subIn K (.ref C12) (.ref C8) = some false)
    (e12_9 : PySem.W.subIn K (.ref C12) (.ref C9) = some false)
    (e12_10 : PySem.W.subIn K (.ref C12) (.ref C10) = some false)
    (e12_11 : PySem.W.subIn K (.ref C12) (.ref C11) = some false)
    (e12_12 : PySem.W.subIn K (.ref C12) (.ref C12) = some true) :
    ∃ fd : FuncData, (∀ (s : Shared) (v : Value), BindsTo s fd ⟨[v], []⟩ [("script", v)]) ∧ ∀ base : Heap, K.In base → base.Ns mainGlobals mg → FnOk l.prog w K mg base (L2.CX l.prog w) 30 fa fd ["script"] (spLaw K) := by
  have hz : ∀ x ∈ bltNames, mg x = none := by
    intro x hx
    simp only [bltNames, bfTab, List.map, List.cons_append, List.nil_append, List.mem_cons, List.not_mem_nil, or_false] at hx
    rcases hx with rfl | rfl | rfl | rfl | rfl | rfl | rfl | rfl | rfl | rfl | rfl | rfl | rfl | rfl | rfl | rfl | rfl | rfl | rfl | rfl | rfl
    · exact PySem.W.ns_none_of X G zisinstance
    · exact PySem.W.ns_none_of X G zrange
    · exact PySem.W.ns_none_of X G zenumerate
    · exact PySem.W.ns_none_of X G zlen
    · exact PySem.W.ns_none_of X G zabs
    · exact PySem.W.ns_none_of X G zint
    · exact PySem.W.ns_none_of X G zbool
    · exact PySem.W.ns_none_of X G ztuple
    · exact PySem.W.ns_none_of X G zlist
    · exact PySem.W.ns_none_of X G zmax
    · exact PySem.W.ns_none_of X G zmin
    · exact PySem.W.ns_none_of X G zstr
    · exact PySem.W.ns_none_of X G zall
    · exact PySem.W.ns_none_of X G zany
    · exact PySem.W.ns_none_of X G zsum
    · exact PySem.W.ns_none_of X G zsorted
    · exact PySem.W.ns_none_of X G zint
    · exact PySem.W.ns_none_of X G zbool
    · exact PySem.W.ns_none_of X G zstr
    · exact PySem.W.ns_none_of X G ztuple
    · exact PySem.W.ns_none_of X G zlist
  have FI1 := fun_mk (st := inClass (topS 2) 0) lI1 cI1 kI1
  have ox1 : OexC K C1 := ⟨⟨nm1, q1, N1, bs1, _, sn1, sub1, ab1, col1, dd1, m01, m11, m21, m31, m51, x1, by rfl⟩, sa1, ex1, ty1, kc1⟩
  have er1 : ∀ base, ErrAtM l.prog w K mg base (gc K CT CL C1 C2 C3 C4 C5 C6 C7 C8 C9 C10 C11 C12) 1 1 "InvalidNumber" := fun base => ⟨ox1, ⟨ga1, gg1, ex1, hd1⟩, no1value, ⟨fI1, _, ["self", "value"], iI1, tI1, init_okF (by decide) (by decide) FI1 scI1 ib1 ox1 no1value, FI1.binds (ps := ["self", "value"]) fun _ _ _ _ _ _ us hl => match us, hl with | [_, _], _ => rfl⟩, PySem.W.mg_of X G g1, by decide⟩
  have FI2 := fun_mk (st := inClass (topS 3) 0) lI2 cI2 kI2
  have ox2 : OexC K C2 := ⟨⟨nm2, q2, N2, bs2, _, sn2, sub2, ab2, col2, dd2, m02, m12, m22, m32, m52, x2, by rfl⟩, sa2, ex2, ty2, kc2⟩
  have er2 : ∀ base, ErrAtM l.prog w K mg base (gc K CT CL C1 C2 C3 C4 C5 C6 C7 C8 C9 C10 C11 C12) 1 2 "InvalidLocks" := fun base => ⟨ox2, ⟨ga2, gg2, ex2, hd2⟩, no2value, ⟨fI2, _, ["self", "value"], iI2, tI2, init_okF (by decide) (by decide) FI2 scI2 ib2 ox2 no2value, FI2.binds (ps := ["self", "value"]) fun _ _ _ _ _ _ us hl => match us, hl with | [_, _], _ => rfl⟩, PySem.W.mg_of X G g2, by decide⟩
  have FI3 := fun_mk (st := inClass (topS 4) 0) lI3 cI3 kI3
  have ox3 : OexC K C3 := ⟨⟨nm3, q3, N3, bs3, _, sn3, sub3, ab3, col3, dd3, m03, m13, m23, m33, m53, x3, by rfl⟩, sa3, ex3, ty3, kc3⟩
  have er3 : ∀ base, ErrAtM l.prog w K mg base (gc K CT CL C1 C2 C3 C4 C5 C6 C7 C8 C9 C10 C11 C12) 1 3 "InvalidKeys" := fun base => ⟨ox3, ⟨ga3, gg3, ex3, hd3⟩, no3value, ⟨fI3, _, ["self", "value"], iI3, tI3, init_okF (by decide) (by decide) FI3 scI3 ib3 ox3 no3value, FI3.binds (ps := ["self", "value"]) fun _ _ _ _ _ _ us hl => match us, hl with | [_, _], _ => rfl⟩, PySem.W.mg_of X G g3, by decide⟩
  have FI4 := fun_mk (st := inClass (topS 5) 0) lI4 cI4 kI4
  have ox4 : OexC K C4 := ⟨⟨nm4, q4, N4, bs4, _, sn4, sub4, ab4, col4, dd4, m04, m14, m24, m34, m54, x4, by rfl⟩, sa4, ex4, ty4, kc4⟩
  have er4 : ∀ base, ErrAtM l.prog w K mg base (gc K CT CL C1 C2 C3 C4 C5 C6 C7 C8 C9 C10 C11 C12) 1 4 "InvalidKind" := fun base => ⟨ox4, ⟨ga4, gg4, ex4, hd4⟩, no4value, ⟨fI4, _, ["self", "value"], iI4, tI4, init_okF (by decide) (by decide) FI4 scI4 ib4 ox4 no4value, FI4.binds (ps := ["self", "value"]) fun _ _ _ _ _ _ us hl => match us, hl with | [_, _], _ => rfl⟩, PySem.W.mg_of X G g4, by decide⟩
  have FI5 := fun_mk (st := inClass (topS 6) 0) lI5 cI5 kI5
  have ox5 : OexC K C5 := ⟨⟨nm5, q5, N5, bs5, _, sn5, sub5, ab5, col5, dd5, m05, m15, m25, m35, m55, x5, by rfl⟩, sa5, ex5, ty5, kc5⟩
  have er5 : ∀ base, ErrAtM l.prog w K mg base (gc K CT CL C1 C2 C3 C4 C5 C6 C7 C8 C9 C10 C11 C12) 1 5 "InvalidCut" := fun base => ⟨ox5, ⟨ga5, gg5, ex5, hd5⟩, no5value, ⟨fI5, _, ["self", "value"], iI5, tI5, init_okF (by decide) (by decide) FI5 scI5 ib5 ox5 no5value, FI5.binds (ps := ["self", "value"]) fun _ _ _ _ _ _ us hl => match us, hl with | [_, _], _ => rfl⟩, PySem.W.mg_of X G g5, by decide⟩
  have FI6 := fun_mk (st := inClass (topS 7) 0) lI6 cI6 kI6
  have ox6 : OexC K C6 := ⟨⟨nm6, q6, N6, bs6, _, sn6, sub6, ab6, col6, dd6, m06, m16, m26, m36, m56, x6, by rfl⟩, sa6, ex6, ty6, kc6⟩
  have er6 : ∀ base, ErrAtM l.prog w K mg base (gc K CT CL C1 C2 C3 C4 C5 C6 C7 C8 C9 C10 C11 C12) 1 6 "InvalidCuts" := fun base => ⟨ox6, ⟨ga6, gg6, ex6, hd6⟩, no6value, ⟨fI6, _, ["self", "value"], iI6, tI6, init_okF (by decide) (by decide) FI6 scI6 ib6 ox6 no6value, FI6.binds (ps := ["self", "value"]) fun _ _ _ _ _ _ us hl => match us, hl with | [_, _], _ => rfl⟩, PySem.W.mg_of X G g6, by decide⟩
  have FI7 := fun_mk (st := inClass (topS 8) 0) lI7 cI7 kI7
  have ox7 : OexC K C7 := ⟨⟨nm7, q7, N7, bs7, _, sn7, sub7, ab7, col7, dd7, m07, m17, m27, m37, m57, x7, by rfl⟩, sa7, ex7, ty7, kc7⟩
  have er7 : ∀ base, ErrAtM l.prog w K mg base (gc K CT CL C1 C2 C3 C4 C5 C6 C7 C8 C9 C10 C11 C12) 1 7 "InvalidTable" := fun base => ⟨ox7, ⟨ga7, gg7, ex7, hd7⟩, no7value, ⟨fI7, _, ["self", "value"], iI7, tI7, init_okF (by decide) (by decide) FI7 scI7 ib7 ox7 no7value, FI7.binds (ps := ["self", "value"]) fun _ _ _ _ _ _ us hl => match us, hl with | [_, _], _ => rfl⟩, PySem.W.mg_of X G g7, by decide⟩
  have FI8 := fun_mk (st := inClass (topS 9) 0) lI8 cI8 kI8
  have ox8 : OexC K C8 := ⟨⟨nm8, q8, N8, bs8, _, sn8, sub8, ab8, col8, dd8, m08, m18, m28, m38, m58, x8, by rfl⟩, sa8, ex8, ty8, kc8⟩
  have er8 : ∀ base, ErrAtM l.prog w K mg base (gc K CT CL C1 C2 C3 C4 C5 C6 C7 C8 C9 C10 C11 C12) 1 8 "InvalidPair" := fun base => ⟨ox8, ⟨ga8, gg8, ex8, hd8⟩, no8value, ⟨fI8, _, ["self", "value"], iI8, tI8, init_okF (by decide) (by decide) FI8 scI8 ib8 ox8 no8value, FI8.binds (ps := ["self", "value"]) fun _ _ _ _ _ _ us hl => match us, hl with | [_, _], _ => rfl⟩, PySem.W.mg_of X G g8, by decide⟩
  have FI9 := fun_mk (st := inClass (topS 10) 0) lI9 cI9 kI9
  have ox9 : OexC K C9 := ⟨⟨nm9, q9, N9, bs9, _, sn9, sub9, ab9, col9, dd9, m09, m19, m29, m39, m59, x9, by rfl⟩, sa9, ex9, ty9, kc9⟩
  have er9 : ∀ base, ErrAtM l.prog w K mg base (gc K CT CL C1 C2 C3 C4 C5 C6 C7 C8 C9 C10 C11 C12) 1 9 "InvalidQuestion" := fun base => ⟨ox9, ⟨ga9, gg9, ex9, hd9⟩, no9value, ⟨fI9, _, ["self", "value"], iI9, tI9, init_okF (by decide) (by decide) FI9 scI9 ib9 ox9 no9value, FI9.binds (ps := ["self", "value"]) fun _ _ _ _ _ _ us hl => match us, hl with | [_, _], _ => rfl⟩, PySem.W.mg_of X G g9, by decide⟩
  have FI10 := fun_mk (st := inClass (topS 11) 0) lI10 cI10 kI10
  have ox10 : OexC K C10 := ⟨⟨nm10, q10, N10, bs10, _, sn10, sub10, ab10, col10, dd10, m010, m110, m210, m310, m510, x10, by rfl⟩, sa10, ex10, ty10, kc10⟩
  have er10 : ∀ base, ErrAtM l.prog w K mg base (gc K CT CL C1 C2 C3 C4 C5 C6 C7 C8 C9 C10 C11 C12) 1 10 "InvalidClaim" := fun base => ⟨ox10, ⟨ga10, gg10, ex10, hd10⟩, no10value, ⟨fI10, _, ["self", "value"], iI10, tI10, init_okF (by decide) (by decide) FI10 scI10 ib10 ox10 no10value, FI10.binds (ps := ["self", "value"]) fun _ _ _ _ _ _ us hl => match us, hl with | [_, _], _ => rfl⟩, PySem.W.mg_of X G g10, by decide⟩
  have FI11 := fun_mk (st := inClass (topS 12) 0) lI11 cI11 kI11
  have ox11 : OexC K C11 := ⟨⟨nm11, q11, N11, bs11, _, sn11, sub11, ab11, col11, dd11, m011, m111, m211, m311, m511, x11, by rfl⟩, sa11, ex11, ty11, kc11⟩
  have er11 : ∀ base, ErrAtM l.prog w K mg base (gc K CT CL C1 C2 C3 C4 C5 C6 C7 C8 C9 C10 C11 C12) 1 11 "Undefined" := fun base => ⟨ox11, ⟨ga11, gg11, ex11, hd11⟩, no11what, ⟨fI11, _, ["self", "what"], iI11, tI11, init_okF (by decide) (by decide) FI11 scI11 ib11 ox11 no11what, FI11.binds (ps := ["self", "what"]) fun _ _ _ _ _ _ us hl => match us, hl with | [_, _], _ => rfl⟩, PySem.W.mg_of X G g11, by decide⟩
  have FI12 := fun_mk (st := inClass (topS 13) 0) lI12 cI12 kI12
  have ox12 : OexC K C12 := ⟨⟨nm12, q12, N12, bs12, _, sn12, sub12, ab12, col12, dd12, m012, m112, m212, m312, m512, x12, by rfl⟩, sa12, ex12, ty12, kc12⟩
  have er12 : ∀ base, ErrAtM l.prog w K mg base (gc K CT CL C1 C2 C3 C4 C5 C6 C7 C8 C9 C10 C11 C12) 1 12 "NothingToUndo" := fun base => ⟨ox12, ⟨ga12, gg12, ex12, hd12⟩, no12word, ⟨fI12, _, ["self", "word"], iI12, tI12, init_okF (by decide) (by decide) FI12 scI12 ib12 ox12 no12word, FI12.binds (ps := ["self", "word"]) fun _ _ _ _ _ _ us hl => match us, hl with | [_, _], _ => rfl⟩, PySem.W.mg_of X G g12, by decide⟩
  have x11 := exm_of ex1 ic1 ty1 e1_1
  have x12 := exm_of ex2 ic2 ty2 e1_2
  have x21 := exm_of ex1 ic1 ty1 e2_1
  have x22 := exm_of ex2 ic2 ty2 e2_2
  have clT : ∀ fl, (∀ f ∈ fl, NoAttr K CT f) → ClsAt K (gc K CT CL C1 C2 C3 C4 C5 C6 C7 C8 C9 C10 C11 C12) [0] fl 0 := fun fl h => by
    refine ⟨⟨pgT, hdT, poT, saT⟩, h, haT, hnT, htT, hmT, fun c' hc => ?_, fun t ht => ?_⟩
    · rw [List.mem_singleton] at hc; subst hc; exact kitOne_self
    · refine kitOne_type (kit_of icT tyT ?_)
      simp only [List.mem_cons, List.not_mem_nil, or_false] at ht
      rcases ht with rfl | rfl | rfl | rfl | rfl | rfl
      · exact kbNoneType
      · exact kbbool
      · exact kbint
      · exact kbstr
      · exact kbtuple
      · exact kblist
  have naT : ∀ f ∈ (["many", "rows"] : List Str), NoAttr K CT f := fun f hf => by
    simp only [List.mem_cons, List.not_mem_nil, or_false] at hf
    rcases hf with rfl | rfl
    · exact nomany
    · exact norows
  have gT' := PySem.W.mg_of X G gT
  have hXcs : ∀ c ∈ xcs, XvAt K ((gc K CT CL C1 C2 C3 C4 C5 C6 C7 C8 C9 C10 C11 C12).cA c) := fun c hc => by
    simp only [xcs, List.mem_cons, List.not_mem_nil, or_false] at hc
    rcases hc with rfl | rfl | rfl | rfl | rfl | rfl | rfl | rfl | rfl | rfl | rfl | rfl
    · exact ⟨⟨ga1, gg1, ex1, hd1⟩, ic1, ha1, hnT, htT, hm1⟩
    · exact ⟨⟨ga2, gg2, ex2, hd2⟩, ic2, ha2, hnT, htT, hm2⟩
    · exact ⟨⟨ga3, gg3, ex3, hd3⟩, ic3, ha3, hnT, htT, hm3⟩
    · exact ⟨⟨ga4, gg4, ex4, hd4⟩, ic4, ha4, hnT, htT, hm4⟩
    · exact ⟨⟨ga5, gg5, ex5, hd5⟩, ic5, ha5, hnT, htT, hm5⟩
    · exact ⟨⟨ga6, gg6, ex6, hd6⟩, ic6, ha6, hnT, htT, hm6⟩
    · exact ⟨⟨ga7, gg7, ex7, hd7⟩, ic7, ha7, hnT, htT, hm7⟩
    · exact ⟨⟨ga8, gg8, ex8, hd8⟩, ic8, ha8, hnT, htT, hm8⟩
    · exact ⟨⟨ga9, gg9, ex9, hd9⟩, ic9, ha9, hnT, htT, hm9⟩
    · exact ⟨⟨ga10, gg10, ex10, hd10⟩, ic10, ha10, hnT, htT, hm10⟩
    · exact ⟨⟨ga11, gg11, ex11, hd11⟩, ic11, ha11, hnT, htT, hm11⟩
    · exact ⟨⟨ga12, gg12, ex12, hd12⟩, ic12, ha12, hnT, htT, hm12⟩
  have hXfl : ∀ c ∈ xcs, ∀ f ∈ (["value", "what", "word"] : List Str), PySem.W.findIn K (.ref ((gc K CT CL C1 C2 C3 C4 C5 C6 C7 C8 C9 C10 C11 C12).cA c)) f = some none := fun c hc f hf => by
    simp only [xcs, List.mem_cons, List.not_mem_nil, or_false] at hc
    simp only [List.mem_cons, List.not_mem_nil, or_false] at hf
    rcases hc with rfl | rfl | rfl | rfl | rfl | rfl | rfl | rfl | rfl | rfl | rfl | rfl <;> rcases hf with rfl | rfl | rfl
    · exact no1value
    · exact no1what
    · exact no1word
    · exact no2value
    · exact no2what
    · exact no2word
    · exact no3value
    · exact no3what
    · exact no3word
    · exact no4value
    · exact no4what
    · exact no4word
    · exact no5value
    · exact no5what
    · exact no5word
    · exact no6value
    · exact no6what
    · exact no6word
    · exact no7value
    · exact no7what
    · exact no7word
    · exact no8value
    · exact no8what
    · exact no8word
    · exact no9value
    · exact no9what
    · exact no9word
    · exact no10value
    · exact no10what
    · exact no10word
    · exact no11value
    · exact no11what
    · exact no11word
    · exact no12value
    · exact no12what
    · exact no12word
  have hXmk : ∀ base x c f, xmkL.lookup x = some (c, f) → (gc K CT CL C1 C2 C3 C4 C5 C6 C7 C8 C9 C10 C11 C12).cF c = f ∧ ErrAtM l.prog w K mg base (gc K CT CL C1 C2 C3 C4 C5 C6 C7 C8 C9 C10 C11 C12) 1 c x := fun base x c f h => by
    have := lookup_in h
    simp only [xmkL, List.mem_cons, List.not_mem_nil, or_false, Prod.mk.injEq] at this
    rcases this with ⟨rfl, rfl, rfl⟩ | ⟨rfl, rfl, rfl⟩ | ⟨rfl, rfl, rfl⟩ | ⟨rfl, rfl, rfl⟩ | ⟨rfl, rfl, rfl⟩ | ⟨rfl, rfl, rfl⟩ | ⟨rfl, rfl, rfl⟩ | ⟨rfl, rfl, rfl⟩ | ⟨rfl, rfl, rfl⟩ | ⟨rfl, rfl, rfl⟩ | ⟨rfl, rfl, rfl⟩ | ⟨rfl, rfl, rfl⟩
    · exact ⟨rfl, er1 base⟩
    · exact ⟨rfl, er2 base⟩
    · exact ⟨rfl, er3 base⟩
    · exact ⟨rfl, er4 base⟩
    · exact ⟨rfl, er5 base⟩
    · exact ⟨rfl, er6 base⟩
    · exact ⟨rfl, er7 base⟩
    · exact ⟨rfl, er8 base⟩
    · exact ⟨rfl, er9 base⟩
    · exact ⟨rfl, er10 base⟩
    · exact ⟨rfl, er11 base⟩
    · exact ⟨rfl, er12 base⟩
  have kk1 : ∀ c b, (xl (some 1)).lookup c = some b → PySem.W.kitOne K (.ref ((gc K CT CL C1 C2 C3 C4 C5 C6 C7 C8 C9 C10 C11 C12).cA c)) (xisV (gc K CT CL C1 C2 C3 C4 C5 C6 C7 C8 C9 C10 C11 C12) (some 1)) = some b := fun c b h => by
    obtain ⟨hc, rfl⟩ := xl_inv h
    simp only [xcs, List.mem_cons, List.not_mem_nil, or_false] at hc
    rcases hc with rfl | rfl | rfl | rfl | rfl | rfl | rfl | rfl | rfl | rfl | rfl | rfl
    · exact kitOne_self
    · exact kitOne_ff ic1 ty1 e2_1 e2_2
    · exact kitOne_ff ic1 ty1 e3_1 e3_3
    · exact kitOne_ff ic1 ty1 e4_1 e4_4
    · exact kitOne_ff ic1 ty1 e5_1 e5_5
    · exact kitOne_ff ic1 ty1 e6_1 e6_6
    · exact kitOne_ff ic1 ty1 e7_1 e7_7
    · exact kitOne_ff ic1 ty1 e8_1 e8_8
    · exact kitOne_ff ic1 ty1 e9_1 e9_9
    · exact kitOne_ff ic1 ty1 e10_1 e10_10
    · exact kitOne_ff ic1 ty1 e11_1 e11_11
    · exact kitOne_ff ic1 ty1 e12_1 e12_12
  have kk2 : ∀ c b, (xl (some 2)).lookup c = some b → PySem.W.kitOne K (.ref ((gc K CT CL C1 C2 C3 C4 C5 C6 C7 C8 C9 C10 C11 C12).cA c)) (xisV (gc K CT CL C1 C2 C3 C4 C5 C6 C7 C8 C9 C10 C11 C12) (some 2)) = some b := fun c b h => by
    obtain ⟨hc, rfl⟩ := xl_inv h
    simp only [xcs, List.mem_cons, List.not_mem_nil, or_false] at hc
    rcases hc with rfl | rfl | rfl | rfl | rfl | rfl | rfl | rfl | rfl | rfl | rfl | rfl
    · exact kitOne_ff ic2 ty2 e1_2 e1_1
    · exact kitOne_self
    · exact kitOne_ff ic2 ty2 e3_2 e3_3
    · exact kitOne_ff ic2 ty2 e4_2 e4_4
    · exact kitOne_ff ic2 ty2 e5_2 e5_5
    · exact kitOne_ff ic2 ty2 e6_2 e6_6
    · exact kitOne_ff ic2 ty2 e7_2 e7_7
    · exact kitOne_ff ic2 ty2 e8_2 e8_8
    · exact kitOne_ff ic2 ty2 e9_2 e9_9
    · exact kitOne_ff ic2 ty2 e10_2 e10_10
    · exact kitOne_ff ic2 ty2 e11_2 e11_11
    · exact kitOne_ff ic2 ty2 e12_2 e12_12
  have kk3 : ∀ c b, (xl (some 3)).lookup c = some b → PySem.W.kitOne K (.ref ((gc K CT CL C1 C2 C3 C4 C5 C6 C7 C8 C9 C10 C11 C12).cA c)) (xisV (gc K CT CL C1 C2 C3 C4 C5 C6 C7 C8 C9 C10 C11 C12) (some 3)) = some b := fun c b h => by
    obtain ⟨hc, rfl⟩ := xl_inv h
    simp only [xcs, List.mem_cons, List.not_mem_nil, or_false] at hc
    rcases hc with rfl | rfl | rfl | rfl | rfl | rfl | rfl | rfl | rfl | rfl | rfl | rfl
    · exact kitOne_ff ic3 ty3 e1_3 e1_1
    · exact kitOne_ff ic3 ty3 e2_3 e2_2
    · exact kitOne_self
    · exact kitOne_ff ic3 ty3 e4_3 e4_4
    · exact kitOne_ff ic3 ty3 e5_3 e5_5
    · exact kitOne_ff ic3 ty3 e6_3 e6_6
    · exact kitOne_ff ic3 ty3 e7_3 e7_7
    · exact kitOne_ff ic3 ty3 e8_3 e8_8
    · exact kitOne_ff ic3 ty3 e9_3 e9_9
    · exact kitOne_ff ic3 ty3 e10_3 e10_10
    · exact kitOne_ff ic3 ty3 e11_3 e11_11
    · exact kitOne_ff ic3 ty3 e12_3 e12_12
  have kk4 : ∀ c b, (xl (some 4)).lookup c = some b → PySem.W.kitOne K (.ref ((gc K CT CL C1 C2 C3 C4 C5 C6 C7 C8 C9 C10 C11 C12).cA c)) (xisV (gc K CT CL C1 C2 C3 C4 C5 C6 C7 C8 C9 C10 C11 C12) (some 4)) = some b := fun c b h => by
    obtain ⟨hc, rfl⟩ := xl_inv h
    simp only [xcs, List.mem_cons, List.not_mem_nil, or_false] at hc
    rcases hc with rfl | rfl | rfl | rfl | rfl | rfl | rfl | rfl | rfl | rfl | rfl | rfl
    · exact kitOne_ff ic4 ty4 e1_4 e1_1
    · exact kitOne_ff ic4 ty4 e2_4 e2_2
    · exact kitOne_ff ic4 ty4 e3_4 e3_3
    · exact kitOne_self
    · exact kitOne_ff ic4 ty4 e5_4 e5_5
    · exact kitOne_ff ic4 ty4 e6_4 e6_6
    · exact kitOne_ff ic4 ty4 e7_4 e7_7
    · exact kitOne_ff ic4 ty4 e8_4 e8_8
    · exact kitOne_ff ic4 ty4 e9_4 e9_9
    · exact kitOne_ff ic4 ty4 e10_4 e10_10
    · exact kitOne_ff ic4 ty4 e11_4 e11_11
    · exact kitOne_ff ic4 ty4 e12_4 e12_12
  have kk5 : ∀ c b, (xl (some 5)).lookup c = some b → PySem.W.kitOne K (.ref ((gc K CT CL C1 C2 C3 C4 C5 C6 C7 C8 C9 C10 C11 C12).cA c)) (xisV (gc K CT CL C1 C2 C3 C4 C5 C6 C7 C8 C9 C10 C11 C12) (some 5)) = some b := fun c b h => by
    obtain ⟨hc, rfl⟩ := xl_inv h
    simp only [xcs, List.mem_cons, List.not_mem_nil, or_false] at hc
    rcases hc with rfl | rfl | rfl | rfl | rfl | rfl | rfl | rfl | rfl | rfl | rfl | rfl
    · exact kitOne_ff ic5 ty5 e1_5 e1_1
    · exact kitOne_ff ic5 ty5 e2_5 e2_2
    · exact kitOne_ff ic5 ty5 e3_5 e3_3
    · exact kitOne_ff ic5 ty5 e4_5 e4_4
    · exact kitOne_self
    · exact kitOne_ff ic5 ty5 e6_5 e6_6
    · exact kitOne_ff ic5 ty5 e7_5 e7_7
    · exact kitOne_ff ic5 ty5 e8_5 e8_8
    · exact kitOne_ff ic5 ty5 e9_5 e9_9
    · exact kitOne_ff ic5 ty5 e10_5 e10_10
    · exact kitOne_ff ic5 ty5 e11_5 e11_11
    · exact kitOne_ff ic5 ty5 e12_5 e12_12
  have kk6 : ∀ c b, (xl (some 6)).lookup c = some b → PySem.W.kitOne K (.ref ((gc K CT CL C1 C2 C3 C4 C5 C6 C7 C8 C9 C10 C11 C12).cA c)) (xisV (gc K CT CL C1 C2 C3 C4 C5 C6 C7 C8 C9 C10 C11 C12) (some 6)) = some b := fun c b h => by
    obtain ⟨hc, rfl⟩ := xl_inv h
    simp only [xcs, List.mem_cons, List.not_mem_nil, or_false] at hc
    rcases hc with rfl | rfl | rfl | rfl | rfl | rfl | rfl | rfl | rfl | rfl | rfl | rfl
    · exact kitOne_ff ic6 ty6 e1_6 e1_1
    · exact kitOne_ff ic6 ty6 e2_6 e2_2
    · exact kitOne_ff ic6 ty6 e3_6 e3_3
    · exact kitOne_ff ic6 ty6 e4_6 e4_4
    · exact kitOne_ff ic6 ty6 e5_6 e5_5
    · exact kitOne_self
    · exact kitOne_ff ic6 ty6 e7_6 e7_7
    · exact kitOne_ff ic6 ty6 e8_6 e8_8
    · exact kitOne_ff ic6 ty6 e9_6 e9_9
    · exact kitOne_ff ic6 ty6 e10_6 e10_10
    · exact kitOne_ff ic6 ty6 e11_6 e11_11
    · exact kitOne_ff ic6 ty6 e12_6 e12_12
  have kk7 : ∀ c b, (xl (some 7)).lookup c = some b → PySem.W.kitOne K (.ref ((gc K CT CL C1 C2 C3 C4 C5 C6 C7 C8 C9 C10 C11 C12).cA c)) (xisV (gc K CT CL C1 C2 C3 C4 C5 C6 C7 C8 C9 C10 C11 C12) (some 7)) = some b := fun c b h => by
    obtain ⟨hc, rfl⟩ := xl_inv h
    simp only [xcs, List.mem_cons, List.not_mem_nil, or_false] at hc
    rcases hc with rfl | rfl | rfl | rfl | rfl | rfl | rfl | rfl | rfl | rfl | rfl | rfl
    · exact kitOne_ff ic7 ty7 e1_7 e1_1
    · exact kitOne_ff ic7 ty7 e2_7 e2_2
    · exact kitOne_ff ic7 ty7 e3_7 e3_3
    · exact kitOne_ff ic7 ty7 e4_7 e4_4
    · exact kitOne_ff ic7 ty7 e5_7 e5_5
    · exact kitOne_ff ic7 ty7 e6_7 e6_6
    · exact kitOne_self
    · exact kitOne_ff ic7 ty7 e8_7 e8_8
    · exact kitOne_ff ic7 ty7 e9_7 e9_9
    · exact kitOne_ff ic7 ty7 e10_7 e10_10
    · exact kitOne_ff ic7 ty7 e11_7 e11_11
    · exact kitOne_ff ic7 ty7 e12_7 e12_12
  have kk8 : ∀ c b, (xl (some 8)).lookup c = some b → PySem.W.kitOne K (.ref ((gc K CT CL C1 C2 C3 C4 C5 C6 C7 C8 C9 C10 C11 C12).cA c)) (xisV (gc K CT CL C1 C2 C3 C4 C5 C6 C7 C8 C9 C10 C11 C12) (some 8)) = some b := fun c b h => by
    obtain ⟨hc, rfl⟩ := xl_inv h
    simp only [xcs, List.mem_cons, List.not_mem_nil, or_false] at hc
    rcases hc with rfl | rfl | rfl | rfl | rfl | rfl | rfl | rfl | rfl | rfl | rfl | rfl
    · exact kitOne_ff ic8 ty8 e1_8 e1_1
    · exact kitOne_ff ic8 ty8 e2_8 e2_2
    · exact kitOne_ff ic8 ty8 e3_8 e3_3
    · exact kitOne_ff ic8 ty8 e4_8 e4_4
    · exact kitOne_ff ic8 ty8 e5_8 e5_5
    · exact kitOne_ff ic8 ty8 e6_8 e6_6
    · exact kitOne_ff ic8 ty8 e7_8 e7_7
    · exact kitOne_self
    · exact kitOne_ff ic8 ty8 e9_8 e9_9
    · exact kitOne_ff ic8 ty8 e10_8 e10_10
    · exact kitOne_ff ic8 ty8 e11_8 e11_11
    · exact kitOne_ff ic8 ty8 e12_8 e12_12
  have kk9 : ∀ c b, (xl (some 9)).lookup c = some b → PySem.W.kitOne K (.ref ((gc K CT CL C1 C2 C3 C4 C5 C6 C7 C8 C9 C10 C11 C12).cA c)) (xisV (gc K CT CL C1 C2 C3 C4 C5 C6 C7 C8 C9 C10 C11 C12) (some 9)) = some b := fun c b h => by
    obtain ⟨hc, rfl⟩ := xl_inv h
    simp only [xcs, List.mem_cons, List.not_mem_nil, or_false] at hc
    rcases hc with rfl | rfl | rfl | rfl | rfl | rfl | rfl | rfl | rfl | rfl | rfl | rfl
    · exact kitOne_ff ic9 ty9 e1_9 e1_1
    · exact kitOne_ff ic9 ty9 e2_9 e2_2
    · exact kitOne_ff ic9 ty9 e3_9 e3_3
    · exact kitOne_ff ic9 ty9 e4_9 e4_4
    · exact kitOne_ff ic9 ty9 e5_9 e5_5
    · exact kitOne_ff ic9 ty9 e6_9 e6_6
    · exact kitOne_ff ic9 ty9 e7_9 e7_7
    · exact kitOne_ff ic9 ty9 e8_9 e8_8
    · exact kitOne_self
    · exact kitOne_ff ic9 ty9 e10_9 e10_10
    · exact kitOne_ff ic9 ty9 e11_9 e11_11
    · exact kitOne_ff ic9 ty9 e12_9 e12_12
  have kk10 : ∀ c b, (xl (some 10)).lookup c = some b → PySem.W.kitOne K (.ref ((gc K CT CL C1 C2 C3 C4 C5 C6 C7 C8 C9 C10 C11 C12).cA c)) (xisV (gc K CT CL C1 C2 C3 C4 C5 C6 C7 C8 C9 C10 C11 C12) (some 10)) = some b := fun c b h => by
    obtain ⟨hc, rfl⟩ := xl_inv h
    simp only [xcs, List.mem_cons, List.not_mem_nil, or_false] at hc
    rcases hc with rfl | rfl | rfl | rfl | rfl | rfl | rfl | rfl | rfl | rfl | rfl | rfl
    · exact kitOne_ff ic10 ty10 e1_10 e1_1
    · exact kitOne_ff ic10 ty10 e2_10 e2_2
    · exact kitOne_ff ic10 ty10 e3_10 e3_3
    · exact kitOne_ff ic10 ty10 e4_10 e4_4
    · exact kitOne_ff ic10 ty10 e5_10 e5_5
    · exact kitOne_ff ic10 ty10 e6_10 e6_6
    · exact kitOne_ff ic10 ty10 e7_10 e7_7
    · exact kitOne_ff ic10 ty10 e8_10 e8_8
    · exact kitOne_ff ic10 ty10 e9_10 e9_9
    · exact kitOne_self
    · exact kitOne_ff ic10 ty10 e11_10 e11_11
    · exact kitOne_ff ic10 ty10 e12_10 e12_12
  have kk11 : ∀ c b, (xl (some 11)).lookup c = some b → PySem.W.kitOne K (.ref ((gc K CT CL C1 C2 C3 C4 C5 C6 C7 C8 C9 C10 C11 C12).cA c)) (xisV (gc K CT CL C1 C2 C3 C4 C5 C6 C7 C8 C9 C10 C11 C12) (some 11)) = some b := fun c b h => by
    obtain ⟨hc, rfl⟩ := xl_inv h
    simp only [xcs, List.mem_cons, List.not_mem_nil, or_false] at hc
    rcases hc with rfl | rfl | rfl | rfl | rfl | rfl | rfl | rfl | rfl | rfl | rfl | rfl
    · exact kitOne_ff ic11 ty11 e1_11 e1_1
    · exact kitOne_ff ic11 ty11 e2_11 e2_2
    · exact kitOne_ff ic11 ty11 e3_11 e3_3
    · exact kitOne_ff ic11 ty11 e4_11 e4_4
    · exact kitOne_ff ic11 ty11 e5_11 e5_5
    · exact kitOne_ff ic11 ty11 e6_11 e6_6
    · exact kitOne_ff ic11 ty11 e7_11 e7_7
    · exact kitOne_ff ic11 ty11 e8_11 e8_8
    · exact kitOne_ff ic11 ty11 e9_11 e9_9
    · exact kitOne_ff ic11 ty11 e10_11 e10_10
    · exact kitOne_self
    · exact kitOne_ff ic11 ty11 e12_11 e12_12
  have kk12 : ∀ c b, (xl (some 12)).lookup c = some b → PySem.W.kitOne K (.ref ((gc K CT CL C1 C2 C3 C4 C5 C6 C7 C8 C9 C10 C11 C12).cA c)) (xisV (gc K CT CL C1 C2 C3 C4 C5 C6 C7 C8 C9 C10 C11 C12) (some 12)) = some b := fun c b h => by
    obtain ⟨hc, rfl⟩ := xl_inv h
    simp only [xcs, List.mem_cons, List.not_mem_nil, or_false] at hc
    rcases hc with rfl | rfl | rfl | rfl | rfl | rfl | rfl | rfl | rfl | rfl | rfl | rfl
    · exact kitOne_ff ic12 ty12 e1_12 e1_1
    · exact kitOne_ff ic12 ty12 e2_12 e2_2
    · exact kitOne_ff ic12 ty12 e3_12 e3_3
    · exact kitOne_ff ic12 ty12 e4_12 e4_4
    · exact kitOne_ff ic12 ty12 e5_12 e5_5
    · exact kitOne_ff ic12 ty12 e6_12 e6_6
    · exact kitOne_ff ic12 ty12 e7_12 e7_7
    · exact kitOne_ff ic12 ty12 e8_12 e8_8
    · exact kitOne_ff ic12 ty12 e9_12 e9_9
    · exact kitOne_ff ic12 ty12 e10_12 e10_10
    · exact kitOne_ff ic12 ty12 e11_12 e11_11
    · exact kitOne_self
  have kkL : ∀ c b, (xl (some 13)).lookup c = some b → PySem.W.kitOne K (.ref ((gc K CT CL C1 C2 C3 C4 C5 C6 C7 C8 C9 C10 C11 C12).cA c)) (xisV (gc K CT CL C1 C2 C3 C4 C5 C6 C7 C8 C9 C10 C11 C12) (some 13)) = some b := fun c b h => by
    obtain ⟨hc, rfl⟩ := xl_inv h
    simp only [xcs, List.mem_cons, List.not_mem_nil, or_false] at hc
    rcases hc with rfl | rfl | rfl | rfl | rfl | rfl | rfl | rfl | rfl | rfl | rfl | rfl
    · exact kitOne_tt icL tyL eL1
    · exact kitOne_tt icL tyL eL2
    · exact kitOne_tt icL tyL eL3
    · exact kitOne_tt icL tyL eL4
    · exact kitOne_tt icL tyL eL5
    · exact kitOne_tt icL tyL eL6
    · exact kitOne_tt icL tyL eL7
    · exact kitOne_tt icL tyL eL8
    · exact kitOne_tt icL tyL eL9
    · exact kitOne_tt icL tyL eL10
    · exact kitOne_tt icL tyL eL11
    · exact kitOne_tt icL tyL eL12
  have kkV : ∀ c b, (xl none).lookup c = some b → PySem.W.kitOne K (.ref ((gc K CT CL C1 C2 C3 C4 C5 C6 C7 C8 C9 C10 C11 C12).cA c)) (xisV (gc K CT CL C1 C2 C3 C4 C5 C6 C7 C8 C9 C10 C11 C12) none) = some b := fun c b h => by
    obtain ⟨hc, rfl⟩ := xl_inv h
    simp only [xcs, List.mem_cons, List.not_mem_nil, or_false] at hc
    rcases hc with rfl | rfl | rfl | rfl | rfl | rfl | rfl | rfl | rfl | rfl | rfl | rfl
    · exact kitOne_ty (by decide +kernel) eV1
    · exact kitOne_ty (by decide +kernel) eV2
    · exact kitOne_ty (by decide +kernel) eV3
    · exact kitOne_ty (by decide +kernel) eV4
    · exact kitOne_ty (by decide +kernel) eV5
    · exact kitOne_ty (by decide +kernel) eV6
    · exact kitOne_ty (by decide +kernel) eV7
    · exact kitOne_ty (by decide +kernel) eV8
    · exact kitOne_ty (by decide +kernel) eV9
    · exact kitOne_ty (by decide +kernel) eV10
    · exact kitOne_ty (by decide +kernel) eV11
    · exact kitOne_ty (by decide +kernel) eV12
  have hXis : ∀ x y l, xisL.lookup x = some (y, l) → (∀ c b, l.lookup c = some b → PySem.W.kitOne K (.ref ((gc K CT CL C1 C2 C3 C4 C5 C6 C7 C8 C9 C10 C11 C12).cA c)) (xisV (gc K CT CL C1 C2 C3 C4 C5 C6 C7 C8 C9 C10 C11 C12) y) = some b) ∧ XisM mg (gc K CT CL C1 C2 C3 C4 C5 C6 C7 C8 C9 C10 C11 C12) x y ∧ (x == ("__debug__" : Str)) = false := fun x y l h => by
    have := lookup_in h
    simp only [xisL, List.mem_cons, List.not_mem_nil, or_false, Prod.mk.injEq] at this
    rcases this with ⟨rfl, rfl, rfl⟩ | ⟨rfl, rfl, rfl⟩ | ⟨rfl, rfl, rfl⟩ | ⟨rfl, rfl, rfl⟩ | ⟨rfl, rfl, rfl⟩ | ⟨rfl, rfl, rfl⟩ | ⟨rfl, rfl, rfl⟩ | ⟨rfl, rfl, rfl⟩ | ⟨rfl, rfl, rfl⟩ | ⟨rfl, rfl, rfl⟩ | ⟨rfl, rfl, rfl⟩ | ⟨rfl, rfl, rfl⟩ | ⟨rfl, rfl, rfl⟩ | ⟨rfl, rfl, rfl⟩
    · exact ⟨kk1, PySem.W.mg_of X G g1, by decide⟩
    · exact ⟨kk2, PySem.W.mg_of X G g2, by decide⟩
    · exact ⟨kk3, PySem.W.mg_of X G g3, by decide⟩
    · exact ⟨kk4, PySem.W.mg_of X G g4, by decide⟩
    · exact ⟨kk5, PySem.W.mg_of X G g5, by decide⟩
    · exact ⟨kk6, PySem.W.mg_of X G g6, by decide⟩
    · exact ⟨kk7, PySem.W.mg_of X G g7, by decide⟩
    · exact ⟨kk8, PySem.W.mg_of X G g8, by decide⟩
    · exact ⟨kk9, PySem.W.mg_of X G g9, by decide⟩
    · exact ⟨kk10, PySem.W.mg_of X G g10, by decide⟩
    · exact ⟨kk11, PySem.W.mg_of X G g11, by decide⟩
    · exact ⟨kk12, PySem.W.mg_of X G g12, by decide⟩
    · exact ⟨kkL, PySem.W.mg_of X G aL, by decide⟩
    · exact ⟨kkV, ⟨PySem.W.ns_none_of X G zValueError, rfl⟩, by decide⟩
  have hXbs : ∀ x B, ([("LockError", 13)] : List (Str × Nat)).lookup x = some B → mg x = some (.ref ((gc K CT CL C1 C2 C3 C4 C5 C6 C7 C8 C9 C10 C11 C12).cA B)) ∧ (x == ("__debug__" : Str)) = false ∧ ∀ c ∈ er.map (·.2.1), PySem.W.exmOne K (.ref ((gc K CT CL C1 C2 C3 C4 C5 C6 C7 C8 C9 C10 C11 C12).cA c)) (.ref ((gc K CT CL C1 C2 C3 C4 C5 C6 C7 C8 C9 C10 C11 C12).cA B)) = some true := fun x B h => by
    have := lookup_in h
    simp only [List.mem_cons, List.not_mem_nil, or_false, Prod.mk.injEq] at this
    obtain ⟨rfl, rfl⟩ := this
    refine ⟨PySem.W.mg_of X G aL, by decide, fun c hc => ?_⟩
    simp only [er, List.map, List.mem_cons, List.not_mem_nil, or_false] at hc
    rcases hc with rfl | rfl
    · exact exm_of exL icL tyL eL1
    · exact exm_of exL icL tyL eL2
  have F15 := fun_mk (st := topS 15) l15 c15 k15
  have B15 := F15.binds (ps := ["value"]) fun _ _ _ _ _ _ us hl => match us, hl with | [_], _ => rfl
  have F16 := fun_mk (st := topS 16) l16 c16 k16
  have B16 := F16.binds (ps := ["value", "low", "high"]) fun _ _ _ _ _ _ us hl => match us, hl with | [_, _, _], _ => rfl
  have F17 := fun_mk (st := topS 17) l17 c17 k17
  have B17 := F17.binds (ps := ["value", "bound"]) fun _ _ _ _ _ _ us hl => match us, hl with | [_, _], _ => rfl
  have F22 := fun_mk (st := topS 22) l22 c22 k22
  have B22 := F22.binds (ps := ["value", "many"]) fun _ _ _ _ _ _ us hl => match us, hl with | [_, _], _ => rfl
  have FTI := fun_mk (st := inClass (topS 21) 0) lTI cTI kTI
  have BTI := FTI.binds (ps := ["self", "many", "rows"]) fun _ _ _ _ _ _ us hl => match us, hl with | [_, _, _], _ => rfl
  have F25 := fun_mk (st := topS 25) l25 c25 k25
  have B25 := F25.binds (ps := ["box", "many"]) fun _ _ _ _ _ _ us hl => match us, hl with | [_, _], _ => rfl
  have F24 := fun_mk (st := topS 24) l24 c24 k24
  have B24 := F24.binds (ps := ["script", "k"]) fun _ _ _ _ _ _ us hl => match us, hl with | [_, _], _ => rfl
  have F26 := fun_mk (st := topS 26) l26 c26 k26
  have B26 := F26.binds (ps := ["box", "some"]) fun _ _ _ _ _ _ us hl => match us, hl with | [_, _], _ => rfl
  have F27 := fun_mk (st := topS 27) l27 c27 k27
  have B27 := F27.binds (ps := ["v"]) fun _ _ _ _ _ _ us hl => match us, hl with | [_], _ => rfl
  have F28 := fun_mk (st := topS 28) l28 c28 k28
  have B28 := F28.binds (ps := ["e"]) fun _ _ _ _ _ _ us hl => match us, hl with | [_], _ => rfl
  have F29 := fun_mk (st := topS 29) l29 c29 k29
  have B29 := F29.binds (ps := ["script"]) fun _ _ _ _ _ _ us hl => match us, hl with | [_], _ => rfl
  refine ⟨PySem.W.fnOf "law" "law" (defArgs (topS 29)) (defBody (topS 29)) (defScope (topS 29)) .none kV29 dc29 pm29 an29 cd29 ct29, fun s v => ?_, fun base _ _ => ?_⟩
  rotate_left
  · have eA := er1 base
    have eB := er2 base
    have M15 := mod_mk (G := (gc K CT CL C1 C2 C3 C4 C5 C6 C7 C8 C9 C10 C11 C12)) (T := tis_integer) (k := 2) rfl rfl rfl (by omega) hz eA eB x11 x12 x21 x22 (fun _ h => by cases h) (fun _ _ h => by cases h) (fun _ h => by cases h) (fun _ _ h => by cases h) (fun _ _ _ h => by cases h) (fun _ _ h => by cases h) (fun _ _ _ h => by cases h) (fun _ h => by cases h) (fun _ h => by cases h) (fun _ _ _ h => by cases h) (fun _ _ h => by cases h)
    have A15 : FnAtM l.prog w K mg base (gc K CT CL C1 C2 C3 C4 C5 C6 C7 C8 C9 C10 C11 C12) 3 fis_integer := fnAt M15 F15 scis_integer rfl cmpis_integer B15 (PySem.W.mg_of X G a15) k15 (by decide)
    have M16 := mod_mk (G := (gc K CT CL C1 C2 C3 C4 C5 C6 C7 C8 C9 C10 C11 C12)) (T := tis_within) (k := 3) rfl rfl rfl (by omega) hz eA eB x11 x12 x21 x22 (fun i hi => by
      rcases List.mem_cons.mp hi with rfl | hi
      · exact A15.mono (by omega)
      cases hi) (fun _ _ h => by cases h) (fun _ h => by cases h) (fun _ _ h => by cases h) (fun _ _ _ h => by cases h) (fun _ _ h => by cases h) (fun _ _ _ h => by cases h) (fun _ h => by cases h) (fun _ h => by cases h) (fun _ _ _ h => by cases h) (fun _ _ h => by cases h)
    have A16 : FnAtM l.prog w K mg base (gc K CT CL C1 C2 C3 C4 C5 C6 C7 C8 C9 C10 C11 C12) 4 fis_within := fnAt M16 F16 scis_within rfl cmpis_within B16 (PySem.W.mg_of X G a16) k16 (by decide)
    have M17 := mod_mk (G := (gc K CT CL C1 C2 C3 C4 C5 C6 C7 C8 C9 C10 C11 C12)) (T := tis_ascending) (k := 4) rfl rfl rfl (by omega) hz eA eB x11 x12 x21 x22 (fun i hi => by
      rcases List.mem_cons.mp hi with rfl | hi
      · exact A16.mono (by omega)
      cases hi) (fun _ _ h => by cases h) (fun _ h => by cases h) (fun _ _ h => by cases h) (fun _ _ _ h => by cases h) (fun _ _ h => by cases h) (fun _ _ _ h => by cases h) (fun _ h => by cases h) (fun _ h => by cases h) (fun _ _ _ h => by cases h) (fun _ _ h => by cases h)
    have A17 : FnAtM l.prog w K mg base (gc K CT CL C1 C2 C3 C4 C5 C6 C7 C8 C9 C10 C11 C12) 5 fis_ascending := fnAt M17 F17 scis_ascending rfl cmpis_ascending B17 (PySem.W.mg_of X G a17) k17 (by decide)
    have M22 := mod_mk (G := (gc K CT CL C1 C2 C3 C4 C5 C6 C7 C8 C9 C10 C11 C12)) (T := t_are_rows) (k := 5) rfl rfl rfl (by omega) hz eA eB x11 x12 x21 x22 (fun i hi => by
      rcases List.mem_cons.mp hi with rfl | hi
      · exact A17.mono (by omega)
      cases hi) (fun x d h => by
      have := lookup_in h
      simp only [t_are_rows, List.mem_cons, List.not_mem_nil, or_false, Prod.mk.injEq] at this
      rcases this with ⟨rfl, rfl⟩ | ⟨rfl, rfl⟩
      · exact ⟨.int 5, _, PySem.W.mg_of X G qmostkeys, ⟨_, rfl⟩, fun Z => .int 5⟩
      · exact ⟨.int 5, _, PySem.W.mg_of X G qmostlocks, ⟨_, rfl⟩, fun Z => .int 5⟩) (fun _ h => by cases h) (fun _ _ h => by cases h) (fun _ _ _ h => by cases h) (fun _ _ h => by cases h) (fun _ _ _ h => by cases h) (fun _ h => by cases h) (fun _ h => by cases h) (fun _ _ _ h => by cases h) (fun _ _ h => by cases h)
    have A22 : FnAtM l.prog w K mg base (gc K CT CL C1 C2 C3 C4 C5 C6 C7 C8 C9 C10 C11 C12) 6 f_are_rows := fnAt M22 F22 sc_are_rows rfl cmp_are_rows B22 (PySem.W.mg_of X G a22) k22 (by decide)
    have MTI := mod_mk (G := (gc K CT CL C1 C2 C3 C4 C5 C6 C7 C8 C9 C10 C11 C12)) (T := tTable) (k := 6) rfl rfl rfl (by omega) hz eA eB x11 x12 x21 x22 (fun i hi => by
      rcases List.mem_cons.mp hi with rfl | hi
      · exact A16.mono (by omega)
      rcases List.mem_cons.mp hi with rfl | hi
      · exact A22.mono (by omega)
      cases hi) (fun x d h => by
      have := lookup_in h
      simp only [tTable, List.mem_cons, List.not_mem_nil, or_false, Prod.mk.injEq] at this
      rcases this with ⟨rfl, rfl⟩ | ⟨rfl, rfl⟩
      · exact ⟨.int 5, _, PySem.W.mg_of X G qmostkeys, ⟨_, rfl⟩, fun Z => .int 5⟩
      · exact ⟨.int 5, _, PySem.W.mg_of X G qmostlocks, ⟨_, rfl⟩, fun Z => .int 5⟩) (fun c hc => by
      have hc : c ∈ ([0] : List Nat) := hc
      rw [List.mem_singleton] at hc; subst hc
      exact clT _ naT) (fun _ _ h => by cases h) (fun _ _ _ h => by cases h) (fun _ _ h => by cases h) (fun _ _ _ h => by cases h) (fun _ h => by cases h) (fun _ h => by cases h) (fun _ _ _ h => by cases h) (fun _ _ h => by cases h)
    have AmkT : MkAtM l.prog w K mg base (gc K CT CL C1 C2 C3 C4 C5 C6 C7 C8 C9 C10 C11 C12) 7 "Table" 0 fTable := ⟨⟨fTI, _, _, ⟨mkT, iTI, nTI, kcT⟩, fn_sem MTI FTI scTable rfl cmpTable, BTI⟩, gT', by decide, ⟨_, rfl⟩⟩
    have M25 := mod_mk (G := (gc K CT CL C1 C2 C3 C4 C5 C6 C7 C8 C9 C10 C11 C12)) (T := t_law_take) (k := 7) rfl rfl rfl (by omega) hz eA eB x11 x12 x21 x22 (fun _ h => by cases h) (fun _ _ h => by cases h) (fun _ h => by cases h) (fun _ _ h => by cases h) (fun _ _ _ h => by cases h) (fun _ _ h => by cases h) (fun _ _ _ h => by cases h) (fun _ h => by cases h) (fun _ h => by cases h) (fun _ _ _ h => by cases h) (fun _ _ h => by cases h)
    have A25 : FnAtM l.prog w K mg base (gc K CT CL C1 C2 C3 C4 C5 C6 C7 C8 C9 C10 C11 C12) 8 f_law_take := fnAt M25 F25 sc_law_take rfl cmp_law_take B25 (PySem.W.mg_of X G a25) k25 (by decide)
    have M24 := mod_mk (G := (gc K CT CL C1 C2 C3 C4 C5 C6 C7 C8 C9 C10 C11 C12)) (T := t_law_box) (k := 8) rfl rfl rfl (by omega) hz eA eB x11 x12 x21 x22 (fun _ h => by cases h) (fun _ _ h => by cases h) (fun _ h => by cases h) (fun _ _ h => by cases h) (fun _ _ _ h => by cases h) (fun _ _ h => by cases h) (fun _ _ _ h => by cases h) (fun _ h => by cases h) (fun _ h => by cases h) (fun _ _ _ h => by cases h) (fun _ _ h => by cases h)
    have A24 : FnAtM l.prog w K mg base (gc K CT CL C1 C2 C3 C4 C5 C6 C7 C8 C9 C10 C11 C12) 9 f_law_box := fnAt M24 F24 sc_law_box rfl cmp_law_box B24 (PySem.W.mg_of X G a24) k24 (by decide)
    have M26 := mod_mk (G := (gc K CT CL C1 C2 C3 C4 C5 C6 C7 C8 C9 C10 C11 C12)) (T := t_law_pick) (k := 9) rfl rfl rfl (by omega) hz eA eB x11 x12 x21 x22 (fun i hi => by
      rcases List.mem_cons.mp hi with rfl | hi
      · exact A25.mono (by omega)
      cases hi) (fun _ _ h => by cases h) (fun _ h => by cases h) (fun _ _ h => by cases h) (fun _ _ _ h => by cases h) (fun _ _ h => by cases h) (fun _ _ _ h => by cases h) (fun _ h => by cases h) (fun _ h => by cases h) (fun _ _ _ h => by cases h) (fun _ _ h => by cases h)
    have A26 : FnAtM l.prog w K mg base (gc K CT CL C1 C2 C3 C4 C5 C6 C7 C8 C9 C10 C11 C12) 10 f_law_pick := fnAt M26 F26 sc_law_pick rfl cmp_law_pick B26 (PySem.W.mg_of X G a26) k26 (by decide)
    have M27 := mod_mk (G := (gc K CT CL C1 C2 C3 C4 C5 C6 C7 C8 C9 C10 C11 C12)) (T := t_law_ones) (k := 10) rfl rfl rfl (by omega) hz eA eB x11 x12 x21 x22 (fun _ h => by cases h) (fun _ _ h => by cases h) (fun _ h => by cases h) (fun _ _ h => by cases h) (fun _ _ _ h => by cases h) (fun _ _ h => by cases h) (hXmk base) hXcs hXfl hXis hXbs
    have A27 : FnAtM l.prog w K mg base (gc K CT CL C1 C2 C3 C4 C5 C6 C7 C8 C9 C10 C11 C12) 11 f_law_ones := fnAt M27 F27 sc_law_ones rfl cmp_law_ones B27 (PySem.W.mg_of X G a27) k27 (by decide)
    have M28 := mod_mk (G := (gc K CT CL C1 C2 C3 C4 C5 C6 C7 C8 C9 C10 C11 C12)) (T := t_law_kinds) (k := 11) rfl rfl rfl (by omega) hz eA eB x11 x12 x21 x22 (fun _ h => by cases h) (fun _ _ h => by cases h) (fun _ h => by cases h) (fun _ _ h => by cases h) (fun _ _ _ h => by cases h) (fun _ _ h => by cases h) (hXmk base) hXcs hXfl hXis hXbs
    have A28 : FnAtM l.prog w K mg base (gc K CT CL C1 C2 C3 C4 C5 C6 C7 C8 C9 C10 C11 C12) 12 f_law_kinds := fnAt M28 F28 sc_law_kinds rfl cmp_law_kinds B28 (PySem.W.mg_of X G a28) k28 (by decide)
    have M29 := mod_mk (G := (gc K CT CL C1 C2 C3 C4 C5 C6 C7 C8 C9 C10 C11 C12)) (T := tlaw) (k := 12) rfl rfl rfl (by omega) hz eA eB x11 x12 x21 x22 (fun i hi => by
      rcases List.mem_cons.mp hi with rfl | hi
      · exact A24.mono (by omega)
      rcases List.mem_cons.mp hi with rfl | hi
      · exact A25.mono (by omega)
      rcases List.mem_cons.mp hi with rfl | hi
      · exact A26.mono (by omega)
      rcases List.mem_cons.mp hi with rfl | hi
      · exact A27.mono (by omega)
      rcases List.mem_cons.mp hi with rfl | hi
      · exact A28.mono (by omega)
      cases hi) (fun _ _ h => by cases h) (fun c hc => by
      have hc : c ∈ ([0] : List Nat) := hc
      rw [List.mem_singleton] at hc; subst hc
      exact clT _ naT) (fun _ _ h => by cases h) (fun x c i h => by
      have := lookup_in h
      simp only [tlaw, List.mem_cons, List.not_mem_nil, or_false, Prod.mk.injEq] at this
      obtain ⟨rfl, rfl, rfl⟩ := this
      exact ⟨_, by omega, AmkT⟩) (fun _ _ h => by cases h) (hXmk base) hXcs hXfl hXis hXbs
    have e := hfa.symm.trans (PySem.W.mg_of X G a29)
    cases e
    have Alaw := fn_sem M29 F29 sclaw rfl cmplaw
    refine FnOk.mono (FnOk.imp Alaw fun vs H Q E ⟨a, ns, e, hS, hl, hQ⟩ => ?_) (by decide : 13 ≤ 30)
    subst e
    refine ⟨H, [.src ns], .refl _, ⟨.src hS, trivial⟩, List.nodup_nil, ?_⟩
    have hsem : semOf 10 [.v] blaw [.src ns] = .ok (.bl true) .fz [] := law_is ns
    show match semOf 10 [.v] blaw [.src ns] with | .ok d k outs => _ | .exn c d outs => _ | .bad => _
    rw [hsem]
    intro v Z' H' e2 le2 _ _ p
    have p : Rep (gc K CT CL C1 C2 C3 C4 C5 C6 C7 C8 C9 C10 C11 C12) Z' v (.bl true) := p
    cases p
    exact hQ H'
  · exact .of_eq rfl
end K01

namespace K01
open PySem PySem.Spec PyProof.Rows L2
theorem walk {l : PySem.W.OpenLaw} {q : Program} {loose : List Str} {XP : (Str → Option Value) → Heap → Prop} {YP : World → Heap → Prop} {d : DefRec} {K : Params → PySem.W.Frag} (hn : l.most = some 63) (hdf : d.params.defaults = [])
    (hY : ∀ (w : World) (h : Heap), YP w h → (K w.params).In h)
    (F : ∀ (w : World) (mg : Str → Option Value) (fa : Addr) (h : Heap), (K w.params).In h → h.Ns mainGlobals mg → mg d.name = some (.ref fa) →
      ∃ fd : FuncData, (∀ (s : Shared) (u : Value), BindsTo s fd ⟨[u], []⟩ [("script", u)]) ∧ ∀ base : Heap, (K w.params).In base → base.Ns mainGlobals mg → FnOk l.prog w (K w.params) mg base (L2.CX l.prog w) 30 fa fd ["script"] (spLaw (K w.params))) :
    PySem.W.WalkO q loose XP YP l.row.toRowW d [] (fun f vs => PySem.call f vs) :=
  L2.walk_of (n := 63) (k := 30) (x := "script") (CX := fun w => L2.CX l.prog w) (sp := fun w => spLaw (K w.params)) hn (by decide) hdf ⟨rfl, by decide, by decide⟩ hY F (fun _ _ a ns hl _ hS => ⟨a, ns, rfl, hS, hl, fun _ => rfl⟩) fun _ _ _ _ _ z => by
    obtain ⟨_, _, _, _, _, _, _, _, _, _, _, _, z⟩ := z
    exact z
end K01
open PySem PySem.W PyProof.Rows
set_option maxRecDepth 100000 in
set_option maxHeartbeats 0 in
theorem PySem.Challenge.cw_chambercuts_k01_errors_holds : PySem.Challenge.rw_chambercuts_k01_errors.Holds := by
  w_on; o_law; k_head; (case hw => w_witness2)
  k_fill
  refine K01.walk (l := PySem.Challenge.rw_chambercuts_k01_errors) rfl rfl (fun w h Y => PySem.W.kIn_of Y) ?F
  case F =>
    intro w mg fa h KX G hmg
    refine' K01.all_mk KX G hmg ?a15 ?l15 ?c15 ?k15 ?a16 ?l16 ?c16 ?k16 ?a17 ?l17 ?c17 ?k17 ?a22 ?l22 ?c22 ?k22 ?a25 ?l25 ?c25 ?k25 ?a24 ?l24 ?c24 ?k24 ?a26 ?l26 ?c26 ?k26 ?a27 ?l27 ?c27 ?k27 ?a28 ?l28 ?c28 ?k28 ?a29 ?l29 ?c29 ?k29 ?aL ?exL ?icL ?tyL ?gT ?iTI ?nTI ?lTI ?cTI ?kTI ?pgT ?hdT ?poT ?saT ?mkT ?kcT ?nomany ?norows ?haT ?hnT ?htT ?hmT ?tyT ?icT ?kbNoneType ?kbbool ?kbint ?kbstr ?kbtuple ?kblist ?g1 ?iI1 ?lI1 ?cI1 ?kI1 ?tI1 ?x1 ?sa1 ?ga1 ?gg1 ?no1value ?no1what ?no1word ?kc1 ?ex1 ?ty1 ?hd1 ?ic1 ?ha1 ?hm1 ?eL1 ?eV1 ?g2 ?iI2 ?lI2 ?cI2 ?kI2 ?tI2 ?x2 ?sa2 ?ga2 ?gg2 ?no2value ?no2what ?no2word ?kc2 ?ex2 ?ty2 ?hd2 ?ic2 ?ha2 ?hm2 ?eL2 ?eV2 ?g3 ?iI3 ?lI3 ?cI3 ?kI3 ?tI3 ?x3 ?sa3 ?ga3 ?gg3 ?no3value ?no3what ?no3word ?kc3 ?ex3 ?ty3 ?hd3 ?ic3 ?ha3 ?hm3 ?eL3 ?eV3 ?g4 ?iI4 ?lI4 ?cI4 ?kI4 ?tI4 ?x4 ?sa4 ?ga4 ?gg4 ?no4value ?no4what ?no4word ?kc4 ?ex4 ?ty4 ?hd4 ?ic4 ?ha4 ?hm4 ?eL4 ?eV4 ?g5 ?iI5 ?lI5 ?cI5 ?kI5 ?tI5 ?x5 ?sa5 ?ga5 ?gg5 ?no5value ?no5what ?no5word ?kc5 ?ex5 ?ty5 ?hd5 ?ic5 ?ha5 ?hm5 ?eL5 ?eV5 ?g6 ?iI6 ?lI6 ?cI6 ?kI6 ?tI6 ?x6 ?sa6 ?ga6 ?gg6 ?no6value ?no6what ?no6word ?kc6 ?ex6 ?ty6 ?hd6 ?ic6 ?ha6 ?hm6 ?eL6 ?eV6 ?g7 ?iI7 ?lI7 ?cI7 ?kI7 ?tI7 ?x7 ?sa7 ?ga7 ?gg7 ?no7value ?no7what ?no7word ?kc7 ?ex7 ?ty7 ?hd7 ?ic7 ?ha7 ?hm7 ?eL7 ?eV7 ?g8 ?iI8 ?lI8 ?cI8 ?kI8 ?tI8 ?x8 ?sa8 ?ga8 ?gg8 ?no8value ?no8what ?no8word ?kc8 ?ex8 ?ty8 ?hd8 ?ic8 ?ha8 ?hm8 ?eL8 ?eV8 ?g9 ?iI9 ?lI9 ?cI9 ?kI9 ?tI9 ?x9 ?sa9 ?ga9 ?gg9 ?no9value ?no9what ?no9word ?kc9 ?ex9 ?ty9 ?hd9 ?ic9 ?ha9 ?hm9 ?eL9 ?eV9 ?g10 ?iI10 ?lI10 ?cI10 ?kI10 ?tI10 ?x10 ?sa10 ?ga10 ?gg10 ?no10value ?no10what ?no10word ?kc10 ?ex10 ?ty10 ?hd10 ?ic10 ?ha10 ?hm10 ?eL10 ?eV10 ?g11 ?iI11 ?lI11 ?cI11 ?kI11 ?tI11 ?x11 ?sa11 ?ga11 ?gg11 ?no11value ?no11what ?no11word ?kc11 ?ex11 ?ty11 ?hd11 ?ic11 ?ha11 ?hm11 ?eL11 ?eV11 ?g12 ?iI12 ?lI12 ?cI12 ?kI12 ?tI12 ?x12 ?sa12 ?ga12 ?gg12 ?no12value ?no12what ?no12word ?kc12 ?ex12 ?ty12 ?hd12 ?ic12 ?ha12 ?hm12 ?eL12 ?eV12 ?zlen ?zabs ?zint ?zbool ?ztuple ?zlist ?zmax ?zmin ?zstr ?zall ?zany ?zsum ?zsorted ?zisinstance ?zrange ?zenumerate ?zValueError ?qmostkeys ?qmostlocks ?e1_1 ?e1_2 ?e1_3 ?e1_4 ?e1_5 ?e1_6 ?e1_7 ?e1_8 ?e1_9 ?e1_10 ?e1_11 ?e1_12 ?e2_1 ?e2_2 ?e2_3 ?e2_4 ?e2_5 ?e2_6 ?e2_7 ?e2_8 ?e2_9 ?e2_10 ?e2_11 ?e2_12 ?e3_1 ?e3_2 ?e3_3 ?e3_4 ?e3_5 ?e3_6 ?e3_7 ?e3_8 ?e3_9 ?e3_10 ?e3_11 ?e3_12 ?e4_1 ?e4_2 ?e4_3 ?e4_4 ?e4_5 ?e4_6 ?e4_7 ?e4_8 ?e4_9 ?e4_10 ?e4_11 ?e4_12 ?e5_1 ?e5_2 ?e5_3 ?e5_4 ?e5_5 ?e5_6 ?e5_7 ?e5_8 ?e5_9 ?e5_10 ?e5_11 ?e5_12 ?e6_1 ?e6_2 ?e6_3 ?e6_4 ?e6_5 ?e6_6 ?e6_7 ?e6_8 ?e6_9 ?e6_10 ?e6_11 ?e6_12 ?e7_1 ?e7_2 ?e7_3 ?e7_4 ?e7_5 ?e7_6 ?e7_7 ?e7_8 ?e7_9 ?e7_10 ?e7_11 ?e7_12 ?e8_1 ?e8_2 ?e8_3 ?e8_4 ?e8_5 ?e8_6 ?e8_7 ?e8_8 ?e8_9 ?e8_10 ?e8_11 ?e8_12 ?e9_1 ?e9_2 ?e9_3 ?e9_4 ?e9_5 ?e9_6 ?e9_7 ?e9_8 ?e9_9 ?e9_10 ?e9_11 ?e9_12 ?e10_1 ?e10_2 ?e10_3 ?e10_4 ?e10_5 ?e10_6 ?e10_7 ?e10_8 ?e10_9 ?e10_10 ?e10_11 ?e10_12 ?e11_1 ?e11_2 ?e11_3 ?e11_4 ?e11_5 ?e11_6 ?e11_7 ?e11_8 ?e11_9 ?e11_10 ?e11_11 ?e11_12 ?e12_1 ?e12_2 ?e12_3 ?e12_4 ?e12_5 ?e12_6 ?e12_7 ?e12_8 ?e12_9 ?e12_10 ?e12_11 ?e12_12
    (case a15 => first | k_is | rfl); (case l15 => first | k_is | rfl); (case c15 => first | k_is | rfl); (case k15 => first | k_is | rfl); (case a16 => first | k_is | rfl); (case l16 => first | k_is | rfl)
    (case c16 => first | k_is | rfl); (case k16 => first | k_is | rfl); (case a17 => first | k_is | rfl); (case l17 => first | k_is | rfl); (case c17 => first | k_is | rfl); (case k17 => first | k_is | rfl)
    (case a22 => first | k_is | rfl); (case l22 => first | k_is | rfl); (case c22 => first | k_is | rfl); (case k22 => first | k_is | rfl); (case a25 => first | k_is | rfl); (case l25 => first | k_is | rfl)
    (case c25 => first | k_is | rfl); (case k25 => first | k_is | rfl); (case a24 => first | k_is | rfl); (case l24 => first | k_is | rfl); (case c24 => first | k_is | rfl); (case k24 => first | k_is | rfl)
    (case a26 => first | k_is | rfl); (case l26 => first | k_is | rfl); (case c26 => first | k_is | rfl); (case k26 => first | k_is | rfl); (case a27 => first | k_is | rfl); (case l27 => first | k_is | rfl)
    (case c27 => first | k_is | rfl); (case k27 => first | k_is | rfl); (case a28 => first | k_is | rfl); (case l28 => first | k_is | rfl); (case c28 => first | k_is | rfl); (case k28 => first | k_is | rfl)
    (case a29 => first | k_is | rfl); (case l29 => first | k_is | rfl); (case c29 => first | k_is | rfl); (case k29 => first | k_is | rfl); (case aL => first | k_is | rfl); (case exL => first | k_is | rfl)
    (case icL => first | k_is | rfl); (case tyL => first | k_is | rfl); (case gT => first | k_is | rfl); (case iTI => first | k_is | rfl); (case nTI => first | k_is | rfl); (case lTI => first | k_is | rfl)
    (case cTI => first | k_is | rfl); (case kTI => first | k_is | rfl); (case pgT => first | k_is | rfl); (case hdT => first | k_is | rfl); (case poT => first | k_is | rfl); (case saT => first | k_is | rfl)
    (case mkT => first | k_is | rfl); (case kcT => first | k_is | rfl); (case nomany => first | k_is | rfl); (case norows => first | k_is | rfl); (case haT => first | k_is | rfl); (case hnT => first | k_is | rfl)
    (case htT => first | k_is | rfl); (case hmT => first | k_is | rfl); (case tyT => first | k_is | rfl); (case icT => first | k_is | rfl); (case kbNoneType => first | k_is | rfl); (case kbbool => first | k_is | rfl)
    (case kbint => first | k_is | rfl); (case kbstr => first | k_is | rfl); (case kbtuple => first | k_is | rfl); (case kblist => first | k_is | rfl); (case g1 => first | k_is | rfl); (case iI1 => first | k_is | rfl)
    (case lI1 => first | k_is | rfl); (case cI1 => first | k_is | rfl); (case kI1 => first | k_is | rfl); (case tI1 => first | k_is | rfl); (case x1 => first | k_is | rfl); (case sa1 => first | k_is | rfl)
    (case ga1 => first | k_is | rfl); (case gg1 => first | k_is | rfl); (case no1value => first | k_is | rfl); (case no1what => first | k_is | rfl); (case no1word => first | k_is | rfl); (case kc1 => first | k_is | rfl)
    (case ex1 => first | k_is | rfl); (case ty1 => first | k_is | rfl); (case hd1 => first | k_is | rfl); (case ic1 => first | k_is | rfl); (case ha1 => first | k_is | rfl); (case hm1 => first | k_is | rfl)
    (case eL1 => first | k_is | rfl); (case eV1 => first | k_is | rfl); (case g2 => first | k_is | rfl); (case iI2 => first | k_is | rfl); (case lI2 => first | k_is | rfl); (case cI2 => first | k_is | rfl)
    (case kI2 => first | k_is | rfl); (case tI2 => first | k_is | rfl); (case x2 => first | k_is | rfl); (case sa2 => first | k_is | rfl); (case ga2 => first | k_is | rfl); (case gg2 => first | k_is | rfl)
    (case no2value => first | k_is | rfl); (case no2what => first | k_is | rfl); (case no2word => first | k_is | rfl); (case kc2 => first | k_is | rfl); (case ex2 => first | k_is | rfl); (case ty2 => first | k_is | rfl)
    (case hd2 => first | k_is | rfl); (case ic2 => first | k_is | rfl); (case ha2 => first | k_is | rfl); (case hm2 => first | k_is | rfl); (case eL2 => first | k_is | rfl); (case eV2 => first | k_is | rfl)
    (case g3 => first | k_is | rfl); (case iI3 => first | k_is | rfl); (case lI3 => first | k_is | rfl); (case cI3 => first | k_is | rfl); (case kI3 => first | k_is | rfl); (case tI3 => first | k_is | rfl)
    (case x3 => first | k_is | rfl); (case sa3 => first | k_is | rfl); (case ga3 => first | k_is | rfl); (case gg3 => first | k_is | rfl); (case no3value => first | k_is | rfl); (case no3what => first | k_is | rfl)
    (case no3word => first | k_is | rfl); (case kc3 => first | k_is | rfl); (case ex3 => first | k_is | rfl); (case ty3 => first | k_is | rfl); (case hd3 => first | k_is | rfl); (case ic3 => first | k_is | rfl)
    (case ha3 => first | k_is | rfl); (case hm3 => first | k_is | rfl); (case eL3 => first | k_is | rfl); (case eV3 => first | k_is | rfl); (case g4 => first | k_is | rfl); (case iI4 => first | k_is | rfl)
    (case lI4 => first | k_is | rfl); (case cI4 => first | k_is | rfl); (case kI4 => first | k_is | rfl); (case tI4 => first | k_is | rfl); (case x4 => first | k_is | rfl); (case sa4 => first | k_is | rfl)
    (case ga4 => first | k_is | rfl); (case gg4 => first | k_is | rfl); (case no4value => first | k_is | rfl); (case no4what => first | k_is | rfl); (case no4word => first | k_is | rfl); (case kc4 => first | k_is | rfl)
    (case ex4 => first | k_is | rfl); (case ty4 => first | k_is | rfl); (case hd4 => first | k_is | rfl); (case ic4 => first | k_is | rfl); (case ha4 => first | k_is | rfl); (case hm4 => first | k_is | rfl)
    (case eL4 => first | k_is | rfl); (case eV4 => first | k_is | rfl); (case g5 => first | k_is | rfl); (case iI5 => first | k_is | rfl); (case lI5 => first | k_is | rfl); (case cI5 => first | k_is | rfl)
    (case kI5 => first | k_is | rfl); (case tI5 => first | k_is | rfl); (case x5 => first | k_is | rfl); (case sa5 => first | k_is | rfl); (case ga5 => first | k_is | rfl); (case gg5 => first | k_is | rfl)
    (case no5value => first | k_is | rfl); (case no5what => first | k_is | rfl); (case no5word => first | k_is | rfl); (case kc5 => first | k_is | rfl); (case ex5 => first | k_is | rfl); (case ty5 => first | k_is | rfl)
    (case hd5 => first | k_is | rfl); (case ic5 => first | k_is | rfl); (case ha5 => first | k_is | rfl); (case hm5 => first | k_is | rfl); (case eL5 => first | k_is | rfl); (case eV5 => first | k_is | rfl)
    (case g6 => first | k_is | rfl); (case iI6 => first | k_is | rfl); (case lI6 => first | k_is | rfl); (case cI6 => first | k_is | rfl); (case kI6 => first | k_is | rfl); (case tI6 => first | k_is | rfl)
    (case x6 => first | k_is | rfl); (case sa6 => first | k_is | rfl); (case ga6 => first | k_is | rfl); (case gg6 => first | k_is | rfl); (case no6value => first | k_is | rfl); (case no6what => first | k_is | rfl)
    (case no6word => first | k_is | rfl); (case kc6 => first | k_is | rfl); (case ex6 => first | k_is | rfl); (case ty6 => first | k_is | rfl); (case hd6 => first | k_is | rfl); (case ic6 => first | k_is | rfl)
    (case ha6 => first | k_is | rfl); (case hm6 => first | k_is | rfl); (case eL6 => first | k_is | rfl); (case eV6 => first | k_is | rfl); (case g7 => first | k_is | rfl); (case iI7 => first | k_is | rfl)
    (case lI7 => first | k_is | rfl); (case cI7 => first | k_is | rfl); (case kI7 => first | k_is | rfl); (case tI7 => first | k_is | rfl); (case x7 => first | k_is | rfl); (case sa7 => first | k_is | rfl)
    (case ga7 => first | k_is | rfl); (case gg7 => first | k_is | rfl); (case no7value => first | k_is | rfl); (case no7what => first | k_is | rfl); (case no7word => first | k_is | rfl); (case kc7 => first | k_is | rfl)
    (case ex7 => first | k_is | rfl); (case ty7 => first | k_is | rfl); (case hd7 => first | k_is | rfl); (case ic7 => first | k_is | rfl); (case ha7 => first | k_is | rfl); (case hm7 => first | k_is | rfl)
    (case eL7 => first | k_is | rfl); (case eV7 => first | k_is | rfl); (case g8 => first | k_is | rfl); (case iI8 => first | k_is | rfl); (case lI8 => first | k_is | rfl); (case cI8 => first | k_is | rfl)
    (case kI8 => first | k_is | rfl); (case tI8 => first | k_is | rfl); (case x8 => first | k_is | rfl); (case sa8 => first | k_is | rfl); (case ga8 => first | k_is | rfl); (case gg8 => first | k_is | rfl)
    (case no8value => first | k_is | rfl); (case no8what => first | k_is | rfl); (case no8word => first | k_is | rfl); (case kc8 => first | k_is | rfl); (case ex8 => first | k_is | rfl); (case ty8 => first | k_is | rfl)
    (case hd8 => first | k_is | rfl); (case ic8 => first | k_is | rfl); (case ha8 => first | k_is | rfl); (case hm8 => first | k_is | rfl); (case eL8 => first | k_is | rfl); (case eV8 => first | k_is | rfl)
    (case g9 => first | k_is | rfl); (case iI9 => first | k_is | rfl); (case lI9 => first | k_is | rfl); (case cI9 => first | k_is | rfl); (case kI9 => first | k_is | rfl); (case tI9 => first | k_is | rfl)
    (case x9 => first | k_is | rfl); (case sa9 => first | k_is | rfl); (case ga9 => first | k_is | rfl); (case gg9 => first | k_is | rfl); (case no9value => first | k_is | rfl); (case no9what => first | k_is | rfl)
    (case no9word => first | k_is | rfl); (case kc9 => first | k_is | rfl); (case ex9 => first | k_is | rfl); (case ty9 => first | k_is | rfl); (case hd9 => first | k_is | rfl); (case ic9 => first | k_is | rfl)
    (case ha9 => first | k_is | rfl); (case hm9 => first | k_is | rfl); (case eL9 => first | k_is | rfl); (case eV9 => first | k_is | rfl); (case g10 => first | k_is | rfl); (case iI10 => first | k_is | rfl)
    (case lI10 => first | k_is | rfl); (case cI10 => first | k_is | rfl); (case kI10 => first | k_is | rfl); (case tI10 => first | k_is | rfl); (case x10 => first | k_is | rfl); (case sa10 => first | k_is | rfl)
    (case ga10 => first | k_is | rfl); (case gg10 => first | k_is | rfl); (case no10value => first | k_is | rfl); (case no10what => first | k_is | rfl); (case no10word => first | k_is | rfl); (case kc10 => first | k_is | rfl)
    (case ex10 => first | k_is | rfl); (case ty10 => first | k_is | rfl); (case hd10 => first | k_is | rfl); (case ic10 => first | k_is | rfl); (case ha10 => first | k_is | rfl); (case hm10 => first | k_is | rfl)
    (case eL10 => first | k_is | rfl); (case eV10 => first | k_is | rfl); (case g11 => first | k_is | rfl); (case iI11 => first | k_is | rfl); (case lI11 => first | k_is | rfl); (case cI11 => first | k_is | rfl)
    (case kI11 => first | k_is | rfl); (case tI11 => first | k_is | rfl); (case x11 => first | k_is | rfl); (case sa11 => first | k_is | rfl); (case ga11 => first | k_is | rfl); (case gg11 => first | k_is | rfl)
    (case no11value => first | k_is | rfl); (case no11what => first | k_is | rfl); (case no11word => first | k_is | rfl); (case kc11 => first | k_is | rfl); (case ex11 => first | k_is | rfl); (case ty11 => first | k_is | rfl)
    (case hd11 => first | k_is | rfl); (case ic11 => first | k_is | rfl); (case ha11 => first | k_is | rfl); (case hm11 => first | k_is | rfl); (case eL11 => first | k_is | rfl); (case eV11 => first | k_is | rfl)
    (case g12 => first | k_is | rfl); (case iI12 => first | k_is | rfl); (case lI12 => first | k_is | rfl); (case cI12 => first | k_is | rfl); (case kI12 => first | k_is | rfl); (case tI12 => first | k_is | rfl)
    (case x12 => first | k_is | rfl); (case sa12 => first | k_is | rfl); (case ga12 => first | k_is | rfl); (case gg12 => first | k_is | rfl); (case no12value => first | k_is | rfl); (case no12what => first | k_is | rfl)
    (case no12word => first | k_is | rfl); (case kc12 => first | k_is | rfl); (case ex12 => first | k_is | rfl); (case ty12 => first | k_is | rfl); (case hd12 => first | k_is | rfl); (case ic12 => first | k_is | rfl)
    (case ha12 => first | k_is | rfl); (case hm12 => first | k_is | rfl); (case eL12 => first | k_is | rfl); (case eV12 => first | k_is | rfl); (case zlen => first | k_is | rfl); (case zabs => first | k_is | rfl)
    (case zint => first | k_is | rfl); (case zbool => first | k_is | rfl); (case ztuple => first | k_is | rfl); (case zlist => first | k_is | rfl); (case zmax => first | k_is | rfl); (case zmin => first | k_is | rfl)
    (case zstr => first | k_is | rfl); (case zall => first | k_is | rfl); (case zany => first | k_is | rfl); (case zsum => first | k_is | rfl); (case zsorted => first | k_is | rfl); (case zisinstance => first | k_is | rfl)
    (case zrange => first | k_is | rfl); (case zenumerate => first | k_is | rfl); (case zValueError => first | k_is | rfl); (case qmostkeys => first | k_is | rfl); (case qmostlocks => first | k_is | rfl); (case e1_1 => first | k_is | rfl)
    (case e1_2 => first | k_is | rfl); (case e1_3 => first | k_is | rfl); (case e1_4 => first | k_is | rfl); (case e1_5 => first | k_is | rfl); (case e1_6 => first | k_is | rfl); (case e1_7 => first | k_is | rfl)
    (case e1_8 => first | k_is | rfl); (case e1_9 => first | k_is | rfl); (case e1_10 => first | k_is | rfl); (case e1_11 => first | k_is | rfl); (case e1_12 => first | k_is | rfl); (case e2_1 => first | k_is | rfl)
    (case e2_2 => first | k_is | rfl); (case e2_3 => first | k_is | rfl); (case e2_4 => first | k_is | rfl); (case e2_5 => first | k_is | rfl); (case e2_6 => first | k_is | rfl); (case e2_7 => first | k_is | rfl)
    (case e2_8 => first | k_is | rfl); (case e2_9 => first | k_is | rfl); (case e2_10 => first | k_is | rfl); (case e2_11 => first | k_is | rfl); (case e2_12 => first | k_is | rfl); (case e3_1 => first | k_is | rfl)
    (case e3_2 => first | k_is | rfl); (case e3_3 => first | k_is | rfl); (case e3_4 => first | k_is | rfl); (case e3_5 => first | k_is | rfl); (case e3_6 => first | k_is | rfl); (case e3_7 => first | k_is | rfl)
    (case e3_8 => first | k_is | rfl); (case e3_9 => first | k_is | rfl); (case e3_10 => first | k_is | rfl); (case e3_11 => first | k_is | rfl); (case e3_12 => first | k_is | rfl); (case e4_1 => first | k_is | rfl)
    (case e4_2 => first | k_is | rfl); (case e4_3 => first | k_is | rfl); (case e4_4 => first | k_is | rfl); (case e4_5 => first | k_is | rfl); (case e4_6 => first | k_is | rfl); (case e4_7 => first | k_is | rfl)
    (case e4_8 => first | k_is | rfl); (case e4_9 => first | k_is | rfl); (case e4_10 => first | k_is | rfl); (case e4_11 => first | k_is | rfl); (case e4_12 => first | k_is | rfl); (case e5_1 => first | k_is | rfl)
    (case e5_2 => first | k_is | rfl); (case e5_3 => first | k_is | rfl); (case e5_4 => first | k_is | rfl); (case e5_5 => first | k_is | rfl); (case e5_6 => first | k_is | rfl); (case e5_7 => first | k_is | rfl)
    (case e5_8 => first | k_is | rfl); (case e5_9 => first | k_is | rfl); (case e5_10 => first | k_is | rfl); (case e5_11 => first | k_is | rfl); (case e5_12 => first | k_is | rfl); (case e6_1 => first | k_is | rfl)
    (case e6_2 => first | k_is | rfl); (case e6_3 => first | k_is | rfl); (case e6_4 => first | k_is | rfl); (case e6_5 => first | k_is | rfl); (case e6_6 => first | k_is | rfl); (case e6_7 => first | k_is | rfl)
    (case e6_8 => first | k_is | rfl); (case e6_9 => first | k_is | rfl); (case e6_10 => first | k_is | rfl); (case e6_11 => first | k_is | rfl); (case e6_12 => first | k_is | rfl); (case e7_1 => first | k_is | rfl)
    (case e7_2 => first | k_is | rfl); (case e7_3 => first | k_is | rfl); (case e7_4 => first | k_is | rfl); (case e7_5 => first | k_is | rfl); (case e7_6 => first | k_is | rfl); (case e7_7 => first | k_is | rfl)
    (case e7_8 => first | k_is | rfl); (case e7_9 => first | k_is | rfl); (case e7_10 => first | k_is | rfl); (case e7_11 => first | k_is | rfl); (case e7_12 => first | k_is | rfl); (case e8_1 => first | k_is | rfl)
    (case e8_2 => first | k_is | rfl); (case e8_3 => first | k_is | rfl); (case e8_4 => first | k_is | rfl); (case e8_5 => first | k_is | rfl); (case e8_6 => first | k_is | rfl); (case e8_7 => first | k_is | rfl)
    (case e8_8 => first | k_is | rfl); (case e8_9 => first | k_is | rfl); (case e8_10 => first | k_is | rfl); (case e8_11 => first | k_is | rfl); (case e8_12 => first | k_is | rfl); (case e9_1 => first | k_is | rfl)
    (case e9_2 => first | k_is | rfl); (case e9_3 => first | k_is | rfl); (case e9_4 => first | k_is | rfl); (case e9_5 => first | k_is | rfl); (case e9_6 => first | k_is | rfl); (case e9_7 => first | k_is | rfl)
    (case e9_8 => first | k_is | rfl); (case e9_9 => first | k_is | rfl); (case e9_10 => first | k_is | rfl); (case e9_11 => first | k_is | rfl); (case e9_12 => first | k_is | rfl); (case e10_1 => first | k_is | rfl)
    (case e10_2 => first | k_is | rfl); (case e10_3 => first | k_is | rfl); (case e10_4 => first | k_is | rfl); (case e10_5 => first | k_is | rfl); (case e10_6 => first | k_is | rfl); (case e10_7 => first | k_is | rfl)
    (case e10_8 => first | k_is | rfl); (case e10_9 => first | k_is | rfl); (case e10_10 => first | k_is | rfl); (case e10_11 => first | k_is | rfl); (case e10_12 => first | k_is | rfl); (case e11_1 => first | k_is | rfl)
    (case e11_2 => first | k_is | rfl); (case e11_3 => first | k_is | rfl); (case e11_4 => first | k_is | rfl); (case e11_5 => first | k_is | rfl); (case e11_6 => first | k_is | rfl); (case e11_7 => first | k_is | rfl)
    (case e11_8 => first | k_is | rfl); (case e11_9 => first | k_is | rfl); (case e11_10 => first | k_is | rfl); (case e11_11 => first | k_is | rfl); (case e11_12 => first | k_is | rfl); (case e12_1 => first | k_is | rfl)
    (case e12_2 => first | k_is | rfl); (case e12_3 => first | k_is | rfl); (case e12_4 => first | k_is | rfl); (case e12_5 => first | k_is | rfl); (case e12_6 => first | k_is | rfl); (case e12_7 => first | k_is | rfl)
    (case e12_8 => first | k_is | rfl); (case e12_9 => first | k_is | rfl); (case e12_10 => first | k_is | rfl); (case e12_11 => first | k_is | rfl); (case e12_12 => first | k_is | rfl)
#print axioms PySem.Challenge.cw_chambercuts_k01_errors_holds
